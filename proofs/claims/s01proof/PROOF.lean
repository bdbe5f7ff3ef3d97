import PyProof.Rows.All
import Wide.All
import OpenK.AllK
import Wide.FinOn
import PyProof.EqAt
import PyProof.EqKinds
import PyProof.TupleCall
import KE.BitLaws
import Open.SpecLaws
import KE.OsHead
import KE.OsGo
import PySem.Challenge.RW_roadrest_s01_answers
set_option Elab.async false
set_option linter.all false
set_option maxRecDepth 100000
set_option maxHeartbeats 4000000
set_option genSizeOf false
set_option genInjectivity false
noncomputable section
theorem Y{α:Sort u}{a:α}:a=a:=rfl
namespace PySem.W.Fast
def tw35016197658764758:=0
def tw10168815166567618036:=0
def tw7390751632495728084:=0
def tw16579228117550459891:=0
def tw4837065204682338318:=0
def tw12457321487485970002:=0
def tw3061682661833408195:=0
def tw18382530220000902645:=0
def tw18118757493161163052:=0
def tw10030885769852279553:=0
def tw14831128173895077451:=0
def tw17723166066108469389:=0
def tw15507826229584017061:=0
def tw2034254597085553366:=0
def tw9756791433249015111:=0
def tw3395015092703630569:=0
def tw3562804197203404250:=0
def tw2389177208797635369:=0
def tw15011394951680156191:=0
def tw2874546404983869607:=0
def tw9875383562285963048:=0
def tw8359832484786259372:=0
def tw16661393789933639865:=0
def tw12021988173589598567:=0
def tw1020922772896036296:=0
def tw13101279811190554975:=0
def tw3092866816829510720:=0
def tw9125380935387126984:=0
def tw3282707101652384944:=0
def tw1459901234442612159:=0
def tw635321695737724063:=0
def tw12405354398932910706:=0
def tw7789999801291474852:=0
def tw4266699144957475486:=0
def tw9065504951425896991:=0
def tw7323761653472554465:=0
def tw15887713261049392775:=0
def tw4736598047477681984:=0
def tw10818912868581767550:=0
def tw7952343004430820113:=0
def tw12301525415967504603:=0
def tw8255434205622795459:=0
def tw10207256223813379330:=0
def tw3513858657129112793:=0
def tw7751535488789598783:=0
def tw13109138230910643945:=0
def tw13620483663129969809:=0
def tw726365366876019107:=0
def tw8840563957892061707:=0
def tw96589994032236608:=0
def tw74761122840558295:=0
def tw17701976093751081832:=0
def tw4588127909719837755:=0
def tw11227141308690003885:=0
def tw1557956077590144073:=0
def tw10973788708965983921:=0
def tw11487757552261789259:=0
def tw15032399273462373115:=0
def tw7741898922909658195:=0
def tw8833230786033817618:=0
def tw4969754965686507015:=0
def tw6153555890910737187:=0
def tw9235783947212290112:=0
def tw231035878201887952:=0
def tw12729763261246957248:=0
def tw5221634769301607219:=0
def tw12674074693728505742:=0
def tw4631860735450542418:=0
def tw9572561840279886004:=0
def tw14244898632027370813:=0
def tw708098044419233987:=0
def tw10288035890881855454:=0
def tw13331587821415859919:=0
def tw3416017281703093369:=0
def tw15585358226937658522:=0
def tw14814791138340674076:=0
def tw8138388437615242958:=0
def tw15371731934595384289:=0
def tw16661145929609186508:=0
def tw3064337306530789778:=0
def tw4910825535605317197:=0
def tw2499435378052791742:=0
def tw1458278939984314395:=0
def tw1716198484786308153:=0
def tw15182045517788493355:=0
def tw3236600401903763617:=0
def tw5733046542288796309:=0
def tw3798413933696867224:=0
def tw3285820638309812426:=0
def tw8476612146522464096:=0
def tw2867215656308390064:=0
def tw13743568364722952757:=0
def tw16864551187888322230:=0
def tw319889492743333089:=0
def tw7523740237317048131:=0
def tw12472298573909808268:=0
def tw3442682034987426191:=0
def tw16286746404405464707:=0
def tw15458528531151509557:=0
def tw15206639435104095654:=0
def tw15964200351802995545:=0
def tw12812160649075705362:=0
def tw2460556280127753108:=0
def tw8385441998447008407:=0
def tw14375094507006325817:=0
def tw5979824441871748827:=0
def tw15932235712287577575:=0
def tw7278927986793881148:=0
def tw6974837213907983843:=0
def tw8817154158799830569:=0
def tw4906624531510254161:=0
def tw12114124897440895420:=0
def tw199139713429566476:=0
def tw18085249064909247827:=0
def tw6355909045972421907:=0
def tw13042998406536421059:=0
def tw2241261953243248549:=0
def tw5177230440835441901:=0
def tw11882987682180974711:=0
def tw17537797562050521157:=0
def tw5818627743614463924:=0
def tw2776189793773136095:=0
def tw12168283008037308320:=0
def tw5538253879383427520:=0
def tw322954459299065563:=0
def tw12292973391698234444:=0
def tw14730909439056777082:=0
def tw5112007496189521392:=0
def tw1875173548530456127:=0
def tw12987398629995663681:=0
def tw12470635575932094231:=0
def tw11041243181973313516:=0
def tw10519507927727875909:=0
def tw9841849241375082762:=0
def tw7734522574481838664:=0
def tw5585514052893270380:=0
def tw17818827865195383854:=0
def tw12241361337726296028:=0
def tw5708271763529847249:=0
def tw10723662543461692131:=0
def tw2958011850558302005:=0
def tw5002502721058687932:=0
def tw12130235735024836316:=0
def tw6547373228373865867:=0
def tw6747315644119654086:=0
def tw11614554607276635368:=0
def tw11646497601587510602:=0
def tw11794677898962094259:=0
def tw12561200749765896760:=0
def tw17826882641641338662:=0
def tw1004941359992006339:=0
def tw553810122421179836:=0
def tw12537251272348218617:=0
def tw2302695830557500297:=0
def tw16776831950152991469:=0
def tw11238496114734891351:=0
def tw13347024915023456844:=0
def tw5750916465271565882:=0
def tw7890458488625119306:=0
def tw5655002231060213173:=0
def tw4747512987433976912:=0
def tw15126430030597821156:=0
def tw1138449278019905095:=0
def tw9117035229244497669:=0
def tw11338755182932497666:=0
def tw11198819731385910540:=0
def tw1403393248079148853:=0
def tw18055711236307609593:=0
def tw18312149456610512182:=0
def tw13837547800542970256:=0
def tw2874286901320226675:=0
def tw16484943626031757893:=0
def tw3125916342472949291:=0
def tw13329666239236830759:=0
def tw2882756669236007100:=0
def tw16730744998492868450:=0
def tw1024566301564539758:=0
def tw3080210594240804818:=0
def tw9479668995133687353:=0
def tw14486040656852771650:=0
def tw17125017876841934906:=0
def tw8608588443521215550:=0
def tw1133889253138243695:=0
def tw11897243452582545436:=0
def tw17047545215913914087:=0
def tw3545881578731131366:=0
def tw12893405916514584217:=0
def tw2115036488140590299:=0
def tw7354529340972062668:=0
def tw3959468912789704295:=0
def tw10026474804506267182:=0
def tw8706487404896589698:=0
def tw8614449989172219358:=0
def tw14408957185179535741:=0
def tw3659649056906239401:=0
def tw3743488418658021520:=0
def tw2827666689464270395:=0
def tw15066149053614272108:=0
def tw3991067978352698084:=0
def tw5704547784951340944:=0
def tw10616751993627709556:=0
def tw7843853258551170014:=0
def tw1128745246828328029:=0
def tw4924348330025118487:=0
def tw16161149742612305578:=0
def tw10289601172072606128:=0
def tw3247104001193134032:=0
def tw10712849461972509518:=0
def tw2540404908142152418:=0
def tw18325321324134109677:=0
def tw4768536156593960210:=0
def tw3417674955972579250:=0
def tw16451820766915480325:=0
def tw7672299855767299036:=0
def tw2126246611025574037:=0
def tw5211225153084143422:=0
def tw3244817894128717172:=0
def tw4047464410933634115:=0
def tw1400385321664311328:=0
def tw17021878091829719714:=0
def tw5544703901584822370:=0
def tw3327290641330391613:=0
def tw15715527447555065994:=0
def tw7518435206040384715:=0
def tw9521308485378140044:=0
def tw5920778887531156440:=0
def tw17261010998670872074:=0
def tw9838246165265726005:=0
def tw2614608814142768543:=0
def tw9289523141877185650:=0
def tw10271454286133509131:=0
def tw17723145604794852478:=0
def tw2469639846774243709:=0
def tw9494883474987670289:=0
def tw15228648509358615254:=0
def tw13549217473263351612:=0
def tw13135544216569481398:=0
def tw10432596726174202258:=0
def tw6846290792470064356:=0
def tw17679879408993858202:=0
def tw508402838429068495:=0
def tw206065829783190066:=0
def tw18077555275125387154:=0
def tw17431493641775107422:=0
def tw6207528433443759442:=0
def tw16452387840254513153:=0
def tw10139394148123777065:=0
def tw6863084119889833364:=0
def tw1393181220998894864:=0
def tw12325940765151428440:=0
def tw4648639545358605687:=0
def tw1433902733184768659:=0
def tw8398465902511979233:=0
def tw14072800384665727725:=0
def tw9262051743720932541:=0
def tw13152406550663236:=0
def tw7147146488559236710:=0
def tw8163141002724857458:=0
def tw16573410590381177317:=0
def tw14376487848387355431:=0
def tw12862590066973736408:=0
def tw2704562614774179480:=0
def tw14350770444373464909:=0
def tw12808984677405989303:=0
def tw2881315166549637786:=0
def tw11240498486076617073:=0
def tw4949329013796462133:=0
def tw1038179612785246808:=0
def tw1961597478979981626:=0
def tw760590126333568963:=0
def tw2530276346052588638:=0
def tw3070391264609617775:=0
def tw11296989300449723590:=0
def tw17269536240538805802:=0
def tw13594401280905959459:=0
def tw5260750844096324255:=0
def tw17839742264691856332:=0
def tw16235427591329482415:=0
def tw14270746323047777270:=0
def tw4551885598134935371:=0
def tw3311349555252809027:=0
def tw9924481644580041153:=0
def tw11175044323135026110:=0
def tw15422516354910424871:=0
def tw8828487125316239556:=0
def tw14553726458173110393:=0
def tw9730988028566042255:=0
def tw2065386645129438846:=0
def tw6411900037372140127:=0
def tw9313310890202108232:=0
def tw8749795763086764496:=0
def tw2449170405196447083:=0
def tw9050760800228864201:=0
def tw17409816487814227626:=0
def tw15722699699611495658:=0
def tw11394076292789776629:=0
def tw6585067363258756153:=0
def tw4700018360041622529:=0
def tw15155081527259395059:=0
def tw17671336928870107771:=0
def tw17569472153865331603:=0
def tw18076164459832884274:=0
def tw5296110188322744711:=0
def tw6639853402296420656:=0
def tw15192147891791272908:=0
def tw7190267595865032135:=0
def tw1004092862552742169:=0
def tw12270178644376206583:=0
def tw9075032218931611132:=0
def tw7325922708813227865:=0
def tw11571673128037501445:=0
def tw8098136653356555723:=0
def tw3741766264047985805:=0
def tw13419655534947302822:=0
def tw9836290059276221645:=0
def tw1915343603737850876:=0
def tw9190227941044184886:=0
def tw633742161837238690:=0
def tw8546669175997257483:=0
def tw2296576554801700542:=0
def tw12844857567895431210:=0
def tw4098292989207154056:=0
def tw11996198026921547807:=0
def tw4794731597437453591:=0
def tw18398433620071549051:=0
def tw4441074255683916755:=0
def tw17582274904956982081:=0
def tw17655614345869906907:=0
def tw6816960602370027544:=0
def tw17733718108762804903:=0
def tw2227303594392170042:=0
def tw5662460039656849971:=0
def tw15133622066256111366:=0
def tw13376709906049307297:=0
def tw7233890649735563122:=0
def tw9898459590068807465:=0
def tw4895287364618681702:=0
def tw18265486675940147044:=0
def tw4825590122143848241:=0
def tw1521475414846689249:=0
def tw5627219273758716792:=0
def tw11215162701121177360:=0
def tw15502855750558297953:=0
def tw2125862718610462472:=0
def tw15756065560427256226:=0
def tw430185123093691570:=0
def tw14672203591504617431:=0
def tw7599679566710226945:=0
def tw9739867359219111350:=0
def tw3579200320229614679:=0
def tw8797657404777896813:=0
def tw7737716672027174727:=0
def tw925777075858722147:=0
def tw6013252397354157174:=0
def tw4585393628071823005:=0
def tw14416320858287633370:=0
def tw14958938791866785523:=0
def tw1442764442609215583:=0
def tw9941823664509044301:=0
def tw253938455417563015:=0
def tw14836343501819099506:=0
def tw775317130221131169:=0
def tw12876160931822365409:=0
def tw5880113788060683890:=0
def tw8267053882941491711:=0
def tw1602684084705592906:=0
def tw1162479213643174031:=0
def tw346037438604328820:=0
def tw11520526162623309831:=0
def tw4081802523144119685:=0
def tw1986028703594536216:=0
def tw11651967398666845750:=0
def tw14722042776780385567:=0
def tw13919142026860019441:=0
def tw2426532501578577175:=0
def tw11510816250139163858:=0
def tw18393556276368473894:=0
def tw4475207925893038662:=0
def tw7081254283963166925:=0
def tw8606012867784701388:=0
def tw6484136303026279521:=0
def tw6899506371779878053:=0
def tw2669736929445129860:=0
def tw7025104901309874426:=0
def tw2508840940480247239:=0
def tw13539722810201375244:=0
def tw5790945310082094548:=0
def tw8693741683981124984:=0
def tw17549080875705495482:=0
def tw2665284110526744068:=0
def tw3387318166134057200:=0
def tw12776692848493858757:=0
def tw15873007193545243936:=0
def tw2017559528960722139:=0
def tw10503528859010977766:=0
def tw14089193101987923988:=0
def tw8397640458079820474:=0
def tw7399740819464010497:=0
def tw7564902177090679878:=0
def tw16628997461568628436:=0
def tw6172877993047717395:=0
def tw9966199502137286722:=0
def tw12460425339629973646:=0
def tw5329189681405629276:=0
def tw10365408369118121292:=0
def tw4599714972280582583:=0
def tw14868227330222959911:=0
def tw4102709409270163812:=0
def tw6138733876481053052:=0
def tw8929831758594702345:=0
def tw8358670208040009221:=0
def tw16952069131299418439:=0
def tw1356468391136249954:=0
def tw1025232657486735032:=0
def tw1690216794297399584:=0
def tw12856897944677504486:=0
def tw2273857475029685745:=0
def tw7725867704967155859:=0
def tw7560758672112925670:=0
def tw661878579805037452:=0
def tw12357406152798816525:=0
def tw6946287322383151688:=0
def tw8178828572222496147:=0
def tw12722979197446009861:=0
def tw3964621194373403883:=0
def tw18326217292995069623:=0
def tw13493161510473525982:=0
def tw2881039468980744454:=0
def tw14937066105791764731:=0
def tw18329446006761968720:=0
def tw9278738628182183099:=0
def tw12883442536239226579:=0
def tw15810676121606569798:=0
def tw4339925560773554450:=0
def tw12723415348902483605:=0
def tw11746228455191807724:=0
def tw11523812959201418159:=0
def tw5630653075089374721:=0
def tw711358862428302101:=0
def tw12895020344371175564:=0
def tw6003578911419273358:=0
def tw3145408468099327257:=0
def tw9465788170028619727:=0
def tw596691467431300805:=0
def tw12436121758950993434:=0
def tw16282349070036918970:=0
def tw6603637798563624534:=0
def tw1007414966261183856:=0
def tw4839056256858277300:=0
def tw3310229385249376422:=0
def tw2457124341347557305:=0
def tw12382270324566495394:=0
def tw296136735357131012:=0
def tw441063716997611702:=0
def tw3487723484370114513:=0
def tw9658377391849651486:=0
def tw12226567791581697773:=0
def tw15074960772757474239:=0
def tw4838612108898406515:=0
def tw7164229986407152415:=0
def tw324728704084283749:=0
def tw14563262323952008996:=0
def tw16207561648546361774:=0
def tw16582643071254735268:=0
def tw835793288549224050:=0
def tw4069949980705276279:=0
def tw9871305584813354833:=0
def tw10706556914295933040:=0
def tw3734423419707619997:=0
def tw2004398741900942047:=0
def tw15175207924867150887:=0
def tw2457628277555987605:=0
def tw15926666469843516265:=0
def tw1971012337535999572:=0
def tw4883532372637781506:=0
def tw18348849827519514525:=0
end PySem.W.Fast
theorem SI:type_of%@Array.length_toList:=@Array.length_toList
theorem Yi:type_of%@Bool.and_eq_true:=@Bool.and_eq_true
theorem Pn:type_of%@Bool.false_eq_true:=@Bool.false_eq_true
theorem Yr:type_of%@Bool.false_ne_true:=@Bool.false_ne_true
theorem Vj:type_of%@Eq.trans:=@Eq.trans
theorem Ms:type_of%@Int.eq_ofNat_of_zero_le:=@Int.eq_ofNat_of_zero_le
theorem SH:type_of%@Int.le_of_lt:=@Int.le_of_lt
theorem UT:type_of%@Int.le_refl:=@Int.le_refl
theorem US:type_of%@Int.mul_pos:=@Int.mul_pos
theorem Mr:type_of%@List.Pairwise.filter:=@List.Pairwise.filter
theorem VY:type_of%@List.all_eq_true:=@List.all_eq_true
theorem Ts:type_of%@List.any_cons:=@List.any_cons
theorem UB:type_of%@List.any_eq_true:=@List.any_eq_true
theorem VX:type_of%@List.append_assoc:=@List.append_assoc
theorem Xw:type_of%@List.append_nil:=@List.append_nil
theorem Pl:type_of%@List.drop_eq_nil_of_le:=@List.drop_eq_nil_of_le
theorem UA:type_of%@List.ext_getElem?:=@List.ext_getElem?
theorem Vd:type_of%@List.filter_append:=@List.filter_append
theorem YD:type_of%@List.filter_cons:=@List.filter_cons
theorem Uz:type_of%@List.find?_cons:=@List.find?_cons
theorem VW:type_of%@List.find?_eq_none:=@List.find?_eq_none
theorem Tr:type_of%@List.flatMap_append:=@List.flatMap_append
theorem VU:type_of%@List.flatMap_cons:=@List.flatMap_cons
theorem RJ:type_of%@List.foldl_cons:=@List.foldl_cons
theorem ZW:type_of%@List.getD_eq_getElem?_getD:=@List.getD_eq_getElem?_getD
theorem VT:type_of%@List.getElem?_append_left:=@List.getElem?_append_left
theorem Uy:type_of%@List.getElem?_append_right:=@List.getElem?_append_right
theorem ZT:type_of%@List.getElem?_eq_getElem:=@List.getElem?_eq_getElem
theorem YH:type_of%@List.getElem?_eq_none:=@List.getElem?_eq_none
theorem Zy:type_of%@List.getElem?_eq_some_iff:=@List.getElem?_eq_some_iff
theorem Zb:type_of%@List.getElem?_map:=@List.getElem?_map
theorem Xv:type_of%@List.getElem?_range:=@List.getElem?_range
theorem Pk:type_of%@List.getElem?_replicate:=@List.getElem?_replicate
theorem WO:type_of%@List.getElem_mem:=@List.getElem_mem
theorem ZF:type_of%@List.length_append:=@List.length_append
theorem Zg:type_of%@List.length_cons:=@List.length_cons
theorem Xu:type_of%@List.length_eq_zero_iff:=@List.length_eq_zero_iff
theorem Wg:type_of%@List.length_filter_le:=@List.length_filter_le
theorem Z3:type_of%@List.length_map:=@List.length_map
theorem Y_:type_of%@List.length_range:=@List.length_range
theorem Xt:type_of%@List.length_take:=@List.length_take
theorem Vc:type_of%@List.lookup_cons:=@List.lookup_cons
theorem YV:type_of%@List.map_append:=@List.map_append
theorem VS:type_of%@List.map_congr_left:=@List.map_congr_left
theorem Y1:type_of%@List.map_cons:=@List.map_cons
theorem Yn:type_of%@List.map_map:=@List.map_map
theorem Zj:type_of%@List.mem_append:=@List.mem_append
theorem Ym:type_of%@List.mem_append_left:=@List.mem_append_left
theorem Xs:type_of%@List.mem_append_right:=@List.mem_append_right
theorem ZE:type_of%@List.mem_cons:=@List.mem_cons
theorem Zf:type_of%@List.mem_cons_of_mem:=@List.mem_cons_of_mem
theorem YG:type_of%@List.mem_cons_self:=@List.mem_cons_self
theorem XI:type_of%@List.mem_filter:=@List.mem_filter
theorem XY:type_of%@List.mem_iff_getElem:=@List.mem_iff_getElem
theorem Y9:type_of%@List.mem_map:=@List.mem_map
theorem Ux:type_of%@List.mem_map_of_mem:=@List.mem_map_of_mem
theorem Y3:type_of%@List.mem_of_getElem?:=@List.mem_of_getElem?
theorem YO:type_of%@List.mem_range:=@List.mem_range
theorem Zm:type_of%@List.mem_singleton:=@List.mem_singleton
theorem Wf:type_of%@List.nodup_cons:=@List.nodup_cons
theorem Tq:type_of%@List.nodup_nil:=@List.nodup_nil
theorem RI:type_of%@List.nodup_range:=@List.nodup_range
theorem Pj:type_of%@List.pairwise_iff_getElem:=@List.pairwise_iff_getElem
theorem Uw:type_of%@List.pairwise_map:=@List.pairwise_map
theorem WD:type_of%@List.range_succ:=@List.range_succ
theorem RH:type_of%@List.replicate_succ:=@List.replicate_succ
theorem Y0:type_of%@List.size_toArray:=@List.size_toArray
theorem To:type_of%@List.sum_cons:=@List.sum_cons
theorem XX:type_of%@List.take_length:=@List.take_length
theorem Ph:type_of%@List.take_of_length_le:=@List.take_of_length_le
theorem Xc:type_of%@List.take_succ:=@List.take_succ
theorem RG:type_of%@Nat.le_add_right:=@Nat.le_add_right
theorem YZ:type_of%@Nat.le_of_lt:=@Nat.le_of_lt
theorem ZK:type_of%@Nat.le_refl:=@Nat.le_refl
theorem ZA:type_of%@Nat.le_trans:=@Nat.le_trans
theorem We:type_of%@Nat.lt_irrefl:=@Nat.lt_irrefl
theorem Yx:type_of%@Nat.lt_of_le_of_lt:=@Nat.lt_of_le_of_lt
theorem Zl:type_of%@Nat.lt_of_lt_of_le:=@Nat.lt_of_lt_of_le
theorem XW:type_of%@Nat.lt_succ_of_lt:=@Nat.lt_succ_of_lt
theorem VR:type_of%@Nat.lt_succ_self:=@Nat.lt_succ_self
theorem Y7:type_of%@Nat.ne_of_lt:=@Nat.ne_of_lt
theorem Tn:type_of%@Nat.pow_le_pow_right:=@Nat.pow_le_pow_right
theorem Zt:type_of%@Nat.zero_le:=@Nat.zero_le
theorem Xb:type_of%@Ne.symm:=@Ne.symm
theorem Uv:type_of%@Option.map_eq_some_iff:=@Option.map_eq_some_iff
theorem Y8:type_of%@Option.some.inj:=@Option.some.inj
theorem Pg:type_of%@PyProof.Rows.callWith_type1:=@PyProof.Rows.callWith_type1
theorem X9:type_of%@PySem.F.plainAttrs_list:=@PySem.F.plainAttrs_list
theorem Tj:type_of%@PySem.F.plain_max_loop:=@PySem.F.plain_max_loop
theorem WN:type_of%@PySem.F.slot_list_append:=@PySem.F.slot_list_append
theorem Ti:type_of%@PySem.F.slot_list_extend:=@PySem.F.slot_list_extend
theorem WC:type_of%@PySem.F.type_list_append:=@PySem.F.type_list_append
theorem RF:type_of%@PySem.F.type_list_extend:=@PySem.F.type_list_extend
theorem Th:type_of%@PySem.Heap.get?_push_ne:=@PySem.Heap.get?_push_ne
theorem Yw:type_of%@PySem.Heap.get?_push_of_some:=@PySem.Heap.get?_push_of_some
theorem Xa:type_of%@PySem.Heap.get?_push_size:=@PySem.Heap.get?_push_size
theorem Uu:type_of%@PySem.Heap.get?_update_other:=@PySem.Heap.get?_update_other
theorem Zo:type_of%@PySem.Heap.lt_size:=@PySem.Heap.lt_size
theorem W':type_of%@PySem.Heap.size_push:=@PySem.Heap.size_push
theorem Zi:type_of%@PySem.PassesOwn.never:=@PySem.PassesOwn.never
theorem YM:type_of%@PySem.boot_len:=@PySem.boot_len
theorem Yf:type_of%@PySem.mem_of_lookup:=@PySem.mem_of_lookup
theorem Tg:type_of%@PySem.tupleKind_room_in1:=@PySem.tupleKind_room_in1
theorem UG:type_of%@PySem.wpAny_Call_Name_kw:=@PySem.wpAny_Call_Name_kw
theorem ZU:type_of%@PySem.wpAny_bind:=@PySem.wpAny_bind
theorem Vz:type_of%@PySem.wpAny_holding:=@PySem.wpAny_holding
theorem X2:type_of%@PySem.wpAny_mono:=@PySem.wpAny_mono
theorem Vy:type_of%@PySem.wpAny_passesOwn:=@PySem.wpAny_passesOwn
theorem Zq:type_of%@PySem.wpAny_pure:=@PySem.wpAny_pure
theorem Ws:type_of%@PySem.wpAny_truthy_bool:=@PySem.wpAny_truthy_bool
theorem Zk:type_of%@Rat.div_def:=@Rat.div_def
theorem Xz:type_of%@Rat.intCast_add:=@Rat.intCast_add
theorem QR:type_of%@Rat.intCast_le_intCast:=@Rat.intCast_le_intCast
theorem QQ:type_of%@Rat.intCast_lt_intCast:=@Rat.intCast_lt_intCast
theorem Zn:type_of%@Rat.intCast_mul:=@Rat.intCast_mul
theorem Xy:type_of%@Rat.intCast_natCast:=@Rat.intCast_natCast
theorem UE:type_of%@Rat.intCast_sub:=@Rat.intCast_sub
theorem Tf:type_of%@Rat.inv_mul_cancel:=@Rat.inv_mul_cancel
theorem Vx:type_of%@Rat.inv_mul_rev:=@Rat.inv_mul_rev
theorem Yy:type_of%@Rat.le_of_lt:=@Rat.le_of_lt
theorem Ye:type_of%@Rat.le_refl:=@Rat.le_refl
theorem UD:type_of%@Rat.mul_assoc:=@Rat.mul_assoc
theorem XJ:type_of%@Rat.mul_eq_zero:=@Rat.mul_eq_zero
theorem Vw:type_of%@Rat.mul_inv_cancel:=@Rat.mul_inv_cancel
theorem Te:type_of%@Rat.mul_nonneg:=@Rat.mul_nonneg
theorem Vv:type_of%@Rat.mul_one:=@Rat.mul_one
theorem Td:type_of%@Rat.num_nonneg:=@Rat.num_nonneg
theorem Vu:type_of%@beq_eq_false_iff_ne:=@beq_eq_false_iff_ne
theorem W_:type_of%@beq_iff_eq:=@beq_iff_eq
theorem ZC:type_of%@decide_eq_false:=@decide_eq_false
theorem ZP:type_of%@decide_eq_true:=@decide_eq_true
theorem Z8:type_of%@if_neg:=@if_neg
theorem Z7:type_of%@if_pos:=@if_pos
theorem ZD:type_of%@of_decide_eq_true:=@of_decide_eq_true
theorem Yd{α:Sort u}{β:Sort v}{p:α->β->Prop}{a:α}{b:β}(h:p a b):∃a b,p a b:=⟨a,b,h⟩
theorem Xh{α:Sort u}{β:Sort v}{γ:Sort w}{p:α->β->γ->Prop}{a:α}{b:β}{c:γ}(h:p a b c):∃a b c,p a b c:=⟨a,b,c,h⟩
theorem V7{α:Sort u}{β:Sort v}{γ:Sort w}{δ:Sort x}{p:α->β->γ->δ->Prop}{a:α}{b:β}{c:γ}{d:δ}(h:p a b c d):∃a b c d,p a b c d:=⟨a,b,c,d,h⟩
theorem Tc{α:Sort u}{β:Sort v}{γ:Sort w}{δ:Sort x}{ε:Sort y}{p:α->β->γ->δ->ε->Prop}{a:α}{b:β}{c:γ}{d:δ}{e:ε}(h:p a b c d e):∃a b c d e,p a b c d e:=⟨a,b,c,d,e,h⟩
theorem Xr{α:Sort u}{β:Sort v}{p:α->β->Prop}(a:α)(b:β)(h:p a b):∃a b,p a b:=⟨a,b,h⟩
theorem XR{α:Sort u}{β:Sort v}{γ:Sort w}{p:α->β->γ->Prop}(a:α)(b:β)(c:γ)(h:p a b c):∃a b c,p a b c:=⟨a,b,c,h⟩
theorem W9{α:Sort u}{β:Sort v}{γ:Sort w}{δ:Sort x}{p:α->β->γ->δ->Prop}(a:α)(b:β)(c:γ)(d:δ)(h:p a b c d):∃a b c d,p a b c d:=⟨a,b,c,d,h⟩
theorem Ua{α:Sort u}{β:Sort v}{γ:Sort w}{δ:Sort x}{ε:Sort y}{p:α->β->γ->δ->ε->Prop}(a:α)(b:β)(c:γ)(d:δ)(e:ε)(h:p a b c d e):∃a b c d e,p a b c d e:=⟨a,b,c,d,e,h⟩
theorem ZQ{α:Sort u}{β:Sort v}{p q r:α->β->Prop}{a:α}{b:β}(h:p a b)(i:q a b)(k:r a b):∃a b,p a b/\q a b/\r a b:=⟨a,b,h,i,k⟩
theorem ZJ{α:Sort u}{β:Sort v}{γ:Sort w}{δ:Sort x}{p q r s t:α->β->γ->δ->Prop}{a:α}{b:β}{c:γ}{d:δ}(h:p a b c d)(i:q a b c d)(j:r a b c d)(k:s a b c d)(l:t a b c d):∃a b c d,p a b c d/\q a b c d/\r a b c d/\s a b c d/\t a b c d:=⟨a,b,c,d,h,i,j,k,l⟩
theorem Y'{α:Sort u}{β:Sort v}{p:α->Prop}{q r:α->β->Prop}{a:α}{b:β}(h:p a)(i:q a b)(k:r a b):∃a,p a/\∃b,q a b/\r a b:=⟨a,h,b,i,k⟩
theorem Z1{α:Sort u}{p q:α->Prop}{a:α}(h:p a)(k:q a):∃a,p a/\q a:=⟨a,h,k⟩
namespace L2
open PySem PySem.Spec PyProof.Rows
abbrev Key:=Sum Int Str
def JY:Key->Value->Bool
 |.inl k,v=>Value.isInt k v
 |.inr x,v=>Value.isStrOf x v
def mB(w:World):Key->Int
 |.inl k=>hashInt k
 |.inr x=>hashStr w x
theorem Xq:∀{k:Key}{v:Value},JY k v=true->(∃i t,k=Sum.inl i/\v=Value.int i t)\/(∃x t,k=Sum.inr x/\v=Value.str x t)
 |.inl i,v,h=>by
  obtain⟨t,e⟩:=Value.isInt_shape (k:=i) (v:=v) h;exact .inl ⟨i,t,Y,e⟩
 |.inr x,v,h=>by
  obtain⟨t,e⟩:=Value.isStrOf_shape (x:=x) (v:=v) h;exact .inr ⟨x,t,Y,e⟩
theorem B5(i:Int)(t:Tok):JY (.inl i) (.int i t)=true:=by simp[JY,Value.isInt]
theorem B4(x:Str)(t:Tok):JY (.inr x) (.str x t)=true:=by simp[JY,Value.isStrOf]
theorem ub(a b:Int):decide ((Sum.inl a:Key)=Sum.inl b)=(a==b):=by
 by_cases e:a=b;·subst e;simp
 ·have h:¬(Sum.inl a:Key)=Sum.inl b:=fun q=>e (Sum.inl.inj q);rw[ZC h];exact(Vu.mpr e).symm
theorem ua(a b:Str):decide ((Sum.inr a:Key)=Sum.inr b)=decide (a=b):=by
 by_cases e:a=b;·subst e;simp
 ·have h:¬(Sum.inr a:Key)=Sum.inr b:=fun q=>e (Sum.inr.inj q);rw[ZC h,ZC e]
theorem t_(a:Int)(b:Str):decide ((Sum.inl a:Key)=Sum.inr b)=false:=ZC (fun q=>nomatch q)
theorem t9(a:Str)(b:Int):decide ((Sum.inr a:Key)=Sum.inl b)=false:=ZC (fun q=>nomatch q)
def Xp(prog:Program)(w:World):PySem.KeyKind prog w Key where
 is:=JY
 hash:=mB w
 inj:=fun v a b ha O=>by
  rcases Xq ha with⟨i,t,rfl,rfl⟩|⟨x,t,rfl,rfl⟩
  ·rcases Xq O with⟨j,u,rfl,e⟩|⟨y,u,rfl,e⟩;·injection e with e1 _;rw[e1]
   ·exact nomatch e
  ·rcases Xq O with⟨j,u,rfl,e⟩|⟨y,u,rfl,e⟩;·exact nomatch e
   ·injection e with e1 _;rw[e1]
 byValue:=fun k v h=>by rcases Xq h with⟨i,t,rfl,rfl⟩|⟨x,t,rfl,rfl⟩<;>rfl
 pyHash:=fun hv h=>by
  rcases Xq hv with⟨i,t,rfl,rfl⟩|⟨x,t,rfl,rfl⟩;·exact wpAny_pyHash_int h
  ·exact wpAny_pyHash_str h
 eqBool:=fun hu hv h=>by
  rcases Xq hu with⟨i,t,rfl,rfl⟩|⟨x,t,rfl,rfl⟩
  ·rcases Xq hv with⟨j,u,rfl,rfl⟩|⟨y,u,rfl,rfl⟩;·rw[ub]at h;exact wpAny_eqBool_int h
   ·rw[t_]at h;exact SeqAt.EqAt.int_str i t y u _ _ _ _ h
  ·rcases Xq hv with⟨j,u,rfl,rfl⟩|⟨y,u,rfl,rfl⟩;·rw[t9]at h;exact SeqAt.EqAt.str_int x t j u _ _ _ _ h
   ·rw[ua]at h;exact wpAny_eqBool_str h
 «strs»:=fun k x t v h=>by
  rcases Xq h with⟨i,u,rfl,e⟩|⟨y,u,rfl,e⟩;·exact nomatch e
  ·injection e with e1 _
   subst e1;cases v<;>rfl
theorem G7(prog:Program)(w:World)(i:Int)(t:Tok):(Xp prog w).is (.inl i) (.int i t)=true:=B5 i t
theorem G5(prog:Program)(w:World)(x:Str)(t:Tok):(Xp prog w).is (.inr x) (.str x t)=true:=B4 x t
set_option genInjectivity true in
inductive V where
 |Xf|bl (b:Bool)|int (i:Int)|str (x:Str)|EX (b:Array UInt8)|nU (b:UInt64)|ref (a:Addr)|ty (n:String)
 deriving DecidableEq
def RelV:V->Value->Prop
 |.Xf,u=>u=Value.none
 |.bl b,u=>u=Value.bool b
 |.int i,u=>∃t,u=Value.int i t
 |.str x,u=>∃t,u=Value.str x t
 |.EX b,u=>∃t,u=Value.bytes b t
 |.nU b,u=>∃t,u=Value.float b t
 |.ref a,u=>u=Value.ref a
 |.ty n,u=>u=Value.type n
abbrev Vals:List V->List Value->Prop:=Paired RelV
theorem Vals.length{xs:List V}{us:List Value}(r:Vals xs us):xs.length=us.length:=Paired.length r
theorem Vals.get:∀{xs:List V}{us:List Value}{i:Nat}{x:V},Vals xs us->xs[i]?=some x->∃u,us[i]?=some u/\RelV x u
 |_,_,_,_,.nil,e=>by simp at e
 |_,_,0,_,.cons r _,e=>by simp at e;subst e;exact Z1 Y r
 |_,_,i+1,x,.cons _ t,e=>by
  obtain⟨u,J,h2⟩:=Vals.get (i:=i) (x:=x) t (by simpa using e);exact⟨u,by simpa using J,h2⟩
theorem Vals.set{x:V}{u:Value}(r:RelV x u):∀{xs:List V}{us:List Value}(i:Nat),Vals xs us->Vals (xs.set i x) (us.set i u)
 |_,_,_,.nil=>.nil
 |_,_,0,.cons _ t=>.cons r t
 |_,_,i+1,.cons q t=>.cons q (Vals.set r i t)
theorem Vals.append:∀{xs ys:List V}{us ws:List Value},Vals xs us->Vals ys ws->Vals (xs++ys) (us++ws)
 |_,_,_,_,.nil,s=>s
 |_,_,_,_,.cons r t,s=>.cons r (Vals.append t s)
theorem Vals.take:∀{xs:List V}{us:List Value}(n:Nat),Vals xs us->Vals (xs.take n) (us.take n)
 |_,_,0,_=>.nil
 |_,_,_+1,.nil=>.nil
 |_,_,n+1,.cons r t=>.cons r (Vals.take n t)
theorem Vals.drop:∀{xs:List V}{us:List Value}(n:Nat),Vals xs us->Vals (xs.drop n) (us.drop n)
 |_,_,0,r=>r
 |_,_,_+1,.nil=>.nil
 |_,_,n+1,.cons _ t=>Vals.drop n t
def RM:Option V->Option Value->Prop
 |some v,some u=>RelV v u
 |none,none=>True
 |_,_=>False
def KV{κ:Type}:List (κ×V)->List (κ×Value)->Prop:=Paired fun(p:κ×V) (q:κ×Value)=>p.1=q.1/\RelV p.2 q.2
noncomputable def kV:Key->V
 |.inl i=>.int i
 |.inr x=>.str x
inductive HO where
 |lst (xs:List V)
 |tup (xs:List V)
 |dK (Zp:List (Key×V))|dT (Zp:List (List Key×V))
 |set (S:Int->Bool) (n:Nat)
 |ins (C dx:Addr) (fs:List (Str×V))
 |own (x:Addr)
 |xd (fs:List (Str×V))
 |met (f x:Addr)
 |my (lo hi:Int)
 |IQ (o:Obj) (u:HO)
 |t8 (ps:Array Value)
 |ext (φ:Heap->Prop)
abbrev Hp:=Addr->Option HO
noncomputable def upd(H:Hp)(a:Addr)(o:HO):Hp:=fun b=>if b=a then some o else H b
theorem Z4{H:Hp}{a:Addr}{o:HO}:upd H a o a=some o:=by unfold upd;rw[Z7 rfl]
theorem ZV{H:Hp}{a b:Addr}{o:HO}(h:b≠a):upd H a o b=H b:=by unfold upd;rw[Z8 h]
theorem qD{H:Hp}{a b:Addr}{o u:HO}(h:H a=some o)(h':H b=some u)(d:o≠u):a≠b:=by intro e;subst e;rw[h]at h';exact d (Y8 h')
theorem Zx{H:Hp}{a b:Addr}{o:HO}(h:H a=some o)(h':H b=none):a≠b:=by intro e;subst e;rw[h]at h';cases h'
section
variable(P:Program)(w:World)
def WZ(H:Hp)(h:Heap)(a:Addr):HO->Prop
 |.lst xs=>xs.length<=sizeLine/\∃(Y5:List Value) (n:Nat),Vals xs Y5/\h.get? a=some {cls:=.type "list",data:=.seq Y5.toArray n}
 |.tup xs=>xs.length<=sizeLine/\∃Y5:List Value,Vals xs Y5/\IsTup h a Y5.toArray
 |.dK Zp=>Zp.length<=sizeLine/\(a==sysModules)=false/\∃vs,KV Zp vs/\h.DictOf (Xp P w) a vs
 |.dT Zp=>Zp.length<=sizeLine/\(a==sysModules)=false/\∃xs:List (List Key×Addr×Value),
  Paired (fun(p:List Key×V) (q:List Key×Addr×Value)=>p.1=q.1/\H q.2.1=some (.tup (p.1.map kV))/\RelV p.2 q.2.2) Zp xs/\
  ∃o es ep,h.get? a=some o/\o.ExactDict/\o.data=.dict es ep/\es.toList=xs.map (entryOfKey (tupleKind (Xp P w)))/\(xs.map (·.1)).Nodup
 |.set S n=>h.SetOf (intKind P w) a S n
 |.ins C dx fs=>H dx=some (.own a)/\fs.length<=1000/\dx≠a/\h.get? a=some (W.instObj C dx)/\
  ∃mA,h.Ns1 dx mA/\(∀f,RM (fs.lookup f) (mA f))/\PySem.Within mA (fs.map (·.1))
 |.own _=>∃o,h.get? a=some o
 |.xd fs=>∃mA,h.Ns1 a mA/\∀f,RM (fs.lookup f) (mA f)
 |.my lo hi=>∃t u v,h.get? a=some {cls:=.type "range",data:=.fields #[.int lo t,.int hi u,.int 1 v]}
 |.IQ o u=>h.get? a=some o/\WZ H h a u
 |.t8 ps=>h.get? a=some {cls:=.none,data:=.fields ps}
 |.met f x=>h.get? a=some (W.methodObj (.ref f) (.ref x))
 |.ext φ=>φ h/\(∃o,h.get? a=some o)/\∀J h2:Heap,φ J->(∀o,J.get? a=some o->h2.get? a=some o)->φ h2
def Tb(H:Hp)(h:Heap):Prop:=∀a o,H a=some o->WZ P w H h a o
end
section
variable{P:Program}{w:World}{H H':Hp}{h h':Heap}{a:Addr}{o:HO}
theorem WZ.lt(x:WZ P w H h a o):a<h.objs.size:=by
 cases o with
 |lst xs=>obtain ⟨_,_,_,_,e⟩:=x;exact Zo e
 |tup xs=>obtain ⟨_,_,_,p⟩:=x;exact p.lt
 |dK Zp=>obtain ⟨_,_,_,_,o,_,_,e,_⟩:=x;exact Zo e
 |dT Zp=>obtain ⟨_,_,_,_,o,_,_,e,_⟩:=x;exact Zo e
 |set S n=>obtain ⟨o,_,_,_,e,_⟩:=x;exact Zo e
 |ins C dx fs=>obtain ⟨_,_,_,e,_⟩:=x;exact Zo e
 |own y=>obtain ⟨_,e⟩:=x;exact Zo e
 |xd fs=>obtain ⟨_,⟨_,_,_,e,_⟩,_⟩:=x;exact Zo e
 |my lo hi=>obtain ⟨_,_,_,e⟩:=x;exact Zo e
 |IQ ob u=>obtain ⟨e,_⟩:=x;exact Zo e
 |t8 ps=>exact Zo (show h.get? a=some _ from x)
 |met f y=>exact Zo (show h.get? a=some _ from x)
 |ext φ=>obtain ⟨_,⟨_,e⟩,_⟩:=x;exact Zo e
theorem Paired.t6{α β:Type}{F G:α->β->Prop}:∀{l₁:List α}{qC:List β},Paired F l₁ qC->(∀a b,F a b->G a b)->Paired G l₁ qC
 |_,_,.nil,_=>.nil
 |_,_,.cons r t,f=>.cons (f _ _ r) (Paired.t6 t f)
theorem WZ.ER(x:WZ P w H h a o)(k:∀b u,(b=a\/H b=some (.own a))->h.get? b=some u->h'.get? b=some u)(ho:∀b,H b=some (.own a)->H' b=some (.own a))(ht:∀b xs,H b=some (.tup xs)->H' b=some (.tup xs)):WZ P w H' h' a o:=by
 induction o with
 |lst xs=>obtain ⟨z,Y5,n,r,e⟩:=x;exact⟨z,Y5,n,r,k _ _ (.inl Y) e⟩
 |tup xs=>obtain ⟨z,Y5,r,ob,e,c⟩:=x;exact⟨z,Y5,r,ob,k _ _ (.inl Y) e,c⟩
 |dK Zp=>obtain ⟨z,y,vs,r,ob,es,ep,e,c⟩:=x;exact⟨z,y,vs,r,ob,es,ep,k _ _ (.inl Y) e,c⟩
 |dT Zp=>
  obtain⟨z,y,xs,r,ob,es,ep,e,c⟩:=x;exact⟨z,y,xs,Paired.t6 r fun p q z=>⟨z.1,ht _ _ z.2.1,z.2.2⟩,ob,es,ep,k _ _ (.inl Y) e,c⟩
 |set S n=>obtain ⟨ob,es,ep,t,e,c⟩:=x;exact⟨ob,es,ep,t,k _ _ (.inl Y) e,c⟩
 |ins C dx fs=>
  obtain⟨d,z,ne,e,mA,⟨od,es,ep,e2,c⟩,r⟩:=x;exact⟨ho _ d,z,ne,k _ _ (.inl Y) e,mA,⟨od,es,ep,k _ _ (.inr d) e2,c⟩,r⟩
 |own y=>obtain ⟨ob,e⟩:=x;exact⟨ob,k _ _ (.inl Y) e⟩
 |xd fs=>obtain ⟨mA,⟨od,es,ep,e,c⟩,r⟩:=x;exact⟨mA,⟨od,es,ep,k _ _ (.inl Y) e,c⟩,r⟩
 |my lo hi=>obtain ⟨t,u,v,e⟩:=x;exact⟨t,u,v,k _ _ (.inl Y) e⟩
 |IQ ob u ih=>obtain ⟨e,q⟩:=x;exact⟨k _ _ (.inl Y) e,ih q⟩
 |t8 ps=>
  have e:h.get? a=some {cls:=.none,data:=.fields ps}:=x;show h'.get? a=some {cls:=.none,data:=.fields ps};exact k a _ (.inl Y) e
 |met f y=>
  have e:h.get? a=some (W.methodObj (.ref f) (.ref y)):=x;show h'.get? a=some (W.methodObj (.ref f) (.ref y));exact k a _ (.inl Y) e
 |ext φ=>obtain ⟨p,⟨o,e⟩,st⟩:=x;exact⟨st _ _ p fun o q=>k _ _ (.inl Y) q,⟨o,k _ _ (.inl Y) e⟩,st⟩
theorem Tb.lt(x:Tb P w H h)(e:H a=some o):a<h.objs.size:=(x a o e).lt
theorem Tb.fresh(x:Tb P w H h)(e:h.objs.size<=a):H a=none:=by
 cases q:H a with
 |none=>rfl
 |some u=>exact absurd (Zl (x.lt q) e) (We _)
theorem Tb.kept(x:Tb P w H h)(k:∀b u,h.get? b=some u->h'.get? b=some u):Tb P w H h':=fun a o e=>
 (x a o e).ER (fun b u _ q=>k b u q) (fun _ q=>q) fun _ _ q=>q
theorem Tb.laid(x:Tb P w H h)(k:∀b u,h.get? b=some u->h'.get? b=some u)(hp:h.objs.size<=a)(new:WZ P w (upd H a o) h' a o):Tb P w (upd H a o) h':=fun b u e=>by
 have hn:=x.fresh hp;by_cases O:b=a;·subst O;rw[Z4]at e;cases e;exact new
 ·rw[ZV O]at e;exact(x b u e).ER (fun c v _ q=>k c v q) (fun c q=>by rw[ZV (Zx q hn)];exact q) fun c xs q=>by rw[ZV (Zx q hn)];exact q
end
def Rd(H:Hp)(a:Addr)(u:HO):Prop:=H a=some u\/∃o,H a=some (.IQ o u)
theorem Rd.of{H:Hp}{a:Addr}{u:HO}(h:H a=some u):Rd H a u:=.inl h
theorem Rd.ok{P:Program}{w:World}{H:Hp}{h:Heap}{a:Addr}{u:HO}(r:Rd H a u)(x:Tb P w H h):WZ P w H h a u:=by
 rcases r with r|⟨o,r⟩;·exact x a u r
 ·obtain⟨_,q⟩:=x a _ r;exact q
def qB:Option HO->Prop
 |some (.lst _)=>True
 |some (.dK _)=>True
 |some (.dT _)=>True
 |some (.set _ _)=>True
 |some (.ins _ _ _)=>True
 |some (.ext _)=>True
 |_=>False
section
variable{P:Program}{w:World}{H:Hp}{h h':Heap}{x e:Addr}{o':HO}
theorem Tb.write(ok:Tb P w H h)(mu:qB (H x))(he:e=x\/H e=some (.own x))(k:∀b u,b≠e->h.get? b=some u->h'.get? b=some u)(qW:∃u,h'.get? e=some u)(new:WZ P w (upd H x o') h' x o'):Tb P w (upd H x o') h':=fun b u q=>by
 have qA:∀c y,H c=some (.own y)->c≠x:=fun c y r z=>by subst z;rw[r]at mu;exact mu
 have mx:∀c xs,H c=some (.tup xs)->c≠x:=fun c xs r z=>by subst z;rw[r]at mu;exact mu
 by_cases O:b=x;·subst O;rw[Z4]at q;cases q;exact new
 ·rw[ZV O]at q;by_cases tZ:b=e
  ·have q':H b=some (.own x):=by
    rcases he with z|z;·exact absurd (tZ.trans z) O
    ·rw[tZ];exact z
   rw[q]at q';cases q';obtain⟨v,hv⟩:=qW;exact⟨v,by rw[tZ];exact hv⟩
  ·refine(ok b u q).ER (fun c v hc r=>k c v ?_ r) (fun c r=>by rw[ZV (qA c b r)];exact r) fun c xs r=>by rw[ZV (mx c xs r)];exact r
   rcases hc with rfl|hc;·exact tZ
   ·rintro rfl;rcases he with z|z;·exact qA c b hc z
    ·rw[hc]at z;cases z;exact O rfl
end
structure Un(fs ex:List Addr)(H H':Hp)(h h':Heap):Prop where
 keep:∀b o,h.get? b=some o->H b=none->b∉fs->b∉ex->h'.get? b=some o
 slot:∀b o,h.get? b=some o->H b=none->b∈fs->b∉ex->∃sl,h'.get? b=some {o with slots:=sl}
 free:∀b o,h.get? b=some o->H b=none->b∉ex->H' b=none
 there:∀b o,h.get? b=some o->b∉ex->∃o',h'.get? b=some o'
 G4:∀b xs,H b=some (.tup xs)->H' b=some (.tup xs)
 IP:∀b o u,H b=some (.IQ o u)->H' b=some (.IQ o u)
 G3:∀b ps,H b=some (.t8 ps)->∃more,H' b=some (.t8 (ps++more))
section
variable{fs AK ex ai:List Addr}{H H1 H2:Hp}{h J h2 h':Heap}{a x e:Addr}{o:HO}
theorem Un.any(u:Un fs ex H H1 h J){b:Addr}{ob:Obj}(q:h.get? b=some ob)(n:H b=none)(hx:b∉ex):∃sl,J.get? b=some {ob with slots:=sl}:=by
 by_cases O:b∈fs;·exact u.slot b ob q n O hx
 ·exact⟨ob.slots,u.keep b ob q n O hx⟩
theorem Un.kept(k:∀b u,h.get? b=some u->h'.get? b=some u):Un fs ex H H h h':=
 ⟨fun b ob q _ _ _=>k b ob q,fun b ob q _ _ _=>⟨ob.slots,k b ob q⟩,fun _ _ _ n _=>n,fun b ob q _=>⟨ob,k b ob q⟩,fun _ _ q=>q,fun _ _ _ q=>q,fun _ ps q=>⟨#[],by rw[q];simp⟩⟩
theorem Un.refl:Un fs ex H H h h:=Un.kept fun _ _ q=>q
theorem Un.laid(k:∀b u,h.get? b=some u->h'.get? b=some u)(hp:h.objs.size<=a)(hn:H a=none):Un fs ex H (upd H a o) h h' where
 keep:=fun b u q _ _ _=>k b u q
 slot:=fun b u q _ _ _=>⟨u.slots,k b u q⟩
 free:=fun b u q n _=>by rw[ZV (Y7 (Zl (Zo q) hp))];exact n
 there:=fun b u q _=>⟨u,k b u q⟩
 G4:=fun b xs q=>by rw[ZV (Zx q hn)];exact q
 IP:=fun b u xs q=>by rw[ZV (Zx q hn)];exact q
 G3:=fun b ps q=>⟨#[],by rw[ZV (Zx q hn),q];simp⟩
theorem Un.write(mu:qB (H x))(he:e=x\/H e=some (.own x))(k:∀b u,b≠e->h.get? b=some u->h'.get? b=some u)(qW:∃u,h'.get? e=some u):Un fs ex H (upd H x o) h h':=by
 have hx:∀b,H b=none->b≠x:=fun b n z=>by subst z;rw[n]at mu;exact mu
 have O:∀b,H b=none->b≠e:=fun b n z=>by
  subst z;rcases he with r|r;·exact hx b n r
  ·rw[n]at r;cases r
 have hm:∀b u,H b=some u->¬qB (some u)->b≠x:=fun b u q nm z=>by subst z;rw[q]at mu;exact nm mu
 refine⟨fun b u q n _ _=>k b u (O b n) q,fun b u q n _ _=>⟨u.slots,k b u (O b n) q⟩,fun b u q n _=>by rw[ZV (hx b n)];exact n,fun b u q _=>?_,fun b xs q=>by rw[ZV (hm b _ q fun z=>z)];exact q,fun b u xs q=>by rw[ZV (hm b _ q fun z=>z)];exact q,fun b ps q=>⟨#[],by rw[ZV (hm b _ q fun z=>z),q];simp⟩⟩;by_cases tZ:b=e;·subst tZ;exact qW
 ·exact⟨u,k b u tZ q⟩
end
noncomputable def nT(h:Heap)(H:Hp):List Addr:=(List.range h.objs.size).filter fun a=>(H a).isSome
def IM(h:Heap)(H:Hp):Heap:=W.hideAll h (nT h H)
theorem B3(h:Heap)(H:Hp):(IM h H).objs.size=h.objs.size:=W.hideAll_size _ _
theorem AJ{h:Heap}{H:Hp}{b:Addr}{o:Obj}(e:h.get? b=some o)(n:H b=none):(IM h H).get? b=some o:=
 W.hideAll_get _ e fun hm=>by
  have q:(H b).isSome=true:=(XI.mp hm).2;rw[n]at q;simp at q
theorem xw{h:Heap}{H:Hp}{b:Addr}{o:Obj}(e:(IM h H).get? b=some o):h.get? b=some o/\H b=none:=by
 have e':h.get? b=some o:=W.of_hideAll (nT h H) e;refine⟨e',?_⟩;cases q:H b with
 |none=>rfl
 |some x=>
  have hm:b∈nT h H:=XI.mpr ⟨YO.mpr (Zo e'),by simp[q]⟩;have z:(IM h H).get? b=none:=W.hideAll_none (nT h H) hm;rw[z]at e;cases e
structure Mod(K:W.Frag)(mg:Str->Option Value)(base:Heap):Prop where
 qz:K.In base
 glob:base.Ns mainGlobals mg
 blt:∃mb,base.Ns builtinsNs mb/\∀x:Str,x≠"__name__"->mb x=bootBuiltins x
 nolimit:base.NoLimit
 seer:base.NoSeer
structure Cx where
 prog:Program
 w:World
 K:W.Frag
 mg:Str->Option Value
 base:Heap
 A:Around
 N:List Str
 JX:Shared
 qy:Hp
 env:Env
 outer:List Env
 stack:List Env
 ex:List Addr
 fn:Str->Bool
 calm:Bool
 pn:List (Addr×Obj)
 xe:Value->Shared->Prop
def AI(l:List Env):List Addr:=l.filterMap (·.frame)
abbrev Cx.fs(X:Cx):List Addr:=AI X.outer
def qV(sc:Scope)(x:Str):Prop:=sc.names.lookup x=some .local\/sc.names.lookup x=some .cell\/sc.names.lookup x=some .free
def Loc(sc:Scope)(x:Str):Prop:=sc.names.lookup x=some .local\/sc.names.lookup x=some .cell
def Look(env:Env)(h:Heap)(m:Str->Option Value)(x:Str)(u:Value):Prop:=
 (env.kindOf x=some .local/\m x=some u)\/((env.kindOf x=some .cell\/env.kindOf x=some .free)/\∃c,env.cells.lookup x=some c/\h.IsCell c (some u))
structure Cx.Ok(X:Cx):Prop where
 mod:Mod X.K X.mg X.base
 kind:X.env.scope.kind=.function
 glob:X.env.globals=mainGlobals
 blt:X.env.builtins=builtinsNs
 above:X.JX.heap.objs.size<=X.env.locals
 inj:∀x y c,X.env.cells.lookup x=some c->X.env.cells.lookup y=some c->x=y
 has:∀x,(X.env.kindOf x=some .cell\/X.env.kindOf x=some .free)->∃c,X.env.cells.lookup x=some c
 qx:∀x c,X.fn x=true->X.env.cells.lookup x=some c->X.JX.heap.objs.size<=c
 hd:X.calm=true->X.A.handled=none
 frames:X.A.frames=some X.stack
 nS:X.stack=X.outer\/(X.stack=X.env::X.outer/\X.env.frame=some X.env.locals)
 nR:∀b∈X.ex,b≠X.env.locals/\∀x c,X.env.cells.lookup x=some c->c≠b
 bs:∀b o,X.base.get? b=some o->X.JX.heap.get? b=some o/\X.qy b=none
 xO:X.base.objs.size<=X.JX.heap.objs.size
 AH:∀b o,X.base.get? b=some o->b∉X.ex
 AG:∀b∈X.ex,b∉X.fs
 MH:X.JX.heap.FunFrames X.base X.outer
 tY:∀b∈X.fs,X.qy b=none
 tree:X.prog.given.tree=none
 top:∃env l,X.stack=env::l/\env.scope.isGenerator=false/\env.scope.isCoroutine=false/\env.builtins=builtinsNs/\env.globals=mainGlobals
structure Inv(X:Cx)(pins:List (Addr×Obj))(σ:List (Option V))(H:Hp)(s:Shared):Prop where
 ok:X.Ok
 os:s.os=X.JX.os
 bare:AllBare s.gens
 base:Un X.fs X.ex X.qy H X.JX.heap s.heap
 loc:∃m,s.heap.Ns X.env.locals m/\∀(i:Nat)(x:Str)(v:V),X.N[i]?=some x->σ[i]?=some (some v)->qV X.env.scope x->∃u,RelV v u/\Look X.env s.heap m x u
 cell:∀x c,X.env.cells.lookup x=some c->∃v,s.heap.IsCell c v
 free:H X.env.locals=none
 RE:∀x c,X.env.cells.lookup x=some c->H c=none
 pin:∀p∈X.pn++pins,s.heap.get? p.1=some p.2/\H p.1=none/\p.1≠X.env.locals/\p.1∉X.fs/\∀v,p.2.data≠.cell v
 X3:Tb X.prog X.w H s.heap
 len:σ.length=X.N.length
section
variable{X:Cx}{pins:List (Addr×Obj)}{σ:List (Option V)}{H H':Hp}{s:Shared}{h':Heap}
theorem Cx.Ok.mw(ok:X.Ok){b:Addr}{o:Obj}(e:X.base.get? b=some o):b∉X.fs:=fun O=>by
 have:=(ok.MH.mem O).1;rw[e]at this;cases this
theorem Inv.bs(I:Inv X pins σ H s):∀b o,X.base.get? b=some o->s.heap.get? b=some o/\H b=none:=fun b o e=>
 ⟨I.base.keep b o (I.ok.bs b o e).1 (I.ok.bs b o e).2 (I.ok.mw e) (I.ok.AH b o e),I.base.free b o (I.ok.bs b o e).1 (I.ok.bs b o e).2 (I.ok.AH b o e)⟩
theorem Inv.bk(I:Inv X pins σ H s):∀b o,X.base.get? b=some o->s.heap.get? b=some o:=fun b o e=>(I.bs b o e).1
theorem Inv.mod(I:Inv X pins σ H s):Mod X.K X.mg X.base:=I.ok.mod
theorem Inv.EW(I:Inv X pins σ H s):X.K.In s.heap:=I.ok.mod.qz.keeps I.bk
theorem Inv.nolimit(I:Inv X pins σ H s):s.heap.NoLimit:=I.ok.mod.nolimit.keeps I.bk
theorem Inv.fr(I:Inv X pins σ H s):∃m,Fr X.base X.env.locals s.heap m:=
 let⟨m,hn,_⟩:=I.loc
 ⟨m,hn,I.bk,ZA I.ok.xO I.ok.above⟩
theorem Inv.lt(I:Inv X pins σ H s):X.env.locals<s.heap.objs.size:=let⟨_,hn,_⟩:=I.loc;hn.lt
theorem Inv.sz(I:Inv X pins σ H s):X.JX.heap.objs.size<=s.heap.objs.size:=ZA I.ok.above (YZ I.lt)
theorem Inv.mr(I:Inv X pins σ H s){a:Addr}(h:s.heap.objs.size<=a):a∉X.fs:=fun O=>by
 obtain⟨_,o,ho,_⟩:=I.ok.MH.mem O;exact absurd (Zl (Zo ho) (ZA I.sz h)) (We _)
theorem Inv.tX(I:Inv X pins σ H s):∀x c,X.env.cells.lookup x=some c->c≠X.env.locals:=fun x c e z=>by
 obtain⟨v,o,ho,hd⟩:=I.cell x c e;obtain⟨m,⟨o',es,ep,EV,mq,_⟩,_⟩:=I.loc;rw[z,EV]at ho;cases ho;rw[mq]at hd;cases hd
theorem Inv.MH(I:Inv X pins σ H s):s.heap.FunFrames X.base X.outer:=by
 have all:∀(l:List Env),(∀b∈AI l,b∈X.fs)->X.JX.heap.FunFrames X.base l->s.heap.FunFrames X.base l:=by
  intro l;induction l with
  |nil=>intro _ _;trivial
  |cons env r ih=>
   intro hs hl;obtain⟨hk,⟨L,o,hf,hn,ho,hd⟩,hr⟩:=hl;have hL:L∈X.fs:=hs L (by unfold AI;rw[List.filterMap_cons,hf];exact YG);obtain⟨sl,e⟩:=I.base.slot L o ho (I.ok.tY L hL) hL fun z=>I.ok.AG L z hL;exact⟨hk,⟨L,_,hf,hn,e,hd⟩,ih (fun b O=>hs b (by unfold AI;rw[List.filterMap_cons,hf];exact Zf _ O)) hr⟩
 exact all X.outer (fun _ O=>O) I.ok.MH
theorem Inv.stack(I:Inv X pins σ H s):s.heap.FunFrames X.base X.stack:=by
 rcases I.ok.nS with e|⟨e,hf⟩;·rw[e];exact I.MH
 ·rw[e];obtain⟨m,hn,_⟩:=I.loc;refine .cons (by rw[I.ok.kind];decide) hf hn ?_ I.MH;exact Heap.get?_none_of_le (ZA I.ok.xO I.ok.above)
theorem Inv.EO(I:Inv X pins σ H s):∀b∈AI X.stack,b∈X.env.locals::X.fs:=fun b O=>by
 rcases I.ok.nS with e|⟨e,hf⟩;·rw[e]at O;exact Zf _ O
 ·rw[e]at O;unfold AI at O;rw[List.filterMap_cons,hf]at O;exact O
theorem Inv.Di(I:Inv X pins σ H s):∀b∈AI X.stack,H b=none:=fun b O=>by
 rcases ZE.mp (I.EO b O)with e|O;·rw[e];exact I.free
 ·obtain⟨_,o,ho,_⟩:=I.ok.MH.mem O;exact I.base.free b o ho (I.ok.tY b O) fun z=>I.ok.AG b z O
theorem Inv.step{g':Array GenState}{t':Nat}{d':Drawn}{ch:List Addr}(I:Inv X pins σ H s)(G_:∀b∈ch,(b∈X.ex\/X.JX.heap.objs.size<=b)/\b≠X.env.locals/\(∀x c,X.env.cells.lookup x=some c->c≠b)/\∀p∈X.pn++pins,p.1≠b)(keep:∀b o,b≠X.env.locals->b∉X.fs->b∉ch->s.heap.get? b=some o->H b=none->h'.get? b=some o)(slot:∀b o,b≠X.env.locals->b∈X.fs->b∉ch->s.heap.get? b=some o->H b=none->∃sl,h'.get? b=some {o with slots:=sl})(free:∀b o,b∉ch->s.heap.get? b=some o->H b=none->H' b=none)(there:∀b o,b∉ch->s.heap.get? b=some o->∃o',h'.get? b=some o')(G4:∀b xs,H b=some (.tup xs)->H' b=some (.tup xs))(IP:∀b o u,H b=some (.IQ o u)->H' b=some (.IQ o u))(G3:∀b ps,H b=some (.t8 ps)->∃more,H' b=some (.t8 (ps++more)))(ns:∀m,s.heap.Ns X.env.locals m->h'.Ns X.env.locals m)(X3:Tb X.prog X.w H' h')(hg:AllBare g'):Inv X pins σ H' {s with heap:=h',gens:=g',drawn:=d',toks:=t'}:=by
 have iQ:∀b o,X.JX.heap.get? b=some o->b≠X.env.locals:=fun b o e=>Y7 (Zl (Zo e) I.ok.above);have nQ:∀b o,X.JX.heap.get? b=some o->b∉X.ex->b∉ch:=fun b o e hx O=>by
  rcases(G_ b O).1 with z|z;·exact hx z
  ·exact absurd (Zl (Zo e) z) (We _)
 have cellK:∀x c,X.env.cells.lookup x=some c->∀v,s.heap.IsCell c v->h'.IsCell c v:=fun x c e v ⟨o,ho,hd⟩=>by
  have qw:c∉ch:=fun z=>(G_ c z).2.2.1 x c e rfl;by_cases hc:c∈X.fs
  ·obtain⟨sl,q⟩:=slot c o (I.tX x c e) hc qw ho (I.RE x c e);exact⟨_,q,hd⟩
  ·exact⟨o,keep c o (I.tX x c e) hc qw ho (I.RE x c e),hd⟩
 refine⟨I.ok,I.os,hg,⟨fun b o e n O hx=>?_,fun b o e n O hx=>?_,fun b o e n hx=>?_,fun b o e hx=>?_,fun b xs e=>G4 b xs (I.base.G4 b xs e),fun b o xs e=>IP b o xs (I.base.IP b o xs e),fun b ps e=>?_⟩,?_,fun x c e=>?_,?_,fun x c e=>?_,fun p hp=>?_,X3,I.len⟩;·exact keep b o (iQ b o e) O (nQ b o e hx) (I.base.keep b o e n O hx) (I.base.free b o e n hx)
 ·obtain⟨sl,e1⟩:=I.base.slot b o e n O hx;obtain⟨fM,e2⟩:=slot b _ (iQ b o e) O (nQ b o e hx) e1 (I.base.free b o e n hx);exact⟨fM,e2⟩
 ·obtain⟨o',e1⟩:=I.base.there b o e hx;exact free b o' (nQ b o e hx) e1 (I.base.free b o e n hx)
 ·obtain⟨o',e1⟩:=I.base.there b o e hx;exact there b o' (nQ b o e hx) e1
 ·obtain⟨m1,e1⟩:=I.base.G3 b ps e;obtain⟨m2,e2⟩:=G3 b _ e1;exact⟨m1++m2,by rw[e2,Array.append_assoc]⟩
 ·obtain⟨m,hn,hl⟩:=I.loc;refine⟨m,ns m hn,fun i x v e1 e2 e3=>?_⟩;obtain⟨u,r,l⟩:=hl i x v e1 e2 e3;refine⟨u,r,?_⟩;rcases l with l|⟨k,c,e,z⟩;·exact .inl l
  ·exact .inr ⟨k,c,e,cellK x c e _ z⟩
 ·obtain⟨v,z⟩:=I.cell x c e;exact⟨v,cellK x c e v z⟩
 ·obtain⟨m,⟨o,_,_,ho,_⟩,_⟩:=I.loc;exact free _ o (fun z=>(G_ _ z).2.1 rfl) ho I.free
 ·obtain⟨v,o,ho,hd⟩:=I.cell x c e;exact free c o (fun z=>(G_ c z).2.2.1 x c e Y) ho (I.RE x c e)
 ·obtain⟨e,n,ne,nf,d⟩:=I.pin p hp;have qw:p.1∉ch:=fun z=>(G_ p.1 z).2.2.2 p hp rfl;exact⟨keep p.1 p.2 ne nf qw e n,free p.1 p.2 qw e n,ne,nf,d⟩
theorem Inv.un{t':Nat}(I:Inv X pins σ H s)(u:Un X.fs [] H H' s.heap h')(X3:Tb X.prog X.w H' h'):Inv X pins σ H' {s with heap:=h',toks:=t'}:=by
 obtain⟨m,⟨o,es,ep,ho,r⟩,_⟩:=id I.loc;obtain⟨sl,hL⟩:=u.any ho I.free (by simp);exact I.step (g':=s.gens) (d':=s.drawn) (ch:=[]) (fun _ z=>nomatch z) (fun b o _ O _ e n=>u.keep b o e n O (by simp)) (fun b o _ O _ e n=>u.slot b o e n O (by simp)) (fun b o _ e n=>u.free b o e n (by simp)) (fun b o _ e=>u.there b o e (by simp)) u.G4 u.IP u.G3 (fun m' hm=>by
  obtain⟨o',mm,ml,EV,r'⟩:=hm;rw[ho]at EV;cases EV;exact⟨_,mm,ml,hL,r'⟩) X3 I.bare
theorem Inv.call{g':Array GenState}{t':Nat}{d':Drawn}{ch:List Addr}(I:Inv X pins σ H s)(u:Un (AI X.stack) ch H H' s.heap h')(X3:Tb X.prog X.w H' h')(hg:AllBare g')(G_:∀b∈ch,(b∈X.ex\/X.JX.heap.objs.size<=b)/\b≠X.env.locals/\(∀x c,X.env.cells.lookup x=some c->c≠b)/\∀p∈X.pn++pins,p.1≠b):Inv X pins σ H' {s with heap:=h',gens:=g',drawn:=d',toks:=t'}:=by
 obtain⟨m,⟨o,es,ep,ho,r⟩,_⟩:=id I.loc;obtain⟨sl,hL⟩:=u.any ho I.free fun z=>(G_ _ z).2.1 rfl;exact I.step (ch:=ch) G_ (fun b o hL O hc e n=>u.keep b o e n (fun z=>(ZE.mp (I.EO b z)).elim hL O) hc) (fun b o _ _ hc e n=>u.any e n hc) (fun b o hc e n=>u.free b o e n hc) (fun b o hc e=>u.there b o e hc) u.G4 u.IP u.G3 (fun m' hm=>by
  obtain⟨o',mm,ml,EV,r'⟩:=hm;rw[ho]at EV;cases EV;exact⟨_,mm,ml,hL,r'⟩) X3 hg
theorem Inv.turned{t':Nat}{it:Addr}(I:Inv X pins σ H s)(k:∀b o,b≠it->s.heap.get? b=some o->h'.get? b=some o)(hn:H it=none)(hL:it≠X.env.locals)(J:it∈X.ex\/X.JX.heap.objs.size<=it)(h2:∀x c,X.env.cells.lookup x=some c->c≠it)(h3:∀p∈X.pn++pins,p.1≠it):Inv X pins σ H {s with heap:=h',toks:=t'}:=by
 have uY:∀b u,H b=some u->b≠it:=fun b u e z=>by rw[z,hn]at e;cases e
 refine I.step (g':=s.gens) (d':=s.drawn) (ch:=[it]) (fun b O=>?_) (fun b o _ _ hc e _=>k b o (fun z=>hc (by simp[z])) e) (fun b o _ _ hc e _=>⟨o.slots,k b o (fun z=>hc (by simp[z])) e⟩) (fun _ _ _ _ n=>n)
  (fun b o hc e=>⟨o,k b o (fun z=>hc (by simp[z])) e⟩) (fun _ _ e=>e) (fun _ _ _ e=>e) (fun b ps e=>⟨#[],by rw[e];simp⟩) (fun m hm=>?_) (fun b u e=>?_) I.bare
 ·have e:b=it:=by simpa using O
  subst e;exact⟨J,hL,h2,h3⟩
 ·obtain⟨o,es,ep,ho,r⟩:=hm;exact⟨o,es,ep,k _ o (Xb hL) ho,r⟩
 ·refine(I.X3 b u e).ER (fun c v hc q=>k c v ?_ q) (fun _ q=>q) fun _ _ q=>q;rcases hc with z|z;·rw[z];exact uY b u e
  ·exact uY c _ z
theorem Inv.tok(I:Inv X pins σ H s)(t:Nat):Inv X pins σ H {s with toks:=t}:=I.un (h':=s.heap) (t':=t) Un.refl I.X3
theorem Inv.kept{t':Nat}(I:Inv X pins σ H s)(k:∀b u,s.heap.get? b=some u->h'.get? b=some u):Inv X pins σ H {s with heap:=h',toks:=t'}:=I.un (Un.kept k) (I.X3.kept k)
theorem Inv.laid{a:Addr}{o:HO}{t':Nat}(I:Inv X pins σ H s)(k:∀b u,s.heap.get? b=some u->h'.get? b=some u)(hp:s.heap.objs.size<=a)(new:WZ X.prog X.w (upd H a o) h' a o):Inv X pins σ (upd H a o) {s with heap:=h',toks:=t'}:=I.un (Un.laid k hp (I.X3.fresh hp)) (I.X3.laid k hp new)
theorem Inv.write{x e:Addr}{o:HO}{t':Nat}(I:Inv X pins σ H s)(mu:qB (H x))(he:e=x\/H e=some (.own x))(k:∀b u,b≠e->s.heap.get? b=some u->h'.get? b=some u)(qW:∃u,h'.get? e=some u)(new:WZ X.prog X.w (upd H x o) h' x o):Inv X pins σ (upd H x o) {s with heap:=h',toks:=t'}:=I.un (Un.write mu he k qW) (I.X3.write mu he k qW new)
theorem Inv.weak{XC:List (Option V)}(I:Inv X pins σ H s)(hl:XC.length=σ.length)(w:∀(i:Nat) v,XC[i]?=some (some v)->σ[i]?=some (some v)):Inv X pins XC H s:=
 ⟨I.ok,I.os,I.bare,I.base,let⟨m,hn,mj⟩:=I.loc;⟨m,hn,fun i x v e1 e2 e3=>mj i x v e1 (w i v e2) e3⟩,I.cell,I.free,I.RE,I.pin,I.X3,hl.trans I.len⟩
theorem Inv.Dh{uX:List (Addr×Obj)}(I:Inv X pins σ H s)(h:∀p∈uX,s.heap.get? p.1=some p.2/\H p.1=none/\p.1≠X.env.locals/\p.1∉X.fs/\∀v,p.2.data≠.cell v):Inv X uX σ H s:=
 ⟨I.ok,I.os,I.bare,I.base,I.loc,I.cell,I.free,I.RE,fun p hp=>(Zj.mp hp).elim (fun z=>I.pin p (Ym _ z)) (h p),I.X3,I.len⟩
theorem L9{N:List Str}(hN:N.Nodup){i j:Nat}{x:Str}(a:N[i]?=some x)(b:N[j]?=some x):i=j:=by
 obtain⟨J,e1⟩:=Zy.mp a;obtain⟨h2,e2⟩:=Zy.mp b;exact(List.getElem_inj hN).mp (e1.trans e2.symm)
theorem JW{M:Model}{A:Around}{E:Value->Shared->Prop}{i:Nat}{x:Str}{v:V}{u:Value}{Q:Unit->Shared->Prop}(I:Inv X pins σ H s)(hN:X.N.Nodup)(hi:X.N[i]?=some x)(hx:Loc X.env.scope x)(r:RelV v u)(h:∀s',Inv X pins (σ.set i (some v)) H s'->(∃a,Heap.SameBut a s.heap s'.heap/\(a=X.env.locals\/X.env.cells.lookup x=some a))->Q () s')(hf:X.fn x=true\/X.env.scope.names.lookup x=some .local:=by first|exact .inl rfl|exact .inr rfl|assumption):wpAny M A (storeName X.env x u) Q E s:=by
 obtain⟨m,hn,hl⟩:=id I.loc;have mh:(X.env.scope.kind==.class||(X.env.scope.kind==.module&&X.env.locals !=X.env.globals))=false:=by rw[I.ok.kind];rfl
 have qv:i<σ.length:=by rw[I.len];exact(Zy.mp hi).1
 have tX:=I.tX;have tracked:∀{a:Addr}{h':Heap},(∃o,s.heap.get? a=some o/\H a=none)->Heap.SameBut a s.heap h'->Tb X.prog X.w H h':=fun{a h'} ha hs b ob e=>by
  obtain⟨_,_,JV⟩:=ha;refine(I.X3 b ob e).ER (fun c w' hc q=>(hs.2 c ?_).trans q) (fun _ q=>q) fun _ _ q=>q;rintro rfl;rcases hc with rfl|hc;·rw[JV]at e;cases e
  ·rw[JV]at hc;cases hc
 rcases hx with hk|hk
 ·refine wpAny_storeName_local hk hn (fun h' fL hs=>?_) mh;obtain⟨oL,_,_,fK,_⟩:=id hn;refine h _ ⟨I.ok,I.os,I.bare,⟨fun b o e n O hx=>?_,fun b o e n O hx=>?_,I.base.free,fun b o e hx=>?_,I.base.G4,I.base.IP,I.base.G3⟩,⟨_,fL,fun j y v' e1 e2 e3=>?_⟩,fun y c e=>?_,I.free,I.RE,fun p hp=>?_,tracked ⟨oL,fK,I.free⟩ hs,by simpa using I.len⟩ ⟨_,hs,.inl Y⟩;·exact(hs.2 b (Y7 (Zl (Zo e) I.ok.above))).trans (I.base.keep b o e n O hx)
  ·obtain⟨sl,e1⟩:=I.base.slot b o e n O hx;exact⟨sl,(hs.2 b (Y7 (Zl (Zo e) I.ok.above))).trans e1⟩
  ·obtain⟨o',e1⟩:=I.base.there b o e hx;exact⟨o',(hs.2 b (Y7 (Zl (Zo e) I.ok.above))).trans e1⟩
  ·by_cases hj:j=i
   ·subst hj;rw[hi]at e1;cases e1;rw[List.getElem?_set_self qv]at e2;cases e2;exact⟨u,r,.inl ⟨hk,by simp⟩⟩
   ·rw[List.getElem?_set_ne (Xb hj)]at e2;obtain⟨u',r',q⟩:=hl j y v' e1 e2 e3;refine⟨u',r',?_⟩;rcases q with⟨k,e⟩|⟨k,c,e,z⟩
    ·refine .inl ⟨k,?_⟩;have:y≠x:=fun e=>hj (L9 hN e1 (e▸hi));simp[this,e]
    ·exact .inr ⟨k,c,e,z.sameBut hs (tX y c e)⟩
  ·obtain⟨w',z⟩:=I.cell y c e;exact⟨w',z.sameBut hs (tX y c e)⟩
  ·obtain⟨e,n,ne,nf,d⟩:=I.pin p hp;exact⟨(hs.2 p.1 ne).trans e,n,ne,nf,d⟩
 ·have mf:X.fn x=true:=by
   rcases hf with z|z;·exact z
   ·rw[z]at hk;cases hk
  obtain⟨c,hc⟩:=I.ok.has x (.inl hk);obtain⟨w',z⟩:=I.cell x c hc;refine wpAny_storeName_cell I.ok.kind hk hc z (fun h' iP hs=>?_);obtain⟨oc,iO,me⟩:=id z;refine h {s with heap:=h'} ⟨I.ok,I.os,I.bare,⟨fun b o e n O hx=>?_,fun b o e n O hx=>?_,I.base.free,fun b o e hx=>?_,I.base.G4,I.base.IP,I.base.G3⟩,⟨m,hn.sameBut hs (Xb (tX x c hc)),fun j y v' e1 e2 e3=>?_⟩,fun y c' e=>?_,I.free,I.RE,fun p hp=>?_,tracked ⟨oc,iO,I.RE x c hc⟩ hs,by simpa using I.len⟩ ⟨c,hs,.inr hc⟩;·exact(hs.2 b (Y7 (Zl (Zo e) (I.ok.qx x c mf hc)))).trans (I.base.keep b o e n O hx)
  ·obtain⟨sl,e1⟩:=I.base.slot b o e n O hx;exact⟨sl,(hs.2 b (Y7 (Zl (Zo e) (I.ok.qx x c mf hc)))).trans e1⟩
  ·obtain⟨o',e1⟩:=I.base.there b o e hx;exact⟨o',(hs.2 b (Y7 (Zl (Zo e) (I.ok.qx x c mf hc)))).trans e1⟩
  ·by_cases hj:j=i
   ·subst hj;rw[hi]at e1;cases e1;rw[List.getElem?_set_self qv]at e2;cases e2;exact⟨u,r,.inr ⟨.inl hk,c,hc,iP⟩⟩
   ·rw[List.getElem?_set_ne (Xb hj)]at e2;obtain⟨u',r',q⟩:=hl j y v' e1 e2 e3;refine⟨u',r',?_⟩;rcases q with q|⟨k,c',e,z'⟩;·exact .inl q
    ·refine .inr ⟨k,c',e,z'.sameBut hs ?_⟩;rintro rfl;exact hj (L9 hN e1 (I.ok.inj _ _ _ e hc▸hi))
  ·by_cases iN:c'=c;·subst iN;exact⟨_,iP⟩
   ·obtain⟨w2,z2⟩:=I.cell y c' e;exact⟨w2,z2.sameBut hs iN⟩
  ·obtain⟨e,n,ne,nf,d⟩:=I.pin p hp;refine⟨(hs.2 p.1 ?_).trans e,n,ne,nf,d⟩;intro q;rw[q,iO]at e;have q':oc=p.2:=Y8 e;exact d w' (by rw[<-q'];exact me)
theorem L8{M:Model}{A:Around}{E:Value->Shared->Prop}{i:Nat}{x:Str}{v:V}{u:Value}{Q:Unit->Shared->Prop}(I:Inv X pins σ H s)(hN:X.N.Nodup)(hi:X.N[i]?=some x)(hx:Loc X.env.scope x)(r:RelV v u)(h:∀s',Inv X pins (σ.set i (some v)) H s'->Q () s')(hf:X.fn x=true\/X.env.scope.names.lookup x=some .local:=by first|exact .inl rfl|exact .inr rfl|assumption):wpAny M A (storeName X.env x u) Q E s:=
 JW I hN hi hx r (fun s' I' _=>h s' I') hf
theorem Inv.qu{s':Shared}{ch:List Addr}(I:Inv X pins σ H s)(ho:s'.os=s.os)(u:Un (AI X.stack) ch H H' s.heap s'.heap)(X3:Tb X.prog X.w H' s'.heap)(hg:AllBare s'.gens)(G_:∀b∈ch,(b∈X.ex\/X.JX.heap.objs.size<=b)/\b≠X.env.locals/\(∀x c,X.env.cells.lookup x=some c->c≠b)/\∀p∈X.pn++pins,p.1≠b):Inv X pins σ H' s':=by
 obtain⟨h',g',d',t',o'⟩:=s';have e:o'=s.os:=ho;subst e;exact I.call (g':=g') (t':=t') (d':=d') u X3 hg G_
end
abbrev XK:=Value->Option Addr->Hp->Prop
abbrev St:=List (Option V)
abbrev VK:=V->Hp->Prop
abbrev TE:=St->Hp->VK->Prop
abbrev TT:=St->Hp->(Bool->Hp->Prop)->Prop
abbrev TA:=St->Hp->(List V->Hp->Prop)->Prop
structure Ends where
 nx:St->Hp->Prop
 rt:VK
 bk:St->Hp->Prop:=fun _ _=>False
 ct:St->Hp->Prop:=fun _ _=>False
abbrev TS:=Ends->St->Hp->Prop
def EP(X:Cx)(pins:List (Addr×Obj))(σ:St)(Q:VK)(u:Value)(s':Shared):Prop:=∃v H',Inv X pins σ H' s'/\RelV v u/\Q v H'
def TP(X:Cx)(pins:List (Addr×Obj))(σ:St)(Q:Bool->Hp->Prop)(b:Bool)(s':Shared):Prop:=∃H',Inv X pins σ H' s'/\Q b H'
def AP(X:Cx)(pins:List (Addr×Obj))(σ:St)(Q:List V->Hp->Prop)(us:List Value)(s':Shared):Prop:=∃vs H',Inv X pins σ H' s'/\Vals vs us/\Q vs H'
def SP(X:Cx)(pins:List (Addr×Obj))(D:Ends)(f:Flow)(s':Shared):Prop:=
 match f with
 |.next=>∃XC H',Inv X pins XC H' s'/\D.nx XC H'
 |.brk=>∃XC H',Inv X pins XC H' s'/\D.bk XC H'
 |.cont=>∃XC H',Inv X pins XC H' s'/\D.ct XC H'
 |.ret u=>∃v XC H',Inv X pins XC H' s'/\RelV v u/\D.rt v H'
def PE(X:Cx)(e:Expr)(t:TE):Prop:=
 ∀(pins:List (Addr×Obj))(s:Shared)(σ:St)(H:Hp)(Q:VK),Inv X pins σ H s->t σ H Q->wpAny (model X.prog X.w) X.A (eval e X.env) (EP X pins σ Q) X.xe s
def PT(X:Cx)(e:Expr)(t:TT):Prop:=
 ∀(pins:List (Addr×Obj))(s:Shared)(σ:St)(H:Hp)(Q:Bool->Hp->Prop),Inv X pins σ H s->t σ H Q->wpAny (model X.prog X.w) X.A (isTrue e X.env (eval e X.env)) (TP X pins σ Q) X.xe s
def PW(X:Cx)(e:Expr)(t:TT):Prop:=
 ∀(whole:Sem Value)(pins:List (Addr×Obj))(s:Shared)(σ:St)(H:Hp)(Q:Bool->Hp->Prop),Inv X pins σ H s->t σ H Q->wpAny (model X.prog X.w) X.A (isTrue e X.env whole) (TP X pins σ Q) X.xe s
theorem PW.pt{X:Cx}{e:Expr}{t:TT}(h:PW X e t):PT X e t:=h _
def PA(X:Cx)(es:List Expr)(t:TA):Prop:=
 ∀(pos:Pos)(pins:List (Addr×Obj))(s:Shared)(σ:St)(H:Hp)(Q:List V->Hp->Prop),Inv X pins σ H s->t σ H Q->wpAny (model X.prog X.w) X.A (spliced (backTo pos (starEach es X.env))) (AP X pins σ Q) X.xe s
def PS(X:Cx)(st:Stmt)(t:TS):Prop:=
 ∀(pins:List (Addr×Obj))(s:Shared)(σ:St)(H:Hp)(D:Ends),Inv X pins σ H s->t D σ H->wpAny (model X.prog X.w) X.A (exec st X.env) (SP X pins D) X.xe s
def B1(X:Cx)(st:List Stmt)(t:TS):Prop:=
 ∀(pins:List (Addr×Obj))(s:Shared)(σ:St)(H:Hp)(D:Ends),Inv X pins σ H s->t D σ H->wpAny (model X.prog X.w) X.A (execs st X.env) (SP X pins D) X.xe s
theorem X8{α:Type}{t:Sem α}{Q Q':α->Shared->Prop}{M:Model}{A:Around}{E:Value->Shared->Prop}{s:Shared}(h:wpAny M A t Q E s)(hQ:∀a s,Q a s->Q' a s):wpAny M A t Q' E s:=X2 h hQ fun _ _ x=>x
section
variable{X:Cx}
theorem bin{a b:Expr}{ta tb:TE}(ha:PE X a ta)(O:PE X b tb){pins:List (Addr×Obj)}{s:Shared}{σ:St}{H:Hp}{R:V->V->Hp->Prop}(I:Inv X pins σ H s)(h:ta σ H fun x H1=>tb σ H1 fun y H2=>R x y H2){α:Type}{Q:α->Shared->Prop}{f:Value->Value->Sem α}(hf:∀v u s2 x y H2,Inv X pins σ H2 s2->RelV x v->RelV y u->R x y H2->wpAny (model X.prog X.w) X.A (f v u) Q X.xe s2):wpAny (model X.prog X.w) X.A (eval a X.env) (fun v XU=>wpAny (model X.prog X.w) X.A (eval b X.env) (fun u P8=>wpAny (model X.prog X.w) X.A (f v u) Q X.xe P8) X.xe XU) X.xe s:=by
 refine X8 (ha pins s σ H _ I h) fun v s1 ⟨x,H1,I1,r1,q1⟩=>?_;refine X8 (O pins s1 σ H1 _ I1 q1) fun u s2 ⟨y,H2,I2,r2,q2⟩=>?_;exact hf v u s2 x y H2 I2 r1 r2 q2
def G2(i:Nat):TE:=fun σ H Q=>∃v,σ[i]?=some (some v)/\Q v H
def tC(v:V):TE:=fun _ H Q=>Q v H
theorem tW{i:Nat}{x:Str}{pos:Pos}(hN:X.N[i]?=some x)(hv:qV X.env.scope x)(hd:(x==("__debug__":Str))=false:=by decide)(AS:(x==("__classdict__":Str))=false:=by decide):PE X (.Name x pos) (G2 i):=by
 intro pins s σ H Q I h;obtain⟨v,e,h⟩:=h;obtain⟨m,hn,hl⟩:=I.loc;obtain⟨u,r,l⟩:=hl i x v hN e hv;have fin:EP X pins σ Q u s:=⟨v,H,I,r,h⟩;rcases l with⟨hk,hm⟩|⟨hk,c,hc,Dg⟩;·exact wpAny_Name (wpAny_loadName_local I.ok.kind hk hn hm fin) hd
 ·rcases hk with hk|hk;·exact wpAny_Name (wpAny_loadName_cell I.ok.kind hk hc Dg fin) hd
  ·exact wpAny_Name (wpAny_loadName_free I.ok.kind hk hc Dg fin AS) hd
theorem ZR{i j pos}:PE X (.Constant (.int i) j pos) (tC (.int i)):=fun _ _ _ H _ I h=>wpAny_Constant_int ⟨.int i,H,I.tok _,⟨_,Y⟩,h⟩
theorem JU{b j pos}:PE X (.Constant (.bool b) j pos) (tC (.bl b)):=fun _ _ _ H _ I h=>Constant_bool ⟨.bl b,H,I,Y,h⟩
theorem XH{j pos}:PE X (.Constant .none j pos) (tC .Xf):=fun _ _ _ H _ I h=>Constant_none ⟨.Xf,H,I,Y,h⟩
def Gl(X:Cx)(x:Str):Prop:=X.env.kindOf x=some .globalImplicit
theorem Mq{E:Value->Shared->Prop}{pins:List (Addr×Obj)}{s:Shared}{σ:St}{H:Hp}{x:Str}{u:Value}{pos:Pos}{Q:Value->Shared->Prop}(I:Inv X pins σ H s)(hg:Gl X x)(hm:X.mg x=some u)(h:Q u s)(hd:(x==("__debug__":Str))=false:=by decide):wpAny (model X.prog X.w) X.A (eval (.Name x pos) X.env) Q E s:=
 Calls.Name_function_global I.ok.kind hg (Calls.loadGlobal_global (by rw[I.ok.glob];exact I.mod.glob.keeps I.bk) hm h) hd
theorem Od{E:Value->Shared->Prop}{pins:List (Addr×Obj)}{s:Shared}{σ:St}{H:Hp}{x:Str}{u:Value}{pos:Pos}{Q:Value->Shared->Prop}(I:Inv X pins σ H s)(hg:Gl X x)(hm:X.mg x=none)(hv:bootBuiltins x=some u)(h:Q u s)(hn:x≠"__name__":=by decide)(hd:(x==("__debug__":Str))=false:=by decide):wpAny (model X.prog X.w) X.A (eval (.Name x pos) X.env) Q E s:=by
 obtain⟨mb,J,h2⟩:=I.mod.blt;exact Calls.Name_function_global I.ok.kind hg (Calls.loadGlobal_builtin (by rw[I.ok.glob];exact I.mod.glob.keeps I.bk) hm (by rw[I.ok.blt];exact J.keeps I.bk) ((h2 x hn).trans hv) h) hd
theorem xu{x:Str}{v:V}{u:Value}{pos:Pos}(hg:Gl X x)(hm:X.mg x=some u)(r:RelV v u)(hd:(x==("__debug__":Str))=false:=by decide):PE X (.Name x pos) (tC v):=
 fun _ _ _ H _ I h=>Mq I hg hm ⟨v,H,I,r,h⟩ hd
variable{a b:Expr}{ta tb:TE}{pos:Pos}
def PC(X:Cx)(op:CmpOp)(a b:Expr)(t:TE):Prop:=
 ∀(pins:List (Addr×Obj))(s:Shared)(σ:St)(H:Hp)(Q:VK),Inv X pins σ H s->t σ H Q->
  wpAny (model X.prog X.w) X.A (eval a X.env) (fun v XU=>wpAny (model X.prog X.w) X.A (eval b X.env) (fun u P8=>wpAny (model X.prog X.w) X.A (compareOp op v u) (EP X pins σ Q) X.xe P8) X.xe XU) X.xe s
def tB(t:TE):TT:=fun σ H Q=>t σ H fun x H1=>∃c,x=.bl c/\Q c H1
theorem U3{op:CmpOp}{t:TE}(h:PC X op a b t)(J:behindInMarks op b=false:=by first|exact qt _ (by decide) (by decide)|rfl):PT X (.Compare a [op] [b] pos) (tB t):=by
 intro pins s σ H Q I hw;refine wpAny_isTrue_Compare1 (X8 (h pins s σ H _ I hw) fun v s1 J=>X8 J fun u s2 h2=>X8 h2 fun c s3 ⟨x,H1,I1,r1,q1⟩=>?_) J;obtain⟨d,rfl,q⟩:=q1;cases r1;exact Ws ⟨H1,I1,q⟩
theorem TF{e:Expr}{t:TE}(h:PE X e t)(he:∀whole,isTrue e X.env whole=(do let v<-whole;standAt e.pos;holding [v] (truthy v)):=by intro _;rfl):PT X e (tB t):=by
 intro pins s σ H Q I hw;refine isTrue_plain (X8 (h pins s σ H _ I hw) fun v s1 ⟨x,H1,I1,r1,q1⟩=>?_) (he _);obtain⟨d,rfl,q⟩:=q1;cases r1;exact Ws ⟨H1,I1,q⟩
variable{tA nP:TT}{rest:List Expr}
def md(t u:TT):TT:=fun σ H Q=>t σ H fun c H1=>if c=true then u σ H1 Q else Q false H1
def fJ(t u:TT):TT:=fun σ H Q=>t σ H fun c H1=>if c=true then Q true H1 else u σ H1 Q
def ma(t:TT):TT:=fun σ H Q=>t σ H fun c H1=>Q (!c) H1
theorem QP(ha:PT X a tA):PW X (.BoolOp .And [a] pos) tA:=by
 intro wh pins s σ H Q I h;refine isTrue_and (X8 (ha pins s σ H Q I h) fun c s1 e=>?_);cases c with
 |true=>exact isTrue_and_nil e
 |false=>exact e
theorem Vt(ha:PT X a tA):PW X (.BoolOp .Or [a] pos) tA:=by
 intro wh pins s σ H Q I h;refine isTrue_or (X8 (ha pins s σ H Q I h) fun c s1 e=>?_);cases c with
 |false=>exact isTrue_or_nil e
 |true=>exact e
theorem P7(ha:PT X a tA)(O:PW X (.BoolOp .And (b::rest) pos) nP):PW X (.BoolOp .And (a::b::rest) pos) (md tA nP):=by
 intro wh pins s σ H Q I h;refine isTrue_and (X8 (ha pins s σ H _ I h) fun c s1 ⟨H1,I1,q1⟩=>?_);cases c with
 |true=>exact O wh pins s1 σ H1 Q I1 q1
 |false=>exact ⟨H1,I1,q1⟩
theorem UX(ha:PT X a tA)(O:PW X (.BoolOp .Or (b::rest) pos) nP):PW X (.BoolOp .Or (a::b::rest) pos) (fJ tA nP):=by
 intro wh pins s σ H Q I h;refine isTrue_or (X8 (ha pins s σ H _ I h) fun c s1 ⟨H1,I1,q1⟩=>?_);cases c with
 |true=>exact ⟨H1,I1,q1⟩
 |false=>exact O wh pins s1 σ H1 Q I1 q1
theorem RD(ha:PT X a tA):PT X (.UnaryOp .Not a pos) (ma tA):=by
 intro pins s σ H Q I h;exact isTrue_not (ha pins s σ H (fun c H1=>Q (!c) H1) I h)
def qp(ta tb:TE):TE:=fun σ H Q=>ta σ H fun x H1=>∃c,x=.bl c/\if c=true then tb σ H1 Q else Q (.bl false) H1
theorem tV{op}{t:TE}(h:PE X a t):PE X (.BoolOp op [a] pos) t:=fun pins s σ H Q I hw=>BoolOp_one (h pins s σ H Q I hw)
theorem tU(ha:PE X a ta)(O:PE X (.BoolOp .And (b::rest) pos) tb):PE X (.BoolOp .And (a::b::rest) pos) (qp ta tb):=by
 intro pins s σ H Q I h;refine BoolOp_and (X8 (ha pins s σ H _ I h) fun v s1 ⟨x,H1,I1,r1,q1⟩=>?_);obtain⟨c,rfl,q1⟩:=q1;cases r1;refine Ws ?_;cases c with
 |true=>exact O pins s1 σ H1 Q I1 q1
 |false=>exact ⟨.bl false,H1,I1,Y,q1⟩
def fI(t:TT)(ta tb:TE):TE:=fun σ H Q=>t σ H fun c H1=>if c=true then ta σ H1 Q else tb σ H1 Q
theorem L7{c:Expr}(hc:PT X c tA)(ha:PE X a ta)(O:PE X b tb):PE X (.IfExp c a b pos) (fI tA ta tb):=by
 intro pins s σ H Q I h;refine wpAny_IfExp (X8 (hc pins s σ H _ I h) fun d s1 ⟨H1,I1,q1⟩=>?_);cases d with
 |true=>exact ha pins s1 σ H1 Q I1 q1
 |false=>exact O pins s1 σ H1 Q I1 q1
end
def Zw(K:W.Frag)(H:Hp)(a:Addr)(xs:List V):Prop:=
 Rd H a (.lst xs)\/
  ∃(o:Obj) (Y5:Array Value) (n:Nat),K.lookup a=some o/\o.cls=.type "list"/\o.dict=none/\o.data=.seq Y5 n/\Y5.size<=sizeLine/\Vals xs Y5.toList
def U4(K:W.Frag)(H:Hp)(a:Addr)(xs:List V):Prop:=
 Rd H a (.tup xs)\/
  ∃(o:Obj) (Y5:Array Value) (n:Nat),K.lookup a=some o/\o.cls=.type "tuple"/\o.data=.seq Y5 n/\Y5.size<=sizeLine/\Vals xs Y5.toList
noncomputable def l':Value->Option V
 |.none=>some .Xf
 |.bool b=>some (.bl b)
 |.int i _=>some (.int i)
 |.str x _=>some (.str x)
 |.bytes b _=>some (.EX b)
 |.float b _=>some (.nU b)
 |.ref a=>some (.ref a)
 |.type n=>some (.ty n)
 |_=>none
theorem RelV.abs{x:V}{u:Value}(r:RelV x u):l' u=some x:=by
 cases x with
 |Xf=>cases r;rfl
 |bl _=>cases r;rfl
 |int _=>obtain ⟨t,rfl⟩:=r;rfl
 |str _=>obtain ⟨t,rfl⟩:=r;rfl
 |EX _=>obtain ⟨t,rfl⟩:=r;rfl
 |nU _=>obtain ⟨t,rfl⟩:=r;rfl
 |ref _=>cases r;rfl
 |ty _=>cases r;rfl
theorem RelV.inj{x y:V}{u:Value}(r:RelV x u)(q:RelV y u):x=y:=Y8 (r.abs.symm.trans q.abs)
theorem Vals.inj:∀{xs ys:List V}{us:List Value},Vals xs us->Vals ys us->xs=ys
 |_,_,_,.nil,.nil=>rfl
 |_,_,_,.cons r t,.cons r' t'=>by rw[r.inj r',Vals.inj t t']
section
variable{X:Cx}{pins:List (Addr×Obj)}{σ:St}{H:Hp}{s:Shared}{a:Addr}{xs ys:List V}
theorem Zw.of{K:W.Frag}(h:H a=some (.lst xs)):Zw K H a xs:=.inl (.inl h)
theorem U4.of{K:W.Frag}(h:H a=some (.tup xs)):U4 K H a xs:=.inl (.inl h)
theorem Inv.list(I:Inv X pins σ H s)(h:Zw X.K H a xs):∃Y5:List Value,Vals xs Y5/\PlainL s.heap a Y5.toArray/\xs.length<=sizeLine:=by
 rcases h with h|⟨o,Y5,n,hk,hc,hd,hs,hz,r⟩
 ·obtain⟨z,Y5,n,r,e⟩:=h.ok I.X3;exact⟨Y5,r,⟨_,n,e,Y,Y,Y⟩,z⟩
 ·refine⟨Y5.toList,r,⟨o,n,I.EW a o hk,hc,hd,by simpa using hs⟩,?_⟩;have e:=r.length;simp only[SI]at e;omega
theorem Inv.tuple(I:Inv X pins σ H s)(h:U4 X.K H a xs):∃Y5:List Value,Vals xs Y5/\IsTup s.heap a Y5.toArray/\xs.length<=sizeLine:=by
 rcases h with h|⟨o,Y5,n,hk,hc,hs,hz,r⟩
 ·obtain⟨z,Y5,r,p⟩:=h.ok I.X3;exact⟨Y5,r,p,z⟩
 ·refine⟨Y5.toList,r,⟨o,I.EW a o hk,hc,n,by simpa using hs⟩,?_⟩;have e:=r.length;simp only[SI]at e;omega
theorem Inv.Pf(I:Inv X pins σ H s)(h:Zw X.K H a xs)(h':Zw X.K H a ys):xs=ys:=by
 obtain⟨Y5,r,⟨o,n,e,_,_,d⟩,_⟩:=I.list h;obtain⟨its',r',⟨o',n',e',_,_,d'⟩,_⟩:=I.list h';rw[e]at e';cases e';rw[d]at d';injection d' with d1 _
 have:Y5=its':=by simpa using congrArg Array.toList d1
 subst this;exact r.inj r'
end
abbrev Cx.Kp(X:Cx)(E:Value->Shared->Prop):Cx:={X with xe:=E}
abbrev Cx.nO(X:Cx):Cx:=X.Kp fun _ _=>False
theorem Cx.Ok.Kp{X:Cx}(ok:X.Ok)(E:Value->Shared->Prop):(X.Kp E).Ok:=
 ⟨ok.mod,ok.kind,ok.glob,ok.blt,ok.above,ok.inj,ok.has,ok.qx,ok.hd,ok.frames,ok.nS,ok.nR,ok.bs,ok.xO,ok.AH,ok.AG,ok.MH,ok.tY,ok.tree,ok.top⟩
theorem Cx.Ok.RC{X:Cx}{E:Value->Shared->Prop}(ok:(X.Kp E).Ok):X.Ok:=
 ⟨ok.mod,ok.kind,ok.glob,ok.blt,ok.above,ok.inj,ok.has,ok.qx,ok.hd,ok.frames,ok.nS,ok.nR,ok.bs,ok.xO,ok.AH,ok.AG,ok.MH,ok.tY,ok.tree,ok.top⟩
section
variable{X:Cx}{pins:List (Addr×Obj)}{σ:St}{H:Hp}{s:Shared}{E:Value->Shared->Prop}
theorem Inv.Kp(I:Inv X pins σ H s)(E:Value->Shared->Prop):Inv (X.Kp E) pins σ H s:=⟨I.ok.Kp E,I.os,I.bare,I.base,I.loc,I.cell,I.free,I.RE,I.pin,I.X3,I.len⟩
theorem Inv.RC(I:Inv (X.Kp E) pins σ H s):Inv X pins σ H s:=⟨I.ok.RC,I.os,I.bare,I.base,I.loc,I.cell,I.free,I.RE,I.pin,I.X3,I.len⟩
theorem SP.RC{D:Ends}{f:Flow}{s':Shared}(h:SP (X.Kp E) pins D f s'):SP X pins D f s':=by
 cases f with
 |next=>obtain ⟨XC,H',I,q⟩:=h;exact⟨XC,H',I.RC,q⟩
 |brk=>obtain ⟨XC,H',I,q⟩:=h;exact⟨XC,H',I.RC,q⟩
 |cont=>obtain ⟨XC,H',I,q⟩:=h;exact⟨XC,H',I.RC,q⟩
 |ret u=>obtain ⟨v,XC,H',I,r,q⟩:=h;exact⟨v,XC,H',I.RC,r,q⟩
theorem B1.nO{st:List Stmt}{t:TS}(h:B1 X.nO st t):B1 X st t:=fun pins s σ H D I hw=>
 X2 (h pins s σ H D (I.Kp _) hw) (fun _ _ q=>q.RC) fun _ _ z=>False.elim z
end
section
variable{X:Cx}{st:Stmt}{rest:List Stmt}{t u:TS}{e:Expr}{te:TE}{pos:Pos}
def qo:TS:=fun D σ H=>D.nx σ H
def l_(t u:TS):TS:=fun D σ H=>t {D with nx:=u D} σ H
theorem Zs:B1 X [] qo:=fun _ _ σ H _ I h=>wpAny_execs_nil ⟨σ,H,I,h⟩
theorem Z5(J:PS X st t)(h2:B1 X rest u):B1 X (st::rest) (l_ t u):=by
 intro pins s σ H D I h;refine wpAny_execs_cons (X8 (J pins s σ H {D with nx:=u D} I h) fun f s1 q=>?_);cases f with
 |next=>
  obtain⟨XC,H',I',q⟩:=q;exact h2 pins s1 XC H' D I' q
 |ret v=>exact q
 |brk=>exact q
 |cont=>exact q
theorem Z0(J:PS X st t):B1 X [st] t:=by
 intro pins s σ H D I h;refine wpAny_execs_cons (X8 (J pins s σ H D I h) fun f s1 q=>?_);cases f with
 |next=>exact wpAny_execs_nil q
 |ret v=>exact q
 |brk=>exact q
 |cont=>exact q
def qm:TS:=fun D σ H=>D.ct σ H
theorem V3:PS X (.Continue pos) qm:=fun _ _ σ H _ I h=>wpAny_Continue ⟨σ,H,I,h⟩
theorem Inv.quiet{pins:List (Addr×Obj)}{σ:St}{H:Hp}{s:Shared}(I:Inv X pins σ H s):interactive X.env=false:=by simp[interactive,I.ok.kind]
def qk(te:TE):TS:=fun D σ H=>te σ H fun _ H1=>D.nx σ H1
theorem Xe(he:PE X e te)(hs:swapsWith e none pos.line X.env=pure false:=by rfl):PS X (.Expr e pos) (qk te):=by
 intro pins s σ H D I h;exact wpAny_Expr_any (X8 (he pins s σ H _ I h) fun v s1 ⟨x,H1,I1,r1,q1⟩=>⟨σ,H1,I1,q1⟩) I.quiet hs
def l8(te:TE):TS:=fun D σ H=>te σ H D.rt
theorem ZN(he:PE X e te):PS X (.Return (some e) pos) (l8 te):=by
 intro pins s σ H D I h;exact wpAny_Return_some (X8 (he pins s σ H _ I h) fun v s1 ⟨x,H1,I1,r1,q1⟩=>⟨x,σ,H1,I1,r1,q1⟩)
def l7(c:TT)(t u:TS):TS:=fun D σ H=>c σ H fun b H1=>if b=true then t D σ H1 else u D σ H1
theorem YT{c:Expr}{a b:List Stmt}{tc:TT}(hc:PT X c tc)(ha:B1 X a t)(O:B1 X b u):PS X (.If c a b pos) (l7 tc t u):=by
 intro pins s σ H D I h;refine wpAny_If (X8 (hc pins s σ H _ I h) fun d s1 ⟨H1,I1,q1⟩=>?_);cases d with
 |true=>exact ha pins s1 σ H1 D I1 q1
 |false=>exact O pins s1 σ H1 D I1 q1
end
abbrev TG:=V->St->Hp->(St->Hp->Prop)->Prop
abbrev tS:=List V->St->Hp->(St->Hp->Prop)->Prop
def PG(X:Cx)(target:Expr)(t:TG):Prop:=
 ∀(pins:List (Addr×Obj))(s:Shared)(σ:St)(H:Hp)(v:V)(u:Value)(Q:St->Hp->Prop),Inv X pins σ H s->RelV v u->t v σ H Q->
  wpAny (model X.prog X.w) X.A (assign target X.env u) (fun _ s'=>∃XC H',Inv X pins XC H' s'/\Q XC H') X.xe s
def nN(X:Cx)(ts:List Expr)(t:tS):Prop:=
 ∀(pins:List (Addr×Obj))(s:Shared)(σ:St)(H:Hp)(vs:List V)(us:List Value)(Q:St->Hp->Prop),Inv X pins σ H s->Vals vs us->t vs σ H Q->
  wpAny (model X.prog X.w) X.A (assignInOrder ((assignEach ts X.env).map (·.2)) us) (fun _ s'=>∃XC H',Inv X pins XC H' s'/\Q XC H') X.xe s
abbrev AF:=V->V->V->Hp->(Hp->Prop)->Prop
def tR(X:Cx)(t:AF):Prop:=
 ∀(pins:List (Addr×Obj))(s:Shared)(σ:St)(H:Hp)(o i v:V)(ov iv u:Value)(Q:Hp->Prop),Inv X pins σ H s->RelV o ov->RelV i iv->RelV v u->t o i v H Q->
  wpAny (model X.prog X.w) X.A (setItem ov iv u) (fun _ s'=>∃H',Inv X pins σ H' s'/\Q H') X.xe s
abbrev qU:=V->V->Hp->VK->Prop
def nM(X:Cx)(op:Operator)(t:qU):Prop:=
 ∀(pins:List (Addr×Obj))(s:Shared)(σ:St)(H:Hp)(x y:V)(v u:Value)(Q:VK),Inv X pins σ H s->RelV x v->RelV y u->t x y H Q->
  wpAny (model X.prog X.w) X.A (inplaceOp op v u) (EP X pins σ Q) X.xe s
section
variable{X:Cx}{pos:Pos}
def JT(i:Nat):TG:=fun v σ H Q=>Q (σ.set i (some v)) H
theorem Zz{i:Nat}{x:Str}(hN:X.N.Nodup)(hi:X.N[i]?=some x)(hx:Loc X.env.scope x)(hf:X.fn x=true\/X.env.scope.names.lookup x=some .local:=by first|exact .inl rfl|exact .inr rfl|assumption):PG X (.Name x pos) (JT i):=by
 intro pins s σ H v u Q I r h;exact wpAny_assign_Name (L8 I hN hi hx r (fun s' I'=>⟨_,H,I',h⟩) hf)
def qh:tS:=fun vs σ H Q=>vs=[]/\Q σ H
def AE(t:TG)(u:tS):tS:=fun vs σ H Q=>∃v r,vs=v::r/\t v σ H fun XC H'=>u r XC H' Q
theorem WH:nN X [] qh:=by
 intro pins s σ H vs us Q I r h;obtain⟨e,h⟩:=h;subst e;cases r;exact assignInOrder_nil ⟨σ,H,I,h⟩
theorem YU{e:Expr}{es:List Expr}{t:TG}{u:tS}(J:PG X e t)(h2:nN X es u)(hs:(assignEach (e::es) X.env).map (·.2)=assign e X.env::(assignEach es X.env).map (·.2):=by rfl):nN X (e::es) (AE t u):=by
 intro pins s σ H vs us Q I r h;obtain⟨v,vr,e1,h⟩:=h;subst e1;cases r with
 |cons r rr=>
  rw[hs];refine assignInOrder_cons (X8 (J pins s σ H _ _ _ I r h) fun _ s1 ⟨qT,H1,I1,q1⟩=>?_);exact h2 pins s1 qT H1 _ _ Q I1 rr q1
def qg(K:W.Frag)(n:Nat)(t:tS):TG:=fun v σ H Q=>∃a xs,v=.ref a/\U4 K H a xs/\xs.length=n/\t xs σ H Q
theorem VQ{es:List Expr}{k:Nat}{t:tS}{n:Nat}(hc:X.calm=true)(h:nN X es t)(hn:(assignEach es X.env).length=n:=by rfl)(AD:(assignEach es X.env).findIdx? (·.1)=none:=by rfl):PG X (.Tuple es k pos) (qg X.K n t):=by
 intro pins s σ H v u Q I r hw;obtain⟨a,xs,e1,hq,hl,hw⟩:=hw;subst e1;cases r;obtain⟨Y5,rv,ht,hz⟩:=I.tuple hq;refine assign_Tuple_tuple (I.ok.hd hc) ht (by simp[hn,<-hl,rv.length]) AD fun h' hx=>?_;have I1:Inv X pins σ H {s with heap:=h'}:=I.kept (t':=s.toks) fun b o e=>hx b o (Y7 (Zo e)) e;exact h pins _ σ H xs _ Q I1 (by simpa using rv) hw
def l6(to ti:TE)(t:AF):TG:=fun v σ H Q=>to σ H fun o H1=>ti σ H1 fun i H2=>t o i v H2 fun H3=>Q σ H3
theorem P6{o i:Expr}{to ti:TE}{t:AF}(ho:PE X o to)(hi:PE X i ti)(hs:tR X t)
 (ha:∀v,assign (.Subscript o i pos) X.env v=(do
  let ov<-holding [v] (eval o X.env)
  let iv<-holding [v,ov] (eval i X.env)
  standAt pos
  holding [v,ov,iv] (setItem ov iv v)
  release [v,ov,iv] []):=by intro _;rfl):PG X (.Subscript o i pos) (l6 to ti t):=by
 intro pins s σ H v u Q I r h;rw[ha];refine ZU (Vz (X8 (ho pins s σ H _ I h) fun ov s1 ⟨x,H1,I1,r1,q1⟩=>?_));refine ZU (Vz (X8 (hi pins s1 σ H1 _ I1 q1) fun iv s2 ⟨y,H2,I2,r2,q2⟩=>?_));refine ZU (wpAny_standAt (ZU (Vz (X8 (hs pins s2 σ H2 x y v ov iv u _ I2 r1 r2 r q2) fun _ s3 ⟨H3,I3,q3⟩=>?_))));exact wpAny_release ⟨σ,H3,I3,q3⟩
def tQ(te:TE)(g:TG):TS:=fun D σ H=>te σ H fun x H1=>g x σ H1 D.nx
theorem P5{tg e:Expr}{te:TE}{g:TG}(he:PE X e te)(hg:PG X tg g)(hs:swapsWithSole [tg] e pos.line X.env=pure false:=by rfl)(hw:swappedStores [tg] e X.env=pure none:=by rfl)(J:(assignEach [tg] X.env).map (·.2)=[assign tg X.env]:=by rfl):PS X (.Assign [tg] e pos) (tQ te g):=by
 intro pins s σ H D I h;refine wpAny_Assign_stores (X8 (he pins s σ H _ I h) fun v s1 ⟨x,H1,I1,r1,q1⟩=>?_) hs hw;rw[J];exact X8 (hg pins s1 σ H1 x v _ I1 r1 q1) fun _ s2 q=>q
theorem ZS{i:Nat}{x:Str}{e:Expr}{te:TE}{pos':Pos}(hN:X.N.Nodup)(hi:X.N[i]?=some x)(hx:Loc X.env.scope x)(he:PE X e te)(hs:swapsWith e (some (.Name x pos')) pos.line X.env=pure false:=by rfl)(hf:X.fn x=true\/X.env.scope.names.lookup x=some .local:=by first|exact .inl rfl|exact .inr rfl|assumption):PS X (.Assign [.Name x pos'] e pos) (tQ te (JT i)):=by
 intro pins s σ H D I h;refine wpAny_Assign_Name (X8 (he pins s σ H _ I h) fun v s1 ⟨y,H1,I1,r1,q1⟩=>?_) hs;exact L8 I1 hN hi hx r1 (fun s2 I2=>⟨_,H1,I2,q1⟩) hf
def l5(i:Nat)(te:TE)(ti:qU):TS:=fun D σ H=>∃x,σ[i]?=some (some x)/\te σ H fun y H1=>ti x y H1 fun z H2=>D.nx (σ.set i (some z)) H2
theorem tP{i:Nat}{x:Str}{e:Expr}{te:TE}{op:Operator}{ti:qU}{pos':Pos}(hN:X.N.Nodup)(hi:X.N[i]?=some x)(hx:Loc X.env.scope x)(he:PE X e te)(ho:nM X op ti)(hf:X.fn x=true\/X.env.scope.names.lookup x=some .local:=by first|exact .inl rfl|exact .inr rfl|assumption):PS X (.AugAssign (.Name x pos') op e pos) (l5 i te ti):=by
 intro pins s σ H D I h;obtain⟨v,e1,h⟩:=h;obtain⟨m,hn,hl⟩:=I.loc;have fH:qV X.env.scope x:=by rcases hx with k|k;exact .inl k;exact .inr (.inl k)
 obtain⟨u,r,l⟩:=hl i x v hi e1 fH;refine wpAny_AugAssign_Name ?_;have go:wpAny (model X.prog X.w) X.A (eval e X.env) (fun w P8=>wpAny (model X.prog X.w) X.A (inplaceOp op u w) (fun r G1=>wpAny (model X.prog X.w) X.A (storeName X.env x r) (fun _=>SP X pins D .next) X.xe G1) X.xe P8) X.xe s:=by
  refine X8 (he pins s σ H _ I h) fun w s1 ⟨y,H1,I1,r1,q1⟩=>?_;refine X8 (ho pins s1 σ H1 v y u w _ I1 r r1 q1) fun z s2 ⟨zv,H2,I2,r2,q2⟩=>?_;exact L8 I2 hN hi hx r2 (fun s3 I3=>⟨_,H2,I3,q2⟩) hf
 rcases l with⟨hk,hm⟩|⟨hk,c,hc,Dg⟩;·exact wpAny_loadName_local I.ok.kind hk hn hm go
 ·rcases hk with hk|hk;·exact wpAny_loadName_cell I.ok.kind hk hc Dg go
  ·rcases hx with k|k
   ·have:X.env.scope.names.lookup x=some .free:=hk;rw[k]at this;cases this
   ·have:X.env.scope.names.lookup x=some .free:=hk;rw[k]at this;cases this
def qf(to ti te:TE)(xt:V->V->Hp->VK->Prop)(nL:qU)(xr:AF):TS:=fun D σ H=>to σ H fun o H1=>ti σ H1 fun i H2=>xt o i H2 fun x H3=>te σ H3 fun y H4=>nL x y H4 fun z H5=>xr o i z H5 fun H6=>D.nx σ H6
def qe(X:Cx)(t:V->V->Hp->VK->Prop):Prop:=
 ∀(pins:List (Addr×Obj))(s:Shared)(σ:St)(H:Hp)(o i:V)(ov iv:Value)(Q:VK),Inv X pins σ H s->RelV o ov->RelV i iv->t o i H Q->
  wpAny (model X.prog X.w) X.A (getItem ov iv) (EP X pins σ Q) X.xe s
theorem SG{o i e:Expr}{to ti te:TE}{xt:V->V->Hp->VK->Prop}{nL:qU}{xr:AF}{op:Operator}{L6:Pos}(ho:PE X o to)(hi:PE X i ti)(hg:qe X xt)(he:PE X e te)(hp:nM X op nL)(hs:tR X xr)
 (ha:∀ov iv new,augStore i ov iv new=(do holding [new,ov,iv] (setItem ov iv new);release [new,ov,iv] [];pure .next):=by intros;rfl):PS X (.AugAssign (.Subscript o i L6) op e pos) (qf to ti te xt nL xr):=by
 intro pins s σ H D I h;refine wpAny_AugAssign_SubscriptAny (X8 (ho pins s σ H _ I h) fun ov s1 ⟨x1,H1,I1,r1,q1⟩=>?_) ha;refine X8 (hi pins s1 σ H1 _ I1 q1) fun iv s2 ⟨x2,H2,I2,r2,q2⟩=>?_;refine X8 (hg pins s2 σ H2 x1 x2 ov iv _ I2 r1 r2 q2) fun old s3 ⟨x3,H3,I3,r3,q3⟩=>?_;refine X8 (he pins s3 σ H3 _ I3 q3) fun v s4 ⟨x4,H4,I4,r4,q4⟩=>?_;refine X8 (hp pins s4 σ H4 x3 x4 old v _ I4 r3 r4 q4) fun new s5 ⟨x5,H5,I5,r5,q5⟩=>?_;exact X8 (hs pins s5 σ H5 x1 x2 x5 ov iv new _ I5 r1 r2 r5 q5) fun _ s6 ⟨H6,I6,q6⟩=>⟨σ,H6,I6,q6⟩
def iM(f:Int->Int->Int):qU:=fun x y H Q=>∃i j,x=.int i/\y=.int j/\Q (.int (f i j)) H
theorem L5:nM X .Add (iM fun i j=>i+j):=by
 intro pins s σ H x y v u Q I r1 r2 h;obtain⟨i,j,e1,e2,q⟩:=h;subst e1;subst e2;obtain⟨t,rfl⟩:=r1;obtain⟨t',rfl⟩:=r2;exact iadd_int ⟨.int _,H,I.tok _,⟨_,Y⟩,q⟩
theorem EN:nM X .Sub (iM fun i j=>i-j):=by
 intro pins s σ H x y v u Q I r1 r2 h;obtain⟨i,j,e1,e2,q⟩:=h;subst e1;subst e2;obtain⟨t,rfl⟩:=r1;obtain⟨t',rfl⟩:=r2;exact isub_int ⟨.int _,H,I.tok _,⟨_,Y⟩,q⟩
def tO(c:TT)(tb:TS):TS:=fun D σ H=>∃W:Nat->St->Hp->Prop,(∃m,W m σ H)/\∀m σ H,W m σ H->
 c σ H fun b H1=>if b=true then∃N:St->Hp->Prop,(∀XC H',N XC H'->∃m',m'<m/\W m' XC H')/\tb {D with nx:=N,ct:=N,bk:=D.nx} σ H1 else D.nx σ H1
theorem Vb{c:Expr}{body:List Stmt}{tc:TT}{tb:TS}(hp:PassesOwn (model X.prog X.w) X.A X.env X.xe)(hc:PT X c tc)(O:B1 X body tb):PS X (.While c body [] pos) (tO tc tb):=by
 intro pins s σ H D I h;obtain⟨W,⟨m0,w0⟩,turn⟩:=h;refine wpAny_While (codeAny_whileLoop (fun n s'=>∃XC H',Inv X pins XC H' s'/\W n XC H') ?_ m0 ⟨σ,H,I,w0⟩);rintro n s1 ⟨qT,H1,I1,w1⟩;refine Vy hp (X8 (hc pins s1 qT H1 _ I1 (turn n qT H1 w1)) fun b s2 ⟨H2,I2,q2⟩=>?_);cases b with
 |true=>
  obtain⟨N,hN,q2⟩:=q2;rw[Z7 rfl];refine Vy hp (X8 (O pins s2 qT H2 _ I2 q2) fun f s3 q3=>?_);cases f with
  |next=>
   obtain⟨AB,H3,I3,n3⟩:=q3;obtain⟨m',hm,w3⟩:=hN AB H3 n3;exact⟨m',hm,AB,H3,I3,w3⟩
  |cont=>
   obtain⟨AB,H3,I3,n3⟩:=q3;obtain⟨m',hm,w3⟩:=hN AB H3 n3;exact⟨m',hm,AB,H3,I3,w3⟩
  |brk=>exact q3
  |ret v=>exact q3
 |false=>
  rw[Z8 Yr];exact wpAny_execs_nil ⟨qT,H2,I2,q2⟩
end
structure It where
 go:Nat->Hp->Prop
 G0:Nat->Hp->V->Hp->Prop
 stop:Nat->Hp->Prop
def MG(X:Cx)(pins:List (Addr×Obj))(H:Hp)(b:Addr):Prop:=
 H b=none/\b≠X.env.locals/\b∉X.fs/\(b∈X.ex\/X.JX.heap.objs.size<=b)/\(∀x c,X.env.cells.lookup x=some c->c≠b)/\∀p∈X.pn++pins,p.1≠b
theorem Inv.AA{X:Cx}{pins:List (Addr×Obj)}{σ:St}{H H':Hp}{s:Shared}{b:Addr}(I:Inv X pins σ H s)(O:s.heap.objs.size<=b)(hn:H' b=none):MG X pins H' b:=by
 refine⟨hn,Nat.ne_of_gt (Zl I.lt O),I.mr O,.inr (ZA I.sz O),fun x c e z=>?_,fun p hp z=>?_⟩
 ·obtain⟨v,q⟩:=I.cell x c e;exact absurd (Zl q.lt (by rw[z];exact O)) (We _)
 ·exact absurd (Zl (Zo (I.pin p hp).1) (by rw[z];exact O)) (We _)
structure Turn(P:Program)(w:World)(K:W.Frag)(tg:Expr)(Z_:It)(fp:List Addr)(it:Addr)(tn:Nat->Heap->Prop):Prop where
 mem:it∈fp
 obj:∀i h,tn i h->∀b∈fp,∃o,h.get? b=some o/\∀v,o.data≠.cell v
 keep:∀i h h',tn i h->(∀b∈fp,∀o,h.get? b=some o->h'.get? b=some o)->tn i h'
 item:∀(X:Cx),X.prog=P->X.w=w->X.K=K->X.calm=true->∀(i:Nat)(pins:List (Addr×Obj))(s:Shared)(σ:St)(H:Hp)(E:Value->Shared->Prop),Inv X pins σ H s->(∀b∈fp,MG X pins H b)->tn i s.heap->Z_.go i H->
  wpAny (model P w) X.A (pyNext (.ref it)) (fun r s1=>∃u,r=some u/\
   wpAny (model P w) X.A (letOwnedTupleGo tg (.ref it) u) (fun _ s2=>∃x H',Inv X pins σ H' s2/\RelV x u/\Z_.G0 i H x H'/\tn (i+1) s2.heap/\∀b∈fp,H' b=none) E s1) E s
 done:∀(X:Cx),X.prog=P->X.w=w->X.K=K->X.calm=true->∀(i:Nat)(pins:List (Addr×Obj))(s:Shared)(σ:St)(H:Hp)(E:Value->Shared->Prop),Inv X pins σ H s->(∀b∈fp,MG X pins H b)->tn i s.heap->Z_.stop i H->
  wpAny (model P w) X.A (pyNext (.ref it)) (fun r s1=>r=none/\Inv X pins σ H s1) E s
 self:∀(A:Around)(i:Nat)(s:Shared)(Q:Value->Shared->Prop)(E:Value->Shared->Prop),tn i s.heap->Q (.ref it) s->wpAny (model P w) A (pyIter (.ref it)) Q E s
abbrev TI:=St->Hp->(It->Hp->Prop)->Prop
def iL(X:Cx)(pins:List (Addr×Obj))(σ:St)(tg:Expr)(R:It->Hp->Prop)(lZ:Value)(s2:Shared):Prop:=
 ∃(it:Addr) (fp:List Addr) (tn:Nat->Heap->Prop) (Z_:It) (H':Hp),lZ=.ref it/\Inv X pins σ H' s2/\Turn X.prog X.w X.K tg Z_ fp it tn/\tn 0 s2.heap/\(∀b∈fp,MG X pins H' b)/\R Z_ H'
def PI(X:Cx)(tg iter:Expr)(wi:TI):Prop:=
 ∀(pins:List (Addr×Obj))(s:Shared)(σ:St)(H:Hp)(R:It->Hp->Prop),Inv X pins σ H s->wi σ H R->
  wpAny (model X.prog X.w) X.A (eval iter X.env) (fun v s1=>wpAny (model X.prog X.w) X.A (pyIter v) (iL X pins σ tg R) X.xe s1) X.xe s
theorem uW {M : Model} {A : Around} {E : Value -> Shared -> Prop} {s : Shared} {tg : Expr} {it : Addr} {u : Value} {o : Obj} {n : String} {vs : Array Value} {Q : Unit -> Shared -> Prop} (ho : s.heap.get? it = some o) (hc : o.cls = .type n) (hd : o.data = .fields vs)
    (hn : ["enumerate", "zip", "dict_itemiterator", "dict_reverseitemiterator", "odict_iterator", "itertools.zip_longest", "itertools.pairwise"].contains n = false) (hQ : Q () s) : wpAny M A (letOwnedTupleGo tg (.ref it) u) Q E s := by
  unfold letOwnedTupleGo
  cases tg <;> first
    | exact Zq hQ
    | (cases u <;> first
        | exact Zq hQ
        | (refine ZU (wpAny_load ho ?_)
           rw [hc, hd]
           show wpAny M A (if (["enumerate", "zip", "dict_itemiterator", "dict_reverseitemiterator", "odict_iterator", "itertools.zip_longest", "itertools.pairwise"].contains n && vs[0]? == some (rawInt _)) = true then _ else _) Q E s
           rw [Z8 (by intro h; rw [hn, Bool.false_and] at h; cases h)]
           exact Zq hQ))
def uV(K:W.Frag)(a:Addr):It:=
 ⟨fun i H=>∃xs x,Zw K H a xs/\xs[i]?=some x,fun i H x H'=>H'=H/\∀xs,Zw K H a xs->xs[i]?=some x,fun i H=>∃xs,Zw K H a xs/\xs.length<=i⟩
def EM(lo:Int)(n:Nat):It:=⟨fun i _=>i<n,fun i H x H'=>H'=H/\x=.int (lo+i),fun i _=>n<=i⟩
theorem B0{P:Program}{w:World}{K:W.Frag}{tg:Expr}(a it:Addr):Turn P w K tg (uV K a) [it] it (fun i h=>h.IsListIter it a i)where
 mem:=by simp
 obj:=fun i h st b O=>by
  have e:b=it:=by simpa using O
  subst e;obtain⟨o,e,c,d⟩:=st;exact⟨o,e,fun v z=>by rw[d]at z;cases z⟩
 keep:=fun i h h' st k=>st.at fun o e=>k it (by simp) o e
 item:=by
  intro X hP hw hK hc i pins s σ H E I hf st hg;subst hP hw hK;obtain⟨xs,x,hq,hx⟩:=hg;obtain⟨Y5,rv,p,hz⟩:=I.list hq;obtain⟨u,hu,ru⟩:=rv.get hx;obtain⟨f0,f1,f2,f3,f4,f5⟩:=hf it (by simp);refine wpAny_pyNext_list_item st p.isList (x:=u) (by simpa using hu) fun h' AR sb=>?_;have I1:Inv X pins σ H {s with heap:=h'}:=I.turned (t':=s.toks) (fun b o O e=>(sb.2 b O).trans e) f0 f1 f3 f4 f5;obtain⟨o,e,c,d⟩:=id AR;exact⟨u,Y,uW (s:={s with heap:=h'}) e c d (by decide) ⟨x,H,I1,ru,⟨Y,fun ys hy=>by rw[I.Pf hy hq];exact hx⟩,AR,fun b O=>(hf b O).1⟩⟩
 done:=by
  intro X hP hw hK hc i pins s σ H E I hf st hg;subst hP hw hK;obtain⟨xs,hq,hx⟩:=hg;obtain⟨Y5,rv,p,hz⟩:=I.list hq;obtain⟨f0,f1,f2,f3,f4,f5⟩:=hf it (by simp);have hl:=rv.length;exact wpAny_pyNext_list_end (I.ok.hd hc) st p.isList (by simp;omega) fun h' eb=>⟨Y,I.turned (t':=s.toks) (fun b o O e=>eb b o O e) f0 f1 f3 f4 f5⟩
 self:=fun _ _ _ _ _ st h=>wpAny_pyIter_listiter st h
theorem EL{P:Program}{w:World}{K:PySem.W.Frag}{tg:Expr}(it:Addr)(lo:Int)(n:Nat):Turn P w K tg (EM lo n) [it] it (fun i h=>IsRangeIter h it (lo+(i:Nat)*1) ((n:Int)-(i:Nat)) 1)where
 mem:=by simp
 obj:=fun i h st b O=>by
  have e:b=it:=by simpa using O
  subst e;exact⟨_,st,fun v z=>by
   have z':Data.fields _=Data.cell v:=z;cases z'⟩
 keep:=fun i h h' st k=>k it (by simp) _ st
 item:=by
  intro X hP hw hK hc i pins s σ H E I hf st hg;subst hP hw hK;obtain⟨f0,f1,f2,f3,f4,f5⟩:=hf it (by simp);have W:=Walks.range (prog:=X.prog) (w:=X.w) (I.ok.hd hc) it lo 1 n;refine W.item i s _ _ hg st fun v h' tk hv AR kk=>?_;obtain⟨t,rfl⟩:=hv;have I1:Inv X pins σ H {s with heap:=h',toks:=tk}:=I.turned (fun b o O e=>kk b o (by simpa using O) e) f0 f1 f3 f4 f5;refine Z1 Y (uW (s:={s with heap:=h',toks:=tk}) (n:="range_iterator") AR Y rfl (by decide) ⟨.int (lo+i),H,I1,⟨t,?_⟩,⟨Y,Y⟩,AR,fun b O=>(hf b O).1⟩);rw[Int.mul_one]
 done:=by
  intro X hP hw hK hc i pins s σ H E I hf st hg;subst hP hw hK;obtain⟨f0,f1,f2,f3,f4,f5⟩:=hf it (by simp);exact wpAny_pyNext_range_end (I.ok.hd hc) st (by have:n<=i:=hg;omega) fun h' eb=>⟨Y,I.turned (t':=s.toks) (fun b o O e=>eb b o O e) f0 f1 f3 f4 f5⟩
 self:=fun _ _ _ _ _ st h=>wpAny_pyIter_rangeiter st h
section
variable{X:Cx}{tg:Expr}
def qd(K:W.Frag)(tl:TE):TI:=fun σ H R=>tl σ H fun x H1=>∃a,x=.ref a/\(∃xs,Zw K H1 a xs)/\R (uV K a) H1
theorem Yq{l:Expr}{tl:TE}(hl:PE X l tl):PI X tg l (qd X.K tl):=by
 intro pins s σ H R I h;refine X8 (hl pins s σ H _ I h) fun v s1 ⟨x,H1,I1,r1,q1⟩=>?_;obtain⟨a,e,⟨xs,hq⟩,q⟩:=q1;subst e;cases r1;obtain⟨Y5,rv,p,hz⟩:=I1.list hq;refine wpAny_pyIter_list p.isList ?_;refine⟨s1.heap.objs.size,[s1.heap.objs.size],Yd ⟨H1,Y,I1.kept (t':=s1.toks) fun b o e=>Yw _ e,B0 a _,⟨_,Xa _ rfl,Y,Y⟩,fun b O=>?_,q⟩⟩;have e:b=s1.heap.objs.size:=by simpa using O
 subst e;exact I1.AA (ZK _) (I1.X3.fresh (ZK _))
theorem Az{pins:List (Addr×Obj)}{σ:St}{H:Hp}{s:Shared}{R:It->Hp->Prop}{E:Value->Shared->Prop}{lo hi:Int}{t u v:Tok}{tk:Nat}(I:Inv X pins σ H s)(J:-(2^62)<=lo)(h2:lo<2^62)(h3:-(2^62)<=hi)(h4:hi<2^62)(q:R (EM lo (hi-lo).toNat) H):wpAny (model X.prog X.w) X.A (pyIter (.ref s.heap.objs.size)) (iL X pins σ tg R) E {s with heap:=s.heap.push {cls:=.type "range",data:=.fields #[.int lo t,.int hi u,.int 1 v]},toks:=tk}:=by
 refine wpAny_pyIter_range (IsRange.new ..) (small_one J h2 h3 h4) ?_;have I1:Inv X pins σ H {s with heap:=s.heap.push {cls:=.type "range",data:=.fields #[.int lo t,.int hi u,.int 1 v]},toks:=tk}:=I.kept fun b o e=>Yw _ e;refine⟨(s.heap.push {cls:=.type "range",data:=.fields #[.int lo t,.int hi u,.int 1 v]}).objs.size,[(s.heap.push {cls:=.type "range",data:=.fields #[.int lo t,.int hi u,.int 1 v]}).objs.size],Yd ⟨H,Y,I1.kept (t':=tk) fun b o e=>Yw _ e,EL _ lo (hi-lo).toNat,?_,fun b O=>?_,q⟩⟩
 ·have e1:lo+((0:Nat):Int)*1=lo:=by simp
  have e2:(((hi-lo).toNat:Nat):Int)-((0:Nat):Int)=Builtin.Range.rangeSize lo hi 1:=by rw[rangeSize_one];split<;>omega
  show IsRangeIter _ _ (lo+((0:Nat):Int)*1) ((((hi-lo).toNat:Nat):Int)-((0:Nat):Int)) 1;rw[e1,e2];exact Xa _ rfl
 ·have e:b=(s.heap.push {cls:=.type "range",data:=.fields #[.int lo t,.int hi u,.int 1 v]}).objs.size:=by simpa using O
  subst e;exact I1.AA (ZK _) (I1.X3.fresh (ZK _))
def qc(ta:TA):TI:=fun σ H R=>ta σ H fun vs H1=>∃j:Int,vs=[.int j]/\-(2^62)<=j/\j<2^62/\R (EM 0 j.toNat) H1
theorem V2{a:Expr}{ta:TA}{p pos:Pos}(hg:Gl X "range")(hm:X.mg "range"=none)(ha:PA X [a] ta)(hs:starEach [a] X.env=[(false,eval a X.env)]:=by rfl):PI X tg (.Call (.Name "range" p) [a] [] pos) (qc ta):=by
 intro pins s σ H R I h;refine Call_ (Od I hg hm boot_range (Pg (X8 (ha pos pins s σ H _ I h) fun us s1 ⟨vs,H1,I1,r1,q1⟩=>?_) hs Y));obtain⟨j,e,q1,q2,q⟩:=q1;subst e;cases r1 with
 |cons r rr=>
  cases rr;obtain⟨t,rfl⟩:=r;exact call_range_1 (Az I1 (by omega) (by omega) q1 q2 (by simpa using q))
def lY(wi:TI)(g:TG)(tb:TS):TS:=fun D σ H=>wi σ H fun Z_ H1=>∃W:Nat->Nat->St->Hp->Prop,(∃m,W 0 m σ H1)/\∀i m σ H,W i m σ H->
 (Z_.stop i H/\D.nx σ H)\/(Z_.go i H/\∃N:St->Hp->Prop,(∀XC H',N XC H'->∃m',m'<m/\W (i+1) m' XC H')/\∀x H',Z_.G0 i H x H'->g x σ H' fun Wc H2=>tb {D with nx:=N,ct:=N,bk:=D.nx} Wc H2)
def L0(fp:List Addr)(h:Heap):List (Addr×Obj):=fp.filterMap fun b=>(h.get? b).map fun o=>(b,o)
theorem P0{fp:List Addr}{h:Heap}{b:Addr}{o:Obj}(O:b∈fp)(e:h.get? b=some o):(b,o)∈L0 fp h:=List.mem_filterMap.mpr ⟨b,O,by rw[e];rfl⟩
theorem BZ{fp:List Addr}{h:Heap}{p:Addr×Obj}(hp:p∈L0 fp h):p.1∈fp/\h.get? p.1=some p.2:=by
 obtain⟨b,O,e⟩:=List.mem_filterMap.mp hp;cases q:h.get? b with
 |none=>rw [q]at e;cases e
 |some o=>
  rw[q]at e;have e':(b,o)=p:=Y8 e;subst e';exact⟨O,q⟩
theorem Inv.pinned{pins:List (Addr×Obj)}{σ:St}{H:Hp}{s:Shared}{fp:List Addr}(I:Inv X pins σ H s)(hf:∀b∈fp,MG X pins H b)(ho:∀b∈fp,∃o,s.heap.get? b=some o/\∀v,o.data≠.cell v):Inv X (pins++L0 fp s.heap) σ H s:=
 I.Dh fun p hp=>(Zj.mp hp).elim (fun z=>I.pin p (Xs _ z)) fun z=>by
  obtain⟨O,e⟩:=BZ z;obtain⟨f0,f1,f2,_⟩:=hf p.1 O;obtain⟨o,e',d⟩:=ho p.1 O;rw[e]at e';cases e';exact⟨e,f0,f1,f2,d⟩
theorem Inv.Pe{pins pl:List (Addr×Obj)}{σ:St}{H:Hp}{s:Shared}(I:Inv X (pins++pl) σ H s):Inv X pins σ H s:=I.Dh fun p hp=>I.pin p (Xs _ (Ym _ hp))
theorem Yu{iter:Expr}{body:List Stmt}{wi:TI}{g:TG}{tb:TS}{pos:Pos}(hp:PassesOwn (model X.prog X.w) X.A X.env X.xe)(hc:X.calm=true)(hi:PI X tg iter wi)(hg:PG X tg g)(O:B1 X body tb)(hs:∀x,foldedSetIterable iter X.env x=pure x:=by intro _;rfl):PS X (.For tg iter body [] pos) (lY wi g tb):=by
 intro pins s σ H D I h;refine wpAny_For (X8 (hi pins s σ H _ I h) fun v s1 J=>X8 J fun lZ s2 h2=>?_) hs;obtain⟨it,fp,tn,Z_,H2,e,I2,T,nJ,f2,W,⟨m0,w0⟩,turn⟩:=h2;subst e;have EK:∀{H':Hp},(∀b∈fp,H' b=none)->∀b∈fp,MG X pins H' b:=fun hn b O=>⟨hn b O,(f2 b O).2⟩;refine codeAny_forLoop_any (fun n s'=>∃i XC H',Inv X pins XC H' s'/\tn i s'.heap/\(∀b∈fp,H' b=none)/\W i n XC H') ?_ m0 ⟨0,σ,H2,I2,nJ,fun b O=>(f2 b O).1,w0⟩;rintro n s3 ⟨i,AB,H3,I3,tN,qb,w3⟩;rcases turn i n AB H3 w3 with⟨stop,qn⟩|⟨go,N,hN,step⟩
 ·refine Vy hp (X8 (T.done X Y rfl rfl hc i pins s3 AB H3 X.xe I3 (EK qb) tN stop) fun r s4 ⟨hr,I4⟩=>?_);subst hr;exact wpAny_execs_nil ⟨AB,H3,I4,qn⟩
 ·refine Vy hp (X8 (T.item X Y rfl rfl hc i pins s3 AB H3 X.xe I3 (EK qb) tN go) fun r s4 ⟨u,hr,h4⟩=>?_);subst hr;refine Vy hp (X8 h4 fun _ s5 ⟨x,H5,I5,r5,y5,xN,fG⟩=>?_);have fF:=I5.pinned (EK fG) (T.obj _ _ xN);refine Vy hp (X8 (hg _ s5 AB H5 x u _ fF r5 (step x H5 y5)) fun _ s6 ⟨fE,H6,I6,q6⟩=>?_);refine Vy hp (X8 (O _ s6 fE H6 _ I6 q6) fun f s7 q7=>?_);have again:∀{Ay:St}{H7:Hp},Inv X (pins++L0 fp s5.heap) Ay H7 s7->N Ay H7->∃m,m<n/\∃i XC H',Inv X pins XC H' s7/\tn i s7.heap/\(∀b∈fp,H' b=none)/\W i m XC H':=fun{Ay H7} I7 n7=>by
   obtain⟨m',hm,w7⟩:=hN Ay H7 n7;refine⟨m',hm,i+1,Ay,H7,I7.Pe,T.keep _ _ _ xN fun b O o e=>(I7.pin (b,o) (Xs _ (Xs _ (P0 O e)))).1,fun b O=>?_,w7⟩;obtain⟨o,e,d⟩:=T.obj _ _ xN b O;exact(I7.pin (b,o) (Xs _ (Xs _ (P0 O e)))).2.1
  cases f with
  |next=>obtain ⟨Ay,H7,I7,n7⟩:=q7;exact again I7 n7
  |cont=>obtain ⟨Ay,H7,I7,n7⟩:=q7;exact again I7 n7
  |brk=>obtain ⟨Ay,H7,I7,q7⟩:=q7;exact⟨Ay,H7,I7.Pe,q7⟩
  |ret v=>obtain ⟨x7,Ay,H7,I7,r7,q7⟩:=q7;exact⟨x7,Ay,H7,I7.Pe,r7,q7⟩
end
theorem Xo{K:PySem.W.Frag}{a:Addr}{xs:List V}{g:TG}{tb:TS}{D:Ends}{σ:St}{H:Hp}(Pv:Nat->St->Hp->Prop)(h0:Pv 0 σ H)(hl:∀i σ H,i<=xs.length->Pv i σ H->Zw K H a xs)(hs:∀i x σ H,xs[i]?=some x->Pv i σ H->g x σ H fun Wc H2=>tb {D with nx:=Pv (i+1),ct:=Pv (i+1),bk:=D.nx} Wc H2)(hd:∀σ H,Pv xs.length σ H->D.nx σ H):∃W:Nat->Nat->St->Hp->Prop,(∃m,W 0 m σ H)/\∀i m σ H,W i m σ H->((uV K a).stop i H/\D.nx σ H)\/((uV K a).go i H/\∃N:St->Hp->Prop,(∀XC H',N XC H'->∃m',m'<m/\W (i+1) m' XC H')/\∀x H',(uV K a).G0 i H x H'->g x σ H' fun Wc H2=>tb {D with nx:=N,ct:=N,bk:=D.nx} Wc H2):=by
 refine⟨fun i m σ H=>m=xs.length-i/\i<=xs.length/\Pv i σ H,⟨xs.length,by simp,Zt _,h0⟩,?_⟩;rintro i m σ H ⟨rfl,hi,p⟩;have q:=hl i σ H hi p;by_cases WY:i<xs.length
 ·refine .inr ⟨⟨xs,xs[i],q,by simp[WY]⟩,Pv (i+1),fun XC H' p'=>⟨xs.length-(i+1),by omega,Y,WY,p'⟩,fun x H' y=>?_⟩;obtain⟨e,y⟩:=y;subst e;exact hs i x σ _ (y xs q) p
 ·have e:i=xs.length:=by omega
  subst e;exact .inl ⟨⟨xs,q,ZK _⟩,hd σ H p⟩
theorem BY{lo:Int}{n:Nat}{g:TG}{tb:TS}{D:Ends}{σ:St}{H:Hp}(Pv:Nat->St->Hp->Prop)(h0:Pv 0 σ H)(hs:∀i σ H,i<n->Pv i σ H->g (.int (lo+i)) σ H fun Wc H2=>tb {D with nx:=Pv (i+1),ct:=Pv (i+1),bk:=D.nx} Wc H2)(hd:∀σ H,Pv n σ H->D.nx σ H):∃W:Nat->Nat->St->Hp->Prop,(∃m,W 0 m σ H)/\∀i m σ H,W i m σ H->((EM lo n).stop i H/\D.nx σ H)\/((EM lo n).go i H/\∃N:St->Hp->Prop,(∀XC H',N XC H'->∃m',m'<m/\W (i+1) m' XC H')/\∀x H',(EM lo n).G0 i H x H'->g x σ H' fun Wc H2=>tb {D with nx:=N,ct:=N,bk:=D.nx} Wc H2):=by
 refine⟨fun i m σ H=>m=n-i/\i<=n/\Pv i σ H,⟨n,by simp,Zt _,h0⟩,?_⟩;rintro i m σ H ⟨rfl,hi,p⟩;by_cases WY:i<n
 ·refine .inr ⟨WY,Pv (i+1),fun XC H' p'=>⟨n-(i+1),by omega,Y,WY,p'⟩,fun x H' y=>?_⟩;obtain⟨e,y⟩:=y;subst e y;exact hs i σ _ WY p
 ·have e:i=n:=by omega
  subst e;exact .inl ⟨ZK _,hd σ H p⟩
abbrev R2:=V->V->Hp->VK->Prop
def Pd(X:Cx)(f:Value->Value->Sem Value)(r:R2):Prop:=
 ∀(pins:List (Addr×Obj))(s:Shared)(σ:St)(H:Hp)(x y:V)(v u:Value)(Q:VK),Inv X pins σ H s->RelV x v->RelV y u->r x y H Q->
  wpAny (model X.prog X.w) X.A (f v u) (EP X pins σ Q) X.xe s
def lX(X:Cx)(f:Value->Sem Value)(r:V->Hp->VK->Prop):Prop:=
 ∀(pins:List (Addr×Obj))(s:Shared)(σ:St)(H:Hp)(x:V)(v:Value)(Q:VK),Inv X pins σ H s->RelV x v->r x H Q->
  wpAny (model X.prog X.w) X.A (f v) (EP X pins σ Q) X.xe s
def NI(X:Cx)(f:Value)(r:List V->Hp->VK->Prop):Prop:=
 ∀(pins:List (Addr×Obj))(s:Shared)(σ:St)(H:Hp)(xs:List V)(us:List Value)(Q:VK),Inv X pins σ H s->Vals xs us->r xs H Q->
  wpAny (model X.prog X.w) X.A (call f us) (EP X pins σ Q) X.xe s
def nI(r:R2)(ta tb:TE):TE:=fun σ H Q=>ta σ H fun x H1=>tb σ H1 fun y H2=>r x y H2 Q
def fD(r:V->Hp->VK->Prop)(ta:TE):TE:=fun σ H Q=>ta σ H fun x H1=>r x H1 Q
def rI(C:Int->Int->Prop)(g:Int->Int->V):R2:=fun x y H Q=>∃i j,x=.int i/\y=.int j/\C i j/\Q (g i j) H
def uU(g:Int->Int->V):R2:=fun x y H Q=>∃i j,x=.int i/\y=.int j/\Q (g i j) H
def rU(g:Int->V):V->Hp->VK->Prop:=fun x H Q=>∃i,x=.int i/\Q (g i) H
section
variable{X:Cx}{a b c:Expr}{ta tb tc:TE}{pos:Pos}
theorem tM(ha:PE X a ta)(O:PE X b tb){pins:List (Addr×Obj)}{s:Shared}{σ:St}{H:Hp}{R:V->V->Hp->Prop}(I:Inv X pins σ H s)(h:ta σ H fun x H1=>tb σ H1 fun y H2=>R x y H2){Q:Value->Shared->Prop}{f:Value->Value->Sem Value}(hf:∀v u s2 x y H2,Inv X pins σ H2 s2->RelV x v->RelV y u->R x y H2->wpAny (model X.prog X.w) X.A (f v u) Q X.xe s2):wpAny (model X.prog X.w) X.A (eval a X.env) (fun v XU=>wpAny (model X.prog X.w) X.A (eval b X.env) (fun u P8=>wpAny (model X.prog X.w) X.A (f v u) Q X.xe P8) X.xe XU) X.xe s:=by
 refine X8 (ha pins s σ H _ I h) fun v s1 ⟨x,H1,I1,r1,q1⟩=>?_;refine X8 (O pins s1 σ H1 _ I1 q1) fun u s2 ⟨y,H2,I2,r2,q2⟩=>?_;exact hf v u s2 x y H2 I2 r1 r2 q2
theorem Zc{op:Operator}{r:R2}(ho:Pd X (binaryOp op) r)(ha:PE X a ta)(O:PE X b tb):PE X (.BinOp a op b pos) (nI r ta tb):=by
 intro pins s σ H Q I h;exact wpAny_BinOp (tM ha O I h fun v u s2 x y H2 I2 rx ry q=>ho pins s2 σ H2 x y v u Q I2 rx ry q)
theorem GZ{op:UnaryOp}{r:V->Hp->VK->Prop}(ho:lX X (unaryOp op) r)(ha:PE X a ta):PE X (.UnaryOp op a pos) (fD r ta):=by
 intro pins s σ H Q I h;exact UnaryOp_ (X8 (ha pins s σ H _ I h) fun v s1 ⟨x,H1,I1,r1,q1⟩=>ho pins s1 σ H1 x v Q I1 r1 q1)
theorem iK{f:Value->Value->Sem Value}{C:Int->Int->Prop}{g:Int->Int->Int}(rule:∀(i j:Int)(t u:Tok)(s:Shared)(Q:Value->Shared->Prop)(E:Value->Shared->Prop),C i j->Q (.int (g i j) s.toks) {s with toks:=s.toks+1}->wpAny (model X.prog X.w) X.A (f (.int i t) (.int j u)) Q E s):Pd X f (rI C fun i j=>.int (g i j)):=by
 intro pins s σ H x y v u Q I rx ry h;obtain⟨i,j,rfl,rfl,hc,q⟩:=h;obtain⟨t,rfl⟩:=rx;obtain⟨t',rfl⟩:=ry;exact rule i j t t' s _ _ hc ⟨.int (g i j),H,I.tok _,⟨_,Y⟩,q⟩
theorem p_{f:Value->Value->Sem Value}{g:Int->Int->Int}(rule:∀(i j:Int)(t u:Tok)(s:Shared)(Q:Value->Shared->Prop)(E:Value->Shared->Prop),Q (.int (g i j) s.toks) {s with toks:=s.toks+1}->wpAny (model X.prog X.w) X.A (f (.int i t) (.int j u)) Q E s):Pd X f (uU fun i j=>.int (g i j)):=by
 intro pins s σ H x y v u Q I rx ry h;obtain⟨i,j,rfl,rfl,q⟩:=h;obtain⟨t,rfl⟩:=rx;obtain⟨t',rfl⟩:=ry;exact rule i j t t' s _ _ ⟨.int (g i j),H,I.tok _,⟨_,Y⟩,q⟩
theorem xq{f:Value->Value->Sem Value}{g:Int->Int->Bool}(rule:∀(i j:Int)(t u:Tok)(s:Shared)(Q:Value->Shared->Prop)(E:Value->Shared->Prop),Q (.bool (g i j)) s->wpAny (model X.prog X.w) X.A (f (.int i t) (.int j u)) Q E s):Pd X f (uU fun i j=>.bl (g i j)):=by
 intro pins s σ H x y v u Q I rx ry h;obtain⟨i,j,rfl,rfl,q⟩:=h;obtain⟨t,rfl⟩:=rx;obtain⟨t',rfl⟩:=ry;exact rule i j t t' s _ _ ⟨.bl (g i j),H,I,Y,q⟩
theorem SF:Pd X (binaryOp .Add) (uU fun i j=>.int (i+j)):=p_ fun _ _ _ _ _ _ _ q=>add_int q
theorem PY:Pd X (binaryOp .Sub) (uU fun i j=>.int (i-j)):=p_ fun _ _ _ _ _ _ _ q=>sub_int q
theorem tL:Pd X (binaryOp .Mod) (rI (fun _ j=>0<j) fun i j=>.int (i%j)):=iK fun i j _ _ _ _ _ hc q=>by
 have J:(0:Int)<j:=hc;exact mod_int' (by omega) (by rw[Int.fmod_eq_emod_of_nonneg i (by omega)];exact q)
theorem fC{f:Value->Sem Value}{g:Int->Int}(rule:∀(i:Int)(t:Tok)(s:Shared)(Q:Value->Shared->Prop)(E:Value->Shared->Prop),Q (.int (g i) s.toks) {s with toks:=s.toks+1}->wpAny (model X.prog X.w) X.A (f (.int i t)) Q E s):lX X f (rU fun i=>.int (g i)):=by
 intro pins s σ H x v Q I rx h;obtain⟨i,rfl,q⟩:=h;obtain⟨t,rfl⟩:=rx;exact rule i t s _ _ ⟨.int (g i),H,I.tok _,⟨_,Y⟩,q⟩
theorem LZ:lX X (unaryOp .USub) (rU fun i=>.int (-i)):=fC fun _ _ _ _ _ q=>neg_int q
end
noncomputable def p8:V->V->Bool
 |.Xf,.Xf=>true|.Xf,.int _=>true|.int _,.Xf=>true|.Xf,.bl _=>true|.bl _,.Xf=>true|.Xf,.str _=>true|.str _,.Xf=>true
 |.int _,.int _=>true|.bl _,.bl _=>true|.str _,.str _=>true|.EX _,.EX _=>true
 |.int _,.str _=>true|.str _,.int _=>true|.bl _,.str _=>true|.str _,.bl _=>true
 |_,_=>false
def fB:R2:=fun x y H Q=>p8 x y=true/\Q (.bl (decide (x=y))) H
def fA:R2:=fun x y H Q=>p8 x y=true/\Q (.bl (!decide (x=y))) H
theorem Df{i j:Int}:decide (V.int i=V.int j)=(i==j):=by
 rw[Bool.eq_iff_iff];simp
theorem Ax{i j:Bool}:decide (V.bl i=V.bl j)=(i==j):=by
 rw[Bool.eq_iff_iff];simp
theorem De{i j:Str}:decide (V.str i=V.str j)=(i==j):=by
 rw[Bool.eq_iff_iff];simp
theorem Dd{i j:Array UInt8}:decide (V.EX i=V.EX j)=(i.toList==j.toList):=by
 rw[Bool.eq_iff_iff];cases i;cases j;simp
section
variable{X:Cx}{a b c:Expr}{ta tb tc:TE}{pos:Pos}
theorem Yv{pins:List (Addr×Obj)}{σ:St}{H:Hp}{s:Shared}{Q:VK}{k k':Bool}(I:Inv X pins σ H s)(q:Q (.bl k) H)(e:k=k'):EP X pins σ Q (.bool k') s:=by
 subst e;exact⟨.bl k,H,I,Y,q⟩
theorem UW:Pd X (compareOp .Eq) fB:=by
 intro pins s σ H x y v u Q I rx ry h;obtain⟨hs,q⟩:=h;cases x with
 |Xf=>
  cases rx;cases y with
  |Xf=>cases ry;exact PySem.EqNone.eq_none_none (Yv I q (by simp))
  |bl j=>cases ry;exact PySem.EqNone.eq_none_bool (Yv I q (by simp))
  |int j=>obtain ⟨t',rfl⟩:=ry;exact PySem.EqNone.eq_none_int (Yv I q (by simp))
  |str j=>obtain ⟨t',rfl⟩:=ry;exact PySem.EqNone.eq_none_str (Yv I q (by simp))
  |_=>exact absurd (show false=true from hs) Yr
 |bl i=>
  cases rx;cases y with
  |Xf=>cases ry;exact PySem.EqNone.eq_bool_none (Yv I q (by simp))
  |bl j=>cases ry;exact eq_bool (Yv I q Ax)
  |str j=>obtain ⟨t',rfl⟩:=ry;exact PySem.EqMixed.eq_bool_str (Yv I q (by simp))
  |_=>exact absurd (show false=true from hs) Yr
 |int i=>
  obtain⟨t,rfl⟩:=rx;cases y with
  |Xf=>cases ry;exact PySem.EqNone.eq_int_none (Yv I q (by simp))
  |int j=>obtain ⟨t',rfl⟩:=ry;exact eq_int (Yv I q Df)
  |str j=>obtain ⟨t',rfl⟩:=ry;exact PySem.EqMixed.eq_int_str (Yv I q (by simp))
  |_=>exact absurd (show false=true from hs) Yr
 |str i=>
  obtain⟨t,rfl⟩:=rx;cases y with
  |Xf=>cases ry;exact PySem.EqNone.eq_str_none (Yv I q (by simp))
  |bl j=>cases ry;exact PySem.EqMixed.eq_str_bool (Yv I q (by simp))
  |int j=>obtain ⟨t',rfl⟩:=ry;exact PySem.EqMixed.eq_str_int (Yv I q (by simp))
  |str j=>obtain ⟨t',rfl⟩:=ry;exact eq_str (Yv I q De)
  |_=>exact absurd (show false=true from hs) Yr
 |EX i=>
  obtain⟨t,rfl⟩:=rx;cases y with
  |EX j=>obtain ⟨t',rfl⟩:=ry;exact W.eq_bytes (Yv I q Dd)
  |_=>exact absurd (show false=true from hs) Yr
 |_=>cases y<;>exact absurd (show false=true from hs) Yr
theorem uT:Pd X (compareOp .NotEq) fA:=by
 intro pins s σ H x y v u Q I rx ry h;obtain⟨hs,q⟩:=h;cases x with
 |Xf=>
  cases rx;cases y with
  |Xf=>cases ry;exact PySem.EqNone.ne_none_none (Yv I q (by simp))
  |bl j=>cases ry;exact PySem.EqNone.ne_none_bool (Yv I q (by simp))
  |int j=>obtain ⟨t',rfl⟩:=ry;exact PySem.EqNone.ne_none_int (Yv I q (by simp))
  |str j=>obtain ⟨t',rfl⟩:=ry;exact PySem.EqNone.ne_none_str (Yv I q (by simp))
  |_=>exact absurd (show false=true from hs) Yr
 |bl i=>
  cases rx;cases y with
  |Xf=>cases ry;exact PySem.EqNone.ne_bool_none (Yv I q (by simp))
  |bl j=>cases ry;exact ne_bool (Yv I q (congrArg not Ax))
  |str j=>obtain ⟨t',rfl⟩:=ry;exact PySem.EqMixed.ne_bool_str (Yv I q (by simp))
  |_=>exact absurd (show false=true from hs) Yr
 |int i=>
  obtain⟨t,rfl⟩:=rx;cases y with
  |Xf=>cases ry;exact PySem.EqNone.ne_int_none (Yv I q (by simp))
  |int j=>obtain ⟨t',rfl⟩:=ry;exact ne_int (Yv I q (congrArg not Df))
  |str j=>obtain ⟨t',rfl⟩:=ry;exact PySem.EqMixed.ne_int_str (Yv I q (by simp))
  |_=>exact absurd (show false=true from hs) Yr
 |str i=>
  obtain⟨t,rfl⟩:=rx;cases y with
  |Xf=>cases ry;exact PySem.EqNone.ne_str_none (Yv I q (by simp))
  |bl j=>cases ry;exact PySem.EqMixed.ne_str_bool (Yv I q (by simp))
  |int j=>obtain ⟨t',rfl⟩:=ry;exact PySem.EqMixed.ne_str_int (Yv I q (by simp))
  |str j=>obtain ⟨t',rfl⟩:=ry;exact ne_str (Yv I q (congrArg not De))
  |_=>exact absurd (show false=true from hs) Yr
 |EX i=>
  obtain⟨t,rfl⟩:=rx;cases y with
  |EX j=>obtain ⟨t',rfl⟩:=ry;exact W.ne_bytes (Yv I q (congrArg not Dd))
  |_=>exact absurd (show false=true from hs) Yr
 |_=>cases y<;>exact absurd (show false=true from hs) Yr
theorem JS:Pd X (compareOp .Lt) (uU fun i j=>.bl (decide (i<j))):=xq fun _ _ _ _ _ _ _ q=>lt_int q
theorem RB:Pd X (compareOp .LtE) (uU fun i j=>.bl (decide (i<=j))):=xq fun _ _ _ _ _ _ _ q=>le_int q
theorem NH:Pd X (compareOp .Gt) (uU fun i j=>.bl (decide (j<i))):=xq fun _ _ _ _ _ _ _ q=>gt_int q
theorem R6:Pd X (compareOp .GtE) (uU fun i j=>.bl (decide (j<=i))):=xq fun _ _ _ _ _ _ _ q=>ge_int q
theorem U2:Pd X (compareOp .Is) (fun x y H Q=>y=.Xf/\Q (.bl (decide (x=.Xf))) H):=by
 intro pins s σ H x y v u Q I rx ry h;obtain⟨rfl,q⟩:=h;cases ry;refine is_none_gen (Yv I q ?_);cases x<;>first
  |(cases rx;rfl)
  |(obtain⟨t,rfl⟩:=rx;rfl)
theorem Mp:Pd X (compareOp .IsNot) (fun x y H Q=>y=.Xf/\Q (.bl (!decide (x=.Xf))) H):=by
 intro pins s σ H x y v u Q I rx ry h;obtain⟨rfl,q⟩:=h;cases ry;refine isnot_none_gen (Yv I q ?_);cases x<;>first
  |(cases rx;rfl)
  |(obtain⟨t,rfl⟩:=rx;rfl)
theorem Zr(b:Expr){op:CmpOp}(h:op≠.In:=by decide)(h2:op≠.NotIn:=by decide):behindInMarks op b=false:=by
 have e1:(op==CmpOp.In)=false:=by cases op<;>first|rfl|exact absurd rfl h
 have e2:(op==CmpOp.NotIn)=false:=by cases op<;>first|rfl|exact absurd rfl h2
 cases b<;>simp[behindInMarks,e1,e2]
theorem Dc{op:CmpOp}{r:R2}(ho:Pd X (compareOp op) r)(ha:PE X a ta)(O:PE X b tb)(hm:behindInMarks op b=false):PE X (.Compare a [op] [b] pos) (nI r ta tb):=by
 intro pins s σ H Q I h;exact wpAny_Compare1 (tM ha O I h fun v u s2 x y H2 I2 rx ry q=>ho pins s2 σ H2 x y v u Q I2 rx ry q) hm
def uS(t:TE):TT:=fun σ H Q=>t σ H fun x H'=>∃k,x=.bl k/\Q k H'
theorem ZG{op:CmpOp}{r:R2}(ho:Pd X (compareOp op) r)(ha:PE X a ta)(O:PE X b tb)(hm:behindInMarks op b=false):PT X (.Compare a [op] [b] pos) (uS (nI r ta tb)):=by
 intro pins s σ H Q I h;refine wpAny_isTrue_Compare1 (X8 (ha pins s σ H _ I h) fun v s1 ⟨x,H1,I1,r1,q1⟩=>X8 (O pins s1 σ H1 _ I1 q1) fun u s2 ⟨y,H2,I2,r2,q2⟩=>
  X8 (ho pins s2 σ H2 x y v u _ I2 r1 r2 q2) fun c s3 ⟨z,H3,I3,r3,k,e,q3⟩=>?_) hm
 subst e;cases r3;exact Ws ⟨H3,I3,q3⟩
def Aw(r r':R2)(ta tb tc:TE):TE:=fun σ H Q=>ta σ H fun x H1=>tb σ H1 fun y H2=>r x y H2 fun z H3=>∃k,z=.bl k/\
 (if k=true then tc σ H3 fun w' H4=>r' y w' H4 Q else Q (.bl false) H3)
theorem GY{op tK:CmpOp}{r r':R2}(ho:Pd X (compareOp op) r)(EV:Pd X (compareOp tK) r')(ha:PE X a ta)(O:PE X b tb)(hc:PE X c tc)(hm:lastMarks [op,tK] [b,c]=false:=by with_unfolding_all rfl):PE X (.Compare a [op,tK] [b,c] pos) (Aw r r' ta tb tc):=by
 intro pins s σ H Q I h;refine Compare_chain (X8 (ha pins s σ H _ I h) fun v s1 ⟨x,H1,I1,r1,q1⟩=>chain_link (X8 (O pins s1 σ H1 _ I1 q1) fun u s2 ⟨y,H2,I2,r2,q2⟩=>
  X8 (ho pins s2 σ H2 x y v u _ I2 r1 r2 q2) fun d s3 ⟨z,H3,I3,r3,k,e,q3⟩=>?_)) hm
 subst e;cases r3;refine Ws ?_;cases k with
 |false=>exact ite_ff ⟨.bl false,H3,I3,Y,q3⟩
 |true=>exact ite_tt (chain_last (X8 (hc pins s3 σ H3 _ I3 q3) fun w' s4 ⟨z',H4,I4,r4,q4⟩=>EV pins s4 σ H4 y z' u w' Q I4 r2 r4 q4))
theorem LY{op tK:CmpOp}{r r':R2}(ho:Pd X (compareOp op) r)(EV:Pd X (compareOp tK) r')(ha:PE X a ta)(O:PE X b tb)(hc:PE X c tc)(hm:lastMarks [op,tK] [b,c]=false:=by with_unfolding_all rfl):PT X (.Compare a [op,tK] [b,c] pos) (uS (Aw r r' ta tb tc)):=by
 intro pins s σ H Q I h;refine isTrue_chain (X8 (ha pins s σ H _ I h) fun v s1 ⟨x,H1,I1,r1,q1⟩=>test_link (X8 (O pins s1 σ H1 _ I1 q1) fun u s2 ⟨y,H2,I2,r2,q2⟩=>
  X8 (ho pins s2 σ H2 x y v u _ I2 r1 r2 q2) fun d s3 ⟨z,H3,I3,r3,k,e,q3⟩=>?_)) hm
 subst e;cases r3;refine Ws ?_;cases k with
 |false=>
  obtain⟨k',e',q'⟩:=q3;cases e';exact ite_ff ⟨H3,I3,q'⟩
 |true=>
  refine ite_tt (test_last (X8 (hc pins s3 σ H3 _ I3 q3) fun w' s4 ⟨z',H4,I4,r4,q4⟩=>X8 (EV pins s4 σ H4 y z' u w' _ I4 r2 r4 q4) fun d' s5 ⟨z2,H5,I5,r5,k2,e2,q5⟩=>?_));subst e2;cases r5;exact Ws ⟨H5,I5,q5⟩
theorem LX:(sizeLine:Nat)<2^63:=by rw[sizeLine_eq];decide
theorem vals1{x:V}{us:List Value}(r:Vals [x] us):∃u,us=[u]/\RelV x u:=by
 cases r with
 |cons r1 r2=>cases r2;exact Z1 Y r1
theorem GW:NI X (.builtin "abs") (fun xs H Q=>∃i,xs=[.int i]/\Q (.int (if i<0 then-i else i)) H):=by
 intro pins s σ H xs us Q I r h;obtain⟨i,rfl,q⟩:=h;obtain⟨u,rfl,t,rfl⟩:=vals1 r;exact call_abs_int fun u tk=>⟨.int (if i<0 then-i else i),H,I.tok _,⟨_,Y⟩,q⟩
end
structure EJ(h:Heap)(x dx C:Addr)(mA:Str->Option Value):Prop where
 obj:h.get? x=some (W.instObj C dx)
 ns:h.Ns1 dx mA
 ne:dx≠x
theorem BX{h:Heap}{dx:Addr}{mA:Str->Option Value}(n:h.Ns1 dx mA):∃od,h.get? dx=some od/\∀name,W.lookIn name od=some (mA name):=by
 obtain⟨o,es,ep,ho,hd,hk,_,hm⟩:=n;refine⟨o,ho,fun name=>?_⟩;have e:=hm name;unfold nsFind findBy at e;rw[<-Array.find?_toList]at e;unfold W.lookIn;rw[hd];dsimp only;split
 ·rename_i y q;rw[q]at e;exact congrArg some e
 ·rename_i q;rw[q]at e;have a:es.toList.any (·.refKey)=false:=by
   rw[List.any_eq_false];intro y hy;obtain⟨z,t,lW⟩:=hk y (Array.mem_toList_iff.mp hy);simp[DictEntry.refKey,lW]
  have a':¬es.toList.any (·.refKey)=true:=by rw[a];exact Yr
  rw[Z8 a'];exact congrArg some e
theorem EJ.look{h:Heap}{x dx C:Addr}{mA:Str->Option Value}(I:EJ h x dx C mA):∃od,W.InstAt h x (W.instObj C dx) C (some od)/\∀name,W.lookIn name od=some (mA name):=
 let⟨od,ho,hl⟩:=BX I.ns
 ⟨od,⟨I.obj,Y,Y,ho⟩,hl⟩
section
variable{prog:Program}{w:World}{A:Around}{E:Value->Shared->Prop}{s:Shared}{K:W.Frag}{x dx C f:Addr}{mA:Str->Option Value}{name:Str}{v:Value}
theorem get_map{expr:Bool}{Q:Value->Shared->Prop}(X:K.In s.heap)(I:EJ s.heap x dx C mA)(hg:W.plainGet K C name=true)(hh:W.hasDictIn K C=true)(ha:W.findIn K (.ref C) name=some none)(hv:mA name=some v)(tJ:W.handedIn v=true)(h:Q v {s with toks:=s.toks+1}):wpAny (model prog w) A (getAttr (.ref x) name expr) Q E s:=by
 obtain⟨od,Z_,hl⟩:=I.look;exact W.get_value X Z_ (W.plainGet_of hg).1 (W.findObj_own hh ha Y (by rw[hl,hv])) tJ h
theorem Au{pl:Sem Bool}{Q:Value×List Value->Shared->Prop}(X:K.In s.heap)(I:EJ s.heap x dx C mA)(hg:W.plainGet K C name=true)(hf:W.findIn K (.ref C) name=some (some (.ref f)))(ht:W.isFn K (.ref f)=true)(hv:mA name=none)(h:Q (.ref f,[.ref x]) s):wpAny (model prog w) A (getMethod (.ref x) name pl) Q E s:=by
 obtain⟨od,Z_,hl⟩:=I.look;exact W.method_fn X Z_ (W.plainGet_of hg).1 (W.plainGet_of hg).2 hf (W_.mp ht) (by show(W.lookIn name od).map (·.isSome)=some false;rw[hl,hv];rfl) h
theorem xp{ns:List Str}{Q:Unit->Shared->Prop}(X:K.In s.heap)(I:EJ s.heap x dx C mA)(hs:W.findIn K (.ref C) "__setattr__"=some (some (.builtin "object.__setattr__")))(hp:W.plainOver K C=true)(ht:W.takerIn K C name=some none)(hh:W.hasDictIn K C=true)(hw:PySem.Within mA ns)(hsz:ns.length<=sizeLine)(h:∀h',EJ h' x dx C (fun y=>if y=name then some v else mA y)->Heap.SameBut dx s.heap h'->Q () {s with heap:=h',toks:=s.toks+2}):wpAny (model prog w) A (setAttr (.ref x) name v) Q E s:=by
 obtain⟨od,Z_,hl⟩:=I.look;refine W.set_plain X Z_ hs (W.osa_open (s:={s with toks:=s.toks+1}) (r:=none) X Z_ hp ht fun b=>?_);obtain⟨cd,hc,mq⟩:=W.any_some hh;have hx:s.heap.get? x=some ⟨.ref C,some dx,.plain,#[]⟩:=I.obj;refine ZU (Zq (ZU (ZU (wpAny_loadPart hx (ZU (W.Looks.here (s:={s with toks:=s.toks+1}) (W.looks_clsIn X hc) ?_))))));rw[mq];refine Zq (a:=some dx) (ZU (Zq (ZU ?_)));refine wpAny_nsSet1 (s:={s with toks:=s.toks+1}) I.ns fun h' iJ nH=>?_;obtain⟨oD,ah,ag,fu,fo,fk⟩:=iJ.count (PySem.Within.cons name v hw);refine ZU (wpAny_lookBehind fu (by rw[fo];exact pastItsLine_dict (ZA fk (by rw[Zg];omega))) ?_);exact Zq (h _ ⟨(nH.2 _ (Xb I.ne)).trans I.obj,iJ,I.ne⟩ nH)
theorem As{R:Result->Shared->Prop}{vs:List Value}{kw:List (Str×Value)}(X:K.In s.heap)(hm:W.makesIn K C=true)(hi:W.findIn K (.ref C) "__init__"=some (some (.ref f)))(hf:W.typeIn K (.ref f)=some (.type "function"))(h:codeAny (model prog w) (A.under (.builtin "type.__call__" ⟨.ref C::vs,kw⟩)) (.call (.ref f) ⟨.ref (s.heap.objs.size+1)::vs,kw⟩) (W.InitBack (s.heap.objs.size+1) R) {s with heap:=(s.heap.push W.emptyDict).push (W.instObj C s.heap.objs.size)}):codeAny (model prog w) A (.call (.ref C) ⟨vs,kw⟩) R s:=by
 obtain⟨hh,g,d,t,os⟩:=s;exact W.make_core (W.makes_of X hm) (W.looks_findIn X hi) (fun self=>W.bind_fn X self hf) (.inl Y) h
end
noncomputable def SE(f:Str)(v:V):List (Str×V)->List (Str×V)
 |[]=>[(f,v)]
 |(g,x)::r=>if g=f then(g,v)::r else(g,x)::SE f v r
theorem NG(f g:Str)(v:V):∀fs:List (Str×V),(SE f v fs).lookup g=if g=f then some v else fs.lookup g
 |[]=>by
  show List.lookup g [(f,v)]=_;by_cases h:g=f
  ·have O:(g==f)=true:=W_.mpr h;simp only[List.lookup,O,Z7 h]
  ·have O:(g==f)=false:=Vu.mpr h;simp only[List.lookup,O,Z8 h]
 |(k,x)::r=>by
  have ih:=NG f g v r;rw[show SE f v ((k,x)::r)=(if k=f then(k,v)::r else(k,x)::SE f v r)from rfl];by_cases hk:k=f
  ·rw[Z7 hk];by_cases h:g=k
   ·have O:(g==k)=true:=W_.mpr h;simp only[List.lookup,O,Z7 (h.trans hk)]
   ·have O:(g==k)=false:=Vu.mpr h;simp only[List.lookup,O,Z8 (fun e:g=f=>h (e.trans hk.symm))]
  ·rw[Z8 hk];by_cases h:g=k
   ·have O:(g==k)=true:=W_.mpr h;simp only[List.lookup,O,Z8 (fun e:g=f=>hk (h.symm.trans e))]
   ·have O:(g==k)=false:=Vu.mpr h;simp only[List.lookup,O];exact ih
theorem Oc(f:Str)(v:V):∀fs:List (Str×V),f∈(SE f v fs).map (·.1)/\∀g,g∈fs.map (·.1)->g∈(SE f v fs).map (·.1)
 |[]=>⟨by simp[SE],fun g h=>by simp at h⟩
 |(k,x)::r=>by
  obtain⟨i1,i2⟩:=Oc f v r;rw[show SE f v ((k,x)::r)=(if k=f then(k,v)::r else(k,x)::SE f v r)from rfl];by_cases hk:k=f
  ·rw[Z7 hk];subst hk;exact⟨by simp,fun g h=>by simpa using h⟩
  ·rw[Z8 hk];refine⟨?_,fun g h=>?_⟩
   ·rw[Y1];exact Zf _ i1
   ·rw[Y1]at h⊢;rcases ZE.mp h with e|e;·exact ZE.mpr (.inl e)
    ·exact Zf _ (i2 g e)
theorem NF(f:Str)(v:V):∀fs:List (Str×V),(SE f v fs).length<=fs.length+1
 |[]=>by simp[SE]
 |(k,x)::r=>by
  have ih:=NF f v r;rw[show SE f v ((k,x)::r)=(if k=f then(k,v)::r else(k,x)::SE f v r)from rfl];by_cases hk:k=f;·rw[Z7 hk,Zg,Zg];omega
  ·rw[Z8 hk,Zg,Zg];omega
theorem RM.some_of{v:V}{o:Option Value}(r:RM (some v) o):∃u,o=some u/\RelV v u:=by
 cases o with
 |none=>exact (show False from r).elim
 |some u=>exact ⟨u,Y,r⟩
theorem RM.none_of{o:Option Value}(r:RM none o):o=none:=by
 cases o with
 |none=>rfl
 |some u=>exact (show False from r).elim
theorem BW{v:V}{u:Value}(r:RelV v u):W.handedIn u=true:=by
 cases v with
 |Xf=>cases (show u=Value.none from r);rfl
 |bl b=>cases (show u=Value.bool b from r);rfl
 |int i=>obtain ⟨t,e⟩:=(show∃t,u=Value.int i t from r);cases e;rfl
 |str x=>obtain ⟨t,e⟩:=(show∃t,u=Value.str x t from r);cases e;rfl
 |EX b=>obtain ⟨t,e⟩:=(show∃t,u=Value.bytes b t from r);cases e;rfl
 |nU b=>obtain ⟨t,e⟩:=(show∃t,u=Value.float b t from r);cases e;rfl
 |ref a=>cases (show u=Value.ref a from r);rfl
 |ty n=>cases (show u=Value.type n from r);rfl
section
variable{P:Program}{w:World}{H H':Hp}{h h':Heap}{a C dx:Addr}{fs AK:List (Str×V)}
theorem IK(X3:Tb P w H h)(e:H a=some (.ins C dx fs)):∃mA,EJ h a dx C mA/\(∀f,RM (fs.lookup f) (mA f))/\PySem.Within mA (fs.map (·.1))/\fs.length<=1000/\H dx=some (.own a):=by
 obtain⟨d,z,ne,ob,mA,n,r,q⟩:=(show WZ P w H h a (.ins C dx fs)from X3 a _ e);exact⟨mA,⟨ob,n,ne⟩,r,q,z,d⟩
end
structure EU(K:W.Frag)(C:Addr):Prop where
 pg:W.plainGet K C Str.empty=true
 hd:W.hasDictIn K C=true
 po:W.plainOver K C=true
 sa:W.findIn K (.ref C) "__setattr__"=some (some (.builtin "object.__setattr__"))
theorem EU.get{K:W.Frag}{C:Addr}(c:EU K C)(f:Str):W.plainGet K C f=true:=c.pg
def YE(K:W.Frag)(C:Addr)(f:Str):Prop:=W.findIn K (.ref C) f=some none
theorem YE.p7{K:W.Frag}{C:Addr}{f:Str}(n:YE K C f):W.takerIn K C f=some none:=by
 unfold W.takerIn;rw[show W.findIn K (.ref C) f=some none from n];rfl
structure Meth(K:W.Frag)(C:Addr)(m:Str)(f:Addr):Prop where
 at_:W.findIn K (.ref C) m=some (some (.ref f))
 fn:W.isFn K (.ref f)=true
 kp:W.keepIn K (.ref f)=true
section
variable{X:Cx}{pins:List (Addr×Obj)}{σ:St}{H:Hp}{s:Shared}{a C dx:Addr}{fs:List (Str×V)}{f:Str}{v:V}{A:Around}{E:Value->Shared->Prop}
theorem EI{b:Bool}{Q:Value->Shared->Prop}(I:Inv X pins σ H s)(e:H a=some (.ins C dx fs))(c:EU X.K C)(n:YE X.K C f)(l:fs.lookup f=some v)(h:∀u s',Inv X pins σ H s'->RelV v u->Q u s'):wpAny (model X.prog X.w) A (getAttr (.ref a) f b) Q E s:=by
 obtain⟨mA,Z9,r,_,_,_⟩:=IK I.X3 e;obtain⟨u,hu,ru⟩:=RM.some_of (v:=v) (o:=mA f) (by rw[<-l];exact r f);exact get_map I.EW Z9 (c.get f) c.hd n hu (BW ru) (h u _ (I.tok _) ru)
theorem EH{m:Str}{g:Addr}{pl:Sem Bool}{Q:Value×List Value->Shared->Prop}(I:Inv X pins σ H s)(e:H a=some (.ins C dx fs))(c:EU X.K C)(k:Meth X.K C m g)(l:fs.lookup m=none)(h:Q (.ref g,[.ref a]) s):wpAny (model X.prog X.w) A (getMethod (.ref a) m pl) Q E s:=by
 obtain⟨mA,Z9,r,_,_,_⟩:=IK I.X3 e;have hn:mA m=none:=RM.none_of (by rw[<-l];exact r m);exact Au I.EW Z9 (c.get m) k.at_ k.fn hn h
theorem EG{y:V}{u:Value}{Q:Unit->Shared->Prop}(I:Inv X pins σ H s)(e:H a=some (.ins C dx fs))(c:EU X.K C)(n:YE X.K C f)(hl:fs.length<1000)(ry:RelV y u)(h:∀s',Inv X pins σ (upd H a (.ins C dx (SE f y fs))) s'->Q () s'):wpAny (model X.prog X.w) A (setAttr (.ref a) f u) Q E s:=by
 obtain⟨mA,Z9,r,wi,_,ho⟩:=IK I.X3 e;have hz:(fs.map (·.1)).length<=sizeLine:=by rw[Z3,sizeLine_eq];omega
 refine xp I.EW Z9 c.sa c.po n.p7 c.hd wi hz fun h' O' sb=>h _ ?_;have hd:∃o,h'.get? dx=some o:=let⟨o,_,_,e',_⟩:=O'.ns;⟨o,e'⟩
 refine I.write (x:=a) (e:=dx) (by rw[e];exact True.intro) (.inr ho) (fun b q O z=>(sb.2 b O).trans z) hd ?_;refine⟨by rw[ZV Z9.ne];exact ho,?_,Z9.ne,O'.obj,_,O'.ns,fun g=>?_,fun g hg=>?_⟩;·have:=NF f y fs;omega
 ·show RM ((SE f y fs).lookup g) (if g=f then some u else mA g);rw[NG];by_cases q:g=f;·rw[Z7 q,Z7 q];exact ry
  ·rw[Z8 q,Z8 q];exact r g
 ·by_cases q:g=f;·rw[q];exact(Oc f y fs).1
  ·refine(Oc f y fs).2 g (wi g fun z=>hg ?_);show(if g=f then some u else mA g)=none;rw[Z8 q];exact z
theorem Inv.made(I:Inv X pins σ H s):Inv X pins σ (upd (upd H s.heap.objs.size (.own (s.heap.objs.size+1))) (s.heap.objs.size+1) (.ins C s.heap.objs.size [])) {s with heap:=(s.heap.push W.emptyDict).push (W.instObj C s.heap.objs.size)}:=by
 have e1:(s.heap.push W.emptyDict).get? s.heap.objs.size=some W.emptyDict:=Xa s.heap rfl;have e2:((s.heap.push W.emptyDict).push (W.instObj C s.heap.objs.size)).get? (s.heap.objs.size+1)=some (W.instObj C s.heap.objs.size):=by
  have:=Xa (s.heap.push W.emptyDict) (o:=W.instObj C s.heap.objs.size) rfl;rwa[W']at this
 have e3:(s.heap.push W.emptyDict).Ns s.heap.objs.size (fun _=>none):=⟨W.emptyDict,#[],_,e1,Y,(fun e he=>absurd he (by simp)),fun _=>rfl⟩;have I1:=I.laid (a:=s.heap.objs.size) (o:=.own (s.heap.objs.size+1)) (h':=s.heap.push W.emptyDict) (t':=s.toks) (fun b u q=>Yw _ q) (ZK _) ⟨_,e1⟩;refine I1.laid (a:=s.heap.objs.size+1) (o:=.ins C s.heap.objs.size []) (t':=s.toks) (fun b u q=>Yw _ q) (Nat.le_of_eq (W' _ _)) ?_;have ne:s.heap.objs.size≠s.heap.objs.size+1:=Y7 (VR _);refine⟨by rw[ZV ne,Z4],Zt _,ne,e2,fun _=>none,(Heap.Ns1.of_empty e3).at fun o q=>Yw _ q,fun _=>True.intro,fun y hy=>absurd rfl hy⟩
theorem xo{prog:Program}{w:World}{env:Env}{e:Expr}{f:Str}{pos:Pos}{s:Shared}{Q:Value->Shared->Prop}(O:attributeBase e f env (eval e env)=eval e env)(h:wpAny (model prog w) A (eval e env) (fun o XU=>wpAny (model prog w) A (getAttr o f true) Q E XU) E s):wpAny (model prog w) A (eval (.Attribute e f pos) env) Q E s:=
 Attribute_any_ h (by rw[arm_eval_Attribute,O])
end
def xi(K:W.Frag)(ta:TE)(f:Str):TE:=fun σ H Q=>ta σ H fun x H1=>∃a C dx fs v,x=.ref a/\H1 a=some (.ins C dx fs)/\EU K C/\YE K C f/\fs.lookup f=some v/\Q v H1
def lV(K:W.Frag)(ta tv:TE)(f:Str):TS:=fun D σ H=>tv σ H fun y H1=>ta σ H1 fun x H2=>∃a C dx fs,x=.ref a/\H2 a=some (.ins C dx fs)/\EU K C/\YE K C f/\fs.length<1000/\
 D.nx σ (upd H2 a (.ins C dx (SE f y fs)))
section
variable{X:Cx}{o e value:Expr}{f:Str}{pos pos' L6:Pos}{ta tv:TE}
theorem ZY(he:PE X e ta)(O:attributeBase e f X.env (eval e X.env)=eval e X.env):PE X (.Attribute e f pos) (xi X.K ta f):=by
 intro pins s σ H Q I h;refine xo O (X8 (he pins s σ H _ I h) fun u s1 ⟨x,H1,I1,rx,a,C,dx,fs,v,ex,ea,c,n,l,q⟩=>?_);subst ex;obtain rfl:u=Value.ref a:=rx;exact EI I1 ea c n l fun u' s2 I2 ru=>⟨v,H1,I2,ru,q⟩
theorem YB(ha:PE X o ta)(hv:PE X value tv)(hs:swapsWith value (some (.Attribute o f pos')) pos.line X.env=pure false):PS X (.Assign [.Attribute o f pos'] value pos) (lV X.K ta tv f):=by
 intro pins s σ H D I h;refine plainObj_wpAny_Assign_Attribute (X8 (hv pins s σ H _ I h) fun u s1 ⟨y,H1,I1,ry,q⟩=>X8 (ha pins s1 σ H1 _ I1 q) fun ov s2 ⟨x,H2,I2,rx,a,C,dx,fs,ex,ea,c,n,l,q2⟩=>?_) hs;subst ex;obtain rfl:ov=Value.ref a:=rx;exact EG I2 ea c n l ry fun s3 I3=>⟨σ,_,I3,q2⟩
end
structure Wj(k:Nat)(A:Around):Prop where
 hd:A.handled=none
 dp:A.depth+3*k+5<recursionLimit
 un:A.units+16*k+200<cLine
theorem Wj.mono{j k:Nat}{A:Around}(r:Wj k A)(h:j<=k):Wj j A:=⟨r.hd,by have:=r.dp;omega,by have:=r.un;omega⟩
theorem Wj.deeper{k:Nat}{A:Around}(r:Wj (k+1) A)(env:Env):Wj k (A.deeper env):=
 ⟨r.hd,by have:=r.dp;show A.depth+1+3*k+5<_;omega,by have:=r.un;show A.units+3+16*k+200<_;omega⟩
theorem EF{A:Around}{C:Addr}{us:List Value}{kw:List (Str×Value)}:(A.under (.builtin "type.__call__" ⟨.ref C::us,kw⟩)).depth=A.depth+1:=by first|rfl|simp[Around.under,Code.weight,Code.isCreation,Code.isGuard,Code.isCaller,Code.frames,Code.isFrame,guardIds]
theorem EE{A:Around}{C:Addr}{us:List Value}{kw:List (Str×Value)}:(A.under (.builtin "type.__call__" ⟨.ref C::us,kw⟩)).units=A.units+1:=by first|rfl|simp[Around.under,Code.cUnits,Code.frames,Code.isFrame]
theorem Wj.make{k:Nat}{A:Around}(r:Wj (k+1) A)(C:Addr)(us:List Value)(kw:List (Str×Value)):Wj k (A.under (.builtin "type.__call__" ⟨.ref C::us,kw⟩)):=
 ⟨r.hd,by have:=r.dp;rw[EF];omega,by have:=r.un;rw[EE];omega⟩
theorem Wj.depth{k:Nat}{A:Around}(r:Wj k A):A.depth<recursionLimit:=by have:=r.dp;omega
theorem Wj.units{k:Nat}{A:Around}(r:Wj k A):A.units+64<cLine:=by have:=r.un;omega
def BV:TA:=fun _ H Q=>Q [] H
def uR(ta:TE)(tr:TA):TA:=fun σ H Q=>ta σ H fun x H1=>tr σ H1 fun xs H2=>Q (x::xs) H2
section
variable{X:Cx}{e:Expr}{es:List Expr}{te:TE}{t:TA}{pos:Pos}
theorem Z2:PA X [] BV:=fun _ _ _ _ H Q I h=>Calls.spliced_nil ⟨[],H,I,.nil,h⟩
theorem Z6(ha:PE X e te)(hr:PA X es t)(hs:starEach (e::es) X.env=(false,eval e X.env)::starEach es X.env:=by rfl):PA X (e::es) (uR te t):=by
 intro pos pins s σ H Q I h;rw[hs];show wpAny _ _ (spliced ((false,eval e X.env)::backTo pos (starEach es X.env))) _ _ s;refine Calls.spliced_cons (X8 (ha pins s σ H _ I h) fun u s1 ⟨x,H1,I1,r1,q1⟩=>?_);exact X8 (hr pos pins s1 σ H1 _ I1 q1) fun us s2 ⟨xs,H2,I2,r2,q2⟩=>⟨x::xs,H2,I2,.cons r1 r2,q2⟩
def lU(t:TA):TE:=fun σ H Q=>t σ H fun xs H1=>xs.length<=sizeLine/\∀p,H1 p=none->Q (.ref p) (upd H1 p (.tup xs))
def lT(t:TA):TE:=fun σ H Q=>t σ H fun xs H1=>xs.length<=sizeLine/\∀p,H1 p=none->Q (.ref p) (upd H1 p (.lst xs))
theorem ED{x1}(h:PA X es t):PE X (.Tuple es x1 pos) (lU t):=by
 intro pins s σ H Q I hq;refine wpAny_Tuple_spliced (X8 (h pos pins s σ H _ I hq) fun us s1 ⟨xs,H1,I1,r,z,q⟩=>⟨by rw[<-r.length];exact z,?_⟩);have hf:H1 s1.heap.objs.size=none:=I1.X3.fresh (ZK _);refine⟨.ref s1.heap.objs.size,upd H1 s1.heap.objs.size (.tup xs),I1.laid (t':=s1.toks) (fun b u e=>Yw _ e) (ZK _) ?_,Y,q _ hf⟩;exact⟨z,us,r,⟨_,Xa _ rfl,Y,_,Y⟩⟩
theorem Zv(h:PA X es t):PE X (.List es pos) (lT t):=by
 intro pins s σ H Q I hq;refine wpAny_List_spliced (X8 (h pos pins s σ H _ I hq) fun us s1 ⟨xs,H1,I1,r,z,q⟩=>⟨by rw[<-r.length];exact z,?_⟩);have hf:H1 s1.heap.objs.size=none:=I1.X3.fresh (ZK _);refine⟨.ref s1.heap.objs.size,upd H1 s1.heap.objs.size (.lst xs),I1.laid (t':=s1.toks) (fun b u e=>Yw _ e) (ZK _) ?_,Y,q _ hf⟩;exact⟨z,us,0,r,Xa _ rfl⟩
end
abbrev Sp:=List V->Hp->VK->XK->Prop
abbrev AQ:=List Env->Hp->Shared->XK->Value->Shared->Prop
structure EC(P:Program)(w:World)(K:W.Frag)(mg:Str->Option Value)(base:Heap)(A:Around)(outer:List Env)(s:Shared)(H:Hp):Prop where
 frames:A.frames=some outer
 mod:Mod K mg base
 bs:∀b o,base.get? b=some o->s.heap.get? b=some o/\H b=none
 xO:base.objs.size<=s.heap.objs.size
 MH:s.heap.FunFrames base outer
 tY:∀b∈AI outer,H b=none
 X3:Tb P w H s.heap
 bare:AllBare s.gens
 tree:P.given.tree=none
def CE(outer:List Env)(P:Program)(w:World)(H:Hp)(s:Shared)(Q:VK)(u:Value)(s':Shared):Prop:=
 ∃v H',s'.os=s.os/\AllBare s'.gens/\Un (AI outer) [] H H' s.heap s'.heap/\Tb P w H' s'.heap/\RelV v u/\Q v H'
def CR(CX:AQ)(outer:List Env)(P:Program)(w:World)(H:Hp)(s:Shared)(Q:VK)(E:XK)(r:Result)(s':Shared):Prop:=
 match r with
 |.ok (.ret u)=>CE outer P w H s Q u s'
 |.ok _=>False
 |.error e=>CX outer H s E e s'
structure Y6(P:Program)(w:World)(K:W.Frag)(mg:Str->Option Value)(base:Heap)(CX:AQ)(k:Nat)(f:Addr)(fd:FuncData)(ps:List Str)(sp:Sp):Prop where
 len:∀vs H Q E,sp vs H Q E->vs.length=ps.length
 run:∀(A:Around)(outer:List Env)(s:Shared)(H:Hp)(args:Args)(us:List Value)(vs:List V)(Q:VK)(E:XK),Wj k A->EC P w K mg base A outer s H->BindsTo s fd args (ps.zip us)->Vals vs us->sp vs H Q E->
  codeAny (model P w) A (.call (.ref f) args) (CR CX outer P w H s Q E) s
theorem EC.make{P:Program}{w:World}{K:W.Frag}{mg:Str->Option Value}{base:Heap}{A:Around}{outer:List Env}{s:Shared}{H:Hp}(e:EC P w K mg base A outer s H)(C:Addr)(us:List Value)(kw:List (Str×Value)):EC P w K mg base (A.under (.builtin "type.__call__" ⟨.ref C::us,kw⟩)) outer s H:=⟨by first|exact e.frames|(simpa[Around.under,Code.envs,Code.isFrame,pushEnvs]using e.frames),e.mod,e.bs,e.xO,e.MH,e.tY,e.X3,e.bare,e.tree⟩
section
variable{X:Cx}{pins:List (Addr×Obj)}{σ:St}{H:Hp}{s s':Shared}
theorem Inv.pZ(I:Inv X pins σ H s):EC X.prog X.w X.K X.mg X.base X.A X.stack s H:=
 ⟨I.ok.frames,I.ok.mod,I.bs,ZA I.ok.xO I.sz,I.stack,I.Di,I.X3,I.bare,I.ok.tree⟩
theorem Inv.after{Q:VK}{u:Value}(I:Inv X pins σ H s)(h:CE X.stack X.prog X.w H s Q u s'):EP X pins σ Q u s':=by
 obtain⟨v,H',os,bare,un,X3,r,q⟩:=h;obtain⟨hh,g,d,t,fj⟩:=s';obtain rfl:fj=s.os:=os;exact⟨v,H',I.call (h':=hh) (g':=g) (d':=d) (t':=t) (ch:=[]) un X3 bare (fun b z=>absurd z (by simp)),r,q⟩
end
def uQ(sp:Sp)(Ko:List V)(E:XK)(t:TA):TE:=fun σ H Q=>t σ H fun vs H1=>sp (vs++Ko) H1 Q E
def uP(C:Addr)(m:Str)(sp:Sp)(Ko:List V)(E:XK)(ta:TE)(t:TA):TE:=fun σ H Q=>ta σ H fun x H1=>∃a dx fs,x=.ref a/\H1 a=some (.ins C dx fs)/\fs.lookup m=none/\
 t σ H1 fun vs H2=>sp (x::(vs++Ko)) H2 Q E
def C_(C:Addr)(sp:Sp)(Ko:List V)(E:XK)(t:TA):TE:=fun σ H Q=>t σ H fun vs H1=>∀x dx,H1 x=none->H1 dx=none->dx≠x->
 sp (.ref x::(vs++Ko)) (upd (upd H1 dx (.own x)) x (.ins C dx [])) (fun v H2=>v=.Xf/\Q (.ref x) H2) E
def Binds(K:W.Frag)(fd:FuncData)(ps:List Str)(ds:List Value):Prop:=
 ∀(s:Shared)(us:List Value),K.In s.heap->(us++ds).length=ps.length->BindsTo s fd ⟨us,[]⟩ (ps.zip (us++ds))
theorem Binds.all{K:W.Frag}{fd:FuncData}{ps:List Str}(h:∀us:List Value,us.length=ps.length->bindArgs fd ⟨us,[]⟩=pure (ps.zip us)):Binds K fd ps []:=fun s us _ hl=>by
 rw[Xw]at hl⊢;exact .of_eq (h us hl)
def Passes(CX:AQ)(X:Cx)(E:XK):Prop:=∀(pins:List (Addr×Obj))(σ:St)(H:Hp)(s:Shared)(e:Value)(s':Shared),Inv X pins σ H s->CX X.stack H s E e s'->X.xe e s'
section
variable{X:Cx}{CX:AQ}{k:Nat}{f C:Addr}{fd:FuncData}{ps:List Str}{sp:Sp}{Ko:List V}{ds:List Value}{E:XK}{x m:Str}{p pos apos:Pos}{e o:Expr}{es:List Expr}{ta:TE}{t:TA}
theorem EB{pins:List (Addr×Obj)}{σ:St}{H:Hp}{s:Shared}{Q:VK}{us:List Value}{vs:List V}(F:Y6 X.prog X.w X.K X.mg X.base CX k f fd ps sp)(hr:Wj k X.A)(O:Binds X.K fd ps ds)(hd:Vals Ko ds)(hx:Passes CX X E)(I:Inv X pins σ H s)(r:Vals vs us)(h:sp (vs++Ko) H Q E):wpAny (model X.prog X.w) X.A (call (.ref f) us) (EP X pins σ Q) X.xe s:=by
 have r2:Vals (vs++Ko) (us++ds):=r.append hd;have hl:(us++ds).length=ps.length:=by rw[<-r2.length];exact F.len _ _ _ _ h
 refine wpAny_call (codeAny_mono (F.run X.A X.stack s H ⟨us,[]⟩ (us++ds) (vs++Ko) Q E hr I.pZ (O s us I.EW hl) r2 h) fun r s' hq=>?_);cases r with
 |error e=>exact hx pins σ H s e s' I hq
 |ok fl=>
  cases fl with
  |ret u=>exact I.after hq
  |next=>exact False.elim hq
  |brk=>exact False.elim hq
  |cont=>exact False.elim hq
theorem xh(F:Y6 X.prog X.w X.K X.mg X.base CX k f fd ps sp)(hr:Wj k X.A)(hg:Gl X x)(hm:X.mg x=some (.ref f))(hk:W.keepIn X.K (.ref f)=true)(O:Binds X.K fd ps ds)(hd:Vals Ko ds)(hx:Passes CX X E)(ha:PA X (e::es) t)(EA:(x==("__debug__":Str))=false:=by decide)(he:starEach (e::es) X.env=(false,eval e X.env)::starEach es X.env:=by rfl)(Kn:(backTo pos (starEach es X.env)).any (·.1)=false:=by rfl):PE X (.Call (.Name x p) (e::es) [] pos) (uQ sp Ko E t):=by
 intro pins s σ H Q I h;refine UG (Mq I hg hm ?_ EA);refine W.callWith_K (h₀:=X.base) I.ok.mod.qz hk (X8 (ha pos pins s σ H _ I h) fun us s1 ⟨vs,H1,I1,r,q⟩=>⟨I1.EW,?_⟩) he Kn;exact EB F hr O hd hx I1 r q
theorem Ar{pl:Sem Bool}(he:PE X o ta)(c:EU X.K C)(hm:Meth X.K C m f)(F:Y6 X.prog X.w X.K X.mg X.base CX k f fd ps sp)(hr:Wj k X.A)(O:Binds X.K fd ps ds)(hd:Vals Ko ds)(hx:Passes CX X E)
 (ht:eval (.Call (.Attribute o m apos) [] [] pos) X.env=(do
  let ov<-eval o X.env
  standAt apos.atName
  let(f,first)<-holding [ov] (getMethod ov m pl)
  callWith pos f first (backTo pos (starEach [] X.env)) (backToKw pos (keywordEach [] X.env))):=by rfl):
 PE X (.Call (.Attribute o m apos) [] [] pos) (uP C m sp Ko E ta BV):=by
 intro pins s σ H Q I h;refine W.methodCall_KW (pl:=pl) (X8 (he pins s σ H _ I h) fun u s1 ⟨x,H1,I1,rx,a,dx,fs,ex,ea,l,q⟩=>?_) ht;subst ex;obtain rfl:u=Value.ref a:=rx;refine EH I1 ea c hm l ?_;exact W.callWith_K0 (first:=[.ref a]) I1.EW hm.kp (EB (us:=[.ref a]) (vs:=[.ref a]) F hr O hd hx I1 (.cons rfl .nil) q)
structure Mk(K:W.Frag)(C f:Addr):Prop where
 makes:W.makesIn K C=true
 init:W.findIn K (.ref C) "__init__"=some (some (.ref f))
 fn:W.isFn K (.ref f)=true
 kp:W.keepIn K (.ref C)=true
theorem GV{pins:List (Addr×Obj)}{σ:St}{H:Hp}{s:Shared}{Q:VK}{us:List Value}{vs:List V}(M:Mk X.K C f)(F:Y6 X.prog X.w X.K X.mg X.base CX k f fd ps sp)(hr:Wj (k+1) X.A)(O:Binds X.K fd ps ds)(hd:Vals Ko ds)(hx:Passes CX X E)(I:Inv X pins σ H s)(r:Vals vs us)(h:∀x dx,H x=none->H dx=none->dx≠x->sp (.ref x::(vs++Ko)) (upd (upd H dx (.own x)) x (.ins C dx [])) (fun v H2=>v=.Xf/\Q (.ref x) H2) E):wpAny (model X.prog X.w) X.A (call (.ref C) us) (EP X pins σ Q) X.xe s:=by
 have hq:=h (s.heap.objs.size+1) s.heap.objs.size (I.X3.fresh (Nat.le_succ _)) (I.X3.fresh (ZK _)) (Y7 (VR _));have I2:=Inv.made (C:=C) I;have r2:Vals (V.ref (s.heap.objs.size+1)::(vs++Ko)) (Value.ref (s.heap.objs.size+1)::(us++ds)):=.cons Y (r.append hd);have hl:(Value.ref (s.heap.objs.size+1)::us++ds).length=ps.length:=by
  have e:=r2.length;rw[F.len _ _ _ _ hq]at e;exact e.symm
 refine wpAny_call (As (f:=f) I.EW M.makes M.init (W_.mp M.fn) (codeAny_mono (F.run _ X.stack _ _ ⟨Value.ref (s.heap.objs.size+1)::us,[]⟩ (Value.ref (s.heap.objs.size+1)::(us++ds)) _ _ E (hr.make C us [])
  (I2.pZ.make C us []) (O _ (Value.ref (s.heap.objs.size+1)::us) I2.EW hl) r2 hq) fun r s' C9=>?_))
 cases r with
 |error e=>exact hx pins σ _ _ e s' I2 C9
 |ok fl=>
  cases fl with
  |ret u=>
   obtain⟨v,H',I3,rv,ev,q3⟩:=I2.after C9;subst ev;exact⟨rv,⟨V.ref (s.heap.objs.size+1),H',I3,Y,q3⟩⟩
  |next=>exact False.elim C9
  |brk=>exact False.elim C9
  |cont=>exact False.elim C9
theorem xg(M:Mk X.K C f)(F:Y6 X.prog X.w X.K X.mg X.base CX k f fd ps sp)(hr:Wj (k+1) X.A)(hg:Gl X x)(hm:X.mg x=some (.ref C))(O:Binds X.K fd ps ds)(hd:Vals Ko ds)(hx:Passes CX X E)(ha:PA X (e::es) t)(EA:(x==("__debug__":Str))=false:=by decide)(he:starEach (e::es) X.env=(false,eval e X.env)::starEach es X.env:=by rfl)(Kn:(backTo pos (starEach es X.env)).any (·.1)=false:=by rfl):PE X (.Call (.Name x p) (e::es) [] pos) (C_ C sp Ko E t):=by
 intro pins s σ H Q I h;refine UG (Mq I hg hm ?_ EA);refine W.callWith_K (h₀:=X.base) I.ok.mod.qz M.kp (X8 (ha pos pins s σ H _ I h) fun us s1 ⟨vs,H1,I1,r,q⟩=>⟨I1.EW,?_⟩) he Kn;exact GV M F hr O hd hx I1 r q
theorem Aq(M:Mk X.K C f)(F:Y6 X.prog X.w X.K X.mg X.base CX k f fd ps sp)(hr:Wj (k+1) X.A)(hg:Gl X x)(hm:X.mg x=some (.ref C))(O:Binds X.K fd ps ds)(hd:Vals Ko ds)(hx:Passes CX X E)(EA:(x==("__debug__":Str))=false:=by decide):PE X (.Call (.Name x p) [] [] pos) (C_ C sp Ko E BV):=by
 intro pins s σ H Q I h;refine UG (Mq I hg hm ?_ EA);exact W.callWith_K0 I.EW M.kp (GV (us:=[]) M F hr O hd hx I .nil h)
end
def PK(X:Cx)(pY:List Keyword)(t:TA):Prop:=
 ∀(pos:Pos)(pins:List (Addr×Obj))(s:Shared)(σ:St)(H:Hp)(Q:List V->Hp->Prop),Inv X pins σ H s->t σ H Q->wpAny (model X.prog X.w) X.A (evalAll ((backToKw pos (keywordEach pY X.env)).map (·.2))) (AP X pins σ Q) X.xe s
section
variable{X:Cx}{CX:AQ}{k:Nat}{f C:Addr}{fd:FuncData}{ps ks:List Str}{sp:Sp}{E:XK}{x m:Str}{p pos apos xf:Pos}{e o:Expr}{es:List Expr}{pY:List Keyword}{te ta:TE}{t tk:TA}{nm:Option Str}
theorem tI:PK X [] BV:=fun _ _ _ _ H Q I h=>wpAny_evalAll_nil ⟨[],H,I,.nil,h⟩
theorem xc(ha:PE X e te)(hr:PK X pY t):PK X (⟨nm,e,xf⟩::pY) (uR te t):=by
 intro pos pins s σ H Q I h;show wpAny _ _ (evalAll ((do let v<-eval e X.env;standAt pos;pure v)::(backToKw pos (keywordEach pY X.env)).map (·.2))) _ _ s;refine wpAny_evalAll_cons (ZU (X8 (ha pins s σ H _ I h) fun u s1 ⟨x,H1,I1,r1,q1⟩=>ZU (wpAny_standAt (Zq ?_))));exact X8 (hr pos pins s1 σ H1 _ I1 q1) fun us s2 ⟨xs,H2,I2,r2,q2⟩=>⟨x::xs,H2,I2,.cons r1 r2,q2⟩
variable{g:List Value->List Value->List Value}{gV:List V->List V->List V}
end
structure ZL(N P:List Str)(sc:Scope):Prop where
 kind:sc.kind=.function
 co:sc.isCoroutine=false
 gen:sc.isGenerator=false
 nd:N.Nodup
 pre:N.take P.length=P
 par:∀x∈P,sc.names.lookup x=some .local\/sc.names.lookup x=some .cell
 tH:∀y∈sc.names,y.2≠.free
theorem JR{kindOf:Str->Option NameKind}{x:Str}:∀{binds:List (Str×Value)}{m:Str->Option Value},(∀v,(x,v)∉binds)->bindL kindOf binds m x=m x
 |[],_,_=>rfl
 |(n,v)::r,m,h=>by
  unfold bindL;rw[JR fun w hw=>h w (Zf _ hw)];split
  ·have:x≠n:=by rintro rfl;exact h v YG
   simp[this]
  ·rfl
theorem JQ{kindOf:Str->Option NameKind}{x:Str}:∀{binds:List (Str×Value)}{m:Str->Option Value},(∀v,(x,v)∉binds)->bindC kindOf binds m x=m x
 |[],_,_=>rfl
 |(n,v)::r,m,h=>by
  unfold bindC;rw[JQ fun w hw=>h w (Zf _ hw)];split;·rfl
  ·have:x≠n:=by rintro rfl;exact h v YG
   simp[this]
theorem JP{kindOf:Str->Option NameKind}{x:Str}{v:Value}:∀{P:List Str}{vs:List Value}{i:Nat}{m:Str->Option Value},P.Nodup->P[i]?=some x->vs[i]?=some v->kindOf x=some .local->bindL kindOf (P.zip vs) m x=some v
 |[],_,_,_,_,h,_,_=>by simp at h
 |_::_,[],_,_,_,_,h,_=>by simp at h
 |p::P,w::vs,0,m,nd,J,h2,hk=>by
  simp at J h2;subst J;subst h2;show bindL kindOf ((p,w)::P.zip vs) m p=_;unfold bindL;rw[JR fun v hv=>(Wf.mp nd).1 (List.of_mem_zip hv).1,Z7 hk];simp
 |p::P,w::vs,i+1,m,nd,J,h2,hk=>by
  show bindL kindOf ((p,w)::P.zip vs) m x=_;unfold bindL;exact JP (i:=i) (Wf.mp nd).2 (by simpa using J) (by simpa using h2) hk
theorem JO{kindOf:Str->Option NameKind}{x:Str}{v:Value}:∀{P:List Str}{vs:List Value}{i:Nat}{m:Str->Option Value},P.Nodup->P[i]?=some x->vs[i]?=some v->kindOf x≠some .local->bindC kindOf (P.zip vs) m x=some v
 |[],_,_,_,_,h,_,_=>by simp at h
 |_::_,[],_,_,_,_,h,_=>by simp at h
 |p::P,w::vs,0,m,nd,J,h2,hk=>by
  simp at J h2;subst J;subst h2;show bindC kindOf ((p,w)::P.zip vs) m p=_;unfold bindC;rw[JQ fun v hv=>(Wf.mp nd).1 (List.of_mem_zip hv).1,Z8 hk];simp
 |p::P,w::vs,i+1,m,nd,J,h2,hk=>by
  show bindC kindOf ((p,w)::P.zip vs) m x=_;unfold bindC;exact JO (i:=i) (Wf.mp nd).2 (by simpa using J) (by simpa using h2) hk
noncomputable def start(N:List Str)(vs:List V):St:=vs.map some++List.replicate (N.length-vs.length) none
noncomputable def BU(CX:AQ)(P:Program)(w:World)(K:W.Frag)(mg:Str->Option Value)(base:Heap)(N:List Str)(qual:Str)(scope:Scope)(f:Addr)(cd:Value)(A:Around)(outer:List Env)(s:Shared)(H:Hp)(E:XK):Cx where
 prog:=P
 w:=w
 K:=K
 mg:=mg
 base:=base
 A:=A.deeper (envOfC qual scope s.heap.objs.size f cd)
 N:=N
 JX:=s
 qy:=H
 env:=envOfC qual scope s.heap.objs.size f cd
 outer:=outer
 stack:=envOfC qual scope s.heap.objs.size f cd::outer
 ex:=[]
 calm:=true
 fn:=fun _=>true
 pn:=[]
 xe:=fun e s'=>wpAny (model P w) (A.deeper (envOfC qual scope s.heap.objs.size f cd)) (leaving (envOfC qual scope s.heap.objs.size f cd) e) (fun _ lS=>CX outer H s E e lS) (fun e' lS=>CX outer H s E e' lS) s'
theorem GU{sc:Scope}{n:Nat}{x:Str}(h:sc.names.lookup x=some .cell):∃c,(cellsFrom n sc.names []).lookup x=some c:=by
 have q:=W.cellsFrom_some sc.names n [] (.inl h);exact Option.isSome_iff_exists.mp q
theorem BS{CX:AQ}{P:Program}{w:World}{K:W.Frag}{mg:Str->Option Value}{base:Heap}{N ps:List Str}{qual:Str}{scope:Scope}{f:Addr}{cd:Value}{A:Around}{outer:List Env}{s s1:Shared}{H:Hp}{E:XK}{us:List Value}{vs:List V}(S:ZL N ps scope)(hd:A.handled=none)(e0:EC P w K mg base A outer s H)(hl:vs.length=ps.length)(r:Vals vs us)(x:InCallC s s.heap.objs.size (bindL (envOfC qual scope s.heap.objs.size f cd).kindOf (ps.zip us) fun _=>none) (cellsFrom (s.heap.objs.size+1) scope.names []) (bindC (envOfC qual scope s.heap.objs.size f cd).kindOf (ps.zip us) fun _=>none) s1):Inv (BU CX P w K mg base N qual scope f cd A outer s H E) [] (start N vs) H s1:=by
 have Kn:ps.length<=N.length:=by have:=congrArg List.length S.pre;rw[Xt]at this;omega
 obtain⟨J,tk,rfl,hk⟩:=x.done;have qS:∀b:Addr,b∉(BU CX P w K mg base N qual scope f cd A outer s H E).ex:=fun b z=>absurd (show b∈([]:List Addr)from z) (by simp);refine⟨⟨e0.mod,S.kind,Y,Y,ZK _,fun y z c J h2=>?_,fun y hy=>?_,fun y c _ h=>?_,fun _=>hd,Around.frames_deeper e0.frames,.inr ⟨Y,Y⟩,fun b z=>absurd z (qS b),e0.bs,e0.xO,fun b _ _=>qS b,fun b z=>absurd z (qS b),e0.MH,e0.tY,e0.tree,Yd ⟨Y,S.gen,S.co,Y,Y⟩⟩,Y,e0.bare,Un.kept hk,⟨_,x.toInCall.ns,fun i y v J h2 h3=>?_⟩,fun y c h=>⟨_,x.cell y c h⟩,e0.X3.fresh (ZK _),fun y c h=>?_,fun p hp=>absurd (show p∈([]:List (Addr×Obj))from hp) (by simp),e0.X3.kept hk,?_⟩;·exact name_of_addr x.apart (Yf J) (Yf h2)
 ·have hy:scope.names.lookup y=some .cell\/scope.names.lookup y=some .free:=hy;rcases hy with hy|hy;·exact GU hy
  ·exact absurd rfl (S.tH _ (Yf hy))
 ·exact YZ (x.above y c (Yf h))
 ·have hi:i<vs.length:=by
   unfold start at h2;by_cases hi:i<vs.length;·exact hi
   ·rw[Uy (by simpa using hi)]at h2;rw[Pk]at h2;split at h2<;>cases h2
  have ha:vs[i]?=some v:=by
   unfold start at h2;rw[VT (by simpa using hi),Zb]at h2;cases e:vs[i]?with
   |none=>rw [e]at h2;cases h2
   |some a=>rw [e]at h2;cases h2;rfl
  obtain⟨u,hu,rv⟩:=r.get ha;have hp:ps[i]?=some y:=by rw[<-S.pre,List.getElem?_take_of_lt (by omega)];exact J
  have iI:ps.Nodup:=by rw[<-S.pre];exact S.nd.sublist (List.take_sublist _ _)
  refine⟨u,rv,?_⟩;rcases S.par y (Y3 hp)with k|k;·exact .inl ⟨k,JP iI hp hu k⟩
  ·obtain⟨c,e⟩:=GU (n:=s.heap.objs.size+1) k;refine .inr ⟨.inl k,c,e,?_⟩;have q:=x.cell y c e;rw[JO iI hp hu (by show scope.names.lookup y≠_;rw[k];decide)]at q;exact q
 ·exact e0.X3.fresh (YZ (x.above y c (Yf h)))
 ·unfold start;show _=N.length;rw[ZF,Z3,List.length_replicate];omega
theorem pX{CX:AQ}{P:Program}{w:World}{K:W.Frag}{mg:Str->Option Value}{base:Heap}{k:Nat}{f:Addr}{name qual:Str}{params:Arguments}{body:List Stmt}{scope:Scope}{dV kV doc pm Yp ct oc:Value}{an od:Option Addr}{w_:Array (Option Value)}{N ps:List Str}{sp:Sp}(lk:K.lookup f=some ⟨oc,od,.func (W.fnOf name qual params body scope dV kV doc pm an Yp ct),w_⟩)(AS:W.codeIn K Yp qual=true)(S:ZL N ps scope)(len:∀vs H Q E,sp vs H Q E->vs.length=ps.length)(Ap:∀(A:Around)(outer:List Env)(s:Shared)(H:Hp)(vs:List V)(Q:VK)(E:XK),Wj k (A.deeper (envOfC qual scope s.heap.objs.size f Yp))->sp vs H Q E->∃t,B1 (BU CX P w K mg base N qual scope f Yp A outer s H E) body t/\t {nx:=fun _ H'=>Q .Xf H',rt:=Q} (start N vs) H):Y6 P w K mg base CX (k+1) f (W.fnOf name qual params body scope dV kV doc pm an Yp ct) ps sp:=by
 refine⟨len,fun A outer s H args us vs Q E hr e0 O r xM=>?_⟩;have hl:=len _ _ _ _ xM;have KX:K.In s.heap:=e0.mod.qz.keeps fun b o e=>(e0.bs b o e).1;have lim:s.heap.NoLimit:=e0.mod.nolimit.keeps fun b o e=>(e0.bs b o e).1;have pW:∀y∈ps.zip us,scope.names.lookup y.1=some .local\/(scope.names.lookup y.1=some .cell/\((cellsFrom (s.heap.objs.size+1) scope.names []).lookup y.1).isSome=true):=fun⟨n,v⟩ hy=>by
  rcases S.par n (List.of_mem_zip hy).1 with q|q;·exact .inl q
  ·exact .inr ⟨q,W.cellsFrom_some _ _ _ (.inl q)⟩
 refine codeAny_call_function hr.depth (KX _ _ lk) rfl S.co S.gen Y (W.codeRec_of KX AS) (O _ _ _ _ ?_);refine wpAny_newFunctionEnv_cells S.kind pW fun env he s1 x=>?_;subst he;refine⟨lim.keeps x.toInCall.keep,codeAny_func ?_⟩;obtain⟨t,ht,hq⟩:=Ap A outer s H vs Q E (hr.deeper _) xM;have I:Inv (BU CX P w K mg base N qual scope f Yp A outer s H E) [] (start N vs) H s1:=BS S hr.hd e0 hl r x;refine X2 (ht [] s1 (start N vs) H _ I hq) (fun fl s' hs=>?_) fun e s' hs=>hs;have fin:∀{XC:St}{H':Hp}{v:V}{u:Value},Inv (BU CX P w K mg base N qual scope f Yp A outer s H E) [] XC H' s'->RelV v u->Q v H'->CE outer P w H s Q u s':=
  fun{XC H' v u} Z_ rv q=>⟨v,H',Z_.os,Z_.bare,Z_.base,Z_.X3,rv,q⟩
 cases fl with
 |ret u=>
  obtain⟨v,XC,H',Z_,rv,q⟩:=hs;exact fin Z_ rv q
 |next=>
  obtain⟨XC,H',Z_,q⟩:=hs;exact fin (v:=V.Xf) (u:=Value.none) Z_ Y q
 |brk=>
  obtain⟨_,_,_,q⟩:=hs;exact False.elim q
 |cont=>
  obtain⟨_,_,_,q⟩:=hs;exact False.elim q
section
variable{X:Cx}{x:Str}{p pos:Pos}{e:Expr}{es:List Expr}{t:TA}{id T:String}{r:List V->Hp->VK->Prop}
def iH(r:List V->Hp->VK->Prop)(t:TA):TE:=fun σ H Q=>t σ H fun vs H1=>r vs H1 Q
theorem YN(hc:NI X (.builtin id) r)(hg:Gl X x)(hm:X.mg x=none)(hv:bootBuiltins x=some (.builtin id))(ha:PA X (e::es) t)(hn:x≠"__name__":=by decide)(EA:(x==("__debug__":Str))=false:=by decide)(he:starEach (e::es) X.env=(false,eval e X.env)::starEach es X.env:=by rfl)(Kn:(backTo pos (starEach es X.env)).any (·.1)=false:=by rfl):PE X (.Call (.Name x p) (e::es) [] pos) (iH r t):=by
 intro pins s σ H Q I h;refine UG (Od I hg hm hv ?_ hn EA);exact PyProof.Rows.callWith_builtin1 (X8 (ha pos pins s σ H _ I h) fun us s1 ⟨vs,H1,I1,r1,q1⟩=>hc pins s1 σ H1 vs us Q I1 r1 q1) he Kn
theorem Vs(hc:NI X (.type T) r)(hg:Gl X x)(hm:X.mg x=none)(hv:bootBuiltins x=some (.type T))(ha:PA X (e::es) t)(hn:x≠"__name__":=by decide)(EA:(x==("__debug__":Str))=false:=by decide)(he:starEach (e::es) X.env=(false,eval e X.env)::starEach es X.env:=by rfl)(Kn:(backTo pos (starEach es X.env)).any (·.1)=false:=by rfl):PE X (.Call (.Name x p) (e::es) [] pos) (iH r t):=by
 intro pins s σ H Q I h;refine UG (Od I hg hm hv ?_ hn EA);exact Pg (X8 (ha pos pins s σ H _ I h) fun us s1 ⟨vs,H1,I1,r1,q1⟩=>hc pins s1 σ H1 vs us Q I1 r1 q1) he Kn
end
end L2
namespace HT
open PySem PyProof.Rows
section
variable{prog:Program}{w:World}{A:Around}{E:Value->Shared->Prop}{s:Shared}
def GS(n d:Nat):Option Int->Nat
 |none=>d
 |some v=>if v<0 then(v+(n:Int)).toNat else min v.toNat n
theorem Ao(n d:Nat):GS n d none=d:=rfl
theorem IJ(n d k:Nat):GS n d (some (k:Int))=min k n:=by
 show(if(k:Int)<0 then((k:Int)+(n:Int)).toNat else min (k:Int).toNat n)=min k n;rw[Z8 (by omega),Int.toNat_natCast]
end
end HT
namespace L2
open PySem PySem.Spec PyProof.Rows
abbrev TO:=St->Hp->(Option Int->Hp->Prop)->Prop
def PO(X:Cx)(e:Option Expr)(t:TO):Prop:=
 ∀(pins:List (Addr×Obj))(s:Shared)(σ:St)(H:Hp)(Q:Option Int->Hp->Prop),Inv X pins σ H s->t σ H Q->
  wpAny (model X.prog X.w) X.A (evalPart e X.env) (fun u s'=>∃o H',Inv X pins σ H' s'/\IsPart u o/\Q o H') X.xe s
def w8:TO:=fun _ H Q=>Q none H
def pV(t:TE):TO:=fun σ H Q=>t σ H fun x H1=>∃i,x=.int i/\Q (some i) H1
section
variable{X:Cx}{e:Expr}{te:TE}{lo hi:Option Expr}{tl th:TO}{pos p2:Pos}
theorem w4:PO X none w8:=by
 intro pins s σ H Q I h;rw[evalPart_none];exact Zq ⟨none,H,I,.none,h⟩
theorem II(h:PE X e te):PO X (some e) (pV te):=by
 intro pins s σ H Q I hw;rw[evalPart_some];refine X8 (h pins s σ H _ I hw) fun u s1 ⟨x,H1,I1,r1,q1⟩=>?_;obtain⟨i,rfl,q⟩:=q1;obtain⟨t,rfl⟩:=r1;exact⟨some i,H1,I1,.int i t,q⟩
def iG(X:Cx)(r:V->Option Int->Option Int->Hp->VK->Prop):Prop:=
 ∀(pins:List (Addr×Obj))(s:Shared)(σ:St)(H:Hp)(x:V)(v vl vu:Value)(lo hi:Option Int)(sl:Addr)(Q:VK),Inv X pins σ H s->RelV x v->s.heap.IsSliceOf sl vl vu .none->IsPart vl lo->IsPart vu hi->r x lo hi H Q->
  ∃T id,typeLookup (.type T) "__getitem__"=pure (some (.builtin id))/\s.TypeIs v T/\wpAny (model X.prog X.w) X.A (getItem v (.ref sl)) (EP X pins σ Q) X.xe s
def fi(r:V->Option Int->Option Int->Hp->VK->Prop)(te:TE)(tl th:TO):TE:=fun σ H Q=>te σ H fun x H1=>tl σ H1 fun l H2=>th σ H2 fun u H3=>r x l u H3 Q
theorem GR{r:V->Option Int->Option Int->Hp->VK->Prop}(hr:iG X r)(he:PE X e te)(hl:PO X lo tl)(hu:PO X hi th):PE X (.Subscript e (.Slice lo hi none p2) pos) (fi r te tl th):=by
 intro pins s σ H Q I h;refine Subscript_ (X8 (he pins s σ H _ I h) fun v s1 ⟨x,H1,I1,r1,q1⟩=>?_);refine wpAny_Slice (X8 (hl pins s1 σ H1 _ I1 q1) fun vl s2 ⟨l,H2,I2,pl,q2⟩=>X8 (hu pins s2 σ H2 _ I2 q2) fun vu s3 ⟨u,H3,I3,pu,q3⟩=>?_);rw[evalPart_none];refine Zq ?_;have I4:Inv X pins σ H3 {s3 with heap:=s3.heap.push {cls:=.type "slice",data:=.fields #[vl,vu,.none]}}:=I3.kept (t':=s3.toks) fun b ob q=>Yw _ q;obtain⟨T,id,hT,ht,hg⟩:=hr pins {s3 with heap:=s3.heap.push {cls:=.type "slice",data:=.fields #[vl,vu,.none]}} σ H3 x v vl vu l u s3.heap.objs.size Q I4 r1 (Heap.IsSliceOf.new ..) pl pu q3;show wpAny (model X.prog X.w) X.A (subscriptTail e (.Slice lo hi none p2) v (.ref s3.heap.objs.size)) (EP X pins σ Q) X.xe {s3 with heap:=s3.heap.push {cls:=.type "slice",data:=.fields #[vl,vu,.none]}};exact tail_any (ops:=[.ref s3.heap.objs.size,v]) ht hT hg (by with_unfolding_all rfl)
def IH(xs:List V)(lo hi:Option Int):List V:=(xs.drop (HT.GS xs.length 0 lo)).take (HT.GS xs.length xs.length hi-HT.GS xs.length 0 lo)
theorem GQ(xs:List V)(lo hi:Option Int):(IH xs lo hi).length<=xs.length:=by
 unfold IH;rw[Xt,List.length_drop];omega
end
noncomputable def BR(n:Nat)(i:Int):Option Nat:=if 0<=i then(if i<n then some i.toNat else none)else if-(n:Int)<=i then some (i+n).toNat else none
def QO{α:Type}(xs:List α)(i:Int):Option α:=(BR xs.length i).bind fun j=>xs[j]?
theorem C8{n:Nat}{i:Int}{j:Nat}(h:BR n i=some j):seqIndex? i n=some j/\j<n/\-(n:Int)<=i/\i<n:=by
 unfold BR at h;by_cases h0:0<=i
 ·rw[Z7 h0]at h;by_cases J:i<n
  ·rw[Z7 J]at h;have e:i.toNat=j:=Y8 h;exact⟨by rw[seqIndex_of h0 J,e],by omega,by omega,J⟩
  ·rw[Z8 J]at h;cases h
 ·rw[Z8 h0]at h;by_cases J:-(n:Int)<=i
  ·rw[Z7 J]at h;have e:(i+n).toNat=j:=Y8 h;exact⟨by rw[seqIndex_neg (by omega) J,e],by omega,J,by omega⟩
  ·rw[Z8 J]at h;cases h
theorem IG{α:Type}{xs:List α}{i:Int}{v:α}(h:QO xs i=some v):∃j,seqIndex? i xs.length=some j/\xs[j]?=some v/\j<xs.length/\-(xs.length:Int)<=i/\i<xs.length:=by
 unfold QO at h;cases e:BR xs.length i with
 |none=>rw [e]at h;cases h
 |some j=>
  rw[e]at h;obtain⟨J,h2,h3,h4⟩:=C8 e;exact⟨j,J,h,h2,h3,h4⟩
theorem SD{α:Type}{xs:List α}{j:Nat}{v:α}(h:xs[j]?=some v):QO xs (j:Int)=some v:=by
 have hj:j<xs.length:=(Zy.mp h).1;have e:BR xs.length (j:Int)=some j:=by
  unfold BR;rw[Z7 (by omega),Z7 (by omega)];simp
 unfold QO;rw[e];exact h
theorem GP{α:Type}(xs:List α)(v:α):QO (xs++[v]) (-1)=some v:=by
 have hl:(xs++[v]).length=xs.length+1:=by simp
 have e:BR (xs++[v]).length (-1)=some xs.length:=by
  unfold BR;rw[hl,Z8 (by decide),Z7 (by omega)];congr 1;omega
 unfold QO;rw[e];show(xs++[v])[xs.length]?=some v;simp
def wZ(b:Expr):Prop:=∀o i,subscripted b false o i=operate [o,i] (getItem o i)
def nG(X:Cx)(r:R2):Prop:=
 ∀(value slice:Expr)(pins:List (Addr×Obj))(s:Shared)(σ:St)(H:Hp)(x y:V)(v u:Value)(Q:VK),Inv X pins σ H s->RelV x v->RelV y u->r x y H Q->
  subscripted slice false v u=operate [v,u] (getItem v u)->wpAny (model X.prog X.w) X.A (subscriptTail value slice v u) (EP X pins σ Q) X.xe s
def iF(X:Cx)(id:String)(r:V->List V->Hp->VK->Prop):Prop:=
 ∀(pins:List (Addr×Obj))(s:Shared)(σ:St)(H:Hp)(x:V)(xs:List V)(v:Value)(us:List Value)(Q:VK),Inv X pins σ H s->RelV x v->Vals xs us->r x xs H Q->
  wpAny (model X.prog X.w) X.A (call (.builtin id) (v::us)) (EP X pins σ Q) X.xe s
section
variable{X:Cx}{a b:Expr}{ta tb:TE}{pos:Pos}
theorem ZI{r:R2}(hr:nG X r)(ha:PE X a ta)(O:PE X b tb)(hs:wZ b):PE X (.Subscript a b pos) (nI r ta tb):=by
 intro pins s σ H Q I h;exact Subscript_ (tM ha O I h fun v u s2 x y H2 I2 rx ry q=>hr a b pins s2 σ H2 x y v u Q I2 rx ry q (hs _ _))
def pU(K:W.Frag):R2:=fun x y H Q=>∃p xs i v,x=.ref p/\y=.int i/\Zw K H p xs/\QO xs i=some v/\Q v H
def lR(K:W.Frag):R2:=fun x y H Q=>∃p xs i v,x=.ref p/\y=.int i/\U4 K H p xs/\QO xs i=some v/\Q v H
theorem ZM:nG X (pU X.K):=by
 intro value slice pins s σ H x y v u Q I rx ry h hs;obtain⟨p,xs,i,z,rfl,rfl,hq,he,q⟩:=h;cases rx;obtain⟨t,rfl⟩:=ry;obtain⟨Y5,r,pl,hz⟩:=I.list hq;obtain⟨j,J,h2,h3,h4,h5⟩:=IG he;obtain⟨w,ew,BQ⟩:=r.get h2;have hl:=r.length;have hn:=LX;have fin:EP X pins σ Q w s:=⟨z,H,I,BQ,q⟩;by_cases h0:0<=i
 ·have hj:i.toNat=j:=by
   rw[seqIndex_of h0 h5]at J;exact Y8 J
  exact item_listR pl.isList h0 (by omega) (by rw[hj];simpa using ew) fin hs
 ·have hj:(i+(Y5.toArray.size:Int)).toNat=j:=by
   rw[seqIndex_neg (by omega) h4]at J;rw[Y0,<-hl];exact Y8 J
  exact subscriptTail_builtinR (x:=w) pl.isList.typeIs slot_list_getitem.lookup
   (wpAny_getItem_list_neg (Q:=fun r s'=>r=w/\EP X pins σ Q r s') pl.isList (by omega) (by rw[Y0]<;>omega) (by omega) (by rw[hj];simpa using ew) ⟨Y,fin⟩) hs
theorem Yj:nG X (lR X.K):=by
 intro value slice pins s σ H x y v u Q I rx ry h hs;obtain⟨p,xs,i,z,rfl,rfl,hq,he,q⟩:=h;cases rx;obtain⟨t,rfl⟩:=ry;obtain⟨Y5,r,pl,hz⟩:=I.tuple hq;obtain⟨j,J,h2,h3,h4,h5⟩:=IG he;obtain⟨w,ew,BQ⟩:=r.get h2;have hl:=r.length;have hn:=LX;have fin:EP X pins σ Q w s:=⟨z,H,I,BQ,q⟩;exact subscriptTail_builtinR (x:=w) pl.typeIs slot_tuple_getitem.lookup
  (getItem_tuple (j:=j) (Q:=fun r s'=>r=w/\EP X pins σ Q r s') pl (by omega) (by omega) (by rw[Y0,<-hl];exact J) (by simpa using ew) ⟨Y,fin⟩) hs
theorem Ez(Y5:List Value)(n j:Nat)(u:Value):Obj.mapSeq (·.setIfInBounds j u) {cls:=.type "list",data:=.seq Y5.toArray n}={cls:=.type "list",data:=.seq (Y5.set j u).toArray n}:=by simp[Obj.mapSeq]
theorem Inv.lst{pins:List (Addr×Obj)}{σ:St}{H:Hp}{s:Shared}{p:Addr}{xs:List V}(I:Inv X pins σ H s)(h:H p=some (.lst xs)):∃(Y5:List Value) (n:Nat),Vals xs Y5/\s.heap.get? p=some {cls:=.type "list",data:=.seq Y5.toArray n}/\xs.length<=sizeLine:=by
 obtain⟨z,Y5,n,r,e⟩:=I.X3 p _ h;exact⟨Y5,n,r,e,z⟩
theorem Inv.tG{pins:List (Addr×Obj)}{σ:St}{H:Hp}{s:Shared}{p:Addr}{xs ys:List V}{Y5 its':List Value}{n n':Nat}{f:Obj->Obj}(I:Inv X pins σ H s)(h:H p=some (.lst xs))(ho:s.heap.get? p=some {cls:=.type "list",data:=.seq Y5.toArray n})(hf:f {cls:=.type "list",data:=.seq Y5.toArray n}={cls:=.type "list",data:=.seq its'.toArray n'})(r:Vals ys its')(hz:ys.length<=sizeLine)(t:Nat):Inv X pins σ (upd H p (.lst ys)) {s with heap:=s.heap.update p f,toks:=t}:=by
 have e:(s.heap.update p f).get? p=some {cls:=.type "list",data:=.seq its'.toArray n'}:=by rw[Heap.get?_update_self f ho (by rw[hf]<;>rfl),hf]
 refine I.write (x:=p) (e:=p) (by rw[h];trivial) (.inl Y) (fun b u O q=>(Uu _ _ (Xb O)).trans q) ⟨_,e⟩ ?_;exact⟨hz,its',n',r,e⟩
def pT:V->V->V->Hp->(Hp->Prop)->Prop:=fun o i v H Q=>∃p xs k j,o=.ref p/\i=.int k/\H p=some (.lst xs)/\BR xs.length k=some j/\Q (upd H p (.lst (xs.set j v)))
theorem set_list:tR X pT:=by
 intro pins s σ H o i v ov iv u Q I ro ri rv h;obtain⟨p,xs,k,j,rfl,rfl,hp,hj,q⟩:=h;cases ro;obtain⟨t,rfl⟩:=ri;obtain⟨Y5,n,r,ho,hz⟩:=I.lst hp;obtain⟨J,h2,h3,h4⟩:=C8 hj;have hl:=r.length;have hn:=LX;have I':Inv X pins σ (upd H p (.lst (xs.set j v))) {s with heap:=s.heap.update p (Obj.mapSeq (·.setIfInBounds j u))}:=
  I.tG hp ho (Ez Y5 n j u) (r.set rv j) (by rw[List.length_set];exact hz) s.toks
 by_cases h0:0<=k
 ·have hk:k.toNat=j:=by
   rw[seqIndex_of h0 h4]at J;exact Y8 J
  exact W.ki_setAt ho h0 (by omega) (by rw[Y0,<-hl];exact h4) (by rw[hk];exact⟨_,I',q⟩)
 ·have hk:(k+(Y5.toArray.size:Int)).toNat=j:=by
   rw[seqIndex_neg (by omega) h3]at J;rw[Y0,<-hl];exact Y8 J
  exact W.ki_setBack ho (by omega) (by rw[Y0,<-hl];exact h3) (by omega) (by rw[hk];exact⟨_,I',q⟩)
theorem IF(lo hi:Option Int)(n:Nat):(sliceBounds lo hi none n).1=((HT.GS n 0 lo:Nat):Int)/\(sliceBounds lo hi none n).2.1=((HT.GS n n hi:Nat):Int)/\(sliceBounds lo hi none n).2.2=1:=by
 refine⟨?_,?_,Y⟩
 ·cases lo with
  |none=>simp [sliceBounds,HT.GS]
  |some i=>
   simp only[sliceBounds,HT.GS,Option.getD_none,show(1:Int)>0 by decide,if_true];by_cases h:i<0;·simp only[h,if_true]<;>omega
   ·simp only[h,if_false]<;>omega
 ·cases hi with
  |none=>simp [sliceBounds,HT.GS]
  |some i=>
   simp only[sliceBounds,HT.GS,Option.getD_none,show(1:Int)>0 by decide,if_true];by_cases h:i<0;·simp only[h,if_true]<;>omega
   ·simp only[h,if_false]<;>omega
theorem Km(Y5:List Value)(lo hi:Option Int):slicePick Y5.toArray lo hi none=((Y5.drop (HT.GS Y5.length 0 lo)).take (HT.GS Y5.length Y5.length hi-HT.GS Y5.length 0 lo)).toArray:=by
 obtain⟨J,h2,h3⟩:=IF lo hi Y5.toArray.size;unfold slicePick;rw[J,h2,h3];simp only[sliceRange_one,pick_run,Y0]<;>rfl
def lQ(K:W.Frag):V->Option Int->Option Int->Hp->VK->Prop:=fun x lo hi H Q=>∃a xs,x=.ref a/\Zw K H a xs/\∀p,H p=none->Q (.ref p) (upd H p (.lst (IH xs lo hi)))
theorem C7:iG X (lQ X.K):=by
 intro pins s σ H x v vl vu lo hi sl Q I rx hs pl pu h;obtain⟨a,xs,rfl,hx,q⟩:=h;cases rx;obtain⟨Y5,r,ht,hz⟩:=I.list hx;have hlen:=r.length;refine⟨"list",_,slot_list_getitem.lookup,ht.isList.typeIs,?_⟩;refine wpAny_getItem_list_slice ht.isList hs pl pu .none (by simp) ?_ (by rw[Y0]<;>omega);rw[Km,<-hlen];refine⟨.ref s.heap.objs.size,_,I.laid (t':=s.toks) (o:=.lst (IH xs lo hi)) (fun b ob q=>Yw _ q) (ZK _) ?_,Y,q _ (I.X3.fresh (ZK _))⟩;exact⟨ZA (GQ xs lo hi) hz,_,0,(r.drop (HT.GS xs.length 0 lo)).take (HT.GS xs.length xs.length hi-HT.GS xs.length 0 lo),Xa _ rfl⟩
def Pc:V->Bool
 |.Xf=>true
 |.bl _=>true
 |.int _=>true
 |.str _=>true
 |_=>false
noncomputable def uO:V->V->Bool
 |.Xf,.Xf=>true
 |.bl a,.bl b=>a==b
 |.bl a,.int b=>(if a then 1 else 0)==b
 |.int a,.bl b=>a==(if b then 1 else 0)
 |.int a,.int b=>a==b
 |.str a,.str b=>a==b
 |_,_=>false
theorem tF{A:Around}{s:Shared}{y x:V}{u v:Value}(ry:RelV y u)(rx:RelV x v)(fy:Pc y=true)(fx:Pc x=true):SeqAt.EqAt A s u v (uO y x):=by
 cases y with
 |Xf=>
  cases ry;cases x with
  |Xf=>cases rx;exact SeqAt.EqAt.same _
  |bl b=>cases rx;exact SeqAt.EqAt.none_bool b
  |int b=>obtain ⟨t,rfl⟩:=rx;exact SeqAt.EqAt.none_int b t
  |str b=>obtain ⟨t,rfl⟩:=rx;exact SeqAt.EqAt.none_str b t
  |_=>exact absurd (show false=true from fx) Yr
 |bl a=>
  cases ry;cases x with
  |Xf=>cases rx;exact SeqAt.EqAt.bool_none a
  |bl b=>cases rx;exact SeqAt.EqAt.bool_bool a b
  |int b=>obtain ⟨t,rfl⟩:=rx;exact SeqAt.EqAt.bool_int a b t
  |str b=>obtain ⟨t,rfl⟩:=rx;exact SeqAt.EqAt.bool_str a b t
  |_=>exact absurd (show false=true from fx) Yr
 |int a=>
  obtain⟨t',rfl⟩:=ry;cases x with
  |Xf=>cases rx;exact SeqAt.EqAt.int_none a t'
  |bl b=>cases rx;exact SeqAt.EqAt.int_bool a t' b
  |int b=>obtain ⟨t,rfl⟩:=rx;exact SeqAt.EqAt.int_int a t' b t
  |str b=>obtain ⟨t,rfl⟩:=rx;exact SeqAt.EqAt.int_str a t' b t
  |_=>exact absurd (show false=true from fx) Yr
 |str a=>
  obtain⟨t',rfl⟩:=ry;cases x with
  |Xf=>cases rx;exact SeqAt.EqAt.str_none a t'
  |bl b=>cases rx;exact SeqAt.EqAt.str_bool a t' b
  |int b=>obtain ⟨t,rfl⟩:=rx;exact SeqAt.EqAt.str_int a t' b t
  |str b=>obtain ⟨t,rfl⟩:=rx;exact SeqAt.EqAt.str_str a t' b t
  |_=>exact absurd (show false=true from fx) Yr
 |_=>exact absurd (show false=true from fy) Yr
noncomputable def Ey(x:V)(u:Value):Bool:=match u with
 |.none=>uO .Xf x
 |.bool b=>uO (.bl b) x
 |.int i _=>uO (.int i) x
 |.str z _=>uO (.str z) x
 |_=>false
theorem An{x y:V}{u:Value}(r:RelV y u)(f:Pc y=true):Ey x u=uO y x:=by
 cases y with
 |Xf=>cases r;rfl
 |bl b=>cases r;rfl
 |int i=>obtain ⟨t,rfl⟩:=r;rfl
 |str z=>obtain ⟨t,rfl⟩:=r;rfl
 |_=>exact absurd (show false=true from f) Yr
theorem Pb{x:V}:∀{xs:List V}{us:List Value},Vals xs us->xs.all Pc=true->us.any (Ey x)=xs.any fun y=>uO y x
 |_,_,.nil,_=>rfl
 |y::xs,u::us,.cons r t,f=>by
  rw[List.all_cons,Yi]at f;rw[Ts,Ts,An r f.1,Pb t f.2]
theorem RA{A:Around}{s:Shared}{x:V}{v:Value}(rx:RelV x v)(fx:Pc x=true):∀{xs:List V}{us:List Value},Vals xs us->xs.all Pc=true->∀u∈us,SeqAt.EqAt A s u v (Ey x u)
 |_,_,.nil,_=>fun u hu=>by cases hu
 |y::xs,u::us,.cons r t,f=>fun u' hu=>by
  rw[List.all_cons,Yi]at f;rcases ZE.mp hu with rfl|hu;·rw[An r f.1];exact tF r rx f.1 fx
  ·exact RA rx fx t f.2 u' hu
def nF(x:V)(xs:List V):Bool:=xs.any fun y=>uO y x
def iE(K:W.Frag)(neg:Bool):R2:=fun x y H Q=>∃p xs,y=.ref p/\(Zw K H p xs\/U4 K H p xs)/\Pc x=true/\xs.all Pc=true/\Q (.bl (if neg then !nF x xs else nF x xs)) H
theorem BP:Pd X (compareOp .In) (iE X.K false):=by
 intro pins s σ H x y v u Q I rx ry h;obtain⟨p,xs,rfl,hq,fx,fs,q⟩:=h;cases ry;rcases hq with hq|hq
 ·obtain⟨Y5,r,pl,hz⟩:=I.list hq;refine SeqAt.in_listAt (Ey x) pl.isList (fun w hw=>RA rx fx r fs w (by simpa using hw)) ⟨.bl _,H,I,Y,?_⟩;rw[show Y5.toArray.any (Ey x)=Y5.any (Ey x) by simp,Pb r fs];exact q
 ·obtain⟨Y5,r,pl,hz⟩:=I.tuple hq;refine SeqAt.in_tupleAt (Ey x) pl (fun w hw=>RA rx fx r fs w (by simpa using hw)) ⟨.bl _,H,I,Y,?_⟩;rw[show Y5.toArray.any (Ey x)=Y5.any (Ey x) by simp,Pb r fs];exact q
theorem Pa:Pd X (compareOp .NotIn) (iE X.K true):=by
 intro pins s σ H x y v u Q I rx ry h;obtain⟨p,xs,rfl,hq,fx,fs,q⟩:=h;cases ry;rcases hq with hq|hq
 ·obtain⟨Y5,r,pl,hz⟩:=I.list hq;refine SeqAt.notIn_listAt (Ey x) pl.isList (fun w hw=>RA rx fx r fs w (by simpa using hw)) ⟨.bl _,H,I,Y,?_⟩;rw[show Y5.toArray.any (Ey x)=Y5.any (Ey x) by simp,Pb r fs];exact q
 ·obtain⟨Y5,r,pl,hz⟩:=I.tuple hq;refine SeqAt.notIn_tupleAt (Ey x) pl (fun w hw=>RA rx fx r fs w (by simpa using hw)) ⟨.bl _,H,I,Y,?_⟩;rw[show Y5.toArray.any (Ey x)=Y5.any (Ey x) by simp,Pb r fs];exact q
theorem Zd:NI X (.builtin "len") (fun xs H Q=>∃p ys,xs=[.ref p]/\(Zw X.K H p ys\/U4 X.K H p ys)/\Q (.int ys.length) H):=by
 intro pins s σ H xs us Q I r h;obtain⟨p,ys,rfl,hq,q⟩:=h;obtain⟨u,rfl,rx⟩:=vals1 r;cases rx;have hn:=LX;rcases hq with hq|hq
 ·obtain⟨Y5,r',pl,hz⟩:=I.list hq;have hlen:=r'.length;exact Calls.call_len_list pl.isList (by simp only[Y0]<;>omega) ⟨.int ys.length,H,I.tok _,⟨s.toks+1,by rw[Y0,hlen]⟩,q⟩
 ·obtain⟨Y5,r',pl,hz⟩:=I.tuple hq;have hlen:=r'.length;exact len_tuple pl (by simp only[Y0]<;>omega) ⟨.int ys.length,H,I.tok _,⟨s.toks+1,by rw[Y0,hlen]⟩,q⟩
theorem Wr:NI X (.type "list") (fun xs H Q=>∃p ys,xs=[.ref p]/\(Zw X.K H p ys\/U4 X.K H p ys)/\∀l,H l=none->Q (.ref l) (upd H l (.lst ys))):=by
 intro pins s σ H xs us Q I r h;obtain⟨p,ys,rfl,hq,q⟩:=h;obtain⟨u,rfl,rx⟩:=vals1 r;cases rx;have fin:∀(Y5:List Value),Vals ys Y5->ys.length<=sizeLine->∀(h':Heap)(c':Nat),(∀b o',s.heap.get? b=some o'->h'.get? b=some o')->
  h'.get? s.heap.objs.size=some {cls:=.type "list",dict:=none,data:=.seq Y5.toArray c',slots:=#[]}->EP X pins σ Q (.ref s.heap.objs.size) {s with heap:=h'}:=fun Y5 r' hz h' c' kp e=>
  ⟨.ref s.heap.objs.size,_,I.laid (t':=s.toks) kp (ZK _) (show WZ X.prog X.w _ h' _ (.lst ys)from⟨hz,Y5,c',r',e⟩),Y,q _ (I.X3.fresh (ZK _))⟩
 rcases hq with hq|hq
 ·obtain⟨Y5,r',pl,hz⟩:=I.list hq;have hlen:=r'.length;obtain⟨o,ho,hc,n,hd⟩:=pl.isList;exact call_list_seq p (.inl Y) ho hc hd (fun h' c' kp e=>fin Y5 r' hz h' c' kp e) (by simp only[Y0]<;>omega)
 ·obtain⟨Y5,r',pl,hz⟩:=I.tuple hq;have hlen:=r'.length;obtain⟨o,ho,hc,n,hd⟩:=pl;exact call_list_seq p (.inr Y) ho hc hd (fun h' c' kp e=>fin Y5 r' hz h' c' kp e) (by simp only[Y0]<;>omega)
def lP(K:W.Frag)(T:String)(x:V)(H:Hp):Prop:=match x with
 |.str _=>T="str"
 |.int _=>T="int"
 |.ref p=>(T="list"/\∃xs,Zw K H p xs)\/(T="tuple"/\∃o,K.lookup p=some o/\o.cls=.type "tuple"/\o.dict=none)\/
  (T="dict"/\((∃Zp,H p=some (.dK Zp))\/∃Zp,H p=some (.dT Zp)))\/(T="set"/\∃S n,H p=some (.set S n))
 |_=>False
theorem Am{pins:List (Addr×Obj)}{σ:St}{H:Hp}{s:Shared}{T:String}{x:V}{v:Value}(I:Inv X pins σ H s)(r:RelV x v)(ty:lP X.K T x H):s.TypeIs v T/\∀a,v=.ref a->∃ob,s.heap.get? a=some ob/\ob.dict=none:=by
 cases x with
 |str z=>
  obtain⟨t,rfl⟩:=r;cases(show T="str" from ty);exact⟨typeIs_str s z t,fun _ e=>nomatch e⟩
 |int i=>
  obtain⟨t,rfl⟩:=r;cases(show T="int" from ty);exact⟨typeIs_int s i t,fun _ e=>nomatch e⟩
 |ref p=>
  cases r;rcases ty with⟨rfl,xs,hq⟩|⟨rfl,o,hk,hc,hd⟩|⟨rfl,hk⟩|⟨rfl,S,n,hk⟩
  ·obtain⟨Y5,_,pl,_⟩:=I.list hq;refine⟨pl.isList.typeIs,fun a e=>?_⟩;cases e;obtain⟨o,n,e,c,hd,_⟩:=pl;exact⟨o,e,hd⟩
  ·refine⟨⟨o,I.EW p o hk,hc⟩,fun a e=>?_⟩;cases e;exact⟨o,I.EW _ o hk,hd⟩
  ·have z:∃o,s.heap.get? p=some o/\o.ExactDict:=by
    rcases hk with⟨Zp,hk⟩|⟨Zp,hk⟩
    ·obtain⟨_,_,_,_,o,_,_,e,ex,_⟩:=I.X3 p _ hk;exact⟨o,e,ex⟩
    ·obtain⟨_,_,_,_,o,_,_,e,ex,_⟩:=I.X3 p _ hk;exact⟨o,e,ex⟩
   obtain⟨o,e,ex⟩:=z;refine⟨⟨o,e,ex.1⟩,fun a e2=>?_⟩;cases e2;exact⟨o,e,ex.2.1⟩
  ·obtain⟨o,_,_,_,e,ex,_⟩:=I.X3 p _ hk;refine⟨⟨o,e,ex.1⟩,fun a e2=>?_⟩;cases e2;exact⟨o,e,ex.2.1⟩
 |_=>exact False.elim ty
def lO(K:W.Frag)(T:String)(r:V->List V->Hp->VK->Prop)(to:TE):TE:=fun σ H Q=>to σ H fun x H1=>lP K T x H1/\r x [] H1 Q
def fh(K:W.Frag)(T:String)(r:V->List V->Hp->VK->Prop)(to:TE)(t:TA):TE:=fun σ H Q=>to σ H fun x H1=>lP K T x H1/\t σ H1 fun xs H2=>r x xs H2 Q
variable{o e:Expr}{es:List Expr}{to:TE}{t:TA}{name:Str}{apos Rz:Pos}{T id:String}{r:V->List V->Hp->VK->Prop}
theorem tE(pa:PlainAttrs T)(slot:Slot T name id)(lN:typeOf (.builtin id)=pure (.type "method_descriptor"))(hm:iF X id r)(ho:PE X o to)(Ak:attributeBase o name X.env (eval o X.env)=eval o X.env:=by rfl)(Aj:(apos.endLine==Rz.line)=true:=by rfl):PE X (.Call (.Attribute o name apos) [] [] Rz) (lO X.K T r to):=by
 intro pins s σ H Q I h;refine wpAny_Call_method0_late Ak Aj (X8 (ho pins s σ H _ I h) fun v s1 ⟨x,H1,I1,r1,ty,q1⟩=>?_);obtain⟨J,h2⟩:=Am I1 r1 ty;exact⟨T,id,pa,slot,lN,J,h2,Calls.callWith_builtin Y (PySem.evalArgs_none (hm pins s1 σ H1 x [] v [] Q I1 r1 .nil q1))⟩
theorem UU(pa:PlainAttrs T)(slot:Slot T name id)(lN:typeOf (.builtin id)=pure (.type "method_descriptor"))(hm:iF X id r)(ho:PE X o to)(ha:PA X (e::es) t)(Ak:attributeBase o name X.env (eval o X.env)=eval o X.env:=by rfl)(lM:((backTo Rz (starEach (e::es) X.env)).all (fun x=>!x.1)&&(backToKw Rz (keywordEach [] X.env)).all (fun x=>x.1.isSome)&&decide ((e::es).length+([]:List Keyword).length+(if([]:List Keyword).isEmpty then 0 else 1)<30))=true:=by rfl)(Aj:(apos.endLine==Rz.line)=true:=by rfl)(hs:starEach (e::es) X.env=(false,eval e X.env)::starEach es X.env:=by rfl)(tD:(backTo Rz (starEach es X.env)).any (·.1)=false:=by rfl):PE X (.Call (.Attribute o name apos) (e::es) [] Rz) (fh X.K T r to t):=by
 intro pins s σ H Q I h;refine wpAny_Call_method_late Ak lM Aj Y (X8 (ho pins s σ H _ I h) fun v s1 ⟨x,H1,I1,r1,ty,q1⟩=>?_);obtain⟨J,h2⟩:=Am I1 r1 ty;refine⟨T,id,pa,slot,lN,J,h2,?_⟩;have hA:=ha Rz pins s1 σ H1 _ I1 q1;rw[hs]at hA⊢;refine Calls.callWith_builtin (by show(false||(backTo Rz (starEach es X.env)).any (·.1))=false;rw[tD]<;>rfl) (Calls.evalArgs_plain ?_);exact X8 hA fun us s2 ⟨vs,H2,I2,r2,q2⟩=>hm pins s2 σ H2 x vs v us Q I2 r1 r2 q2
end
def lL(X:Cx)(id:String)(r:V->List V->Hp->VK->Prop):Prop:=
 ∀(pins:List (Addr×Obj))(s:Shared)(σ:St)(H:Hp)(x:V)(xs:List V)(v:Value)(us:List Value)(Q:VK),Inv X pins σ H s->RelV x v->Vals xs us->r x xs H Q->
  wpAny (model X.prog X.w) X.A (call (.builtin id) (v::us)) (EP X pins σ Q) X.xe s
theorem Vals.one:∀{x:V}{us:List Value},Vals [x] us->∃u,us=[u]/\RelV x u
 |_,_,.cons r .nil=>Z1 Y r
theorem Vals.zero:∀{us:List Value},Vals [] us->us=[]
 |_,.nil=>rfl
theorem Vals.dropLast{xs:List V}{us:List Value}(h:Vals xs us):Vals xs.dropLast us.dropLast:=by
 induction h with
 |nil=>exact .nil
 |cons r t ih=>
  cases t with
  |nil=>exact .nil
  |cons q t'=>exact .cons r ih
theorem Vals.rep{xs:List V}{us:List Value}(h:Vals xs us):∀k:Nat,Vals (List.replicate k xs).flatten (List.replicate k us).flatten
 |0=>.nil
 |k+1=>by
  rw[RH,RH,List.flatten_cons,List.flatten_cons];exact Vals.append h (Vals.rep h k)
theorem Ex{α:Type}(l:List α):l.eraseIdx (l.length-1)=l.dropLast:=by
 induction l with
 |nil=>rfl
 |cons a r ih=>
  cases r with
  |nil=>rfl
  |cons b r=>
   have e:(a::b::r).length-1=((b::r).length-1)+1:=by
    have J:(a::b::r).length=r.length+2:=rfl;have h2:(b::r).length=r.length+1:=rfl;omega
   rw[e,List.eraseIdx_cons_succ,ih];all_goals rfl
theorem foldl_rep(Y5:List Value):∀(k:Nat)(acc:List Value),List.foldl (fun x1 x2=>x1++x2) acc.toArray (List.replicate k Y5.toArray)=(acc++(List.replicate k Y5).flatten).toArray
 |0,acc=>by simp
 |k+1,acc=>by
  have e:acc.toArray++Y5.toArray=(acc++Y5).toArray:=by simp
  have e2:(acc++Y5)++(List.replicate k Y5).flatten=acc++(List.replicate (k+1) Y5).flatten:=by rw[RH,List.flatten_cons,VX]
  rw[<-e2,<-foldl_rep Y5 k (acc++Y5),<-e,RH,RJ]
section
variable{X:Cx}{pins:List (Addr×Obj)}{σ:St}{H:Hp}{s:Shared}{l b:Addr}{xs ys zs:List V}
theorem Inv.tw{Y5 its':List Value}{n:Nat}{f:Array Value->Array Value}{t':Nat}(I:Inv X pins σ H s)(hH:H l=some (.lst xs))(e:s.heap.get? l=some {cls:=.type "list",data:=.seq Y5.toArray n})(hf:f Y5.toArray=its'.toArray)(hv:Vals ys its')(hz:ys.length<=sizeLine):Inv X pins σ (upd H l (.lst ys)) {s with heap:=s.heap.update l (Obj.mapSeq f),toks:=t'}:=by
 have q:=PySem.IsL.update e f;rw[hf]at q;refine I.write (x:=l) (e:=l) (by rw[hH];exact trivial) (.inl Y) (fun b' u O hu=>(Uu s.heap (Obj.mapSeq f) (Xb O)).trans hu) ⟨_,q⟩ ?_;exact⟨hz,its',_,hv,q⟩
theorem Inv.pS{Y5:List Value}{t':Nat}(I:Inv X pins σ H s)(hv:Vals ys Y5)(hz:ys.length<=sizeLine):Inv X pins σ (upd H s.heap.objs.size (.lst ys)) {s with heap:=s.heap.push {cls:=.type "list",data:=.seq Y5.toArray},toks:=t'}:=
 I.laid (fun _ _ q=>Yw _ q) (ZK _) ⟨hz,Y5,0,hv,Xa _ rfl⟩
theorem Inv.fresh(I:Inv X pins σ H s):H s.heap.objs.size=none:=I.X3.fresh (ZK _)
theorem Inv.Ew(I:Inv X pins σ H s)(hH:H l=some (.lst xs)):xs.length<=sizeLine/\∃(Y5:List Value) (n:Nat),Vals xs Y5/\xs.length=Y5.length/\s.heap.get? l=some {cls:=.type "list",data:=.seq Y5.toArray n}:=by
 obtain⟨z,Y5,n,r,e⟩:=I.X3 l _ hH;exact⟨z,Y5,n,r,r.length,e⟩
theorem GO{n:Nat}(h:n<=sizeLine):Builtin.List.listTooLong n=false:=by
 unfold Builtin.List.listTooLong;exact ZC (by omega)
end
section
variable{X:Cx}
def wY:V->List V->Hp->VK->Prop:=fun x vs H Q=>∃l xs y,x=.ref l/\vs=[y]/\H l=some (.lst xs)/\xs.length<sizeLine/\Q .Xf (upd H l (.lst (xs++[y])))
theorem W8:lL X "list.append" wY:=by
 intro pins s σ H x vs v us Q I rx rv h;obtain⟨l,xs,y,rfl,rfl,hH,hz,q⟩:=h;cases rx;obtain⟨u,rfl,ru⟩:=rv.one;obtain⟨z,Y5,n,r,hl,e⟩:=I.Ew hH;refine call_meets WN ⟨_,e,Y⟩ F.entry_list_append (F.args_list_append_2 _ _) (PySem.list_append l Y5.toArray n u (by rw[Y0];omega)) ⟨e,?_⟩;refine⟨.Xf,_,I.tw (its':=Y5++[u]) hH e (by simp) (r.append (.cons ru .nil)) ?_,Y,q⟩;rw[ZF,List.length_singleton];omega
def wX:V->List V->Hp->VK->Prop:=fun x vs H Q=>∃l b xs zs,x=.ref l/\vs=[.ref b]/\H l=some (.lst xs)/\H b=some (.lst zs)/\xs.length+zs.length<=sizeLine/\Q .Xf (upd H l (.lst (xs++zs)))
theorem Ta:lL X "list.extend" wX:=by
 intro pins s σ H x vs v us Q I rx rv h;obtain⟨l,b,xs,zs,rfl,rfl,hH,hB,hz,q⟩:=h;cases rx;obtain⟨u,rfl,ru⟩:=rv.one;cases ru;obtain⟨z,Y5,n,r,hl,e⟩:=I.Ew hH;obtain⟨z2,LW,n2,r2,e_,e2⟩:=I.Ew hB;have hsz:Y5.toArray.size+LW.toArray.size<=sizeLine:=by rw[Y0,Y0];omega
 have Ai:¬(!Y5.toArray.isEmpty&&Builtin.List.listTooLong (Y5.toArray.size+LW.toArray.size))=true:=by
  rw[GO hsz,Bool.and_false];exact Yr
 refine call_meets Ti ⟨_,e,Y⟩ F.entry_list_extend (F.args_list_extend_2 _ _)
  (AutoSeq1.list_extend_list_list_0 l Y5.toArray n b LW.toArray n2 Ai (by rw[Y0];omega) (by omega)) ⟨e,e2,?_⟩
 refine⟨.Xf,_,I.tw (its':=Y5++LW) hH e (by simp) (r.append r2) ?_,Y,q⟩;rw[ZF];omega
def lK:V->List V->Hp->VK->Prop:=fun x vs H Q=>∃l xs y,x=.ref l/\vs=[]/\H l=some (.lst xs)/\xs[xs.length-1]?=some y/\Q y (upd H l (.lst xs.dropLast))
theorem tu:lL X "list.pop" lK:=by
 intro pins s σ H x vs v us Q I rx rv h;obtain⟨l,xs,y,rfl,rfl,hH,hy,q⟩:=h;cases rx;have e9:=rv.zero;subst e9;obtain⟨z,Y5,n,r,hl,e⟩:=I.Ew hH;obtain⟨u,hu,ru⟩:=r.get hy;have pR:Y5.toArray[Y5.toArray.size-1]?=some u:=by
  show Y5.toArray[Y5.length-1]?=some u;rw[<-Array.getElem?_toList,<-hl];exact hu
 refine call_meets F.slot_list_pop ⟨_,e,Y⟩ F.entry_list_pop (F.args_list_pop_1 _) (MeetsSeq.list_pop_last l Y5.toArray n u pR (by rw[Y0];omega)) ⟨e,?_⟩;refine⟨y,_,I.tw (its':=Y5.dropLast) hH e ?_ r.dropLast ?_,ru,q⟩
 ·show Y5.toArray.eraseIdxIfInBounds (Y5.toArray.size-1)=Y5.dropLast.toArray;rw[Y0,List.eraseIdxIfInBounds_toArray,Ex]
 ·rw[List.length_dropLast];omega
def lJ:R2:=fun x y H Q=>∃l b xs zs,x=.ref l/\y=.ref b/\H l=some (.lst xs)/\H b=some (.lst zs)/\xs.length+zs.length<=sizeLine/\∀p,H p=none->Q (.ref p) (upd H p (.lst (xs++zs)))
theorem Ut:Pd X (binaryOp .Add) lJ:=by
 intro pins s σ H x y v u Q I rx ry h;obtain⟨l,b,xs,zs,rfl,rfl,hH,hB,hz,q⟩:=h;cases rx;cases ry;obtain⟨z,Y5,n,r,hl,e⟩:=I.Ew hH;obtain⟨z2,LW,n2,r2,e_,e2⟩:=I.Ew hB;refine PySem.P.add_list e e2 ?_ (by rw[Y0,Y0];omega);have ea:Y5.toArray++LW.toArray=(Y5++LW).toArray:=by simp
 rw[ea];exact⟨.ref _,_,I.pS (t':=s.toks) (r.append r2) (by rw[ZF];omega),Y,q _ I.fresh⟩
def lI:R2:=fun x y H Q=>∃l k xs,x=.ref l/\y=.int k/\H l=some (.lst xs)/\-(2^63)<=k/\k<2^63/\xs.length*k.toNat<=sizeLine/\
 ∀p,H p=none->Q (.ref p) (upd H p (.lst (List.replicate k.toNat xs).flatten))
theorem len_rep{α:Type}(xs:List α)(k:Nat):(List.replicate k xs).flatten.length=k*xs.length:=by
 induction k with
 |zero=>simp
 |succ k ih=>rw [RH,List.flatten_cons,ZF,ih,Nat.succ_mul,Nat.add_comm]
theorem Eu:Pd X (binaryOp .Mult) lI:=by
 intro pins s σ H x y v u Q I rx ry h;obtain⟨l,k,xs,rfl,rfl,hH,J,h2,hz,q⟩:=h;cases rx;obtain⟨t,rfl⟩:=ry;obtain⟨z,Y5,n,r,hl,e⟩:=I.Ew hH;have hlen:Y5.toArray.size*k.toNat<=sizeLine:=by rw[Y0,<-hl];exact hz
 have lH:¬Y5.toArray.size*k.toNat>(2^63-1)/8:=by
  have:(sizeLine:Nat)<=(2^63-1)/8:=by decide
  omega
 have lF:¬(!Builtin.List.listFitsIndex k)=true:=by
  rw[fitsIndex_both J h2];exact Yr
 have Ai:¬Builtin.List.listTooLong (Y5.toArray.size*k.toNat)=true:=by
  rw[GO hlen];exact Yr
 have lE:List.foldl (fun x1 x2=>x1++x2) #[] (List.replicate (if Y5.toArray.isEmpty=true then 0 else k.toNat) Y5.toArray)=(List.replicate k.toNat Y5).flatten.toArray:=by
  have f0:∀m:Nat,List.foldl (fun x1 x2=>x1++x2) #[] (List.replicate m Y5.toArray)=(List.replicate m Y5).flatten.toArray:=fun m=>by
   have:=foldl_rep Y5 m [];rw[List.nil_append]at this;exact this
  rw[f0];cases Y5 with
  |nil=>simp
  |cons a r'=>rw [Z8 (by simp)]
 refine wpAny_binaryOp_repeat_ref (T:="list") (U:="int") (by decide) ⟨_,e,Y⟩ (fun s'=>typeIs_int s' k t) noFill_list_mul F.fills_int_mul F.slot_int_rmul repeat_list F.slot_int_index.lookup
  (call_meets F.slot_int_rmul (typeIs_int s k t) F.entry_int_rmul (F.args_int_rmul_2 _ _) (int___rmul___int_list k t l Y5.toArray n)
   ⟨e,Y,⟨_,e,Y⟩,call_meets F.slot_list_mul ⟨_,e,Y⟩ F.entry_list_mul (F.args_list_mul_2 _ _) (AutoListH.list___mul___list_int_3 l Y5.toArray n k t lF lH Ai) ⟨e,?_⟩⟩)
 rw[lE];exact⟨.ref _,_,I.pS (t':=s.toks) (r.rep k.toNat) (by rw[len_rep,Nat.mul_comm];exact hz),Y,q _ I.fresh⟩
end
theorem Vals.ints:∀{ns:List Int}{us:List Value},Vals (ns.map V.int) us->IntsAre us ns
 |[],us,h=>by
  rw[List.map_nil]at h;cases h;exact IntsAre.nil
 |n::ns,us,h=>by
  rw[Y1]at h;cases h with
  |cons r t=>
   obtain⟨k,rfl⟩:=r;exact IntsAre.cons n k (Vals.ints t)
theorem Vals.wW{a:Addr}{us:List Value}(r:Vals [V.ref a] us):us=[Value.ref a]:=by
 cases r with
 |cons r t=>
  cases t;cases r;rfl
section
variable{prog:Program}{w:World}{A:Around}{E:Value->Shared->Prop}{s:Shared}{l:Addr}{Y5:List Value}{ns:List Int}{Q:Value->Shared->Prop}
theorem wV(hh:A.handled=none)(hl:s.heap.IsList l Y5.toArray)(hi:IntsAre Y5 ns)(QN:0<ns.length)(h:∀h' tk M t',(∀b o,s.heap.get? b=some o->h'.get? b=some o)->M∈ns->(∀a,a∈ns->M<=a)->Q (.int M t') {s with heap:=h',toks:=tk}):wpAny (model prog w) A (call (.builtin "min") [.ref l]) Q E s:=by
 obtain⟨xs,e⟩:=hi.allInts.items;have hn:numsOf (intItems xs).toList=ns:=by rw[<-e];exact hi.numsOf
 rw[nums_intItems]at hn;subst hn;rw[e]at hl;have hsz:0<xs.size:=by simpa using QN
 refine PySem.min_intList hh hl hsz fun v h' tk hv hk=>?_;obtain⟨t,rfl⟩:=intItems_at hv;obtain⟨J,h2⟩:=argBest_lt (numAt xs) (xs.size-1);refine h h' tk _ t hk ?_ fun a ha=>?_;·rw[numAt_eq];exact PySem.getD_mem (by rw[Z3,SI];omega)
 ·obtain⟨j,hj,rfl⟩:=mem_getD ha;rw[Z3,SI]at hj;rw[<-numAt_eq];exact h2 j (by omega)
end
section
variable{X:Cx}
def lD(K:W.Frag):List V->Hp->VK->Prop:=fun vs H Q=>∃(a:Addr) (ns:List Int),vs=[V.ref a]/\Zw K H a (ns.map V.int)/\0<ns.length/\∀m,m∈ns->(∀y,y∈ns->m<=y)->Q (.int m) H
theorem tq(hc:X.calm=true):NI X (.builtin "min") (lD X.K):=by
 intro pins s σ H vs us Q I r h;obtain⟨a,ns,rfl,hs,QN,q⟩:=h;obtain⟨Y5,rv,hl,_⟩:=I.list hs;rw[Vals.wW r];exact wV (I.ok.hd hc) hl.isList rv.ints QN fun h' tk m t' hk J h2=>⟨.int _,H,I.kept hk,⟨_,Y⟩,q m J h2⟩
theorem wU{n:Nat}(h:n<64):n<=sizeLine:=by rw[sizeLine_eq];omega
end
mutual
inductive Dp(K:W.Frag)(H:Hp):V->PyData->Prop
 |Xf:Dp K H .Xf .none
 |bl (b:Bool):Dp K H (.bl b) (.bool b)
 |int (i:Int):Dp K H (.int i) (.int i)
 |str (x:Str):Dp K H (.str x) (.str x)
 |lst {a:Addr} {xs:List V} {ds:List PyData}:Zw K H a xs->ND K H xs ds->Dp K H (.ref a) (.list ds)
 |tup {a:Addr} {xs:List V} {ds:List PyData}:U4 K H a xs->ND K H xs ds->Dp K H (.ref a) (.tuple ds)
inductive ND(K:W.Frag)(H:Hp):List V->List PyData->Prop
 |nil:ND K H [] []
 |cons {v:V} {vs:List V} {d:PyData} {ds:List PyData}:Dp K H v d->ND K H vs ds->ND K H (v::vs) (d::ds)
end
section
variable{X:Cx}{pins:List (Addr×Obj)}{σ:St}{H:Hp}{s:Shared}
mutual
theorem Dp.reads(I:Inv X pins σ H s):∀(d:PyData)(v:V)(u:Value),Dp X.K H v d->RelV v u->∃as,Reads s.heap u d as
 |.none,_,_,h,r=>by
  cases h;cases r;exact⟨_,Reads.none⟩
 |.bool b,_,_,h,r=>by
  cases h;cases r;exact⟨_,Reads.bool b⟩
 |.int i,_,_,h,r=>by
  cases h;obtain⟨t,rfl⟩:=r;exact⟨_,Reads.int i t⟩
 |.str x,_,_,h,r=>by
  cases h;obtain⟨t,rfl⟩:=r;exact⟨_,Reads.str x t⟩
 |.list ds,_,_,h,r=>by
  cases h with
  |lst hs ha=>
   cases r;obtain⟨Y5,rv,⟨o,n,ho,hc,_,hd⟩,_⟩:=I.list hs;obtain⟨as,hr⟩:=Dp.readsAll I ds _ Y5 ha rv;exact⟨_,Reads.list ho hc hd hr⟩
 |.tuple ds,_,_,h,r=>by
  cases h with
  |tup hs ha=>
   cases r;obtain⟨Y5,rv,⟨o,ho,hc,n,hd⟩,_⟩:=I.tuple hs;obtain⟨as,hr⟩:=Dp.readsAll I ds _ Y5 ha rv;exact⟨_,Reads.tuple ho hc hd hr⟩
 |.dict _,_,_,h,_=>by cases h
theorem Dp.readsAll(I:Inv X pins σ H s):∀(ds:List PyData)(vs:List V)(us:List Value),ND X.K H vs ds->Vals vs us->∃as,ReadsAll s.heap us ds as
 |[],_,_,h,r=>by
  cases h;cases r;exact⟨_,ReadsAll.nil⟩
 |d::ds,_,_,h,r=>by
  cases h with
  |cons J h2=>
   cases r with
   |cons r1 r2=>
    obtain⟨as,q1⟩:=Dp.reads I d _ _ J r1;obtain⟨bs,q2⟩:=Dp.readsAll I ds _ _ h2 r2;exact⟨_,ReadsAll.cons q1 q2⟩
end
end
section
variable{X:Cx}
def lB(K:W.Frag):R2:=fun x y H Q=>∃d e,Dp K H x d/\Dp K H y e/\SeqAt.shaped d=true/\SeqAt.shaped e=true/\Q (.bl (PyData.eqv d e)) H
def lu(K:W.Frag):R2:=fun x y H Q=>∃d e,Dp K H x d/\Dp K H y e/\SeqAt.shaped d=true/\SeqAt.shaped e=true/\Q (.bl (!PyData.eqv d e)) H
theorem tm(hu:X.A.units+64<cLine):Pd X (compareOp .Eq) (lB X.K):=by
 intro pins s σ H x y v u Q I rx ry h;obtain⟨d,e,hd,he,sd,se,q⟩:=h;obtain⟨as,r1⟩:=Dp.reads I d x v hd rx;obtain⟨bs,r2⟩:=Dp.reads I e y u he ry;exact SeqAt.compareEq_shaped r1 r2 sd se hu ⟨.bl _,H,I,Y,q⟩
theorem IE(hu:X.A.units+64<cLine):Pd X (compareOp .NotEq) (lu X.K):=by
 intro pins s σ H x y v u Q I rx ry h;obtain⟨d,e,hd,he,sd,se,q⟩:=h;obtain⟨as,r1⟩:=Dp.reads I d x v hd rx;obtain⟨bs,r2⟩:=Dp.reads I e y u he ry;exact SeqAt.compareNe_shaped r1 r2 sd se hu ⟨.bl _,H,I,Y,q⟩
end
abbrev Ah(h:Heap)(c:Addr)(v:Option Value):Prop:=h.IsCell c v
noncomputable def lr(scope sc:Scope):Scope:=
 {scope with names:=scope.names.map fun(n,k)=>if(k==.free&&sc.kind==.function&&sc.names.lookup n==some .cell)then(n,.cell)else(n,k)}
noncomputable def Ya(cells:List (Str×Addr)):List (Str×NameKind)->List (Str×Addr)->List (Str×Addr)
 |[],acc=>acc
 |(n,k)::r,acc=>if k==.free then Ya cells r ((n,(cells.lookup n).getD 0)::acc)else Ya cells r acc
theorem O_(env:Env)(f:Str×NameKind->List (Str×Addr)->Sem (ForInStep (List (Str×Addr))))
 (hf:∀n k c,f (n,k) c=if k==.free then(do let a<-cellOf env n;pure (.yield ((n,a)::c)))else pure (.yield c)):
 ∀(names:List (Str×NameKind))(acc:List (Str×Addr)),(∀y∈names,y.2=.free->∃c,env.cells.lookup y.1=some c)->forIn names acc f=pure (Ya env.cells names acc)
 |[],acc,_=>by rw[List.forIn_nil];rfl
 |(n,k)::r,acc,h=>by
  rw[List.forIn_cons,hf];have ih:=fun acc=>O_ env f hf r acc fun y hy=>h y (Zf _ hy);unfold Ya;by_cases hk:(k==NameKind.free)=true
  ·rw[Z7 hk,Z7 hk];obtain⟨c,hc⟩:=h (n,k) YG (by simpa using hk);have e:cellOf env n=pure c:=by unfold cellOf;rw[hc]
   rw[e];have e2:(env.cells.lookup n).getD 0=c:=by rw[hc];rfl
   rw[e2];exact ih _
  ·rw[Z8 hk,Z8 hk];exact ih _
theorem Et{scope:Scope}{env:Env}(h:∀y∈scope.names,y.2=.free->∃c,env.cells.lookup y.1=some c):closureFor scope env=pure (Ya env.cells scope.names []):=by
 simp only[closureFor];rw[O_ env _ (fun n k c=>rfl) scope.names [] h];rfl
theorem mem_lookup{α:Type}:∀{l:List (Str×α)}{n:Str}{c:α},(n,c)∈l->∃c',l.lookup n=some c'
 |(k,v)::r,n,c,h=>by
  rw[Vc];cases O:n==k with
  |true=>exact ⟨_,Y⟩
  |false=>
   rcases ZE.mp h with e|h;·cases e;simp at O
   ·exact mem_lookup h
theorem T9{cells:List (Str×Addr)}:∀{names:List (Str×NameKind)}{acc:List (Str×Addr)}{n:Str}{c:Addr},(n,c)∈Ya cells names acc->(n,c)∈acc\/((n,.free)∈names/\c=(cells.lookup n).getD 0)
 |[],_,_,_,h=>.inl h
 |(m,k)::r,acc,n,c,h=>by
  unfold Ya at h;split at h
  ·rename_i hk;have hk:k=.free:=by simpa using hk
   rcases T9 h with h|⟨J,h2⟩
   ·rcases ZE.mp h with e|h;·cases e;exact .inr ⟨hk▸YG,Y⟩
    ·exact .inl h
   ·exact .inr ⟨Zf _ J,h2⟩
  ·rcases T9 h with h|⟨J,h2⟩;·exact .inl h
   ·exact .inr ⟨Zf _ J,h2⟩
theorem Ry{cells:List (Str×Addr)}:∀{names:List (Str×NameKind)}{acc:List (Str×Addr)}{p:Str×Addr},p∈acc->p∈Ya cells names acc
 |[],_,_,h=>h
 |(m,k)::r,acc,p,h=>by
  unfold Ya;split;·exact Ry (Zf _ h)
  ·exact Ry h
theorem Rx{cells:List (Str×Addr)}:∀{names:List (Str×NameKind)}{acc:List (Str×Addr)}{n:Str},(n,.free)∈names->(n,(cells.lookup n).getD 0)∈Ya cells names acc
 |(m,k)::r,acc,n,h=>by
  unfold Ya;rcases ZE.mp h with e|h
  ·cases e;exact Ry YG
  ·split;·exact Rx h
   ·exact Rx h
theorem S_:∀{names:List (Str×NameKind)}{h:Heap}{acc:List (Str×Addr)}{x:Str}{c:Addr},(x,c)∈cellsFrom h.objs.size names acc->(x,c)∈acc\/((x,.cell)∈names/\h.objs.size<=c/\Ah (pushCells h names) c none)
 |[],_,_,_,_,h=>.inl h
 |(n,k)::r,h,acc,x,c,hm=>by
  unfold cellsFrom at hm;unfold pushCells;split at hm
  ·rename_i hk;rw[Z7 hk];have hk:k=.cell:=by simpa using hk
   rw[<-W' h {cls:=.type "cell",data:=.cell none}]at hm;rcases S_ hm with hm|⟨J,h2,h3⟩
   ·rcases ZE.mp hm with e|hm
    ·cases e;exact .inr ⟨hk▸YG,ZK _,_,pushCells_keeps r _ _ _ (Xa _ rfl),Y⟩
    ·exact .inl hm
   ·rw[W']at h2;exact .inr ⟨Zf _ J,Nat.le_of_succ_le h2,h3⟩
  ·rename_i hk;rw[Z8 hk];rcases S_ hm with hm|⟨J,h2,h3⟩;·exact .inl hm
   ·exact .inr ⟨Zf _ J,h2,h3⟩
theorem QM:∀{names:List (Str×NameKind)}{n:Nat}{acc:List (Str×Addr)}{p:Str×Addr},p∈acc->p∈cellsFrom n names acc
 |[],_,_,_,h=>h
 |(m,k)::r,n,acc,p,h=>by
  unfold cellsFrom;split;·exact QM (Zf _ h)
  ·exact QM h
theorem Ob:∀{names:List (Str×NameKind)}{n:Nat}{acc:List (Str×Addr)}{x:Str},(x,.cell)∈names->∃c,(x,c)∈cellsFrom n names acc
 |(m,k)::r,n,acc,x,h=>by
  unfold cellsFrom;rcases ZE.mp h with e|h
  ·cases e;exact⟨n,QM YG⟩
  ·split;·exact Ob h
   ·exact Ob h
theorem Oa:∀{names:List (Str×NameKind)}{h:Heap}{acc:List (Str×Addr)}{x y:Str}{c:Addr},(∀p∈acc,p.2<h.objs.size)->(∀x y c,(x,c)∈acc->(y,c)∈acc->x=y)->(x,c)∈cellsFrom h.objs.size names acc->(y,c)∈cellsFrom h.objs.size names acc->x=y
 |[],_,_,_,_,_,_,hi,J,h2=>hi _ _ _ J h2
 |(n,k)::r,h,acc,x,y,c,hl,hi,J,h2=>by
  unfold cellsFrom at J h2;split at J
  ·rename_i hk;rw[Z7 hk]at h2;rw[<-W' h {cls:=.type "cell",data:=.cell none}]at J h2;refine Oa (h:=h.push _) (fun p hp=>?_) (fun x y c a b=>?_) J h2
   ·rw[W'];rcases ZE.mp hp with rfl|hp;·exact VR _
    ·exact XW (hl p hp)
   ·rcases ZE.mp a with e|a<;>rcases ZE.mp b with e'|b;·cases e;cases e';rfl
    ·cases e;exact absurd (hl _ b) (We _)
    ·cases e';exact absurd (hl _ a) (We _)
    ·exact hi _ _ _ a b
  ·rename_i hk;rw[Z8 hk]at h2;exact Oa hl hi J h2
theorem GN{M:Model}{A:Around}{E:Value->Shared->Prop}{s:Shared}{scope:Scope}{globals:Addr}{closure:List (Str×Addr)}{qual:Str}{func:Option Addr}{code:Value}{around:Env}{builtins:Addr}{Q:Env->Shared->Prop}(h:Q (newEnv scope s.heap.objs.size globals (cellsFrom (s.heap.objs.size+1) scope.names closure) qual func code (some around) builtins) {s with heap:=pushCells (s.heap.push {cls:=.type "dict",data:=.dict #[]}) scope.names}):wpAny M A (newFunctionEnv scope globals closure [] qual func code (some around) builtins) Q E s:=by
 simp only[newFunctionEnv,Option.isSome_some,if_true];refine ZU (wpAny_alloc ?_);refine ZU (wpAny_layCells _ (fun n k c=>rfl) scope.names closure _ _ ?_);rw[show({s with heap:=s.heap.push {cls:=.type "dict",data:=.dict #[]}}:Shared).heap.objs.size=s.heap.objs.size+1 from W' ..];rw[List.forIn_nil];exact ZU (Zq (Zq h))
theorem Rv{sc:Scope}:∀{names:List (Str×NameKind)}{x:Str}{k:NameKind},(names.map fun(n,k)=>if(k==NameKind.free&&sc.kind==.function&&sc.names.lookup n==some .cell)then(n,NameKind.cell)else(n,k)).lookup x=some k->∃k',names.lookup x=some k'/\(k=k'\/(k'=.free/\k=.cell))
 |[],_,_,h=>by simp at h
 |(n,Ag)::r,x,k,h=>by
  have ih:=@Rv sc r x k;have h':List.lookup x ((if(Ag==NameKind.free&&sc.kind==.function&&sc.names.lookup n==some .cell)=true then(n,NameKind.cell)else(n,Ag))::(r.map _))=some k:=h;cases hx:x==n with
  |true=>
   simp only[Vc,hx];by_cases hc:(Ag==NameKind.free&&sc.kind==.function&&sc.names.lookup n==some .cell)=true
   ·rw[Z7 hc]at h';simp only[Vc,hx]at h';cases h';simp only[Yi,W_]at hc;exact⟨Ag,Y,.inr ⟨hc.1.1,Y⟩⟩
   ·rw[Z8 hc]at h';simp only[Vc,hx]at h';cases h';exact Z1 Y (.inl Y)
  |false=>
   simp only[Vc,hx];by_cases hc:(Ag==NameKind.free&&sc.kind==.function&&sc.names.lookup n==some .cell)=true
   ·rw[Z7 hc]at h';simp only[Vc,hx]at h';exact ih h'
   ·rw[Z8 hc]at h';simp only[Vc,hx]at h';exact ih h'
structure GL(N:List Str)(sc scope:Scope)(own:List (Str×Nat)):Prop where
 kind:scope.kind=.function
 uniq:∀y∈scope.names,scope.names.lookup y.1=some y.2
 ix:∀p∈own,N[p.2]?=some p.1
 free:∀y∈scope.names,y.2=.free->sc.names.lookup y.1=some .cell\/sc.names.lookup y.1=some .free
 own:∀y∈scope.names,y.2=.local\/y.2=.cell->y.1∈own.map (·.1)\/y.1∉N
noncomputable def wipe(σ:St):List Nat->St
 |[]=>σ
 |v::vs=>(wipe σ vs).set v none
theorem Ru(σ:St):∀vs:List Nat,(wipe σ vs).length=σ.length
 |[]=>rfl
 |v::vs=>by unfold wipe;rw[List.length_set,Ru σ vs]
theorem N'{σ:St}{i:Nat}{x:V}:∀{vs:List Nat},(wipe σ vs)[i]?=some (some x)->σ[i]?=some (some x)/\i∉vs
 |[],h=>⟨h,by simp⟩
 |v::vs,h=>by
  unfold wipe at h;by_cases hi:v=i
  ·subst hi;by_cases hv:v<(wipe σ vs).length;·rw[List.getElem?_set_self hv]at h;cases h
   ·rw[YH (by simpa using hv)]at h;cases h
  ·rw[List.getElem?_set_ne hi]at h;obtain⟨J,h2⟩:=N' h;exact⟨J,by simp only[ZE,not_or];exact⟨fun e=>hi e.symm,h2⟩⟩
abbrev Cx.ID(X:Cx)(s:Shared)(H:Hp)(scope:Scope)(VZ:Env)(fp:List Addr):Cx:={X with JX:=s,qy:=H,env:=VZ,outer:=X.stack,ex:=fp,fn:=fun x=>scope.names.lookup x==some .cell,pn:=[],xe:=fun _ _=>False}
section
variable{X:Cx}{pins:List (Addr×Obj)}{σ:St}{H:Hp}{s:Shared}
theorem GK{scope:Scope}{own:List (Str×Nat)}{fp:List Addr}(I:Inv X pins σ H s)(ok:GL X.N X.env.scope scope own)(hN:X.N.Nodup)(qR:∀b∈fp,MG X pins H b/\b<s.heap.objs.size):Inv (X.ID s H scope (compEnvC scope (cellsFrom (s.heap.objs.size+1) scope.names (Ya X.env.cells scope.names [])) s.heap.objs.size X.env) fp) [] (wipe σ (own.map (·.2))) H {s with heap:=pushCells (s.heap.push {cls:=.type "dict",data:=.dict #[]}) scope.names}:=by
 have JV:∀y∈scope.names,y.2=.free->∃c,X.env.cells.lookup y.1=some c:=fun y hy e=>by
  rcases ok.free y hy e with k|k;·exact I.ok.has _ (.inl k)
  ·exact I.ok.has _ (.inr k)
 generalize GJ:compEnvC scope (cellsFrom (s.heap.objs.size+1) scope.names (Ya X.env.cells scope.names [])) s.heap.objs.size X.env=VZ;have kp:∀b o,s.heap.get? b=some o->(pushCells (s.heap.push {cls:=.type "dict",data:=.dict #[]}) scope.names).get? b=some o:=fun b o e=>pushCells_keeps _ _ _ _ (Yw _ e);have hL:VZ.locals=s.heap.objs.size:=by rw[<-GJ];rfl
 have tj:VZ.cells=cellsFrom (s.heap.objs.size+1) scope.names (Ya X.env.cells scope.names []):=by rw[<-GJ];rfl
 have lq:VZ.scope=lr scope X.env.scope:=by rw[<-GJ];rfl
 rw[<-W' s.heap {cls:=.type "dict",data:=.dict #[]}]at tj;have cm:∀{y c},(y,c)∈Ya X.env.cells scope.names []->X.env.cells.lookup y=some c/\c<s.heap.objs.size:=fun{y c} hm=>by
  rcases T9 hm with hm|⟨J,rfl⟩;·cases hm
  ·obtain⟨c,hc⟩:=JV _ J rfl;rw[hc];obtain⟨w,z⟩:=I.cell _ _ hc;exact⟨Y,z.lt⟩
 have mem:∀{y c},VZ.cells.lookup y=some c->(X.env.cells.lookup y=some c/\c<s.heap.objs.size)\/(s.heap.objs.size+1<=c/\Ah (pushCells (s.heap.push {cls:=.type "dict",data:=.dict #[]}) scope.names) c none):=fun{y c} e=>by
  rw[tj]at e;rcases S_ (Yf e)with hm|⟨_,h2,h3⟩;·exact .inl (cm hm)
  ·rw[W']at h2;exact .inr ⟨h2,h3⟩
 have look:∀{y},scope.names.lookup y=some .free->∃c,VZ.cells.lookup y=some c/\X.env.cells.lookup y=some c:=fun{y} hl=>by
  have hy:(y,NameKind.free)∈scope.names:=Yf hl;obtain⟨c',e'⟩:=mem_lookup (QM (names:=scope.names) (n:=(s.heap.push {cls:=.type "dict",data:=.dict #[]}).objs.size) (Rx (cells:=X.env.cells) (acc:=[]) hy));rw[<-tj]at e';refine⟨c',e',?_⟩;rw[tj]at e';rcases S_ (Yf e')with hm|⟨J,_,_⟩;·exact(cm hm).1
  ·have:=ok.uniq _ J;rw[hl]at this;cases this
 have e8:(X.ID s H scope VZ fp).Ok:=by
  refine⟨I.ok.mod,by show VZ.scope.kind=_;rw[lq];exact ok.kind,by show VZ.globals=_;rw[<-GJ];exact I.ok.glob,by show VZ.builtins=_;rw[<-GJ];exact I.ok.blt,by show s.heap.objs.size<=VZ.locals;rw[hL];exact ZK _,fun y z c e1 e2=>?_,fun y hy=>?_,fun y c z e=>?_,I.ok.hd,I.ok.frames,.inl Y,fun b O=>⟨?_,fun y c e z=>?_⟩,I.bs,ZA I.ok.xO I.sz,fun b o e O=>?_,fun b O z=>?_,I.stack,I.Di,I.ok.tree,I.ok.top⟩
  ·have e1:VZ.cells.lookup y=some c:=e1;have e2:VZ.cells.lookup z=some c:=e2;rw[tj]at e1 e2;refine Oa (fun p hp=>?_) (fun y z c a b=>I.ok.inj y z c (cm a).1 (cm b).1) (Yf e1) (Yf e2);rw[W'];exact XW (cm (y:=p.1) (c:=p.2) hp).2
  ·show∃c,VZ.cells.lookup y=some c;have key:∀k,VZ.kindOf y=some k->(k=.cell\/k=.free)->∃c,VZ.cells.lookup y=some c:=fun k hk GI=>by
    unfold Env.kindOf at hk;rw[lq]at hk;obtain⟨k',e,r⟩:=Rv hk;have:k'=.cell\/k'=.free:=by
     rcases r with rfl|⟨rfl,_⟩;·exact GI
     ·exact .inr rfl
    rcases this with rfl|rfl
    ·obtain⟨c,hm⟩:=Ob (n:=(s.heap.push {cls:=.type "dict",data:=.dict #[]}).objs.size) (acc:=Ya X.env.cells scope.names []) (Yf e);obtain⟨c',e'⟩:=mem_lookup hm;exact⟨c',by rw[tj];exact e'⟩
    ·obtain⟨c,J,_⟩:=look e;exact⟨c,J⟩
   rcases hy with hy|hy;·exact key _ hy (.inl Y)
   ·exact key _ hy (.inr Y)
  ·have z:(scope.names.lookup y==some NameKind.cell)=true:=z;have z:scope.names.lookup y=some .cell:=by simpa using z
   have e:VZ.cells.lookup y=some c:=e;rw[tj]at e;rcases S_ (Yf e)with hm|⟨_,h2,_⟩
   ·rcases T9 hm with hm|⟨J,_⟩;·cases hm
    ·have q:=ok.uniq _ J;rw[z]at q;cases q
   ·rw[W']at h2;exact Nat.le_of_succ_le h2
  ·show b≠VZ.locals;rw[hL];exact Y7 (qR b O).2
  ·have e:VZ.cells.lookup y=some c:=e;rcases mem e with⟨J,_⟩|⟨J,_⟩;·exact(qR b O).1.2.2.2.2.1 y c J z
   ·have h2:s.heap.objs.size+1<=b:=by rw[<-z];exact J
    exact absurd (Zl (qR b O).2 (Nat.le_of_succ_le h2)) (We _)
  ·rcases(qR b O).1.2.2.2.1 with z|z;·exact I.ok.AH b o e z
   ·exact absurd (Zl (Zo e) (ZA I.ok.xO z)) (We _)
  ·rcases ZE.mp (I.EO b z)with z|z;·exact(qR b O).1.2.1 z
   ·exact(qR b O).1.2.2.1 z
 refine⟨e8,Y,I.bare,Un.kept kp,⟨fun _=>none,?_,fun i y av e1 e2 e3=>?_⟩,fun y c e=>?_,?_,fun y c e=>?_,fun p hp=>?_,I.X3.kept kp,by rw[Ru];exact I.len⟩
 ·show Heap.Ns _ VZ.locals _;rw[hL];exact Heap.Ns.keeps (Heap.Ns.new ..) fun b o e=>pushCells_keeps _ _ _ _ e
 ·obtain⟨e2,QN⟩:=N' e2;have AO:scope.names.lookup y=some .free/\(VZ.kindOf y=some .cell\/VZ.kindOf y=some .free):=by
   have key:∀k,VZ.scope.names.lookup y=some k->k=.local\/k=.cell\/k=.free->scope.names.lookup y=some .free/\(VZ.kindOf y=some .cell\/VZ.kindOf y=some .free):=fun k hk GI=>by
    have iD:=hk;rw[lq]at hk;obtain⟨k',e,r⟩:=Rv hk;have no:¬(k'=.local\/k'=.cell):=fun hh=>by
     rcases ok.own _ (Yf e) hh with e'|e'
     ·obtain⟨p,hp,e6⟩:=Y9.mp e';have e3:=ok.ix p hp;have:p.1=y:=e6;rw[this]at e3;exact QN (Y9.mpr ⟨p,hp,L9 hN e3 e1⟩)
     ·exact e' (Y3 e1)
    rcases r with rfl|⟨rfl,rfl⟩
    ·rcases GI with rfl|rfl|rfl;·exact absurd (.inl Y) no
     ·exact absurd (.inr Y) no
     ·exact⟨e,.inr iD⟩
    ·exact⟨e,.inl iD⟩
   have e3:qV VZ.scope y:=e3;rcases e3 with e3|e3|e3;·exact key _ e3 (.inl Y)
   ·exact key _ e3 (.inr (.inl Y))
   ·exact key _ e3 (.inr (.inr Y))
  obtain⟨m,hn,hl⟩:=I.loc;have lg:qV X.env.scope y:=(ok.free _ (Yf AO.1) rfl).elim (fun k=>.inr (.inl k)) (fun k=>.inr (.inr k));obtain⟨w,r,q⟩:=hl i y av e1 e2 lg;refine⟨w,r,.inr ⟨AO.2,?_⟩⟩;obtain⟨c,J,h2⟩:=look AO.1;rcases q with⟨k,_⟩|⟨_,c',e',z⟩
  ·have k:X.env.scope.names.lookup y=some .local:=k;rcases ok.free _ (Yf AO.1) rfl with k'|k'<;>rw[show X.env.scope.names.lookup y=_ from k']at k<;>cases k
  ·rw[h2]at e';cases e';exact⟨c,J,z.keeps kp⟩
 ·have e:VZ.cells.lookup y=some c:=e;rcases mem e with⟨J,_⟩|⟨_,z⟩
  ·obtain⟨w,z⟩:=I.cell y c J;exact⟨w,z.keeps kp⟩
  ·exact⟨_,z⟩
 ·show H VZ.locals=none;rw[hL];exact I.X3.fresh (ZK _)
 ·have e:VZ.cells.lookup y=some c:=e;rcases mem e with⟨J,_⟩|⟨J,_⟩;·exact I.RE y c J
  ·exact I.X3.fresh (Nat.le_of_succ_le J)
 ·exact absurd (show p∈([]:List (Addr×Obj))++[]from hp) (by simp)
theorem tf{E:Value->Shared->Prop}{D:Addr}{xs:List V}{y:V}{v:Value}{Q:Value->Shared->Prop}(I:Inv X pins σ H s)(hD:H D=some (.lst xs))(hz:xs.length<sizeLine)(r:RelV y v)(h:∀s',Inv X pins σ (upd H D (.lst (xs++[y]))) s'->Q .none s'):wpAny (model X.prog X.w) X.A (call (.builtin "list.append") [.ref D,v]) Q E s:=by
 obtain⟨af,Y5,n,ri,e⟩:=I.X3 D _ hD;have hl:=ri.length;refine append_at (hsz:=by rw[Y0];omega) e fun h' sb EV=>?_;refine h {s with heap:=h'} (I.write (t':=s.toks) (by rw[hD];trivial) (.inl Y) (fun b u O q=>(sb.2 b O).trans q) ⟨_,EV⟩ ⟨by rw[ZF];exact hz,Y5++[v],n+1,ri.append (.cons r .nil),?_⟩);rw[EV];simp
def pQ(X:Cx)(ifs:List Expr)(t:TT):Prop:=
 ∀(pins:List (Addr×Obj))(s:Shared)(σ:St)(H:Hp)(Q:Bool->Hp->Prop),Inv X pins σ H s->t σ H Q->
  wpAny (model X.prog X.w) X.A (forIn ifs true fun c r=>if r=true then do let ok<-isTrue c X.env (eval c X.env);pure (ForInStep.yield ok)else pure (ForInStep.yield r)) (TP X pins σ Q) X.xe s
def k_:TT:=fun _ H Q=>Q true H
theorem XE:pQ X [] k_:=fun _ _ _ H _ I h=>wpAny_tests_nil ⟨H,I,h⟩
theorem C6{c:Expr}{t:TT}(h:PT X c t):pQ X [c] t:=fun pins s σ H Q I hw=>wpAny_tests_one (h pins s σ H Q I hw)
end
theorem BO{α:Type}{t:Sem α}{Q Q':α->Shared->Prop}{M:Model}{A:Around}{E:Value->Shared->Prop}{s:Shared}(h:wpAny M A t Q (fun _ _=>False) s)(hQ:∀a s,Q a s->Q' a s):wpAny M A t Q' E s:=X2 h hQ fun _ _ z=>False.elim z
theorem IC{prog:Program}{w:World}{A:Around}{R:Result->Shared->Prop}{s:Shared}{elt target iter:Expr}{ifs:List Expr}{scope:Scope}{pos:Pos}{it acc:Value}{env:Env}(I:Nat->Shared->Prop)
 (turn:∀n s,I n s->wpAny (model prog w) A (pyNext it) (fun r XU=>match r with
  |none=>R (.ok .next) XU
  |some v=>wpAny (model prog w) A (letOwnedTupleGo target it v) (fun _ uN=>wpAny (model prog w) A (assign target env v) (fun _ P8=>
   wpAny (model prog w) A (forIn ifs true fun c r=>if r=true then do let ok<-isTrue c env (eval c env);pure (ForInStep.yield ok)else pure (ForInStep.yield r)) (fun ok G1=>
    if ok=true then wpAny (model prog w) A (eval elt env) (fun x pP=>
     wpAny (model prog w) A (call (.builtin "list.append") [acc,x]) (fun _ pO=>∃m,m<n/\I m pO) (notedBy (model prog w) A env fun e s'=>R (.error e) s') pP) (notedBy (model prog w) A env fun e s'=>R (.error e) s') G1
    else∃m,m<n/\I m G1) (notedBy (model prog w) A env fun e s'=>R (.error e) s') P8) (notedBy (model prog w) A env fun e s'=>R (.error e) s') uN) (notedBy (model prog w) A env fun e s'=>R (.error e) s') XU) (notedBy (model prog w) A env fun e s'=>R (.error e) s') s)
 (n:Nat)(h:I n s):
 codeAny (model prog w) A (.compLoop (.ListComp elt [⟨target,iter,ifs,0⟩] scope pos) 0 it acc env) R s:=by
 refine codeAny_loop Y I (fun n s hI=>?_) n h;show wpAny _ A ((compTurn (.ListComp elt [⟨target,iter,ifs,0⟩] scope pos) 0 it acc env).onRaise (fun x=>do noteFrame x env;theTreesLotGoes x)) _ _ s;refine wpAny_noted ?_;rw[compTurn_list];refine ZU (wpAny_standAt (ZU (X2 (turn n s hI) (fun r XU wR=>?_) fun _ _ h'=>h')));cases r with
 |none=>exact Zq wR
 |some v=>
  refine ZU (X2 wR (fun _ uN pN=>?_) fun _ _ h'=>h');refine ZU (X2 pN (fun _ P8 Af=>ZU (X2 Af (fun ok G1 wQ=>?_) fun _ _ h'=>h')) fun _ _ h'=>h');cases ok with
  |false=>exact Zq ⟨Y,wQ⟩
  |true=>
   exact ZU (ZU (X2 wQ (fun x pP k9=>ZU (X2 k9 (fun _ pO k8=>Zq (Zq ⟨Y,k8⟩)) fun _ _ h'=>h')) fun _ _ h'=>h'))
section
variable{X:Cx}
def nE(wi:TI)(g:TG)(tt:TT)(te:TE)(vs:List Nat):TE:=fun σ H Q=>wi σ H fun Z_ H1=>∀D,H1 D=none->∃W:Nat->Nat->Hp->Prop,(∃m,W 0 m (upd H1 D (.lst [])))/\∀i m H,W i m H->
 (Z_.stop i H/\Q (.ref D) H)\/(Z_.go i H/\∃Nx:Hp->Prop,(∀H',Nx H'->∃m',m'<m/\W (i+1) m' H')/\∀x H',Z_.G0 i H x H'->g x (wipe σ vs) H' fun Wc H2=>wipe Wc vs=wipe σ vs/\tt Wc H2 fun b H3=>
  if b=true then te Wc H3 fun y H4=>∃acc,H4 D=some (.lst acc)/\acc.length<sizeLine/\Nx (upd H4 D (.lst (acc++[y])))else Nx H3)
theorem C4{pins:List (Addr×Obj)}{s:Shared}{σ:St}{H:Hp}{Q:VK}{elt tg iter:Expr}{ifs:List Expr}{scope:Scope}{own:List (Str×Nat)}{pos pos':Pos}{wi:TI}{g:TG}{tt:TT}{te:TE}{use:Option (Value->Sem Unit)}{Qf:Value->Shared->Prop}(hc:X.calm=true)(hN:X.N.Nodup)(I:Inv X pins σ H s)(hi:PI X tg iter wi)(ok:GL X.N X.env.scope scope own)(hg:∀(s:Shared)(H:Hp)(C:Addr)(cl:List (Str×Addr))(fp:List Addr),PG (X.ID s H scope (compEnvC scope cl C X.env) fp) tg g)(ht:∀(s:Shared)(H:Hp)(C:Addr)(cl:List (Str×Addr))(fp:List Addr),pQ (X.ID s H scope (compEnvC scope cl C X.env) fp) ifs tt)(he:∀(s:Shared)(H:Hp)(C:Addr)(cl:List (Str×Addr))(fp:List Addr),PE (X.ID s H scope (compEnvC scope cl C X.env) fp) elt te)(hs:∀x,foldedSetIterable iter X.env x=pure x)(h:nE wi g tt te (own.map (·.2)) σ H Q)(eZ:∀D C s' m H',Inv X pins σ H' s'->Q (.ref D) H'->s'.heap.Ns C m->MG X pins H' C->compPost (model X.prog X.w) X.A X.xe use Qf (.ref D) C (.ok .next) s'):wpAny (model X.prog X.w) X.A (comprehension (.ListComp elt [⟨tg,iter,ifs,0⟩] scope pos) scope X.env pos' (newList []) false (eval iter X.env) use) Qf X.xe s:=by
 have JV:∀y∈scope.names,y.2=.free->∃c,X.env.cells.lookup y.1=some c:=fun y hy e=>by
  rcases ok.free y hy e with k|k;·exact I.ok.has _ (.inl k)
  ·exact I.ok.has _ (.inr k)
 refine wpAny_comprehension_free (use:=use) rfl hs (Et JV) ok.kind (fun y hy e=>by rw[ok.uniq y hy,e])
  (X8 (hi pins s σ H _ I h) fun xv s1 hx=>X8 hx fun lZ s2 h2=>?_)
 obtain⟨it,fp,tn,Z_,H2,e,I2,T,nJ,f2,q⟩:=h2;subst e;refine wpAny_newObj_type (GN ?_) (by show 0<=sizeLine;decide);generalize hD:s2.heap.objs.size=D;have iC:H2 D=none:=I2.X3.fresh (Nat.le_of_eq hD);obtain⟨W,⟨m0,w0⟩,turn⟩:=q D iC;generalize iB:({s2 with heap:=s2.heap.push {cls:=.type "list",data:=.seq ([]:List Value).toArray}}:Shared)=s3;have I3:Inv X pins σ (upd H2 D (.lst [])) s3:=by
  rw[<-iB];refine I2.laid (t':=s2.toks) (fun b o e=>Yw _ e) (Nat.le_of_eq hD) ⟨Zt _,[],0,.nil,?_⟩;rw[<-hD];exact Xa _ rfl
 have h3:s3.heap=s2.heap.push {cls:=.type "list",data:=.seq ([]:List Value).toArray}:=by rw[<-iB]
 have sz:∀b∈fp,b<s2.heap.objs.size:=fun b O=>by
  obtain⟨o,e,_⟩:=T.obj _ _ nJ b O;exact Zo e
 have f3:∀b∈fp,MG X pins (upd H2 D (.lst [])) b/\b<s3.heap.objs.size:=fun b O=>by
  have WY:=sz b O;refine⟨⟨?_,(f2 b O).2⟩,by rw[h3,W'];exact XW WY⟩;rw[ZV (by rw[<-hD];exact Y7 WY)];exact(f2 b O).1
 have tN:tn 0 s3.heap:=T.keep _ _ _ nJ fun b _ o e=>by rw[h3];exact Yw _ e
 have I4:=GK I3 ok hN f3;have pg:=hg s3 (upd H2 D (.lst [])) s3.heap.objs.size (cellsFrom (s3.heap.objs.size+1) scope.names (Ya X.env.cells scope.names [])) fp;have pt:=ht s3 (upd H2 D (.lst [])) s3.heap.objs.size (cellsFrom (s3.heap.objs.size+1) scope.names (Ya X.env.cells scope.names [])) fp;have pe:=he s3 (upd H2 D (.lst [])) s3.heap.objs.size (cellsFrom (s3.heap.objs.size+1) scope.names (Ya X.env.cells scope.names [])) fp;show codeAny _ _ (.compStart (.ListComp elt [⟨tg,iter,ifs,0⟩] scope pos) 0 (.ref it) (.ref D) (compEnvC scope (cellsFrom (s3.heap.objs.size+1) scope.names (Ya X.env.cells scope.names [])) s3.heap.objs.size X.env)) (compPost (model X.prog X.w) X.A X.xe use Qf (.ref D) s3.heap.objs.size) {s3 with heap:=pushCells (s3.heap.push {cls:=.type "dict",data:=.dict #[]}) scope.names};have pM:∀b∈fp,(upd H2 D (.lst [])) b=none:=fun b O=>(f3 b O).1.1;generalize eY:compEnvC scope (cellsFrom (s3.heap.objs.size+1) scope.names (Ya X.env.cells scope.names [])) s3.heap.objs.size X.env=ce at I4 pg pt pe⊢;have cL:ce.locals=s3.heap.objs.size:=by subst eY;rfl
 generalize eX:upd H2 D (.lst [])=H3 at I3 I4 pg pt pe w0 pM f3;generalize eW:({s3 with heap:=pushCells (s3.heap.push {cls:=.type "dict",data:=.dict #[]}) scope.names}:Shared)=s4 at I4⊢;have pL:tn 0 s4.heap:=T.keep _ _ _ tN fun b _ o e=>by rw[<-eW];exact pushCells_keeps _ _ _ _ (Yw _ e)
 have EK:∀{XC:St}{H':Hp}{s':Shared},Inv (X.ID s3 H3 scope ce fp) [] XC H' s'->(∀b∈fp,H' b=none)->∀b∈fp,MG (X.ID s3 H3 scope ce fp) [] H' b:=fun{XC H' s'} I' hn b O=>
  ⟨hn b O,(I'.ok.nR b O).1,I'.ok.AG b O,.inl O,fun x c e=>(I'.ok.nR b O).2 x c e,fun p hp=>absurd (show p∈([]:List (Addr×Obj))++[]from hp) (by simp)⟩
 have loop:codeAny (model X.prog X.w) X.A (.compLoop (.ListComp elt [⟨tg,iter,ifs,0⟩] scope pos) 0 (.ref it) (.ref D) ce) (compPost (model X.prog X.w) X.A X.xe use Qf (.ref D) s3.heap.objs.size) s4:=by
  refine IC (fun n s'=>∃i H',Inv (X.ID s3 H3 scope ce fp) [] (wipe σ (own.map (·.2))) H' s'/\tn i s'.heap/\(∀b∈fp,H' b=none)/\W i n H') ?_ m0 ⟨0,H3,I4,pL,pM,w0⟩;rintro n s5 ⟨i,H5,I5,xN,n5,w5⟩;rcases turn i n H5 w5 with⟨stop,qq⟩|⟨go,Nx,eV,step⟩
  ·have td:=T.done (X.ID s3 H3 scope ce fp) rfl rfl rfl hc i [] s5 _ H5 (fun _ _=>False) I5 (EK I5 n5) xN stop;refine BO td fun r s6 ⟨hr,I6⟩=>?_;subst hr;have I7:Inv X pins σ H5 s6:=I3.qu (ch:=fp) I6.os I6.base I6.X3 I6.bare fun b O=>⟨(f3 b O).1.2.2.2.1,(f3 b O).1.2.1,(f3 b O).1.2.2.2.2.1,(f3 b O).1.2.2.2.2.2⟩;have nC:H5 s3.heap.objs.size=none:=by
    have z:H5 ce.locals=none:=I6.free;rw[cL]at z;exact z
   obtain⟨m,hn,_⟩:=I6.loc;have hn:s6.heap.Ns ce.locals m:=hn;rw[cL]at hn;exact eZ D s3.heap.objs.size s6 m H5 I7 qq hn (I3.AA (ZK _) nC)
  ·have ti:=T.item (X.ID s3 H3 scope ce fp) rfl rfl rfl hc i [] s5 _ H5 (fun _ _=>False) I5 (EK I5 n5) xN go;refine BO ti fun r s6 ⟨u,hr,h6⟩=>?_;subst hr;refine BO h6 fun _ s7 ⟨x,H7,I7,r7,y7,k7,n7⟩=>?_;have eU:=I7.pinned (EK I7 n7) (T.obj _ _ k7);refine BO (pg _ s7 _ H7 x u _ eU r7 (step x H7 y7)) fun _ s8 ⟨nB,H8,I8,iA,q8⟩=>?_;refine BO (pt _ s8 nB H8 _ I8 q8) fun b s9 ⟨H9,I9,q9⟩=>?_;have fin:∀{s':Shared}{H':Hp},Inv (X.ID s3 H3 scope ce fp) ([]++L0 fp s7.heap) nB H' s'->Nx H'->∃m,m<n/\∃i H',Inv (X.ID s3 H3 scope ce fp) [] (wipe σ (own.map (·.2))) H' s'/\tn i s'.heap/\(∀b∈fp,H' b=none)/\W i m H':=fun{s' H'} I' nx=>by
    obtain⟨m',hm,w'⟩:=eV H' nx;have pK:∀b∈fp,∀o,s7.heap.get? b=some o->s'.heap.get? b=some o/\H' b=none:=fun b O o e=>
     let z:=I'.pin (b,o) (Xs _ (Xs _ (P0 O e)))
     ⟨z.1,z.2.1⟩
    have hl:(wipe σ (own.map (·.2))).length=nB.length:=by rw[<-iA,Ru]
    refine⟨m',hm,i+1,H',(I'.Pe (pins:=[])).weak hl (fun j v e=>?_),T.keep _ _ _ k7 fun b O o e=>(pK b O o e).1,fun b O=>?_,w'⟩
    ·rw[<-iA]at e;exact(N' e).1
    ·obtain⟨o,e,_⟩:=T.obj _ _ k7 b O;exact(pK b O o e).2
   cases b with
   |false=>
    simp only[Pn,if_false]at q9⊢;exact fin I9 q9
   |true=>
    simp only[if_true]at q9⊢;refine BO (pe _ s9 nB H9 _ I9 q9) fun z s_ ⟨yv,ae,eT,iw,acc,k6,k5,nx⟩=>?_;exact tf (X:=X.ID s3 H3 scope ce fp) eT k6 k5 iw fun kZ eS=>fin eS nx
 exact codeAny_compStart_list loop (T.self X.A 0 _ _ _ pL loop)
theorem R5{elt tg iter:Expr}{ifs:List Expr}{scope:Scope}{own:List (Str×Nat)}{pos:Pos}{wi:TI}{g:TG}{tt:TT}{te:TE}(hc:X.calm=true)(hN:X.N.Nodup)(hi:PI X tg iter wi)(ok:GL X.N X.env.scope scope own)(hg:∀(s:Shared)(H:Hp)(C:Addr)(cl:List (Str×Addr))(fp:List Addr),PG (X.ID s H scope (compEnvC scope cl C X.env) fp) tg g)(ht:∀(s:Shared)(H:Hp)(C:Addr)(cl:List (Str×Addr))(fp:List Addr),pQ (X.ID s H scope (compEnvC scope cl C X.env) fp) ifs tt)(he:∀(s:Shared)(H:Hp)(C:Addr)(cl:List (Str×Addr))(fp:List Addr),PE (X.ID s H scope (compEnvC scope cl C X.env) fp) elt te)(hs:∀x,foldedSetIterable iter X.env x=pure x:=by intro _;rfl):PE X (.ListComp elt [⟨tg,iter,ifs,0⟩] scope pos) (nE wi g tt te (own.map (·.2))):=by
 intro pins s σ H Q I h;rw[eval_ListComp];refine C4 hc hN I hi ok hg ht he hs h fun D C s' m H' I' q hn f=>⟨m,hn,fun uM sb=>?_⟩;obtain⟨f0,f1,f2,f3,f4,f5⟩:=f;exact⟨.ref D,H',I'.turned (t':=s'.toks) (fun b o O e=>(sb.2 b O).trans e) f0 f1 f3 f4 f5,Y,q⟩
theorem Va{i:Nat}{y:Str}{py:Pos}{elt tg iter:Expr}{ifs:List Expr}{scope:Scope}{own:List (Str×Nat)}{pos pJ:Pos}{wi:TI}{g:TG}{tt:TT}{te:TE}(hc:X.calm=true)(hN:X.N.Nodup)(hy:X.N[i]?=some y)(iu:X.env.scope.names.lookup y=some .local)
 (eR:swapsWith (.ListComp elt [⟨tg,iter,ifs,0⟩] scope pos) (some (.Name y py)) pJ.line X.env=pure true)(hi:PI X tg iter wi)(ok:GL X.N X.env.scope scope own)
 (hg:∀(s:Shared)(H:Hp)(C:Addr)(cl:List (Str×Addr))(fp:List Addr),PG (X.ID s H scope (compEnvC scope cl C X.env) fp) tg g)(ht:∀(s:Shared)(H:Hp)(C:Addr)(cl:List (Str×Addr))(fp:List Addr),pQ (X.ID s H scope (compEnvC scope cl C X.env) fp) ifs tt)
 (he:∀(s:Shared)(H:Hp)(C:Addr)(cl:List (Str×Addr))(fp:List Addr),PE (X.ID s H scope (compEnvC scope cl C X.env) fp) elt te)(hs:∀x,foldedSetIterable iter X.env x=pure x:=by intro _;rfl):
 PS X (.Assign [.Name y py] (.ListComp elt [⟨tg,iter,ifs,0⟩] scope pos) pJ) (tQ (nE wi g tt te (own.map (·.2))) (JT i)):=by
 intro pins s σ H D I h;rw[exec_Assign_Name_used _ _ _ _ eR];refine ZU (wpAny_standAt (ZU ?_));show wpAny _ X.A (do let _<-comprehension (.ListComp elt [⟨tg,iter,ifs,0⟩] scope pos) scope X.env (firstIterPos [⟨tg,iter,ifs,0⟩] pos) (newList []) false (eval iter X.env) (some (assign (.Name y py) X.env))) _ _ s;have h:nE wi g tt te (own.map (·.2)) σ H (fun x H1=>JT i x σ H1 D.nx):=h;refine ZU (X8 (C4 (Qf:=fun _ s'=>SP X pins D .next s') hc hN I hi ok hg ht he hs h fun L C s' m H' I' q hn f=>?_) fun _ s' hq=>Zq (Zq hq));show wpAny _ _ (assign (.Name y py) X.env (.ref L)) _ _ _;refine wpAny_assign_Name (JW (v:=V.ref L) I' hN hy (.inl iu) rfl (fun s2 I2 ⟨a,sb,ha⟩=>?_) (.inr iu));obtain⟨f0,f1,f2,f3,f4,f5⟩:=f;have eQ:C≠a:=by
  rcases ha with z|z;·rw[z];exact f1
  ·exact fun e=>f4 y a z e.symm
 refine⟨m,hn.sameBut sb eQ,fun h3 eO=>?_⟩;exact⟨_,H',I2.turned (t':=s2.toks) (fun b o O e=>(eO.2 b O).trans e) f0 f1 f3 f4 f5,q⟩
theorem T8{elt:Expr}{gs:List Comprehension}{scope:Scope}{pos py:Pos}{y:Str}{l:Nat}{env:Env}(hk:env.scope.kind=.function)(hy:env.scope.names.lookup y=some .local)(hl:(py.line==pos.line)=true)(ha:(scope.names.any fun(n,k)=>n==y&&(k==.local||k==.cell))=false):swapsWith (.ListComp elt gs scope pos) (some (.Name y py)) l env=pure true:=by
 have ky:env.kindOf y=some .local:=hy;have O:env.blockKind=.function:=by unfold Env.blockKind;rw[hk];rfl
 unfold swapsWith;have e2:(Expr.ListComp elt gs scope pos).pos=pos:=rfl;simp only[O,ky,ha,e2,hl];rfl
end
theorem Ae {lo : Int} {n : Nat} {g : TG} {tt : TT} {te : TE} {vs : List Nat} {σ : St} {H1 : Hp} {D : Addr} {Qd : Hp -> Prop} (Pv : Nat -> Hp -> Prop) (h0 : Pv 0 (upd H1 D (.lst [])))
    (hs : ∀ i H, i < n -> Pv i H -> g (.int (lo + i)) (wipe σ vs) H fun Wc H2 => wipe Wc vs = wipe σ vs /\ tt Wc H2 fun b H3 =>
      if b = true then te Wc H3 fun y H4 => ∃ acc, H4 D = some (.lst acc) /\ acc.length < sizeLine /\ Pv (i + 1) (upd H4 D (.lst (acc ++ [y]))) else Pv (i + 1) H3) (hd : ∀ H, Pv n H -> Qd H) :
    ∃ W : Nat -> Nat -> Hp -> Prop, (∃ m, W 0 m (upd H1 D (.lst []))) /\ ∀ i m H, W i m H ->
      ((EM lo n).stop i H /\ Qd H) \/ ((EM lo n).go i H /\ ∃ Nx : Hp -> Prop, (∀ H', Nx H' -> ∃ m', m' < m /\ W (i + 1) m' H') /\ ∀ x H', (EM lo n).G0 i H x H' -> g x (wipe σ vs) H' fun Wc H2 => wipe Wc vs = wipe σ vs /\ tt Wc H2 fun b H3 =>
        if b = true then te Wc H3 fun y H4 => ∃ acc, H4 D = some (.lst acc) /\ acc.length < sizeLine /\ Nx (upd H4 D (.lst (acc ++ [y]))) else Nx H3) := by
  refine ⟨fun i m H => m = n - i /\ i <= n /\ Pv i H, ⟨n, by simp, Zt _, h0⟩, ?_⟩
  rintro i m H ⟨rfl, hi, p⟩
  by_cases WY : i < n
  · refine .inr ⟨WY, Pv (i + 1), fun H' p' => ⟨n - (i + 1), by omega, Y, WY, p'⟩, fun x H' y => ?_⟩
    obtain ⟨e, y⟩ := y
    subst e y
    exact hs i _ WY p
  · have e : i = n := by omega
    subst e
    exact .inl ⟨ZK _, hd H p⟩
theorem Vi {K : PySem.W.Frag} {a : Addr} {xs : List V} {g : TG} {tt : TT} {te : TE} {vs : List Nat} {σ : St} {H1 : Hp} {D : Addr} {Qd : Hp -> Prop} (Pv : Nat -> Hp -> Prop) (h0 : Pv 0 (upd H1 D (.lst []))) (hl : ∀ i H, i <= xs.length -> Pv i H -> Zw K H a xs)
    (hs : ∀ i x H, xs[i]? = some x -> Pv i H -> g x (wipe σ vs) H fun Wc H2 => wipe Wc vs = wipe σ vs /\ tt Wc H2 fun b H3 =>
      if b = true then te Wc H3 fun y H4 => ∃ acc, H4 D = some (.lst acc) /\ acc.length < sizeLine /\ Pv (i + 1) (upd H4 D (.lst (acc ++ [y]))) else Pv (i + 1) H3) (hd : ∀ H, Pv xs.length H -> Qd H) :
    ∃ W : Nat -> Nat -> Hp -> Prop, (∃ m, W 0 m (upd H1 D (.lst []))) /\ ∀ i m H, W i m H ->
      ((uV K a).stop i H /\ Qd H) \/ ((uV K a).go i H /\ ∃ Nx : Hp -> Prop, (∀ H', Nx H' -> ∃ m', m' < m /\ W (i + 1) m' H') /\ ∀ x H', (uV K a).G0 i H x H' -> g x (wipe σ vs) H' fun Wc H2 => wipe Wc vs = wipe σ vs /\ tt Wc H2 fun b H3 =>
        if b = true then te Wc H3 fun y H4 => ∃ acc, H4 D = some (.lst acc) /\ acc.length < sizeLine /\ Nx (upd H4 D (.lst (acc ++ [y]))) else Nx H3) := by
  refine ⟨fun i m H => m = xs.length - i /\ i <= xs.length /\ Pv i H, ⟨xs.length, by simp, Zt _, h0⟩, ?_⟩
  rintro i m H ⟨rfl, hi, p⟩
  have q := hl i H hi p
  by_cases WY : i < xs.length
  · refine .inr ⟨⟨xs, xs[i], q, by simp [WY]⟩, Pv (i + 1), fun H' p' => ⟨xs.length - (i + 1), by omega, Y, WY, p'⟩, fun x H' y => ?_⟩
    obtain ⟨e, y⟩ := y
    subst e
    exact hs i x _ (y xs q) p
  · have e : i = xs.length := by omega
    subst e
    exact .inl ⟨⟨xs, q, ZK _⟩, hd H p⟩
noncomputable def T_(N:List Str)(sc scope:Scope)(own:List (Str×Nat)):Bool:=
 (match scope.kind with|.function=>true|_=>false)&&(scope.names.all fun y=>decide (scope.names.lookup y.1=some y.2))&&(own.all fun p=>decide (N[p.2]?=some p.1))&&
  (scope.names.all fun y=>match y.2 with
   |.free=>(match sc.names.lookup y.1 with|some .cell=>true|some .free=>true|_=>false)
   |.local=>decide (y.1∈own.map (·.1))||decide (y.1∉N)
   |.cell=>decide (y.1∈own.map (·.1))||decide (y.1∉N)
   |_=>true)
theorem Yt{N:List Str}{sc scope:Scope}{own:List (Str×Nat)}(h:T_ N sc scope own=true):GL N sc scope own:=by
 unfold T_ at h;simp only[Yi,VY,decide_eq_true_eq]at h;obtain⟨⟨⟨J,h2⟩,h3⟩,h4⟩:=h;refine⟨?_,h2,h3,fun y hy e=>?_,fun y hy e=>?_⟩
 ·split at J;·assumption
  ·cases J
 ·have q:=h4 y hy;simp only[e]at q;split at q<;>first|exact .inl (by assumption)|exact .inr (by assumption)|cases q
 ·have q:=h4 y hy;rcases e with e|e<;>(simp only[e,Bool.or_eq_true,decide_eq_true_eq]at q;exact q)
section
variable{κ:Type}[DecidableEq κ]
noncomputable def Vr(Zp:List (κ×V))(k:κ):Option V:=(Zp.find? fun kv=>decide (kv.1=k)).map (·.2)
noncomputable def putK(Zp:List (κ×V))(k:κ)(v:V):List (κ×V):=
 if(Zp.any fun kv=>decide (kv.1=k))=true then Zp.map (fun kv=>if kv.1=k then(kv.1,v)else kv)else Zp++[(k,v)]
theorem W7{p:κ×V}{r:List (κ×V)}{k:κ}(e:p.1=k):Vr (p::r) k=some p.2:=by simp[Vr,Uz,e]
theorem W6{p:κ×V}{r:List (κ×V)}{k:κ}(e:¬p.1=k):Vr (p::r) k=Vr r k:=by simp[Vr,Uz,e]
theorem VP(k:κ):∀Zp:List (κ×V),(Zp.any fun kv=>decide (kv.1=k))=(Vr Zp k).isSome
 |[]=>rfl
 |p::r=>by
  rw[Ts];by_cases e:p.1=k;·simp only[W7 e,ZP e,Bool.true_or,Option.isSome_some]
  ·rw[W6 e,ZC e,Bool.false_or];exact VP k r
theorem GH(k j:κ)(y:V):∀Zp:List (κ×V),Vr (Zp.map fun kv=>if kv.1=k then(kv.1,y)else kv) j=(Vr Zp j).map fun x=>if j=k then y else x
 |[]=>rfl
 |p::r=>by
  have ih:=GH k j y r;rw[Y1];by_cases h:p.1=k
  ·rw[Z7 h];by_cases e:p.1=j;·rw[W7 (p:=(p.1,y)) e,W7 e,Option.map_some,Z7 (e.symm.trans h)]
   ·rw[W6 (p:=(p.1,y)) e,W6 e,ih]
  ·rw[Z8 h];by_cases e:p.1=j;·rw[W7 (p:=p) e,W7 e,Option.map_some,Z8 (fun z=>h (e.trans z))]
   ·rw[W6 (p:=p) e,W6 e,ih]
theorem JN(k j:κ)(y:V):∀Zp:List (κ×V),Vr Zp k=none->Vr (Zp++[(k,y)]) j=if j=k then some y else Vr Zp j
 |[],_=>by
  by_cases e:k=j;·rw[Z7 e.symm];exact W7 (p:=(k,y)) e
  ·rw[Z8 (fun z=>e z.symm)];exact W6 (p:=(k,y)) e
 |p::r,hn=>by
  rw[List.cons_append];have hk:¬p.1=k:=fun z=>by rw[W7 z]at hn;cases hn
  rw[W6 hk]at hn;have ih:=JN k j y r hn;by_cases e:p.1=j;·rw[W7 e,W7 e,Z8 (fun z=>hk (e.trans z))]
  ·rw[W6 e,W6 e,ih]
theorem Ad(Zp:List (κ×V))(k j:κ)(y:V):Vr (putK Zp k y) j=if j=k then some y else Vr Zp j:=by
 unfold putK;by_cases a:(Zp.any fun kv=>decide (kv.1=k))=true
 ·rw[Z7 a,GH];rw[VP]at a;by_cases e:j=k
  ·obtain⟨x,hx⟩:=Option.isSome_iff_exists.mp a;rw[Z7 e,e,hx,Option.map_some,Z7 rfl]
  ·rw[Z8 e];cases Vr Zp j with
   |none=>rfl
   |some x=>rw [Option.map_some,Z8 e]
 ·rw[Z8 a];refine JN k j y Zp ?_;rw[VP]at a;cases q:Vr Zp k with
  |none=>rfl
  |some x=>rw [q]at a;exact(a Y).elim
theorem Rt(Zp:List (κ×V))(k:κ)(v:V):(putK Zp k v).length<=Zp.length+1:=by
 unfold putK;split;·rw[Z3];omega
 ·rw[ZF,Zg,List.length_nil];omega
theorem GG{Zp:List (κ×V)}{k:κ}(v:V)(h:Vr Zp k=none):putK Zp k v=Zp++[(k,v)]:=by
 unfold putK;rw[VP,h];exact Z8 (by decide)
theorem RM.S9{o:Option V}{u:Option Value}(r:RM o u):o.isSome=u.isSome:=by
 cases o with
 |none=>cases u with
  |none=>rfl
  |some _=>exact (show False from r).elim
 |some _=>cases u with
  |none=>exact (show False from r).elim
  |some _=>rfl
theorem RM.getD{o:Option V}{u:Option Value}{d:V}{d':Value}(r:RM o u)(rd:RelV d d'):RelV (o.getD d) (u.getD d'):=by
 cases o with
 |none=>cases u with
  |none=>exact rd
  |some _=>exact (show False from r).elim
 |some _=>cases u with
  |none=>exact (show False from r).elim
  |some _=>exact r
theorem KV.val{Zp:List (κ×V)}{vs:List (κ×Value)}(r:KV Zp vs)(k:κ):RM (Vr Zp k) (valueAt vs k):=by
 unfold KV at r;induction r with
 |nil=>exact True.intro
 |@cons p q ps qs h t ih=>
  obtain⟨J,h2⟩:=h;by_cases e:p.1=k
  ·have e':q.1=k:=J.symm.trans e;have b:valueAt (q::qs) k=some q.2:=by simp[valueAt,Uz,e']
   rw[W7 e,b];exact h2
  ·have e':¬q.1=k:=fun z=>e (J.trans z);have b:valueAt (q::qs) k=valueAt qs k:=by simp[valueAt,Uz,e']
   rw[W6 e,b];exact ih
theorem KV.any{Zp:List (κ×V)}{vs:List (κ×Value)}(r:KV Zp vs)(k:κ):(Zp.any fun kv=>decide (kv.1=k))=vs.any fun kv=>decide (kv.1=k):=by
 unfold KV at r;induction r with
 |nil=>rfl
 |cons h t ih=>rw [Ts,Ts,ih,h.1]
theorem KV.sZ{Zp:List (κ×V)}{vs:List (κ×Value)}(r:KV Zp vs)(k:κ){y:V}{u:Value}(ry:RelV y u):KV (Zp.map fun kv=>if kv.1=k then(kv.1,y)else kv) (vs.map fun kv=>if kv.1=k then(kv.1,u)else kv):=by
 unfold KV at r⊢;induction r with
 |nil=>exact .nil
 |@cons p q ps qs h t ih=>
  rw[Y1,Y1];refine .cons ?_ ih;obtain⟨J,h2⟩:=h;by_cases e:p.1=k;·rw[Z7 e,Z7 (J.symm.trans e)];exact⟨J,ry⟩
  ·rw[Z8 e,Z8 (fun z=>e (J.trans z))];exact⟨J,h2⟩
theorem KV.put{Zp:List (κ×V)}{vs:List (κ×Value)}(r:KV Zp vs)(k:κ){y:V}{u:Value}(ry:RelV y u):KV (putK Zp k y) (stored vs k u):=by
 unfold putK stored;rw[r.any k];by_cases e:(vs.any fun kv=>decide (kv.1=k))=true;·rw[Z7 e,Z7 e];exact r.sZ k ry
 ·rw[Z8 e,Z8 e];exact Paired.snoc r ⟨Y,ry⟩
theorem KV.length{Zp:List (κ×V)}{vs:List (κ×Value)}(r:KV Zp vs):Zp.length=vs.length:=Paired.length r
end
theorem LV{P:Program}{w:World}{k:Key}{u:Value}(r:RelV (kV k) u):(Xp P w).is k u=true:=by
 cases k with
 |inl i=>obtain ⟨t,e⟩:=(show∃t,u=Value.int i t from r);subst e;exact G7 P w i t
 |inr x=>obtain ⟨t,e⟩:=(show∃t,u=Value.str x t from r);subst e;exact G5 P w x t
theorem JM{P:Program}{w:World}:∀{ks:List Key}{us:List Value},Vals (ks.map kV) us->ItemsAre (Xp P w) ks us
 |[],_,r=>by rw[List.map_nil]at r;cases r;exact .nil
 |k::ks,_,r=>by
  rw[Y1]at r;cases r with
  |cons h t=>exact .cons (LV h) (JM t)
abbrev KT(H:Hp):List (List Key×V)->List (List Key×Addr×Value)->Prop:=Paired fun p q=>p.1=q.1/\H q.2.1=some (.tup (p.1.map kV))/\RelV p.2 q.2.2
theorem KT.val{H:Hp}{Zp:List (List Key×V)}{xs:List (List Key×Addr×Value)}(r:KT H Zp xs)(k:List Key):RM (Vr Zp k) ((atKey xs k).map (·.2)):=by
 induction r with
 |nil=>exact True.intro
 |@cons p q ps qs h t ih=>
  obtain⟨J,_,h2⟩:=h;by_cases e:p.1=k
  ·have e':q.1=k:=J.symm.trans e;have b:atKey (q::qs) k=some q.2:=by simp[atKey,Uz,e']
   rw[W7 e,b];exact h2
  ·have e':¬q.1=k:=fun z=>e (J.trans z);have b:atKey (q::qs) k=atKey qs k:=by simp[atKey,Uz,e']
   rw[W6 e,b];exact ih
theorem KT.sZ{H:Hp}{Zp:List (List Key×V)}{xs:List (List Key×Addr×Value)}(r:KT H Zp xs)(k:List Key){y:V}{u:Value}(ry:RelV y u):KT H (Zp.map fun kv=>if kv.1=k then(kv.1,y)else kv) (xs.map (putAt k u)):=by
 induction r with
 |nil=>exact .nil
 |@cons p q ps qs h t ih=>
  rw[Y1,Y1];refine .cons ?_ ih;obtain⟨J,h2,h3⟩:=h;unfold putAt;by_cases e:p.1=k;·rw[Z7 e,Z7 (J.symm.trans e)];exact⟨J,h2,ry⟩
  ·rw[Z8 e,Z8 (fun z=>e (J.trans z))];exact⟨J,h2,h3⟩
theorem KT.put{H:Hp}{Zp:List (List Key×V)}{xs:List (List Key×Addr×Value)}(r:KT H Zp xs)(k:List Key){b:Addr}{y:V}{u:Value}(O:H b=some (.tup (k.map kV)))(ry:RelV y u):KT H (putK Zp k y) (storedH xs k b u):=by
 have e:(Zp.any fun kv=>decide (kv.1=k))=(atKey xs k).isSome:=by rw[VP,(r.val k).S9,Option.isSome_map]
 unfold putK storedH;rw[e];by_cases q:(atKey xs k).isSome=true;·rw[Z7 q,Z7 q];exact r.sZ k ry
 ·rw[Z8 q,Z8 q];exact Paired.snoc r ⟨Y,O,ry⟩
theorem KT.keeps{H H':Hp}{Zp:List (List Key×V)}{xs:List (List Key×Addr×Value)}(r:KT H Zp xs)(ht:∀b ys,H b=some (.tup ys)->H' b=some (.tup ys)):KT H' Zp xs:=
 Paired.t6 r fun _ _ z=>⟨z.1,ht _ _ z.2.1,z.2.2⟩
section
variable{P:Program}{w:World}{H:Hp}{h:Heap}{a:Addr}
theorem uL{u:HO}(ok:Tb P w H h)(e:Rd H a u):WZ P w H h a u:=e.ok ok
theorem NC{Zp:List (Key×V)}(ok:Tb P w H h)(e:Rd H a (.dK Zp)):Zp.length<=sizeLine/\(a==sysModules)=false/\∃vs,KV Zp vs/\h.DictOf (Xp P w) a vs:=
 show WZ P w H h a (.dK Zp)from uL ok e
theorem uK{Zp:List (Key×V)}(ok:Tb P w H h)(e:H a=some (.dK Zp)):Zp.length<=sizeLine/\(a==sysModules)=false/\∃vs,KV Zp vs/\h.DictOf (Xp P w) a vs:=NC ok (.inl e)
theorem N_{ks:List Key}(ok:Tb P w H h)(e:H a=some (.tup (ks.map kV))):(tupleKind (Xp P w)).is h ks a:=by
 obtain⟨_,Y5,r,o,J,h2,n,h3⟩:=(show WZ P w H h a (.tup (ks.map kV))from ok a _ e);exact⟨o,Y5.toArray,n,J,h2,h3,by simpa using JM r⟩
theorem LU{Zp:List (List Key×V)}(ok:Tb P w H h)(e:Rd H a (.dT Zp)):Zp.length<=sizeLine/\(a==sysModules)=false/\∃xs,KT H Zp xs/\h.DictOfH (tupleKind (Xp P w)) a xs:=by
 obtain⟨z,y,xs,r,o,es,ep,J,h2,h3,h4,h5⟩:=(show WZ P w H h a (.dT Zp)from uL ok e);refine⟨z,y,xs,r,o,es,ep,J,h2,h3,h4,fun x hx=>?_,h5⟩;have all:∀{l:List (List Key×V)}{m:List (List Key×Addr×Value)},KT H l m->∀x∈m,(tupleKind (Xp P w)).is h x.1 x.2.1:=by
  intro l m q;induction q with
  |nil=>intro x hx;exact nomatch hx
  |@cons p q ps qs hq t ih=>
   intro x hx;rcases ZE.mp hx with e|hx
   ·subst e;exact N_ ok (by rw[<-hq.1];exact hq.2.1)
   ·exact ih x hx
 exact all r x hx
theorem pI{Zp:List (List Key×V)}(ok:Tb P w H h)(e:H a=some (.dT Zp)):Zp.length<=sizeLine/\(a==sysModules)=false/\∃xs,KT H Zp xs/\h.DictOfH (tupleKind (Xp P w)) a xs:=LU ok (.inl e)
end
def RL(H:Hp)(a:Addr)(y:V)(r:Option V):Prop:=
 (∃Zp k,Rd H a (.dK Zp)/\y=kV k/\r=Vr Zp k)\/∃Zp k b,Rd H a (.dT Zp)/\y=.ref b/\H b=some (.tup (k.map kV))/\r=Vr Zp k
def GF(H:Hp)(a:Addr)(y v:V)(H':Hp):Prop:=
 (∃Zp k,H a=some (.dK Zp)/\y=kV k/\Zp.length<sizeLine/\H'=upd H a (.dK (putK Zp k v)))\/
 ∃Zp k b,H a=some (.dT Zp)/\y=.ref b/\H b=some (.tup (k.map kV))/\Zp.length<sizeLine/\H'=upd H a (.dT (putK Zp k v))
theorem RL.k{H:Hp}{a:Addr}{Zp:List (Key×V)}{k:Key}(e:H a=some (.dK Zp)):RL H a (kV k) (Vr Zp k):=.inl ⟨Zp,k,.inl e,Y,Y⟩
theorem GF.k{H:Hp}{a:Addr}{Zp:List (Key×V)}{k:Key}{v:V}(e:H a=some (.dK Zp))(hl:Zp.length<sizeLine):GF H a (kV k) v (upd H a (.dK (putK Zp k v))):=.inl ⟨Zp,k,e,Y,hl,Y⟩
section
variable{X:Cx}{pins:List (Addr×Obj)}{σ:St}{H:Hp}{s:Shared}{a:Addr}{y v:V}{u r:Value}{o:Option V}{A:Around}{E:Value->Shared->Prop}
theorem Inv.big(I:Inv X pins σ H s):sysModules<s.heap.objs.size:=by
 have h:mainGlobals<s.heap.objs.size:=(I.mod.glob.keeps I.bk).lt;exact Nat.lt_trans (by decide) h
theorem BN{Q:Value->Shared->Prop}(hu:A.units+1<cLine)(I:Inv X pins σ H s)(g:RL H a y (some v))(ry:RelV y u)(h:∀w' s',Inv X pins σ H s'->RelV v w'->Q w' s'):wpAny (model X.prog X.w) A (getItem (.ref a) u) Q E s:=by
 rcases g with⟨Zp,k,e,ey,l⟩|⟨Zp,k,b,e,ey,eb,l⟩
 ·subst ey;obtain⟨z,hd,vs,rel,dd⟩:=NC I.X3 e;obtain⟨w',hw,BQ⟩:=RM.some_of (v:=v) (o:=valueAt vs k) (by rw[l];exact rel.val k);exact wpAny_getItem_of (LV ry) dd.mapOf hw (h w' _ (I.tok _) BQ)
 ·subst ey;cases(show u=Value.ref b from ry);obtain⟨z,hd,xs,rel,dd⟩:=LU I.X3 e;obtain⟨w',hw,BQ⟩:=RM.some_of (v:=v) (o:=(atKey xs k).map (·.2)) (by rw[l];exact rel.val k);obtain⟨p,hp,pH⟩:=Uv.mp hw;refine wpAny_getItem_heap (Tg hu) (N_ I.X3 eb) dd hp ?_;rw[pH];exact h w' _ (I.tok _) BQ
theorem kY{Q:Value->Shared->Prop}(hu:A.units+1<cLine)(I:Inv X pins σ H s)(g:RL H a y o)(ry:RelV y u)(h:∀s',Inv X pins σ H s'->Q (.bool o.isSome) s'):wpAny (model X.prog X.w) A (compareOp .In u (.ref a)) Q E s:=by
 rcases g with⟨Zp,k,e,ey,l⟩|⟨Zp,k,b,e,ey,eb,l⟩
 ·subst ey;obtain⟨z,hd,vs,rel,dd⟩:=NC I.X3 e;refine wpAny_in_of (LV ry) hd dd.mapOf ?_;rw[<-(rel.val k).S9,<-l];exact h _ (I.tok _)
 ·subst ey;cases(show u=Value.ref b from ry);obtain⟨z,hd,xs,rel,dd⟩:=LU I.X3 e;refine wpAny_in_heap (Tg hu) (N_ I.X3 eb) hd dd ?_;have q:=(rel.val k).S9;rw[Option.isSome_map]at q;rw[<-q,<-l];exact h _ (I.tok _)
theorem wO{Q:Value->Shared->Prop}(hu:A.units+1<cLine)(I:Inv X pins σ H s)(g:RL H a y o)(ry:RelV y u)(h:∀s',Inv X pins σ H s'->Q (.bool (!o.isSome)) s'):wpAny (model X.prog X.w) A (compareOp .NotIn u (.ref a)) Q E s:=by
 rcases g with⟨Zp,k,e,ey,l⟩|⟨Zp,k,b,e,ey,eb,l⟩
 ·subst ey;obtain⟨z,hd,vs,rel,dd⟩:=NC I.X3 e;refine wpAny_notIn_of (LV ry) hd dd.mapOf ?_;rw[<-(rel.val k).S9,<-l];exact h _ (I.tok _)
 ·subst ey;cases(show u=Value.ref b from ry);obtain⟨z,hd,xs,rel,dd⟩:=LU I.X3 e;refine wpAny_notIn_heap (Tg hu) (N_ I.X3 eb) hd dd ?_;have q:=(rel.val k).S9;rw[Option.isSome_map]at q;rw[<-q,<-l];exact h _ (I.tok _)
theorem IB{h':Heap}{t':Nat}{ob:HO}(I:Inv X pins σ H s)(mu:qB (H a))(hs:Heap.SameBut a s.heap h')(he:∃q,h'.get? a=some q)(new:WZ X.prog X.w (upd H a ob) h' a ob):Inv X pins σ (upd H a ob) {s with heap:=h',toks:=t'}:=
 I.write (x:=a) (e:=a) mu (.inl Y) (fun b q O z=>(hs.2 b O).trans z) he new
theorem Es{P:Program}{w:World}{H':Hp}{h':Heap}{Zp:List (Key×V)}{vs:List (Key×Value)}(z:Zp.length<=sizeLine)(hd:(a==sysModules)=false)(rel:KV Zp vs)(dd:h'.DictOf (Xp P w) a vs):WZ P w H' h' a (.dK Zp):=⟨z,hd,vs,rel,dd⟩
theorem BM{H':Hp}{Q:Unit->Shared->Prop}(hu:A.units+1<cLine)(I:Inv X pins σ H s)(g:GF H a y v H')(ry:RelV y u)(rv:RelV v r)(h:∀s',Inv X pins σ H' s'->Q () s'):wpAny (model X.prog X.w) A (setItem (.ref a) u r) Q E s:=by
 rcases g with⟨Zp,k,e,ey,l,eH⟩|⟨Zp,k,b,e,ey,eb,l,eH⟩
 ·subst ey eH;obtain⟨z,hd,vs,rel,dd⟩:=uK I.X3 e;have hz:vs.length<=sizeLine:=by rw[<-rel.length];exact z
  have hl:(putK Zp k v).length<=sizeLine:=by have:=Rt Zp k v;omega
  refine wpAny_setItem_pairs (hsz:=hz) (LV ry) dd fun h' wN hs=>h _ ?_;have he:∃q,h'.get? a=some q:=let⟨q,_,_,hq,_⟩:=wN;⟨q,hq⟩
  exact IB I (by rw[e];exact True.intro) hs he (Es hl hd (rel.put k rv) wN)
 ·subst ey eH;cases(show u=Value.ref b from ry);obtain⟨z,hd,xs,rel,dd⟩:=pI I.X3 e;have hz:xs.length<=sizeLine:=by rw[<-Paired.length rel];exact z
  have hl:(putK Zp k v).length<=sizeLine:=by have:=Rt Zp k v;omega
  refine wpAny_setItem_heap (hsz:=hz) (Tg hu) (N_ I.X3 eb) dd fun h' wN hs=>h _ ?_;obtain⟨q,es,ep,hq,h2,h3,h4,_,h5⟩:=wN;refine IB I (by rw[e];exact True.intro) hs ⟨q,hq⟩ ⟨hl,hd,_,(rel.put k eb rv).keeps fun c ys ec=>?_,q,es,ep,hq,h2,h3,h4,h5⟩;rw[ZV (qD ec e (fun z=>nomatch z))];exact ec
end
def sY(i:Expr):Prop:=∀ov iv,subscripted i false ov iv=operate [ov,iv] (getItem ov iv)
theorem CZ{prog:Program}{w:World}{A:Around}{E:Value->Shared->Prop}{s:Shared}{env:Env}{value slice:Expr}{pos:Pos}{T id:String}{Q:Value->Shared->Prop}(hl:typeLookup (.type T) "__getitem__"=pure (some (.builtin id)))(hs:sY slice)(h:wpAny (model prog w) A (eval value env) (fun o XU=>wpAny (model prog w) A (eval slice env) (fun i P8=>P8.TypeIs o T/\wpAny (model prog w) A (getItem o i) Q E P8) E XU) E s):wpAny (model prog w) A (eval (.Subscript value slice pos) env) Q E s:=by
 refine Subscript_ (X2 h (fun o XU wR=>X2 wR (fun i P8 Af=>?_) fun _ _ x=>x) fun _ _ x=>x);obtain⟨hT,Af⟩:=Af;unfold subscriptTail;refine ZU ?_;rw[getitemInPython_of_ne hT.not_modules];refine ZU (wpAny_specialOf hT hl ?_);have fin:wpAny (model prog w) A (subscripted slice false o i) (fun r G1=>wpAny (model prog w) A (letTemporaryGo value o r>>=fun _=>pure r) Q E G1) E P8:=by
  rw[hs o i];exact wpAny_operating (X2 Af (fun r G1 wQ=>ZU (wpAny_letTemporaryGo (Zq wQ))) fun _ _ x=>x)
 first
  |exact Zq (ZU fin)
  |exact ZU (Zq (ZU fin))
  |exact ZU fin
theorem GD{X:Cx}{pins:List (Addr×Obj)}{σ:St}{H:Hp}{s:Shared}{a:Addr}{y:V}{o:Option V}(I:Inv X pins σ H s)(g:RL H a y o):s.TypeIs (.ref a) "dict":=by
 rcases g with⟨Zp,k,e,_,_⟩|⟨Zp,k,b,e,_,_,_⟩
 ·obtain⟨_,_,vs,_,dd⟩:=NC I.X3 e;exact dd.typeIs
 ·obtain⟨_,_,xs,_,dd⟩:=LU I.X3 e;exact dd.typeIs
def pG(td ty:TE):TE:=fun σ H Q=>td σ H fun x H1=>ty σ H1 fun y H2=>∃a v,x=.ref a/\RL H2 a y (some v)/\Q v H2
def kX(ty td:TE):TE:=fun σ H Q=>ty σ H fun y H1=>td σ H1 fun x H2=>∃a o,x=.ref a/\RL H2 a y o/\Q (.bl o.isSome) H2
def wM(ty td:TE):TE:=fun σ H Q=>ty σ H fun y H1=>td σ H1 fun x H2=>∃a o,x=.ref a/\RL H2 a y o/\Q (.bl (!o.isSome)) H2
def Ac(td ty tv:TE):TS:=fun D σ H=>tv σ H fun v H1=>td σ H1 fun x H2=>ty σ H2 fun y H3=>∃a H4,x=.ref a/\GF H3 a y v H4/\D.nx σ H4
section
variable{X:Cx}{o i e value:Expr}{pos pos' L6:Pos}{td ty tv:TE}
theorem Wq(hu:X.A.units+1<cLine)(ho:PE X o td)(hi:PE X i ty)(hs:sY i):PE X (.Subscript o i pos) (pG td ty):=by
 intro pins s σ H Q I h;refine CZ PySem.F.slot_dict_getitem.lookup hs (X8 (ho pins s σ H _ I h) fun u s1 ⟨x,H1,I1,rx,q1⟩=>X8 (hi pins s1 σ H1 _ I1 q1) fun iv s2 ⟨y,H2,I2,ry,a,v,ex,g,q2⟩=>?_);subst ex;obtain rfl:u=Value.ref a:=rx;exact⟨GD I2 g,BN hu I2 g ry fun w' s3 I3 BQ=>⟨v,H2,I3,BQ,q2⟩⟩
theorem Er(hu:X.A.units+1<cLine)(hi:PE X i ty)(ho:PE X o td):PC X .In i o (kX ty td):=by
 intro pins s σ H Q I h;refine X8 (hi pins s σ H _ I h) fun iv s1 ⟨y,H1,I1,ry,q1⟩=>X8 (ho pins s1 σ H1 _ I1 q1) fun u s2 ⟨x,H2,I2,rx,a,ov,ex,g,q2⟩=>?_;subst ex;obtain rfl:u=Value.ref a:=rx;exact kY hu I2 g ry fun s3 I3=>⟨.bl ov.isSome,H2,I3,Y,q2⟩
theorem V1(hu:X.A.units+1<cLine)(hi:PE X i ty)(ho:PE X o td):PC X .NotIn i o (wM ty td):=by
 intro pins s σ H Q I h;refine X8 (hi pins s σ H _ I h) fun iv s1 ⟨y,H1,I1,ry,q1⟩=>X8 (ho pins s1 σ H1 _ I1 q1) fun u s2 ⟨x,H2,I2,rx,a,ov,ex,g,q2⟩=>?_;subst ex;obtain rfl:u=Value.ref a:=rx;exact wO hu I2 g ry fun s3 I3=>⟨.bl (!ov.isSome),H2,I3,Y,q2⟩
theorem O9(hu:X.A.units+1<cLine)(ho:PE X o td)(hi:PE X i ty)(hv:PE X value tv)(hs:swapsWith value (some (.Subscript o i pos')) pos.line X.env=pure false):PS X (.Assign [.Subscript o i pos'] value pos) (Ac td ty tv):=by
 intro pins s σ H D I h;refine wpAny_Assign_Subscript (X8 (hv pins s σ H _ I h) fun r s1 ⟨v,H1,I1,rv,q1⟩=>X8 (ho pins s1 σ H1 _ I1 q1) fun u s2 ⟨x,H2,I2,rx,q2⟩=>X8 (hi pins s2 σ H2 _ I2 q2) fun iv s3 ⟨y,H3,I3,ry,a,H4,ex,g,q3⟩=>?_) hs;subst ex;obtain rfl:u=Value.ref a:=rx;exact BM hu I3 g ry rv fun s4 I4=>⟨σ,H4,I4,q3⟩
end
theorem GC{P:Program}{w:World}{H:Hp}(h:Heap)(O:sysModules<h.objs.size):WZ P w H (h.push {cls:=.type "dict",data:=.dict #[]}) h.objs.size (.dK []):=
 ⟨Zt _,Vu.mpr (Xb (Y7 O)),[],.nil,Heap.DictOf.new h⟩
def sX:TE:=fun _ H Q=>∀p,H p=none->Q (.ref p) (upd H p (.dK []))
section
variable{X:Cx}{pos:Pos}
theorem GB:PE X (.Dict [] [] pos) sX:=fun pins s σ H Q I h=>
 wpAny_Dict_empty ⟨.ref s.heap.objs.size,_,I.laid (a:=s.heap.objs.size) (o:=.dK []) (t':=s.toks) (fun _ _ q=>Yw _ q) (ZK _) (GC s.heap I.big),Y,h _ (I.X3.fresh (ZK _))⟩
end
def Ep:List (TE×TE)->St->Hp->(List (V×V)->Hp->Prop)->Prop
 |[],_,H,Q=>Q [] H
 |(tk,tv)::r,σ,H,Q=>tk σ H fun x H1=>tv σ H1 fun y H2=>Ep r σ H2 fun ps H3=>Q ((x,y)::ps) H3
abbrev VV:List (V×V)->List (Value×Value)->Prop:=Paired fun p q=>RelV p.1 q.1/\RelV p.2 q.2
def nA(X:Cx)(pos:Pos)(keys:List (Option Expr))(values:List Expr)(wL:List (TE×TE)):Prop:=
 ∀(pins:List (Addr×Obj))(s:Shared)(σ:St)(H:Hp)(Q:List (V×V)->Hp->Prop),Inv X pins σ H s->Ep wL σ H Q->
  wpAny (model X.prog X.w) X.A (evalPairs (pairTrees keys values X.env pos)) (fun vs s'=>∃ps H',Inv X pins σ H' s'/\VV ps vs/\Q ps H') X.xe s
theorem CY{X:Cx}{pos:Pos}:nA X pos [] [] []:=fun pins s σ H Q I h=>pairTrees_nil_walk ⟨[],H,I,.nil,h⟩
theorem GA{X:Cx}{pos:Pos}{k v:Expr}{ks:List (Option Expr)}{vs:List Expr}{tk tv:TE}{wL:List (TE×TE)}(hk:PE X k tk)(hv:PE X v tv)(hr:nA X pos ks vs wL):nA X pos (some k::ks) (v::vs) ((tk,tv)::wL):=fun pins s σ H Q I h=>
 pairTrees_cons_walk (X8 (hk pins s σ H _ I h) fun u s1 ⟨x,H1,I1,rx,q1⟩=>X8 (hv pins s1 σ H1 _ I1 q1) fun w2 s2 ⟨y,H2,I2,ry,q2⟩=>
  X8 (hr pins s2 σ H2 _ I2 q2) fun ws s3 ⟨ps,H3,I3,rel,q3⟩=>⟨(x,y)::ps,H3,I3,.cons ⟨rx,ry⟩ rel,q3⟩)
noncomputable def Rr(Zp more:List (Key×V)):List (Key×V):=more.foldl (fun acc kv=>putK acc kv.1 kv.2) Zp
theorem KV.merge:∀{more:List (Key×V)}{rs:List (Key×Value)}{Zp:List (Key×V)}{vs:List (Key×Value)},KV more rs->KV Zp vs->KV (Rr Zp more) (merged vs rs):=by
 intro more rs Zp vs r;unfold KV at r;induction r generalizing Zp vs with
 |nil=>intro q;exact q
 |@cons p q ps qs h t ih=>
  intro r0;have e:KV (putK Zp p.1 p.2) (stored vs q.1 q.2):=by
   have:=r0.put p.1 h.2;rw[<-h.1];exact this
  exact ih e
theorem Qs:∀(more Zp:List (Key×V)),(Rr Zp more).length<=Zp.length+more.length
 |[],Zp=>by show Zp.length<=Zp.length+0;omega
 |p::r,Zp=>by
  have J:=Qs r (putK Zp p.1 p.2);have h2:=Rt Zp p.1 p.2;show(Rr (putK Zp p.1 p.2) r).length<=_;rw[Zg];omega
theorem LS{P:Program}{w:World}:∀{Zp:List (Key×V)}{ws:List (Value×Value)},VV (Zp.map fun kv=>(kV kv.1,kv.2)) ws->∃rs,Carries (Xp P w) ws rs/\KV Zp rs
 |[],_,r=>by rw[List.map_nil]at r;cases r;exact⟨[],True.intro,.nil⟩
 |p::Zp,_,r=>by
  rw[Y1]at r;cases r with
  |@cons a b as bs h t=>
   obtain⟨rs,c,q⟩:=LS (P:=P) (w:=w) t;obtain⟨b1,b2⟩:=b;exact⟨(p.1,b2)::rs,⟨LV h.1,Y,c⟩,.cons ⟨Y,h.2⟩ q⟩
def pF(wL:List (TE×TE)):TE:=fun σ H Q=>∀p,H p=none->Ep wL σ (upd H p (.dK [])) fun ps H2=>H2 p=some (.dK [])/\∃Zp:List (Key×V),ps=Zp.map (fun kv=>(kV kv.1,kv.2))/\Zp.length<=15/\Q (.ref p) (upd H2 p (.dK (Rr [] Zp)))
theorem CW{X:Cx}{pos:Pos}{keys:List (Option Expr)}{values:List Expr}{wL:List (TE×TE)}(h:nA X pos keys values wL)(TC:keys.all (·.isSome)=true)(hl:keys.length=values.length)(h0:keys≠[])(eM:keys.length<=15):PE X (.Dict keys values pos) (pF wL):=by
 intro pins s σ H Q I q;have hn:=I.X3.fresh (ZK s.heap.objs.size);have I1:=I.laid (a:=s.heap.objs.size) (o:=.dK []) (h':=s.heap.push {cls:=.type "dict",data:=.dict #[]}) (t':=s.toks) (fun _ _ q=>Yw _ q) (ZK _) (GC s.heap I.big);refine wpAny_Dict_walk (knd:=Xp X.prog X.w) TC hl h0 eM (X8 (h pins _ σ _ _ I1 (q _ hn)) fun ws s2 ⟨ps,H2,I2,rel,e,Zp,ep,lk,q2⟩=>?_);subst ep;obtain⟨rs,c,rk⟩:=LS (P:=X.prog) (w:=X.w) rel;obtain⟨z,hd,vs0,r0,dd⟩:=uK I2.X3 e;cases r0;refine⟨rs,c,dd,fun h' wN hs=>⟨.ref s.heap.objs.size,_,?_,Y,q2⟩⟩;have hz:(Rr [] Zp).length<=sizeLine:=by
  have J:=Qs Zp [];rw[List.length_nil]at J;rw[sizeLine_eq];omega
 have he:∃q,h'.get? s.heap.objs.size=some q:=let⟨q,_,_,hq,_⟩:=wN;⟨q,hq⟩
 exact IB I2 (by rw[e];exact True.intro) hs he (Es hz hd (rk.merge .nil) wN)
structure M1(X:Cx)(o:Expr)(m:Str)(apos:Pos)(e:Expr)(Rz:Pos):Prop where
 base:attributeBase o m X.env (eval o X.env)=eval o X.env
 kW:((backTo Rz (starEach [e] X.env)).all (fun x=>!x.1)&&(backToKw Rz (keywordEach [] X.env)).all (fun x=>x.1.isSome)
  &&decide (([e]:List Expr).length+([]:List Keyword).length+(if([]:List Keyword).isEmpty then 0 else 1)<30))=true
 line:(apos.endLine==Rz.line)=true
 trees:backTo Rz (starEach [e] X.env)=[(false,eval e X.env)]
def ir(H:Hp)(a:Addr):Prop:=(∃Zp,Rd H a (.dK Zp))\/∃Zp,Rd H a (.dT Zp)
theorem sW{X:Cx}{pins:List (Addr×Obj)}{σ:St}{H:Hp}{s:Shared}{a:Addr}(I:Inv X pins σ H s)(d:ir H a):s.TypeIs (.ref a) "dict"/\(∀b,Value.ref a=.ref b->∃ob,s.heap.get? b=some ob/\ob.dict=none)/\(a==sysModules)=false:=by
 rcases d with⟨Zp,e⟩|⟨Zp,e⟩
 ·obtain⟨_,hd,vs,_,dd⟩:=NC I.X3 e;refine⟨dd.typeIs,fun b q=>?_,hd⟩;cases q;obtain⟨ob,_,_,J,h2,_⟩:=dd;exact⟨ob,J,h2.2.1⟩
 ·obtain⟨_,hd,xs,_,dd⟩:=LU I.X3 e;refine⟨dd.typeIs,fun b q=>?_,hd⟩;cases q;obtain⟨ob,_,_,J,h2,_⟩:=dd;exact⟨ob,J,h2.2.1⟩
section
variable{X:Cx}{pins:List (Addr×Obj)}{σ:St}{H:Hp}{s:Shared}{a:Addr}{y d:V}{u r:Value}{o:Option V}{A:Around}{E:Value->Shared->Prop}
theorem sV{Q:Value->Shared->Prop}(hu:A.units+1<cLine)(I:Inv X pins σ H s)(g:RL H a y o)(ry:RelV y u)(h:∀w' s',Inv X pins σ H s'->RelV (o.getD .Xf) w'->Q w' s'):wpAny (model X.prog X.w) A (call (.builtin "dict.get") [.ref a,u]) Q E s:=by
 rcases g with⟨Zp,k,e,ey,l⟩|⟨Zp,k,b,e,ey,eb,l⟩
 ·subst ey;obtain⟨z,hd,vs,rel,dd⟩:=NC I.X3 e;refine call_meetsIn PySem.F.slot_dict_get dd.typeIs PySem.F.entry_dict_get (PySem.F.args_dict_get_2 _ _) (meets_dict_get (Xp X.prog X.w) a (LV ry) hd) ⟨_,dd.mapOf,h _ _ (I.tok _) ?_⟩;rw[l];exact(rel.val k).getD rfl
 ·subst ey;cases(show u=Value.ref b from ry);obtain⟨z,hd,xs,rel,dd⟩:=LU I.X3 e;refine call_meetsIn PySem.F.slot_dict_get dd.typeIs PySem.F.entry_dict_get (PySem.F.args_dict_get_2 _ _) (meetsH_dict_get (tupleKind (Xp X.prog X.w)) a b hd) ⟨Tg hu,k,xs,N_ I.X3 eb,dd,h _ _ (I.tok _) ?_⟩;rw[l];exact(rel.val k).getD rfl
end
def sU(td ty:TE):TE:=fun σ H Q=>td σ H fun x H1=>∃a,x=.ref a/\ir H1 a/\ty σ H1 fun y H2=>∃o,RL H2 a y o/\Q (o.getD .Xf) H2
section
variable{X:Cx}{o e f:Expr}{apos Rz:Pos}{td ty tx:TE}
theorem Ab(hu:X.A.units+1<cLine)(ho:PE X o td)(he:PE X e ty)(m:M1 X o "get" apos e Rz):PE X (.Call (.Attribute o "get" apos) [e] [] Rz) (sU td ty):=by
 intro pins s σ H Q I h;refine wpAny_Call_method m.base m.kW m.line PySem.F.plainAttrs_dict PySem.F.slot_dict_get PySem.F.type_dict_get (X8 (ho pins s σ H _ I h) fun u s1 ⟨x,H1,I1,rx,a,ex,d,q1⟩=>?_);subst ex;obtain rfl:u=Value.ref a:=rx;obtain⟨t1,t2,_⟩:=sW I1 d;refine⟨t1,t2,?_⟩;rw[m.trees];refine Calls.callWith_builtin Y (Calls.evalArgs_plain (Calls.spliced_cons (X8 (he pins s1 σ H1 _ I1 q1) fun iv s2 ⟨y,H2,I2,ry,ov,g,q2⟩=>Calls.spliced_nil ?_)));exact sV hu I2 g ry fun w' s3 I3 BQ=>⟨_,H2,I3,BQ,q2⟩
end
section
variable{X:Cx}{pins:List (Addr×Obj)}{σ:St}{H:Hp}{s:Shared}{a:Addr}{Zp:List (Key×V)}{A:Around}{E:Value->Shared->Prop}
theorem Aa{Q:Value->Shared->Prop}(I:Inv X pins σ H s)(e:Rd H a (.dK Zp))(h:∀p s',H p=none->Inv X pins σ (upd H p (.dK Zp)) s'->Q (.ref p) s'):wpAny (model X.prog X.w) A (call (.type "dict") [.ref a]) Q E s:=by
 obtain⟨z,hd,vs,rel,dd⟩:=NC I.X3 e;refine kt_call_dict hd dd (by rw[<-rel.length];exact z) fun h' wN hs=>?_;refine h _ _ (I.X3.fresh (ZK _)) (I.laid (a:=s.heap.objs.size) (o:=.dK Zp) (t':=s.toks) (fun b q hq=>?_) (ZK _) (Es z (Vu.mpr (Xb (Y7 I.big))) rel wN));exact(hs.2 b (Y7 (Zo hq))).trans (Yw _ hq)
end
section
variable{X:Cx}{pins:List (Addr×Obj)}{σ:St}{H:Hp}{s:Shared}{h':Heap}
theorem Inv.wK{t':Nat}{ch:List Addr}(I:Inv X pins σ H s)(k:∀b o,b∉ch->s.heap.get? b=some o->h'.get? b=some o)(hf:∀b∈ch,MG X pins H b):Inv X pins σ H {s with heap:=h',toks:=t'}:=by
 have uY:∀b u,H b=some u->b∉ch:=fun b u e z=>by
  have q:=(hf b z).1;rw[q]at e;cases e
 refine I.step (g':=s.gens) (d':=s.drawn) (ch:=ch) (fun b O=>⟨(hf b O).2.2.2.1,(hf b O).2.1,(hf b O).2.2.2.2.1,(hf b O).2.2.2.2.2⟩) (fun b o _ _ hc e _=>k b o hc e) (fun b o _ _ hc e _=>⟨o.slots,k b o hc e⟩)
  (fun _ _ _ _ n=>n) (fun b o hc e=>⟨o,k b o hc e⟩) (fun _ _ e=>e) (fun _ _ _ e=>e) (fun b ps e=>⟨#[],by rw[e];simp⟩) (fun m hm=>?_) (fun b u e=>?_) I.bare
 ·obtain⟨o,es,ep,ho,r⟩:=hm;exact⟨o,es,ep,k _ o (fun z=>(hf _ z).2.1 rfl) ho,r⟩
 ·refine(I.X3 b u e).ER (fun c v hc q=>k c v ?_ q) (fun _ q=>q) fun _ _ q=>q;rcases hc with z|z;·rw[z];exact uY b u e
  ·exact uY c _ z
theorem Inv.JL{t':Nat}{ch:List Addr}{T:Addr}{ob:HO}(I:Inv X pins σ H s)(k:∀b o,b∉ch->s.heap.get? b=some o->h'.get? b=some o)(hf:∀b∈ch,MG X pins H b)(hT:s.heap.objs.size<=T)(new:WZ X.prog X.w (upd H T ob) h' T ob):Inv X pins σ (upd H T ob) {s with heap:=h',toks:=t'}:=by
 have hn:H T=none:=I.X3.fresh hT;have uY:∀b u,H b=some u->b∉ch:=fun b u e z=>by
  have q:=(hf b z).1;rw[q]at e;cases e
 refine I.step (g':=s.gens) (d':=s.drawn) (ch:=ch) (fun b O=>⟨(hf b O).2.2.2.1,(hf b O).2.1,(hf b O).2.2.2.2.1,(hf b O).2.2.2.2.2⟩) (fun b o _ _ hc e _=>k b o hc e) (fun b o _ _ hc e _=>⟨o.slots,k b o hc e⟩)
  (fun b o _ e n=>?_) (fun b o hc e=>⟨o,k b o hc e⟩) (fun b xs e=>?_) (fun b o u e=>?_) (fun b ps e=>⟨#[],?_⟩) (fun m hm=>?_) (fun b u e=>?_) I.bare
 ·rw[ZV (Y7 (Zl (Zo e) hT))];exact n
 ·rw[ZV (Zx e hn)];exact e
 ·rw[ZV (Zx e hn)];exact e
 ·rw[ZV (Zx e hn),e];simp
 ·obtain⟨o,es,ep,ho,r⟩:=hm;exact⟨o,es,ep,k _ o (fun z=>(hf _ z).2.1 rfl) ho,r⟩
 ·by_cases O:b=T
  ·subst O;rw[Z4]at e;cases e;exact new
  ·rw[ZV O]at e;refine(I.X3 b u e).ER (fun c v hc q=>k c v ?_ q) (fun c q=>by rw[ZV (Zx q hn)];exact q) fun c xs q=>by rw[ZV (Zx q hn)];exact q
   rcases hc with z|z;·rw[z];exact uY b u e
   ·exact uY c _ z
end
def uJ(K:W.Frag)(a:Addr):It:=
 ⟨fun i H=>∃(xs:List V) (x:V),Zw K H a xs/\xs[i]?=some x,fun i H v H'=>∃T x,v=.ref T/\H T=none/\H'=upd H T (.tup [.int (i:Nat),x])/\∀xs,Zw K H a xs->xs[i]?=some x,fun i H=>∃xs:List V,Zw K H a xs/\xs.length<=i⟩
theorem BL{P:Program}{w:World}{K:W.Frag}{elts:List Expr}{kk:Nat}{L6:Pos}(a e it:Addr):Turn P w K (.Tuple elts kk L6) (uJ K a) [e,it] e (fun i h=>(∃old,IsEnum h e it ((i:Nat):Int) old)/\h.IsListIter it a i/\e≠it)where
 mem:=by simp
 obj:=fun i h st b O=>by
  obtain⟨⟨old,he⟩,⟨o,ho,hc,hd⟩,_⟩:=st;have e':b=e\/b=it:=by simpa using O
  rcases e' with z|z;·rw[z];exact⟨_,he,fun v q=>nomatch q⟩
  ·rw[z];exact⟨o,ho,fun v q=>by rw[hd]at q;cases q⟩
 keep:=fun i h h' st k=>let⟨⟨old,he⟩,hi,QN⟩:=st;⟨⟨old,k e (by simp) _ he⟩,hi.at fun o q=>k it (by simp) o q,QN⟩
 item:=by
  intro X hP hw hK hc i pins s σ H E I hf st hg;subst hP hw hK;obtain⟨⟨old,he⟩,hit,QN⟩:=st;obtain⟨xs,x,hq,hx⟩:=hg;obtain⟨Y5,rv,p,hz⟩:=I.list hq;obtain⟨u,hu,ru⟩:=rv.get hx;have iq:e<s.heap.objs.size:=Zo he;have eK:it<s.heap.objs.size:=by obtain⟨_,q,_⟩:=hit;exact Zo q
  refine wpAny_pyNext_enum_item he hit p.isList (x:=u) (by simpa using hu) QN fun h' ho kU hT hsz hk=>?_;refine Z1 Y (wpAny_letOwnedTupleGo_enum (s:={s with heap:=h',toks:=s.toks+1}) ho fun uM qQ sb=>?_);have kT:uM.get? s.heap.objs.size=some {cls:=.type "tuple",data:=.seq #[.int i s.toks,u]}:=(sb.2 _ (Nat.ne_of_gt iq)).trans hT;have new:WZ X.prog X.w (upd H s.heap.objs.size (.tup [.int (i:Nat),x])) uM s.heap.objs.size (.tup [.int (i:Nat),x]):=
   ⟨by show 2<=sizeLine;decide,[.int i s.toks,u],.cons ⟨_,Y⟩ (.cons ru .nil),⟨_,kT,Y,_,Y⟩⟩
  have I1:Inv X pins σ (upd H s.heap.objs.size (.tup [.int (i:Nat),x])) {s with heap:=uM,toks:=s.toks+1}:=
   I.JL (ch:=[e,it]) (fun b ob O q=>(sb.2 b (fun z=>O (by simp[z]))).trans (hk b ob (fun z=>O (by simp[z])) (fun z=>O (by simp[z])) q)) hf (ZK _) new
  refine⟨.ref s.heap.objs.size,_,I1,Y,⟨_,x,Y,I.X3.fresh (ZK _),Y,fun ys hy=>by rw[I.Pf hy hq];exact hx⟩,⟨⟨u,?_⟩,kU.at fun o q=>(sb.2 it (Xb QN)).trans q,QN⟩,fun b O=>?_⟩
  ·have e1:((i+1:Nat):Int)=(i:Int)+1:=by omega
   rw[e1];exact qQ
  ·have kS:b<s.heap.objs.size:=by
    have e':b=e\/b=it:=by simpa using O
    rcases e' with z|z;·rw[z];exact iq
    ·rw[z];exact eK
   rw[ZV (Y7 kS)];exact(hf b O).1
 done:=by
  intro X hP hw hK hc i pins s σ H E I hf st hg;subst hP hw hK;obtain⟨⟨old,he⟩,hit,QN⟩:=st;obtain⟨xs,hq,hx⟩:=hg;obtain⟨Y5,rv,p,hz⟩:=I.list hq;obtain⟨f0,f1,f2,f3,f4,f5⟩:=hf it (by simp);have hl:=rv.length;exact wpAny_pyNext_enum_end (I.ok.hd hc) he hit p.isList (by simp;omega) fun h' eb=>⟨Y,I.turned (t':=s.toks) (fun b o O q=>eb b o O q) f0 f1 f3 f4 f5⟩
 self:=fun A i s Q E st h=>let⟨⟨_,he⟩,_⟩:=st;wpAny_pyIter_enum he h
def pE(K:W.Frag)(ta:TA):TI:=fun σ H R=>ta σ H fun vs H1=>∃a xs,vs=[.ref a]/\Zw K H1 a xs/\R (uJ K a) H1
theorem V8{X:Cx}{e:Expr}{ta:TA}{p pos L6:Pos}{elts:List Expr}{kk:Nat}(hg:Gl X "enumerate")(hm:X.mg "enumerate"=none)(ha:PA X [e] ta)(hs:starEach [e] X.env=[(false,eval e X.env)]:=by rfl):PI X (.Tuple elts kk L6) (.Call (.Name "enumerate" p) [e] [] pos) (pE X.K ta):=by
 intro pins s σ H R I h;refine Call_ (Od I hg hm boot_enumerate (Pg (X8 (ha pos pins s σ H _ I h) fun us s1 ⟨vs,H1,I1,r1,q1⟩=>?_) hs Y));obtain⟨a,xs,ex,hq,q⟩:=q1;subst ex;cases r1 with
 |cons r rr=>
  cases rr;cases r;obtain⟨Y5,rv,p',hz⟩:=I1.list hq;refine call_enumerate_list p'.isList fun h' he hit hsz hk=>wpAny_pyIter_enum he ?_;have I2:Inv X pins σ H1 {s1 with heap:=h'}:=I1.kept (t':=s1.toks) hk;refine⟨s1.heap.objs.size+1,[s1.heap.objs.size+1,s1.heap.objs.size],Yd ⟨H1,Y,I2,BL a (s1.heap.objs.size+1) s1.heap.objs.size,⟨⟨.none,he⟩,hit,Nat.succ_ne_self _⟩,fun b O=>?_,q⟩⟩;have e':b=s1.heap.objs.size+1\/b=s1.heap.objs.size:=by simpa using O
  have hle:s1.heap.objs.size<=b:=by
   rcases e' with z|z;·rw[z];exact RG _ _
   ·rw[z];exact ZK _
  exact I1.AA hle (I1.X3.fresh hle)
theorem BK:bootBuiltins "zip"=some (.type "zip"):=by decide+kernel
def uI(K:W.Frag)(a b:Addr):It:=
 ⟨fun i H=>∃(xs ys:List V) (x y:V),Zw K H a xs/\Zw K H b ys/\xs[i]?=some x/\ys[i]?=some y,fun i H v H'=>∃T x y,v=.ref T/\H T=none/\H'=upd H T (.tup [x,y])/\(∀xs,Zw K H a xs->xs[i]?=some x)/\∀ys,Zw K H b ys->ys[i]?=some y,fun i H=>∃xs ys:List V,Zw K H a xs/\Zw K H b ys/\(xs.length<=i\/ys.length<=i)⟩
theorem z_{P:Program}{w:World}{K:W.Frag}{elts:List Expr}{kk:Nat}{L6:Pos}{a b z TI TO i1 i2:Addr}(D:ZipApart z TI TO i1 i2 a b):Turn P w K (.Tuple elts kk L6) (uI K a b) [z,TI,TO,i1,i2] z (fun i h=>IsZip h z TI TO .none/\IsPair h TI (.ref i1) (.ref i2)/\(∃x y,IsPair h TO x y)/\h.IsListIter i1 a i/\h.IsListIter i2 b i)where
 mem:=by simp
 obj:=fun i h st c hc=>by
  obtain⟨hz,z9,⟨x,y,xK⟩,⟨o1,e1,_,d1⟩,⟨o2,e2,_,d2⟩⟩:=st;have e':c=z\/c=TI\/c=TO\/c=i1\/c=i2:=by simpa using hc
  rcases e' with q|q|q|q|q;·rw[q];exact⟨_,hz,fun v q=>nomatch q⟩
  ·rw[q];exact⟨_,z9,fun v q=>nomatch q⟩
  ·rw[q];exact⟨_,xK,fun v q=>nomatch q⟩
  ·rw[q];exact⟨o1,e1,fun v q=>by rw[d1]at q;cases q⟩
  ·rw[q];exact⟨o2,e2,fun v q=>by rw[d2]at q;cases q⟩
 keep:=fun i h h' st k=>by
  obtain⟨hz,z9,⟨x,y,xK⟩,J,h2⟩:=st;exact⟨k z (by simp) _ hz,k TI (by simp) _ z9,⟨x,y,k TO (by simp) _ xK⟩,J.at fun o q=>k i1 (by simp) o q,h2.at fun o q=>k i2 (by simp) o q⟩
 item:=by
  intro X hP hw hK hc i pins s σ H E I hf st hg;subst hP hw hK;obtain⟨hz,z9,⟨x0,y0,xK⟩,J,h2⟩:=st;obtain⟨xs,ys,x,y,qP,qO,hx,hy⟩:=hg;obtain⟨Y5,rv,p,_⟩:=I.list qP;obtain⟨LW,nt,p2,_⟩:=I.list qO;obtain⟨u,hu,ru⟩:=rv.get hx;obtain⟨u2,eJ,eI⟩:=nt.get hy;have ip:z<s.heap.objs.size:=Zo hz;refine wpAny_pyNext_zip_item D hz z9 xK J h2 p.isList p2.isList (x:=u) (y:=u2) (by simpa using hu) (by simpa using eJ) fun h' z' eF eE eD hT hsz hk=>?_;refine Z1 Y (wpAny_letOwnedTupleGo_zip (s:={s with heap:=h'}) z' fun uM eB sb=>?_);have kT:uM.get? s.heap.objs.size=some {cls:=.type "tuple",data:=.seq #[u,u2]}:=(sb.2 _ (Nat.ne_of_gt ip)).trans hT;have new:WZ X.prog X.w (upd H s.heap.objs.size (.tup [x,y])) uM s.heap.objs.size (.tup [x,y]):=
   ⟨by show 2<=sizeLine;decide,[u,u2],.cons ru (.cons eI .nil),⟨_,kT,Y,_,Y⟩⟩
  have I1:Inv X pins σ (upd H s.heap.objs.size (.tup [x,y])) {s with heap:=uM}:=
   I.JL (t':=s.toks) (ch:=[z,TI,TO,i1,i2]) (fun c o O q=>(sb.2 c (fun q'=>O (by simp[q']))).trans (hk c o (fun q'=>O (by simp[q'])) (fun q'=>O (by simp[q'])) (fun q'=>O (by simp[q'])) (fun q'=>O (by simp[q'])) q)) hf (ZK _) new
  refine⟨.ref s.heap.objs.size,_,I1,Y,⟨_,x,y,Y,I.X3.fresh (ZK _),Y,fun l hl=>by rw[I.Pf hl qP];exact hx,fun l hl=>by rw[I.Pf hl qO];exact hy⟩,⟨eB,?_,⟨u,u2,?_⟩,?_,?_⟩,fun c nj=>?_⟩;·exact(sb.2 _ D.TIz).trans (hk _ _ D.TIz D.TITO D.TIi1 D.TIi2 z9)
  ·exact(sb.2 _ D.TOz).trans eF
  ·exact eE.at fun o q=>(sb.2 _ D.i1z).trans q
  ·exact eD.at fun o q=>(sb.2 _ D.i2z).trans q
  ·have WY:c<s.heap.objs.size:=by
    have e':c=z\/c=TI\/c=TO\/c=i1\/c=i2:=by simpa using nj
    rcases e' with q|q|q|q|q;·rw[q];exact ip
    ·rw[q];exact Zo z9
    ·rw[q];exact Zo xK
    ·rw[q];obtain⟨_,e1,_⟩:=J;exact Zo e1
    ·rw[q];obtain⟨_,e2,_⟩:=h2;exact Zo e2
   rw[ZV (Y7 WY)];exact(hf c nj).1
 done:=by
  intro X hP hw hK hc i pins s σ H E I hf st hg;subst hP hw hK;obtain⟨hz,z9,⟨x0,y0,xK⟩,J,h2⟩:=st;obtain⟨xs,ys,qP,qO,kR⟩:=hg;obtain⟨Y5,rv,p,_⟩:=I.list qP;obtain⟨LW,nt,p2,_⟩:=I.list qO;have l1:=rv.length;have l2:=nt.length;have he:Y5.toArray[i]?=none\/LW.toArray[i]?=none:=by
   rcases kR with q|q;·exact .inl (by simp;omega)
   ·exact .inr (by simp;omega)
  exact wpAny_pyNext_zip_end (I.ok.hd hc) D hz z9 xK J h2 p.isList p2.isList he fun h' hk=>⟨Y,I.wK (t':=s.toks) (ch:=[z,TI,TO,i1,i2]) (fun c o O q=>
   hk c o (fun q'=>O (by simp[q'])) (fun q'=>O (by simp[q'])) (fun q'=>O (by simp[q'])) (fun q'=>O (by simp[q'])) q) hf⟩
 self:=fun A i s Q E st h=>wpAny_pyIter_zip st.1 h
def kQ(K:W.Frag)(ta:TA):TI:=fun σ H R=>ta σ H fun vs H1=>∃a b xs ys,vs=[.ref a,.ref b]/\Zw K H1 a xs/\Zw K H1 b ys/\R (uI K a b) H1
theorem PX{X:Cx}{e e2:Expr}{ta:TA}{p pos L6:Pos}{elts:List Expr}{kk:Nat}(hg:Gl X "zip")(hm:X.mg "zip"=none)(ha:PA X [e,e2] ta)(hs:starEach [e,e2] X.env=(false,eval e X.env)::starEach [e2] X.env:=by rfl)(Kn:(backTo pos (starEach [e2] X.env)).any (·.1)=false:=by rfl):PI X (.Tuple elts kk L6) (.Call (.Name "zip" p) [e,e2] [] pos) (kQ X.K ta):=by
 intro pins s σ H R I h;refine Call_ (Od I hg hm BK (Pg (X8 (ha pos pins s σ H _ I h) fun us s1 ⟨vs,H1,I1,r1,q1⟩=>?_) hs Kn));obtain⟨a,b,xs,ys,ex,qP,qO,q⟩:=q1;subst ex;cases r1 with
 |cons r rr=>
  cases rr with
  |cons r' rr=>
   cases rr;cases r;cases r';obtain⟨Y5,rv,p1,_⟩:=I1.list qP;obtain⟨LW,nt,p2,_⟩:=I1.list qO;have la:a<s1.heap.objs.size:=p1.lt;have lb:b<s1.heap.objs.size:=p2.lt;refine call_zip_2 p1.isList p2.isList fun h' hz z9 xK J h2 hsz hk=>wpAny_pyIter_zip hz ?_;have I2:Inv X pins σ H1 {s1 with heap:=h'}:=I1.kept (t':=s1.toks) hk;refine⟨s1.heap.objs.size+4,[s1.heap.objs.size+4,s1.heap.objs.size+2,s1.heap.objs.size+3,s1.heap.objs.size,s1.heap.objs.size+1],Yd ⟨H1,Y,I2,z_ (W.ktu_apart s1.heap.objs.size a b la lb),⟨hz,z9,Yd xK,J,h2⟩,fun c nj=>?_,q⟩⟩;have e':c=s1.heap.objs.size+4\/c=s1.heap.objs.size+2\/c=s1.heap.objs.size+3\/c=s1.heap.objs.size\/c=s1.heap.objs.size+1:=by simpa using nj
   have hle:s1.heap.objs.size<=c:=by
    rcases e' with z|z|z|z|z;·rw[z];exact RG _ _
    ·rw[z];exact RG _ _
    ·rw[z];exact RG _ _
    ·rw[z];exact ZK _
    ·rw[z];exact RG _ _
   exact I1.AA hle (I1.X3.fresh hle)
end L2
section
namespace L2
open PySem PySem.Spec PyProof.Rows
open PySem.W (WData Codec OpenSpec Well WellAll ReadsW ReadsAllW)
mutual
inductive Dw(K:W.Frag)(H:Hp):V->WData->Prop
 |Xf:Dw K H .Xf .none
 |bl (b:Bool):Dw K H (.bl b) (.bool b)
 |int (i:Int):Dw K H (.int i) (.int i)
 |str (x:Str):Dw K H (.str x) (.str x)
 |EX (b:Array UInt8):Dw K H (.EX b) (.bytes b.toList)
 |lst {a:Addr} {xs:List V} {ds:List WData}:Zw K H a xs->R0 K H xs ds->Dw K H (.ref a) (.list ds)
 |tup {a:Addr} {xs:List V} {ds:List WData}:U4 K H a xs->R0 K H xs ds->Dw K H (.ref a) (.tuple ds)
inductive R0(K:W.Frag)(H:Hp):List V->List WData->Prop
 |nil:R0 K H [] []
 |cons {v:V} {vs:List V} {d:WData} {ds:List WData}:Dw K H v d->R0 K H vs ds->R0 K H (v::vs) (d::ds)
end
theorem CV{K:W.Frag}{H:Hp}:∀ns:List Int,R0 K H (ns.map V.int) (ns.map WData.int)
 |[]=>.nil
 |n::r=>.cons (.int n) (CV r)
theorem CU{K:W.Frag}{H:Hp}:∀(ns:List Int)(xs:List V),R0 K H xs (ns.map WData.int)->xs=ns.map V.int
 |[],xs,h=>by
  cases h;rfl
 |n::r,xs,h=>by
  cases h with
  |cons J h2=>
   cases J;rw[CU r _ h2]<;>rfl
section
variable{P:Program}{w:World}{K:W.Frag}{H:Hp}{h:Heap}{R:W.WRecords}{cl:Str->Option Addr}
theorem sT{a:Addr}{xs:List V}(X3:Tb P w H h)(KX:K.In h)(q:Zw K H a xs):∃(Y5:List Value) (o:Obj) (n:Nat),Vals xs Y5/\h.get? a=some o/\o.cls=.type "list"/\o.data=.seq Y5.toArray n:=by
 rcases q with q|⟨o,Y5,n,e,hc,_,hd,_,hv⟩
 ·obtain⟨_,Y5,n,hv,e⟩:=(show WZ P w H h a (.lst xs)from q.ok X3);exact⟨Y5,_,n,hv,e,Y,Y⟩
 ·exact⟨Y5.toList,o,n,hv,KX _ _ e,hc,by simp[hd]⟩
theorem sS{a:Addr}{xs:List V}(X3:Tb P w H h)(KX:K.In h)(q:U4 K H a xs):∃(Y5:List Value) (o:Obj) (n:Nat),Vals xs Y5/\h.get? a=some o/\o.cls=.type "tuple"/\o.data=.seq Y5.toArray n:=by
 rcases q with q|⟨o,Y5,n,e,hc,hd,_,hv⟩
 ·obtain⟨_,Y5,hv,o,e,hc,n,hd⟩:=(show WZ P w H h a (.tup xs)from q.ok X3);exact⟨Y5,o,n,hv,e,hc,hd⟩
 ·exact⟨Y5.toList,o,n,hv,KX _ _ e,hc,by simp[hd]⟩
mutual
theorem Dw.reads(X3:Tb P w H h)(KX:K.In h):∀(d:WData)(v:V)(u:Value),Dw K H v d->RelV v u->∃as,ReadsW R cl h u d as
 |.none,_,_,x,r=>by
  cases x;cases r;exact⟨_,ReadsW.none⟩
 |.bool b,_,_,x,r=>by
  cases x;cases r;exact⟨_,ReadsW.bool b⟩
 |.int i,_,_,x,r=>by
  cases x;obtain⟨t,rfl⟩:=r;exact⟨_,ReadsW.int i t⟩
 |.str s,_,_,x,r=>by
  cases x;obtain⟨t,rfl⟩:=r;exact⟨_,ReadsW.str s t⟩
 |.bytes b,_,_,x,r=>by
  cases x;obtain⟨t,rfl⟩:=r;exact⟨_,ReadsW.bytes _ t⟩
 |.list ds,_,_,x,r=>by
  cases x with
  |lst hs ha=>
   cases r;obtain⟨Y5,o,n,rv,ho,hc,hd⟩:=sT X3 KX hs;obtain⟨as,hr⟩:=Dw.readsAll X3 KX ds _ Y5 ha rv;exact⟨_,ReadsW.list ho hc hd hr⟩
 |.tuple ds,_,_,x,r=>by
  cases x with
  |tup hs ha=>
   cases r;obtain⟨Y5,o,n,rv,ho,hc,hd⟩:=sS X3 KX hs;obtain⟨as,hr⟩:=Dw.readsAll X3 KX ds _ Y5 ha rv;exact⟨_,ReadsW.tuple ho hc hd hr⟩
 |.float _,_,_,x,_=>by cases x
 |.dict _,_,_,x,_=>by cases x
 |.bytearray _,_,_,x,_=>by cases x
 |.set _,_,_,x,_=>by cases x
 |.frozenset _,_,_,x,_=>by cases x
 |.obj _ _,_,_,x,_=>by cases x
theorem Dw.readsAll(X3:Tb P w H h)(KX:K.In h):∀(ds:List WData)(vs:List V)(us:List Value),R0 K H vs ds->Vals vs us->∃as,ReadsAllW R cl h us ds as
 |[],_,_,x,r=>by
  cases x;cases r;exact⟨_,ReadsAllW.nil⟩
 |d::ds,_,_,x,r=>by
  cases x with
  |cons J h2=>
   cases r with
   |cons r1 r2=>
    obtain⟨as,q1⟩:=Dw.reads X3 KX d _ _ J r1;obtain⟨bs,q2⟩:=Dw.readsAll X3 KX ds _ _ h2 r2;exact⟨_,ReadsAllW.cons q1 q2⟩
end
end
mutual
def CT:WData->Bool
 |.none=>true
 |.bool _=>true
 |.int _=>true
 |.str _=>true
 |.bytes _=>true
 |.list xs=>MF xs
 |.tuple xs=>MF xs
 |_=>false
def MF:List WData->Bool
 |[]=>true
 |x::r=>CT x&&MF r
end
theorem Gz{α:Type}{f:α->WData}(h:∀a,CT (f a)=true):∀l:List α,MF (l.map f)=true
 |[]=>rfl
 |x::r=>by
  show(CT (f x)&&MF (r.map f))=true;rw[h x,Gz h r]<;>rfl
theorem Rq:∀(c:Codec)(a:c.denote),CT (c.enc a)=true
 |.unit,_=>rfl
 |.bool,_=>rfl
 |.int _ _,_=>rfl
 |.nat _ _,_=>rfl
 |.u8,_=>rfl
 |.bytes _ _,_=>rfl
 |.text _ _ _ _,_=>rfl
 |.list _ _ c,a=>Gz (fun x=>Rq c x) a
 |.pair c d,a=>by
  show(CT (c.enc a.1)&&(CT (d.enc a.2)&&true))=true;rw[Rq c a.1,Rq d a.2]<;>rfl
 |.triple c d e,a=>by
  show(CT (c.enc a.1)&&(CT (d.enc a.2.1)&&(CT (e.enc a.2.2)&&true)))=true;rw[Rq c a.1,Rq d a.2.1,Rq e a.2.2]<;>rfl
 |.option c,none=>rfl
 |.option c,some x=>Rq c x
theorem JK:∀(cs:List Codec)(a:Codec.denoteAll cs),MF (Codec.encAll cs a)=true
 |[],_=>rfl
 |c::cs,a=>by
  show(CT (c.enc a.1)&&MF (Codec.encAll cs a.2))=true;rw[Rq c a.1,JK cs a.2]<;>rfl
theorem PV:∀{xs:List WData}{d:WData},d∈xs->d.weight<=WData.weightAll xs
 |[],d,h=>absurd h (by simp)
 |x::r,d,h=>by
  show d.weight<=x.weight+1+WData.weightAll r;rcases ZE.mp h with e|m
  ·rw[e];omega
  ·have z:=PV m;omega
noncomputable def toV:Value->V
 |.none=>.Xf
 |.bool b=>.bl b
 |.int i _=>.int i
 |.str x _=>.str x
 |.bytes b _=>.EX b
 |.ref a=>.ref a
 |_=>.Xf
def BJ(A:List Addr):Value->Prop
 |.none=>True
 |.bool _=>True
 |.int _ _=>True
 |.str _ _=>True
 |.bytes _ _=>True
 |.ref a=>a∈A
 |_=>False
theorem BJ.mono{A B:List Addr}(h:∀a∈A,a∈B):∀{u:Value},BJ A u->BJ B u:=fun{u} x=>by
 cases u with
 |ref a=>exact h a x
 |none=>trivial
 |bool b=>trivial
 |int i t=>trivial
 |str s t=>trivial
 |bytes b t=>trivial
 |_=>exact False.elim x
theorem z8{A:List Addr}{u:Value}(x:BJ A u):RelV (toV u) u:=by
 cases u with
 |ref a=>rfl
 |none=>rfl
 |bool b=>rfl
 |int i t=>exact ⟨t,Y⟩
 |str s t=>exact ⟨t,Y⟩
 |bytes b t=>exact ⟨t,Y⟩
 |_=>exact False.elim x
theorem S8{A:List Addr}:∀{vs:List Value},(∀u∈vs,BJ A u)->Vals (vs.map toV) vs
 |[],_=>.nil
 |u::r,h=>.cons (z8 (h u (YG ..))) (S8 fun x hx=>h x (Zf _ hx))
def RZ(h:Heap)(A:List Addr)(a:Addr):Prop:=∃vs:List Value,vs.length<=sizeLine/\(∀u∈vs,BJ A u)/\
 (h.get? a=some {cls:=.type "list",data:=.seq vs.toArray}\/h.get? a=some {cls:=.type "tuple",data:=.seq vs.toArray})
theorem RZ.mono{h:Heap}{A B:List Addr}{a:Addr}(k:∀a∈A,a∈B)(x:RZ h A a):RZ h B a:=by
 obtain⟨vs,J,h2,h3⟩:=x;exact⟨vs,J,fun u hu=>(h2 u hu).mono k,h3⟩
theorem T7{P:Params}{h:Heap}:∀{vs:List Value}{ds:List WData},WellAll P h vs ds->vs.length=ds.length
 |_,_,.nil=>rfl
 |_,_,.cons _ b=>by
  show _+1=_+1;rw[T7 b]
theorem JJ{P:Params}{h:Heap}{v:Value}{ds:List WData}(x:Well P h v (.list ds)):∃(a:Addr) (vs:List Value),v=.ref a/\h.get? a=some {cls:=.type "list",data:=.seq vs.toArray}/\WellAll P h vs ds:=by
 cases x with
 |list ho TC=>exact Yd ⟨Y,ho,TC⟩
theorem LR{P:Params}{h:Heap}{v:Value}{ds:List WData}(x:Well P h v (.tuple ds)):∃(a:Addr) (vs:List Value),v=.ref a/\h.get? a=some {cls:=.type "tuple",data:=.seq vs.toArray}/\WellAll P h vs ds:=by
 cases x with
 |tuple ho TC=>exact Yd ⟨Y,ho,TC⟩
theorem JI{P:Params}{h:Heap}{us:List Value}{d:WData}{ds:List WData}(x:WellAll P h us (d::ds)):∃(v:Value) (vs:List Value),us=v::vs/\Well P h v d/\WellAll P h vs ds:=by
 cases x with
 |cons a b=>exact Yd ⟨Y,a,b⟩
theorem CS{n:Nat}(h:n<=1048576):n<=sizeLine:=ZA h (by decide)
section
variable{P:Params}{h:Heap}
mutual
theorem z7:∀(d:WData)(v:Value),Well P h v d->CT d=true->d.weight<=1048576->∃A:List Addr,BJ A v/\∀a∈A,RZ h A a
 |.none,_,x,_,_=>by
  cases x;exact⟨[],trivial,fun a m=>absurd m (by simp)⟩
 |.bool b,_,x,_,_=>by
  cases x;exact⟨[],trivial,fun a m=>absurd m (by simp)⟩
 |.int i,_,x,_,_=>by
  cases x;exact⟨[],trivial,fun a m=>absurd m (by simp)⟩
 |.str s,_,x,_,_=>by
  cases x;exact⟨[],trivial,fun a m=>absurd m (by simp)⟩
 |.bytes b,_,x,_,_=>by
  cases x;exact⟨[],trivial,fun a m=>absurd m (by simp)⟩
 |.list ds,_,x,p,z=>by
  obtain⟨a,vs,rfl,ho,TC⟩:=JJ x;have z2:WData.weightAll ds<=1048576:=z;obtain⟨A,J,h2⟩:=O8 ds _ TC p fun d hd=>ZA (PV hd) z2;have k:∀b∈A,b∈a::A:=fun b O=>Zf _ O;refine⟨a::A,YG ..,fun b O=>?_⟩;rcases ZE.mp O with e|m
  ·rw[e];exact⟨vs,CS (by rw[T7 TC];exact ZA (W.length_le_weightAllW ds) z2),fun u hu=>(J u hu).mono k,.inl ho⟩
  ·exact(h2 b m).mono k
 |.tuple ds,_,x,p,z=>by
  obtain⟨a,vs,rfl,ho,TC⟩:=LR x;have z2:WData.weightAll ds<=1048576:=z;obtain⟨A,J,h2⟩:=O8 ds _ TC p fun d hd=>ZA (PV hd) z2;have k:∀b∈A,b∈a::A:=fun b O=>Zf _ O;refine⟨a::A,YG ..,fun b O=>?_⟩;rcases ZE.mp O with e|m
  ·rw[e];exact⟨vs,CS (by rw[T7 TC];exact ZA (W.length_le_weightAllW ds) z2),fun u hu=>(J u hu).mono k,.inr ho⟩
  ·exact(h2 b m).mono k
 |.float _,_,_,p,_=>Bool.noConfusion (show false=true from p)
 |.dict _,_,_,p,_=>Bool.noConfusion (show false=true from p)
 |.bytearray _,_,_,p,_=>Bool.noConfusion (show false=true from p)
 |.set _,_,_,p,_=>Bool.noConfusion (show false=true from p)
 |.frozenset _,_,_,p,_=>Bool.noConfusion (show false=true from p)
 |.obj _ _,_,_,p,_=>Bool.noConfusion (show false=true from p)
theorem O8:∀(ds:List WData)(vs:List Value),WellAll P h vs ds->MF ds=true->(∀d∈ds,d.weight<=1048576)->∃A:List Addr,(∀u∈vs,BJ A u)/\∀a∈A,RZ h A a
 |[],_,x,_,_=>by
  cases x;exact⟨[],fun u m=>absurd m (by simp),fun a m=>absurd m (by simp)⟩
 |d::ds,_,x,p,z=>by
  obtain⟨v,vs,rfl,x1,x2⟩:=JI x;have q:CT d=true/\MF ds=true:=Bool.and_eq_true_iff.mp p;obtain⟨A,a1,a2⟩:=z7 d v x1 q.1 (z d (YG ..));obtain⟨B,b1,b2⟩:=O8 ds vs x2 q.2 fun e he=>z e (Zf _ he);have kA:∀b∈A,b∈A++B:=fun b O=>Zj.mpr (.inl O);have kB:∀b∈B,b∈A++B:=fun b O=>Zj.mpr (.inr O);refine⟨A++B,fun u hu=>?_,fun b O=>?_⟩
  ·rcases ZE.mp hu with e|m
   ·rw[e];exact a1.mono kA
   ·exact(b1 u m).mono kB
  ·rcases Zj.mp O with m|m;·exact(a2 b m).mono kA
   ·exact(b2 b m).mono kB
end
end
noncomputable def wJ(o:Obj):Option HO:=match o.data with
 |.seq vs _=>if(o.cls==Value.type "list")=true then some (.IQ o (.lst (vs.toList.map toV)))else some (.IQ o (.tup (vs.toList.map toV)))
 |_=>none
noncomputable def TB(K:W.Frag)(h:Heap)(A:List Addr):Hp:=fun b=>if b∈A then(if(K.lookup b).isNone=true then(h.get? b).bind wJ else none)else none
def Gy(H:Hp):Prop:=∀b,H b=none\/∃o u,H b=some (.IQ o u)
theorem Gx(vs:List Value):wJ {cls:=.type "list",data:=.seq vs.toArray}=some (.IQ {cls:=.type "list",data:=.seq vs.toArray} (.lst (vs.map toV))):=by
 show(if(Value.type "list"==Value.type "list")=true then some (HO.IQ {cls:=.type "list",data:=.seq vs.toArray} (.lst (vs.toArray.toList.map toV)))else some (HO.IQ {cls:=.type "list",data:=.seq vs.toArray} (.tup (vs.toArray.toList.map toV))))=_;rw[Z7 (beq_self_eq_true _)]
theorem Gw(vs:List Value):wJ {cls:=.type "tuple",data:=.seq vs.toArray}=some (.IQ {cls:=.type "tuple",data:=.seq vs.toArray} (.tup (vs.map toV))):=by
 show(if(Value.type "tuple"==Value.type "list")=true then some (HO.IQ {cls:=.type "tuple",data:=.seq vs.toArray} (.lst (vs.toArray.toList.map toV)))else some (HO.IQ {cls:=.type "tuple",data:=.seq vs.toArray} (.tup (vs.toArray.toList.map toV))))=_;rw[Z8 (by decide)]
section
variable{P:Program}{w:World}{K:W.Frag}{h:Heap}{A:List Addr}
theorem Mo{b:Addr}{o:Obj}(O:b∈A)(hk:K.lookup b=none)(e:h.get? b=some o):TB K h A b=wJ o:=by
 unfold TB;rw[Z7 O,hk,Z7 (show(none:Option Obj).isNone=true from rfl),e]<;>rfl
theorem wI{b:Addr}{u:HO}(q:TB K h A b=some u):b∈A/\K.lookup b=none:=by
 unfold TB at q;by_cases O:b∈A
 ·rw[Z7 O]at q;cases hk:K.lookup b with
  |none=>exact ⟨O,Y⟩
  |some o=>
   rw[hk,Z8 (by simp)]at q;cases q
 ·rw[Z8 O]at q;cases q
theorem O7 (ar : ∀ a ∈ A, RZ h A a) {b : Addr} {u : HO} (q : TB K h A b = some u) : K.lookup b = none /\ ∃ vs : List Value, vs.length <= sizeLine /\ (∀ u ∈ vs, BJ A u) /\
    ((h.get? b = some { cls := .type "list", data := .seq vs.toArray } /\ u = .IQ { cls := .type "list", data := .seq vs.toArray } (.lst (vs.map toV))) \/
     (h.get? b = some { cls := .type "tuple", data := .seq vs.toArray } /\ u = .IQ { cls := .type "tuple", data := .seq vs.toArray } (.tup (vs.map toV)))) := by
  obtain ⟨O, hk⟩ := wI q
  obtain ⟨vs, J, h2, h3⟩ := ar b O
  refine ⟨hk, vs, J, h2, ?_⟩
  rcases h3 with e | e
  · rw [Mo O hk e, Gx] at q
    exact .inl ⟨e, (Y8 q).symm⟩
  · rw [Mo O hk e, Gw] at q
    exact .inr ⟨e, (Y8 q).symm⟩
theorem BI(ar:∀a∈A,RZ h A a):Gy (TB K h A):=fun b=>by
 cases q:TB K h A b with
 |none=>exact .inl rfl
 |some u=>
  obtain⟨_,vs,_,_,⟨_,e⟩|⟨_,e⟩⟩:=O7 ar q;·exact .inr (Yd (by rw[e]))
  ·exact .inr (Yd (by rw[e]))
theorem wH(ar:∀a∈A,RZ h A a):Tb P w (TB K h A) h:=fun b u q=>by
 obtain⟨_,vs,J,h2,⟨e,rfl⟩|⟨e,rfl⟩⟩:=O7 ar q;·exact⟨e,by rw[Z3];exact J,vs,_,S8 h2,e⟩
 ·exact⟨e,by rw[Z3];exact J,vs,S8 h2,_,e,Y,_,Y⟩
theorem Mm{c c':Value}{vs us:List Value}(e:(some {cls:=c,data:=.seq vs.toArray}:Option Obj)=some {cls:=c',data:=.seq us.toArray}):c=c'/\vs=us:=by
 have e1:=Y8 e;have e2:c=c':=congrArg Obj.cls e1;have e3:Data.seq vs.toArray=Data.seq us.toArray:=congrArg Obj.data e1;injection e3 with e4
 refine⟨e2,?_⟩;have e5:=congrArg Array.toList e4;simpa using e5
theorem kP(KX:K.In h)(ar:∀a∈A,RZ h A a){a:Addr}{vs:List Value}(ha:a∈A)(e:h.get? a=some {cls:=.type "list",data:=.seq vs.toArray}):(∀u∈vs,BJ A u)/\Zw K (TB K h A) a (vs.map toV):=by
 obtain⟨us,J,h2,h3⟩:=ar a ha;have hu:us=vs:=by
  rcases h3 with q|q
  ·rw[e]at q;exact(Mm q).2.symm
  ·rw[e]at q;exact absurd (Value.type.inj (Mm q).1) (by decide)
 subst hu;refine⟨h2,?_⟩;cases hk:K.lookup a with
 |none=>exact .inl (.inr ⟨_,by rw[Mo ha hk e,Gx]⟩)
 |some o=>
  have e2:=KX a o hk;rw[e]at e2;obtain rfl:=Y8 e2;exact .inr ⟨_,us.toArray,_,hk,Y,Y,Y,by rw[Y0];exact J,by simpa using S8 h2⟩
theorem kO(KX:K.In h)(ar:∀a∈A,RZ h A a){a:Addr}{vs:List Value}(ha:a∈A)(e:h.get? a=some {cls:=.type "tuple",data:=.seq vs.toArray}):(∀u∈vs,BJ A u)/\U4 K (TB K h A) a (vs.map toV):=by
 obtain⟨us,J,h2,h3⟩:=ar a ha;have hu:us=vs:=by
  rcases h3 with q|q
  ·rw[e]at q;exact absurd (Value.type.inj (Mm q).1) (by decide)
  ·rw[e]at q;exact(Mm q).2.symm
 subst hu;refine⟨h2,?_⟩;cases hk:K.lookup a with
 |none=>exact .inl (.inr ⟨_,by rw[Mo ha hk e,Gw]⟩)
 |some o=>
  have e2:=KX a o hk;rw[e]at e2;obtain rfl:=Y8 e2;exact .inr ⟨_,us.toArray,_,hk,Y,Y,by rw[Y0];exact J,by simpa using S8 h2⟩
mutual
theorem sR{Pm:Params}(KX:K.In h)(ar:∀a∈A,RZ h A a):∀(d:WData)(v:Value),Well Pm h v d->CT d=true->BJ A v->Dw K (TB K h A) (toV v) d
 |.none,_,x,_,_=>by
  cases x;exact .Xf
 |.bool b,_,x,_,_=>by
  cases x;exact .bl b
 |.int i,_,x,_,_=>by
  cases x;exact .int i
 |.str s,_,x,_,_=>by
  cases x;exact .str s
 |.bytes b,_,x,_,_=>by
  cases x;have z:=Dw.EX (K:=K) (H:=TB K h A) b.toArray;exact z
 |.list ds,_,x,p,hu=>by
  obtain⟨a,vs,rfl,ho,TC⟩:=JJ x;obtain⟨h2,hs⟩:=kP KX ar hu ho;exact .lst hs (IA KX ar ds _ TC p h2)
 |.tuple ds,_,x,p,hu=>by
  obtain⟨a,vs,rfl,ho,TC⟩:=LR x;obtain⟨h2,hs⟩:=kO KX ar hu ho;exact .tup hs (IA KX ar ds _ TC p h2)
 |.float _,_,_,p,_=>Bool.noConfusion (show false=true from p)
 |.dict _,_,_,p,_=>Bool.noConfusion (show false=true from p)
 |.bytearray _,_,_,p,_=>Bool.noConfusion (show false=true from p)
 |.set _,_,_,p,_=>Bool.noConfusion (show false=true from p)
 |.frozenset _,_,_,p,_=>Bool.noConfusion (show false=true from p)
 |.obj _ _,_,_,p,_=>Bool.noConfusion (show false=true from p)
theorem IA{Pm:Params}(KX:K.In h)(ar:∀a∈A,RZ h A a):∀(ds:List WData)(vs:List Value),WellAll Pm h vs ds->MF ds=true->(∀u∈vs,BJ A u)->R0 K (TB K h A) (vs.map toV) ds
 |[],_,x,_,_=>by
  cases x;exact .nil
 |d::ds,_,x,p,hu=>by
  obtain⟨v,vs,rfl,x1,x2⟩:=JI x;have q:CT d=true/\MF ds=true:=Bool.and_eq_true_iff.mp p;exact .cons (sR KX ar d v x1 q.1 (hu _ (YG ..))) (IA KX ar ds vs x2 q.2 fun u m=>hu u (Zf _ m))
end
end
theorem BH{P:Program}{w:World}{K:W.Frag}{mg mb:Str->Option Value}{CX:AQ}{k:Nat}{fa:Addr}{fd:FuncData}{ps:List Str}{sp:Sp}{XU:Shared}{vals:List Value}{ds:List WData}{R:W.WRecords}{cl:Str->Option Addr}{d0:WData}(KX:K.In XU.heap)(ig:XU.heap.Ns mainGlobals mg)(O:XU.heap.Ns builtinsNs mb)(ej:∀x:Str,x≠"__name__"->mb x=bootBuiltins x)(kN:XU.heap.NoLimit)(wG:XU.heap.NoSeer)(Gu:P.given.tree=none)(hg:XU.gens=#[])(wF:WellAll w.params XU.heap vals ds)(Kn:MF ds=true)(ee:∀d∈ds,d.weight<=1048576)(hr:Wj k callerA)(F:∀base:Heap,K.In base->base.Ns mainGlobals mg->Y6 P w K mg base CX k fa fd ps sp)(pD:∀(s:Shared)(us:List Value),us.length=ps.length->BindsTo s fd ⟨us,[]⟩ (ps.zip us))(hlen:ds.length=ps.length)(xM:∀(H:Hp)(xs:List V),Gy H->R0 K H xs ds->sp xs H (fun v H'=>Dw K H' v d0) fun _ _ _=>False)(pC:∀H e s',CX [] H XU (fun _ _ _=>False) e s'->False):codeAny (model P w) callerA (.call (.ref fa) ⟨vals,[]⟩) (fun r s'=>∃u as,r=.ok (.ret u)/\ReadsW R cl s'.heap u d0 as/\OldK XU.heap s'.heap/\s'.os=XU.os/\AllBare s'.gens) XU:=by
 obtain⟨A,ho,ar⟩:=O8 ds vals wF Kn ee;have hO:Gy (TB K XU.heap A):=BI ar;have X3:Tb P w (TB K XU.heap A) XU.heap:=wH ar;have hS:=IA KX ar ds vals wF Kn ho;have hV:=S8 ho;have hK:∀b u,TB K XU.heap A b=some u->K.lookup b=none:=fun b u q=>(O7 ar q).1;have qS:∀{b:Addr}{o:Obj}{es:Array DictEntry}{ep:Nat},XU.heap.get? b=some o->o.data=.dict es ep->TB K XU.heap A b=none:=fun{b o es ep} e d=>by
  cases q:TB K XU.heap A b with
  |none=>rfl
  |some u=>
   obtain⟨_,vs,_,_,⟨e2,_⟩|⟨e2,_⟩⟩:=O7 ar q
   ·rw[e2]at e;cases e;have d':Data.seq vs.toArray _=Data.dict es ep:=d;cases d'
   ·rw[e2]at e;cases e;have d':Data.seq vs.toArray _=Data.dict es ep:=d;cases d'
 have ie:∀{b:Addr}{o:Obj},XU.heap.get? b=some o->o.cls=.type "module"->TB K XU.heap A b=none:=fun{b o} e d=>by
  cases q:TB K XU.heap A b with
  |none=>rfl
  |some u=>
   obtain⟨_,vs,_,_,⟨e2,_⟩|⟨e2,_⟩⟩:=O7 ar q
   ·rw[e2]at e;cases e;exact absurd (show Value.type "list"=Value.type "module" from d) (by decide)
   ·rw[e2]at e;cases e;exact absurd (show Value.type "tuple"=Value.type "module" from d) (by decide)
 generalize TB K XU.heap A=H at hO X3 hS hK qS ie;have Iz:∀{b:Addr}{o:Obj},XU.heap.get? b=some o->H b=none->(IM XU.heap H).get? b=some o:=fun e n=>AJ e n;have uH:∀{b:Addr}{m:Str->Option Value},XU.heap.Ns b m->(IM XU.heap H).Ns b m:=fun{b m} ⟨o,es,ep,e,d,r⟩=>⟨o,es,ep,Iz e (qS e d),d,r⟩;have nK:∀b o,K.lookup b=some o->H b=none:=fun b o e=>by
  cases q:H b with
  |none=>rfl
  |some u=>
   rw[hK b u q]at e;cases e
 have h_:K.In (IM XU.heap H):=fun b o e=>Iz (KX b o e) (nK b o e);have hM:Mod K mg (IM XU.heap H):=⟨h_,uH ig,⟨mb,uH O,ej⟩,let⟨mc,J,h2⟩:=kN;⟨mc,uH J,h2⟩,⟨let⟨mc,a,b⟩:=wG.statics;⟨mc,uH a,b⟩,let⟨mc,a,b⟩:=wG.mods;⟨mc,uH a,b⟩,let⟨mc,a,b⟩:=wG.imp;⟨mc,uH a,b⟩,let⟨g,bm,ob,a,b,c,d,e⟩:=wG.main;⟨g,bm,ob,uH a,b,Iz c (ie c d),d,e⟩⟩⟩;have e0:EC P w K mg (IM XU.heap H) callerA [] XU H:=⟨Y,hM,fun b o e=>xw e,Nat.le_of_eq (B3 _ _),trivial,fun b O=>absurd (show b∈([]:List Addr)from O) (by simp),X3,.of_eq hg,Gu⟩;have hl:vals.length=ps.length:=by rw[T7 wF];exact hlen
 refine codeAny_mono ((F _ h_ (uH ig)).run callerA [] XU H ⟨vals,[]⟩ vals (vals.map toV) _ _ hr e0 (pD XU vals hl) hV (xM H _ hO hS)) fun r s' x=>?_;cases r with
 |error e=>exact (pC H e s' x).elim
 |ok fl=>
  cases fl with
  |next=>exact False.elim x
  |brk=>exact False.elim x
  |cont=>exact False.elim x
  |ret u=>
   obtain⟨v,H',os,bare,un,pB,r',q⟩:=x;have kept:∀b o,XU.heap.get? b=some o->s'.heap.get? b=some o:=fun b o e=>by
    cases q2:H b with
    |none=>exact un.keep b o e q2 (by intro z;exact absurd (show b∈([]:List Addr)from z) (by simp)) (by simp)
    |some u2=>
     rcases hO b with z|⟨ob,u3,z⟩
     ·rw[q2]at z;cases z
     ·have z2:=un.IP b ob _ z;obtain⟨e1,_⟩:=X3 b _ z;obtain⟨e2,_⟩:=pB b _ z2;rw[e]at e1;cases e1;exact e2
   have d_:K.In s'.heap:=fun b o e=>kept b o (KX b o e);obtain⟨as,h8⟩:=Dw.reads (R:=R) (cl:=cl) pB d_ d0 v u q r';exact⟨u,as,Y,h8,OldK.of_keep kept,os,bare⟩
theorem LQ{ds:List WData}(h:WData.layableAll ds=true):∀d∈ds,d.weight<=1048576:=fun d hd=>
 (W.layableW_iff.mp (VY.mp h d hd)).2.2
theorem LP:∀(cs:List Codec)(a:Codec.denoteAll cs),(Codec.encAll cs a).length=cs.length
 |[],_=>rfl
 |c::cs,a=>by
  show(Codec.encAll cs a.2).length+1=cs.length+1;rw[LP cs a.2]
theorem BG{r:OpenSpec}{k:Nat}{q:Program}{loose:List Str}{XP:(Str->Option Value)->Heap->Prop}{YP:World->Heap->Prop}{d:DefRec}{K:Params->W.Frag}{CX:World->AQ}{ps:List Str}{sp:World->Sp}(himp:importsNone q=true)(Gu:r.prog.given.tree=none)(z6:r.wellSaid=true)(h7:d.params.defaults=[])(hlen:r.args.length=ps.length)(hr:Wj k callerA)(hY:∀(w:World)(h:Heap),YP w h->(K w.params).In h)(F:∀(w:World)(mg:Str->Option Value)(fa:Addr)(h:Heap),YP w h->(K w.params).In h->h.Ns mainGlobals mg->mg d.name=some (.ref fa)->∃fd:FuncData,(∀(s:Shared)(us:List Value),us.length=ps.length->BindsTo s fd ⟨us,[]⟩ (ps.zip us))/\∀base:Heap,(K w.params).In base->base.Ns mainGlobals mg->Y6 r.prog w (K w.params) mg base (CX w) k fa fd ps (sp w))(xM:∀(w:World)(H:Hp)(xs:List V)(a:Codec.denoteAll r.args),Gy H->Codec.withinAll r.args a=true->Codec.app r.args r.asked a=true->R0 (K w.params) H xs (Codec.encAll r.args a)->sp w xs H (fun v H'=>Dw (K w.params) H' v (r.ret.enc (Codec.app r.args r.f a))) fun _ _ _=>False)(pC:∀(w:World)(H:Hp)(s:Shared)(e:Value)(s':Shared),CX w [] H s (fun _ _ _=>False) e s'->False):W.WalkOS q loose XP YP r d [] (fun f vs=>PySem.call f vs):=by
 intro w JX XU mg mb G pA fa o pm cd doc dV kV ho hd AS hD kM hg args vals as kL kK h8 wF hlo;obtain⟨a,e1,e2⟩:=W.os_pre_some kL;obtain⟨e3,kJ⟩:=Codec.encAll_of_decAll r.args args a e1;subst e3;have KX:=hY w _ pA;obtain⟨fd,O,hF⟩:=F w mg fa _ pA KX G.T.g kM;refine W.enter_call (codeAny_mono (BH (R:=[]) (cl:=classAt JX.heap) (d0:=r.ret.enc (Codec.app r.args r.f a)) KX G.T.g G.T.b G.T.builtins G.T.nolimit (G.T.seer himp) Gu hg wF (JK _ _) (LQ kK) hr hF O (by rw[LP];exact hlen)
  (fun H xs hO hS=>xM w H xs a hO kJ e2 hS) fun H e s'=>pC w H XU e s') fun r' s' hq=>?_)
 obtain⟨u,d8,rfl,J,h2,h3,h4⟩:=hq;exact⟨.inl ⟨u,_,d8,Y,fun _=>rfl,J,(OpenSpec.post_iff z6 kJ _ _).mpr Y,fun z=>Bool.noConfusion (show false=true from z)⟩,h2,h3,h4⟩
theorem Eo{r:OpenSpec}{k:Nat}{q:Program}{loose:List Str}{XP:(Str->Option Value)->Heap->Prop}{YP:World->Heap->Prop}{d:DefRec}{K:Params->W.Frag}{CX:AQ}{ps:List Str}{sp:W.Frag->Sp}(himp:importsNone q=true)(Gu:r.prog.given.tree=none)(z6:r.wellSaid=true)(h7:d.params.defaults=[])(hlen:r.args.length=ps.length)(hr:Wj k callerA)(hY:∀(w:World)(h:Heap),YP w h->(K w.params).In h)(F:∀(w:World)(mg:Str->Option Value)(fa:Addr)(h:Heap),YP w h->(K w.params).In h->h.Ns mainGlobals mg->mg d.name=some (.ref fa)->∃fd:FuncData,(∀(s:Shared)(us:List Value),us.length=ps.length->BindsTo s fd ⟨us,[]⟩ (ps.zip us))/\∀base:Heap,(K w.params).In base->base.Ns mainGlobals mg->Y6 r.prog w (K w.params) mg base CX k fa fd ps (sp (K w.params)))(xM:∀(K:W.Frag)(H:Hp)(xs:List V)(a:Codec.denoteAll r.args),Gy H->Codec.withinAll r.args a=true->Codec.app r.args r.asked a=true->R0 K H xs (Codec.encAll r.args a)->sp K xs H (fun v H'=>Dw K H' v (r.ret.enc (Codec.app r.args r.f a))) fun _ _ _=>False)(pC:∀(H:Hp)(s:Shared)(e:Value)(s':Shared),CX [] H s (fun _ _ _=>False) e s'->False):W.WalkOS q loose XP YP r d [] (fun f vs=>PySem.call f vs):=
 BG (K:=K) (CX:=fun _=>CX) (sp:=fun w=>sp (K w.params)) himp Gu z6 h7 hlen hr hY F (fun w H xs a J h2 h3 h4=>xM (K w.params) H xs a J h2 h3 h4) fun _ H s e s'=>pC H s e s'
end L2
end
namespace L2
open PySem PySem.Spec PyProof.Rows
noncomputable def inClass(s:Stmt)(j:Nat):Stmt:=match s with
 |.ClassDef _ _ _ body _ _ _ _ _ _ _=>body.getD j (.Pass ⟨0,0,0,0⟩)
 |_=>.Pass ⟨0,0,0,0⟩
noncomputable def Xn(s:Stmt):Arguments:=match s with
 |.FunctionDef _ a _ _ _ _ _ _ _ _=>a
 |_=>{posonlyargs:=[],args:=[],vararg:=none,kwonlyargs:=[],kw_defaults:=[],kwarg:=none,defaults:=[]}
noncomputable def XD(s:Stmt):List Stmt:=match s with
 |.FunctionDef _ _ b _ _ _ _ _ _ _=>b
 |_=>[]
noncomputable def ZZ(s:Stmt):Scope:=match s with
 |.FunctionDef _ _ _ _ _ _ sc _ _ _=>sc
 |_=>{kind:=.function,names:=[],isGenerator:=false,isCoroutine:=false}
abbrev XB:AQ:=fun _ _ _ _ _ _=>False
abbrev E0:XK:=fun _ _ _=>False
theorem Gs{X:Cx}:Passes XB X E0:=fun _ _ _ _ _ _ _ h=>h.elim
structure uG(K:W.Frag)(x qual:Str)(st:Stmt)(f:Addr)(fd:FuncData):Prop where
 ex:∃(oc:Value) (od:Option Addr) (kV doc pm:Value) (an:Option Addr) (Yp ct:Value) (w_:Array (Option Value)),
  fd=W.fnOf x qual (Xn st) (XD st) (ZZ st) .none kV doc pm an Yp ct/\K.lookup f=some ⟨oc,od,.func fd,w_⟩/\W.codeIn K Yp qual=true
 kp:W.keepIn K (.ref f)=true
section
variable{P:Program}{w:World}{K:W.Frag}{mg:Str->Option Value}{base:Heap}
theorem uG.ok{x qual:Str}{st:Stmt}{f:Addr}{fd:FuncData}{N ps:List Str}{k:Nat}{sp:Sp}(F:uG K x qual st f fd)(S:ZL N ps (ZZ st))(len:∀vs H Q E,sp vs H Q E->vs.length=ps.length)(Ap:∀(Yp:Value)(A:Around)(outer:List Env)(s:Shared)(H:Hp)(vs:List V)(Q:VK)(E:XK),Wj k (A.deeper (envOfC qual (ZZ st) s.heap.objs.size f Yp))->sp vs H Q E->∃t,B1 (BU XB P w K mg base N qual (ZZ st) f Yp A outer s H E).nO (XD st) t/\t {nx:=fun _ H'=>Q .Xf H',rt:=Q} (start N vs) H):Y6 P w K mg base XB (k+1) f fd ps sp:=by
 obtain⟨oc,od,kV,doc,pm,an,Yp,ct,w_,rfl,lk,AS⟩:=F.ex;refine pX lk AS S len fun A outer s H vs Q E hr xM=>?_;obtain⟨t,h,q⟩:=Ap Yp A outer s H vs Q E hr xM;exact⟨t,h.nO,q⟩
theorem uG.binds{x qual:Str}{st:Stmt}{f:Addr}{fd:FuncData}{ps:List Str}(F:uG K x qual st f fd)(h:∀(kV doc pm:Value)(an:Option Addr)(Yp ct:Value)(us:List Value),us.length=ps.length->bindArgs (W.fnOf x qual (Xn st) (XD st) (ZZ st) .none kV doc pm an Yp ct) ⟨us,[]⟩=pure (ps.zip us)):Binds K fd ps []:=by
 obtain⟨oc,od,kV,doc,pm,an,Yp,ct,w_,rfl,lk,AS⟩:=F.ex;exact .all (h kV doc pm an Yp ct)
theorem N9{x qual:Str}{st:Stmt}{f:Addr}{oc:Value}{od an:Option Addr}{w_:Array (Option Value)}{kV doc pm Yp ct:Value}(l:K.lookup f=some ⟨oc,od,.func (W.fnOf x qual (Xn st) (XD st) (ZZ st) .none kV doc pm an Yp ct),w_⟩)(c:W.codeIn K Yp qual=true)(k:W.keepIn K (.ref f)=true):uG K x qual st f (W.fnOf x qual (Xn st) (XD st) (ZZ st) .none kV doc pm an Yp ct):=⟨⟨oc,od,kV,doc,pm,an,Yp,ct,w_,Y,l,c⟩,k⟩
end
theorem Qr{A:Around}{k:Nat}(hr:Wj k A):A.units+1<cLine:=Yx (Nat.add_le_add_left (by decide:1<=64) _) hr.units
section
variable{X:Cx}
theorem Z(i:Nat){x:Str}{pos:Pos}(hN:X.N[i]?=some x:=by rfl)(hv:qV X.env.scope x:=by first|exact Or.inl rfl|exact Or.inr (Or.inl Y)|exact Or.inr (Or.inr Y))(hd:(x==("__debug__":Str))=false:=by decide)(AS:(x==("__classdict__":Str))=false:=by decide):PE X (.Name x pos) (G2 i):=tW hN hv hd AS
end
theorem YA{A B:Prop}(h:B):if false=true then A else B:=by
 rw[Z8 Yr];exact h
theorem YW{A B:Prop}(h:A):if true=true then A else B:=by
 rw[Z7 rfl];exact h
theorem Wb{c A B:Prop}[Decidable c](J:c->A)(h2:¬c->B):if c then A else B:=by
 by_cases h:c
 ·rw[Z7 h];exact J h
 ·rw[Z8 h];exact h2 h
def ZX(H H':Hp):Prop:=∀b o,H b=some o->H' b=some o
theorem ZX.refl(H:Hp):ZX H H:=fun _ _ h=>h
theorem ZX.trans{H H1 H2:Hp}(a:ZX H H1)(b:ZX H1 H2):ZX H H2:=fun c o h=>b c o (a c o h)
theorem ZX.free{H H':Hp}(e:ZX H H'){l:Addr}(h:H' l=Option.none):H l=Option.none:=by
 cases q:H l with
 |none=>rfl
 |some o=>
  rw[e l o q]at h;cases h
section
variable{κ:Type}[DecidableEq κ]
theorem z5{Zp:List (κ×V)}{k:κ}(h:Vr Zp k=none):¬k∈Zp.map (·.1):=by
 intro m;obtain⟨p,hp,e⟩:=Y9.mp m;have q:(Zp.any fun kv=>decide (kv.1=k))=true:=UB.mpr ⟨p,hp,ZP e⟩;rw[VP,h]at q;exact absurd q (by simp)
theorem wD{Zp:List (κ×V)}{k:κ}{v:V}(h:Vr Zp k=some v):k∈Zp.map (·.1):=by
 have q:(Zp.any fun kv=>decide (kv.1=k))=true:=by
  rw[VP,h];all_goals rfl
 obtain⟨p,hp,e⟩:=UB.mp q;exact Y9.mpr ⟨p,hp,ZD e⟩
theorem O6:∀{l:List κ}{k:κ},l.Nodup->¬k∈l->(l++[k]).Nodup
 |[],k,_,_=>by simp
 |a::r,k,h,hk=>by
  obtain⟨J,h2⟩:=Wf.mp h;show(a::(r++[k])).Nodup;refine Wf.mpr ⟨fun m=>?_,O6 h2 fun m=>hk (ZE.mpr (Or.inr m))⟩;rcases Zj.mp m with q|q;·exact J q
  ·exact hk (ZE.mpr (Or.inl (Zm.mp q).symm))
theorem wC{Zp:List (κ×V)}{k:κ}(v:V)(hn:(Zp.map (·.1)).Nodup)(h:Vr Zp k=none):((putK Zp k v).map (·.1)).Nodup:=by
 rw[GG v h,YV];exact O6 hn (z5 h)
end
theorem z4{α:Type}{l:List α}(hN:l.Nodup){i j:Nat}{x:α}(a:l[i]?=some x)(b:l[j]?=some x):i=j:=by
 obtain⟨J,e1⟩:=Zy.mp a;obtain⟨h2,e2⟩:=Zy.mp b;exact(List.getElem_inj hN).mp (e1.trans e2.symm)
theorem ZX.made{H H1:Hp}{x dx C:Addr}(nx:H x=Option.none)(nd:H dx=Option.none)(k:∀b o,(upd (upd H dx (.own x)) x (.ins C dx [])) b=some o->b≠x->H1 b=some o):ZX H H1:=fun b o e=>
 k b o (by rw[ZV (Zx e nx),ZV (Zx e nd)];exact e) (Zx e nx)
section
variable{X:Cx}
theorem zZ{pins:List (Addr×Obj)}{σ:St}{H:Hp}{s:Shared}(I:Inv X pins σ H s)(hd:X.A.depth+100<recursionLimit):PylongRoom (model X.prog X.w) X.A s:=by
 obtain⟨env,l,e,J,h2,h3,h4⟩:=I.ok.top;exact PylongRoom.of I.nolimit hd (SeerAt.of (I.ok.mod.seer.keeps I.bk) I.ok.tree (I.ok.frames.trans (congrArg some e)) J h2 h3 h4)
theorem Wj.div{k:Nat}{A:Around}(r:Wj k A)(h:32<=k):A.depth+100<recursionLimit:=by
 have:=r.dp;omega
theorem VO(hd:X.A.depth+100<recursionLimit):Pd X (binaryOp .FloorDiv) (rI (fun _ j=>0<j) fun i j=>.int (i/j)):=by
 intro pins s σ H x y v u Q I rx ry h;obtain⟨i,j,rfl,rfl,hc,q⟩:=h;obtain⟨t,rfl⟩:=rx;obtain⟨t',rfl⟩:=ry;have J:(0:Int)<j:=hc;refine floordiv_int (by omega) ?_ (.inr (zZ I hd));rw[Int.fdiv_eq_ediv_of_nonneg i (by omega)];exact⟨.int (i/j),H,I.tok _,⟨_,Y⟩,q⟩
theorem YQ:Pd X (binaryOp .Mult) (rI IntMulOk fun i j=>.int (i*j)):=iK fun _ _ _ _ _ _ _ hc q=>mul_int q hc
end
section
variable{K:W.Frag}{H:Hp}{a C dx:Addr}{fs:List (Str×V)}{f:Str}{v:V}{Q:V->Prop}{o:Option (Option V)}
theorem S7(h:H a=some (.ins C dx fs))(c:EU K C)(n:YE K C f)(l:fs.lookup f=some v)(q:Q v):∃a' C' qN AK v',V.ref a=V.ref a'/\H a'=some (.ins C' qN AK)/\EU K C'/\YE K C' f/\AK.lookup f=some v'/\Q v':=⟨_,_,_,_,_,Y,h,c,n,l,q⟩
theorem YJ(e:o=some (some (V.ref a)))(h:H a=some (.ins C dx fs))(c:EU K C)(n:YE K C f)(l:fs.lookup f=some v)(q:Q v):∃x,o=some (some x)/\∃a' C' qN AK v',x=V.ref a'/\H a'=some (.ins C' qN AK)/\EU K C'/\YE K C' f/\AK.lookup f=some v'/\Q v':=⟨_,e,_,_,_,_,_,Y,h,c,n,l,q⟩
theorem YR{N ps:List Str}{sc:Scope}(a:sc.kind=.function:=by rfl)(b:sc.isCoroutine=false:=by rfl)(c:sc.isGenerator=false:=by rfl)(d:N.Nodup:=by decide+kernel)(e:N.take ps.length=ps:=by rfl)(f:∀x∈ps,sc.names.lookup x=some .local\/sc.names.lookup x=some .cell:=by decide+kernel)(g:∀y∈sc.names,y.2≠.free:=by decide+kernel):ZL N ps sc:=⟨a,b,c,d,e,f,g⟩
theorem Y4{α:Type u}{x:α}{b:Prop}:x=x\/b:=.inl rfl
end
end L2
namespace RR
def sm:Nat->(Nat->Rat)->Rat
 |0,_=>0
 |n+1,f=>sm n f+f n
theorem ZO{n:Nat}{f g:Nat->Rat}(h:∀i,i<n->f i=g i):sm n f=sm n g:=by
 induction n with
 |zero=>rfl
 |succ n ih=>
  simp only[sm];rw[ih (fun i hi=>h i (by omega)),h n (by omega)]
theorem Tz(n:Nat)(f g:Nat->Rat):sm n (fun i=>f i+g i)=sm n f+sm n g:=by
 induction n with
 |zero=>(simp[sm]<;>grind)
 |succ n ih=>simp only[sm];rw[ih];grind
theorem WB(n:Nat)(f g:Nat->Rat):sm n (fun i=>f i-g i)=sm n f-sm n g:=by
 induction n with
 |zero=>(simp[sm]<;>grind)
 |succ n ih=>simp only[sm];rw[ih];grind
theorem WJ(n:Nat)(k:Rat)(f:Nat->Rat):sm n (fun i=>k*f i)=k*sm n f:=by
 induction n with
 |zero=>(simp[sm]<;>grind)
 |succ n ih=>simp only[sm];rw[ih];grind
theorem Xd(n:Nat):sm n (fun _=>0)=0:=by
 induction n with
 |zero=>rfl
 |succ n ih=>simp only[sm];rw[ih];grind
theorem QL{n:Nat}{f:Nat->Rat}(h:∀i,i<n->0<=f i):0<=sm n f:=by
 induction n with
 |zero=>(simp[sm]<;>grind)
 |succ n ih=>
  simp only[sm];have:=ih (fun i hi=>h i (by omega));have:=h n (by omega);grind
theorem zY{n:Nat}{f g:Nat->Rat}(h:∀i,i<n->f i<=g i):sm n f<=sm n g:=by
 induction n with
 |zero=>(simp[sm]<;>grind)
 |succ n ih=>
  simp only[sm];have:=ih (fun i hi=>h i (by omega));have:=h n (by omega);grind
theorem zX{n:Nat}{f:Nat->Rat}(h:∀i,i<n->0<=f i){k:Nat}(hk:k<n)(hp:0<f k):0<sm n f:=by
 induction n with
 |zero=>omega
 |succ n ih=>
  simp only[sm];by_cases e:k=n
  ·subst e;have:=QL (n:=k) (f:=f) (fun i hi=>h i (by omega));grind
  ·have:=ih (fun i hi=>h i (by omega)) (by omega);have:=h n (by omega);grind
theorem Vq{n:Nat}{f:Nat->Rat}(h:∀i,i<n->0<=f i)(z:sm n f<=0):∀i,i<n->f i=0:=by
 intro i hi;have J:=h i hi;by_cases e:f i=0;·exact e
 ·have:=zX h hi (by grind);grind
theorem YF{n k:Nat}(hk:k<n)(f:Nat->Rat):sm n (fun i=>if i=k then f i else 0)=f k:=by
 induction n with
 |zero=>omega
 |succ n ih=>
  simp only[sm];by_cases e:k=n
  ·subst e;rw[ZO (g:=fun _=>0) (fun i hi=>Z8 (by omega)),Xd];(simp<;>grind)
  ·rw[ih (by omega),Z8 (by omega)];grind
theorem Ml(n m:Nat)(f:Nat->Nat->Rat):sm n (fun i=>sm m (f i))=sm m (fun j=>sm n (fun i=>f i j)):=by
 induction n with
 |zero=>simp only[sm];rw[Xd]
 |succ n ih=>simp only[sm];rw[ih,<-Tz]
theorem Rp(a b:Nat)(f:Nat->Rat):sm (a+b) f=sm a f+sm b (fun i=>f (a+i)):=by
 induction b with
 |zero=>(simp[sm]<;>grind)
 |succ b ih=>rw [Nat.add_succ];simp only[sm];rw[ih];grind
noncomputable def ls{α:Type}(q:List α)(f:α->Rat):Rat:=(q.map f).foldr (fun(a b:Rat)=>a+b) 0
theorem Tx{α:Type}(f:α->Rat):ls [] f=0:=rfl
theorem X1{α:Type}(x:α)(q:List α)(f:α->Rat):ls (x::q) f=f x+ls q f:=rfl
theorem JH{α:Type}(p q:List α)(f:α->Rat):ls (p++q) f=ls p f+ls q f:=by
 induction p with
 |nil=>(simp[Tx]<;>grind)
 |cons x p ih=>simp only[List.cons_append,X1];rw[ih];grind
theorem XT{α:Type}{q:List α}{f g:α->Rat}(h:∀x,x∈q->f x=g x):ls q f=ls q g:=by
 induction q with
 |nil=>rfl
 |cons x q ih=>
  rw[X1,X1,h x (by simp),ih (fun y hy=>h y (by simp[hy]))]
theorem zW{α:Type}(q:List α)(f g:α->Rat):ls q (fun x=>f x+g x)=ls q f+ls q g:=by
 induction q with
 |nil=>(simp[Tx]<;>grind)
 |cons x q ih=>simp only[X1];rw[ih];grind
theorem LO{α:Type}(q:List α)(f g:α->Rat):ls q (fun x=>f x-g x)=ls q f-ls q g:=by
 induction q with
 |nil=>(simp[Tx]<;>grind)
 |cons x q ih=>simp only[X1];rw[ih];grind
theorem PU{α:Type}(q:List α)(k:Rat)(f:α->Rat):ls q (fun x=>k*f x)=k*ls q f:=by
 induction q with
 |nil=>(simp[Tx]<;>grind)
 |cons x q ih=>simp only[X1];rw[ih];grind
theorem CQ{α:Type}{q:List α}{f:α->Rat}(h:∀x,x∈q->f x=0):ls q f=0:=by
 induction q with
 |nil=>rfl
 |cons x q ih=>rw [X1,h x (by simp),ih (fun y hy=>h y (by simp[hy]))];grind
theorem JG{α:Type}{q:List α}{f:α->Rat}(h:∀x,x∈q->0<=f x):0<=ls q f:=by
 induction q with
 |nil=>(simp[Tx]<;>grind)
 |cons x q ih=>
  rw[X1];have:=h x (by simp);have:=ih (fun y hy=>h y (by simp[hy]));grind
theorem LN{α:Type}{q:List α}{f:α->Rat}(h:∀x,x∈q->0<=f x)(z:ls q f<=0):∀x,x∈q->f x=0:=by
 induction q with
 |nil=>intro x hx;simp at hx
 |cons y q ih=>
  rw[X1]at z;have J:=h y (by simp);have h2:=JG (q:=q) (f:=f) (fun x hx=>h x (by simp[hx]));intro x hx;rcases ZE.mp hx with rfl|hx;·grind
  ·exact ih (fun x hx=>h x (by simp[hx])) (by grind) x hx
theorem JF{α:Type}(q:List α)(p:α->Bool)(f:α->Rat):ls (q.filter p) f=ls q (fun x=>if p x=true then f x else 0):=by
 induction q with
 |nil=>rfl
 |cons x q ih=>
  rw[X1,YD];by_cases e:p x=true;·rw[Z7 e,Z7 e,X1,ih]
  ·rw[Z8 e,Z8 e,ih];grind
theorem uF{α:Type}(q:List α)(n:Nat)(f:α->Nat->Rat):ls q (fun x=>sm n (f x))=sm n (fun i=>ls q (fun x=>f x i)):=by
 induction q with
 |nil=>simp only[Tx];rw[Xd]
 |cons x q ih=>simp only[X1];rw[ih,<-Tz]
theorem zV(n:Nat)(f:Nat->Rat):ls (List.range n) f=sm n f:=by
 induction n with
 |zero=>rfl
 |succ n ih=>rw [WD,JH,ih,X1,Tx];simp only[sm];grind
theorem En{α β:Type}(q:List α)(g:α->β)(f:β->Rat):ls (q.map g) f=ls q (fun x=>f (g x)):=by
 induction q with
 |nil=>rfl
 |cons x q ih=>rw [Y1,X1,X1,ih]
theorem X'{α:Type}(l:List α)(d:α):l.zipIdx=(List.range l.length).map (fun i=>(l.getD i d,i)):=by
 apply UA;intro i;simp only[List.getElem?_zipIdx,Zb,List.getD];by_cases h:i<l.length;·simp[h]
 ·simp[h]
theorem JE{α:Type}(l:List α)(d:α)(f:α×Nat->Rat):ls l.zipIdx f=sm l.length (fun i=>f (l.getD i d,i)):=by rw[X' l d,En,zV]
theorem sq_nonneg(x:Rat):0<=x*x:=by
 by_cases h:0<=x;·exact Te h h
 ·have:0<=(-x)*(-x):=Te (by grind) (by grind);grind
theorem Mj{x:Rat}(h:x*x=0):x=0:=by rcases XJ.mp h with h|h<;>exact h
theorem W5{x y:Rat}(hx:0<=x)(hy:0<=y):0<=x*y:=Te hx hy
theorem VN{x y:Rat}(hx:0<x)(hy:0<y):0<x*y:=Rat.mul_pos hx hy
structure Net where
 n:Nat
 m:Nat
 fr:Nat->Nat
 to:Nat->Nat
 c:Nat->Rat
 b:Nat->Rat
 op:Nat->Bool
 s:Nat
 t:Nat
 d:Rat
structure Net.Ok(N:Net):Prop where
 hs:N.s<N.n
 ht:N.t<N.n
 st:N.s≠N.t
 hd:0<N.d
 AO:∀e,e<N.m->N.fr e<N.n
 zU:∀e,e<N.m->N.to e<N.n
 ne:∀e,e<N.m->N.fr e≠N.to e
 hc:∀e,e<N.m->0<=N.c e
 O:∀e,e<N.m->0<N.b e
def Net.price(N:Net)(x:Nat->Rat)(e:Nat):Rat:=N.c e+N.b e*x e
def Net.inc(N:Net)(v e:Nat):Rat:=if N.to e=v then 1 else if N.fr e=v then-1 else 0
def Net.dv(N:Net)(x:Nat->Rat)(v:Nat):Rat:=sm N.m (fun e=>N.inc v e*x e)
def Net.due(N:Net)(v:Nat):Rat:=if v=N.t then N.d else if v=N.s then-N.d else 0
inductive Net.Reach(N:Net):Nat->Prop where
 |s:Net.Reach N N.s
 |go (e:Nat):e<N.m->N.op e=true->Net.Reach N (N.fr e)->Net.Reach N (N.to e)
theorem Net.Reach.lt{N:Net}(h:N.Ok){v:Nat}(r:N.Reach v):v<N.n:=by
 cases r with
 |s=>exact h.hs
 |go e he _ _=>exact h.zU e he
theorem Net.parts{N:Net}(h:N.Ok)(w x:Nat->Rat):sm N.n (fun v=>w v*N.dv x v)=sm N.m (fun e=>(w (N.to e)-w (N.fr e))*x e):=by
 have e1:sm N.n (fun v=>w v*N.dv x v)=sm N.n (fun v=>sm N.m (fun e=>w v*(N.inc v e*x e))):=
  ZO fun v _=>by rw[WJ];rfl
 rw[e1,Ml];apply ZO;intro e he;have e2:∀v,v<N.n->w v*(N.inc v e*x e)=(if v=N.to e then w v*x e else 0)-(if v=N.fr e then w v*x e else 0):=by
  intro v _;unfold Net.inc;have:=h.ne e he;by_cases a:N.to e=v
  ·subst a;rw[Z7 Y,Z7 Y,Z8 (fun q=>this q.symm)];grind
  ·by_cases b:N.fr e=v
   ·subst b;rw[Z8 a,Z7 Y,Z8 (fun q=>a q.symm),Z7 rfl];grind
   ·rw[Z8 a,Z8 b,Z8 (fun q=>a q.symm),Z8 (fun q=>b q.symm)];grind
 rw[ZO e2,WB,YF (h.zU e he) (fun v=>w v*x e),YF (h.AO e he) (fun v=>w v*x e)];grind
structure Net.Flow(N:Net)(x:Nat->Rat):Prop where
 nn:∀e,e<N.m->0<=x e
 sh:∀e,e<N.m->N.op e=false->x e=0
 cons:∀v,v<N.n->N.dv x v=N.due v
structure Net.kI(N:Net)(x:Nat->Rat)(p:Nat->Rat):Prop where
 le:∀e,e<N.m->N.op e=true->N.Reach (N.fr e)->p (N.to e)<=p (N.fr e)+N.price x e
 eq:∀e,e<N.m->x e≠0->N.Reach (N.fr e)/\p (N.to e)=p (N.fr e)+N.price x e
def Net.Wl(N:Net)(x:Nat->Rat):Prop:=N.Flow x/\∃p,N.kI x p
theorem Net.LM{N:Net}(h:N.Ok)(w:Nat->Rat){x y:Nat->Rat}(hx:N.Flow x)(hy:N.Flow y):sm N.m (fun e=>(w (N.to e)-w (N.fr e))*(x e-y e))=0:=by
 have e1:=Net.parts h w x;have e2:=Net.parts h w y;have e3:sm N.n (fun v=>w v*N.dv x v)=sm N.n (fun v=>w v*N.dv y v):=ZO fun v hv=>by rw[hx.cons v hv,hy.cons v hv]
 have e4:sm N.m (fun e=>(w (N.to e)-w (N.fr e))*(x e-y e))=sm N.m (fun e=>(w (N.to e)-w (N.fr e))*x e)-sm N.m (fun e=>(w (N.to e)-w (N.fr e))*y e):=by rw[<-WB];exact ZO fun e _=>by grind
 rw[e4,<-e1,<-e2,e3];grind
theorem Net.Flow.op{N:Net}{x:Nat->Rat}(h:N.Flow x){e:Nat}(he:e<N.m)(hx:x e≠0):N.op e=true:=by
 cases q:N.op e with
 |true=>rfl
 |false=>exact absurd (h.sh e he q) hx
theorem Net.uniq{N:Net}(h:N.Ok){x y:Nat->Rat}(hx:N.Wl x)(hy:N.Wl y):∀e,e<N.m->x e=y e:=by
 obtain⟨fx,p,px⟩:=hx;obtain⟨fy,q,py⟩:=hy;have s1:=Net.LM h p fx fy;have s2:=Net.LM h q fx fy;have t1:sm N.m (fun e=>N.b e*((x e-y e)*(x e-y e)))<=0:=by
  have e1:sm N.m (fun e=>N.b e*((x e-y e)*(x e-y e)))=
   sm N.m (fun e=>(N.price x e-(p (N.to e)-p (N.fr e))-(N.price y e-(q (N.to e)-q (N.fr e))))*(x e-y e)):=by
   have:sm N.m (fun e=>N.b e*((x e-y e)*(x e-y e)))=sm N.m (fun e=>N.b e*((x e-y e)*(x e-y e)))-(sm N.m (fun e=>(p (N.to e)-p (N.fr e))*(x e-y e))-sm N.m (fun e=>(q (N.to e)-q (N.fr e))*(x e-y e))):=by rw[s1,s2];grind
   rw[this,<-WB,<-WB];refine ZO fun e _=>?_;unfold Net.price;grind
  have z:sm N.m (fun _=>0)=0:=Xd _;rw[e1,<-z];refine zY fun e he=>?_;have nx:=fx.nn e he;have ny:=fy.nn e he;have k1:(N.price x e-(p (N.to e)-p (N.fr e)))*x e=0:=by
   by_cases a:x e=0;·rw[a];grind
   ·have:=(px.eq e he a).2;grind
  have k2:(N.price y e-(q (N.to e)-q (N.fr e)))*y e=0:=by
   by_cases a:y e=0;·rw[a];grind
   ·have:=(py.eq e he a).2;grind
  have k3:0<=(N.price x e-(p (N.to e)-p (N.fr e)))*y e:=by
   by_cases a:y e=0;·rw[a];grind
   ·have:=px.le e he (fy.op he a) (py.eq e he a).1;exact W5 (by grind) ny
  have k4:0<=(N.price y e-(q (N.to e)-q (N.fr e)))*x e:=by
   by_cases a:x e=0;·rw[a];grind
   ·have:=py.le e he (fx.op he a) (px.eq e he a).1;exact W5 (by grind) nx
  grind
 intro e he;have k:=Vq (f:=fun e=>N.b e*((x e-y e)*(x e-y e))) (fun e he=>W5 (Yy (h.O e he)) (sq_nonneg _)) t1 e he;have:(x e-y e)*(x e-y e)=0:=by
  rcases XJ.mp k with k|k;·have:=h.O e he;grind
  ·exact k
 have:=Mj this;grind
theorem Net.Wl.reach{N:Net}(h:N.Ok){x:Nat->Rat}(hx:N.Wl x):N.Reach N.t:=by
 obtain⟨fx,p,px⟩:=hx;have e1:=fx.cons N.t h.ht;unfold Net.due at e1;rw[Z7 rfl]at e1;by_cases q:∃e,e<N.m/\N.to e=N.t/\x e≠0
 ·obtain⟨e,he,et,ex⟩:=q;have:=Net.Reach.go e he (fx.op he ex) (px.eq e he ex).1;rw[et]at this;exact this
 ·have z:N.dv x N.t<=0:=by
   unfold Net.dv;rw[<-Xd N.m];refine zY fun e he=>?_;unfold Net.inc;have:=fx.nn e he;by_cases a:N.to e=N.t
   ·have:x e=0:=by
     by_cases b:x e=0;·exact b
     ·exact absurd ⟨e,he,a,b⟩ q
    rw[this];grind
   ·rw[Z8 a];split<;>grind
  have:=h.hd;grind
def Net.nd(N:Net)(es:Nat->Nat):Nat->Nat
 |0=>N.s
 |i+1=>N.to (es i)
def Net.Row(N:Net)(es:Nat->Nat)(k:Nat):Prop:=∀i,i<k->es i<N.m/\N.op (es i)=true/\N.fr (es i)=N.nd es i
def Net.Walk(N:Net)(w:Nat->Rat)(k v:Nat)(c:Rat):Prop:=∃es,N.Row es k/\N.nd es k=v/\sm k (fun i=>w (es i))=c
theorem Net.Walk.nil{N:Net}(w:Nat->Rat):N.Walk w 0 N.s 0:=⟨fun _=>0,fun i hi=>by omega,Y,Y⟩
theorem Net.Walk.snoc{N:Net}{w:Nat->Rat}{k e:Nat}{c:Rat}(h:N.Walk w k (N.fr e) c)(he:e<N.m)(ho:N.op e=true):N.Walk w (k+1) (N.to e) (c+w e):=by
 obtain⟨es,r,v,s⟩:=h;have ni:∀i,i<=k->N.nd (fun i=>if i=k then e else es i) i=N.nd es i:=by
  intro i hi;cases i with
  |zero=>rfl
  |succ i=>
   show N.to (if i=k then e else es i)=N.to (es i);rw[Z8 (by omega)]
 refine⟨fun i=>if i=k then e else es i,fun i hi=>?_,?_,?_⟩
 ·show(if i=k then e else es i)<N.m/\N.op (if i=k then e else es i)=true/\N.fr (if i=k then e else es i)=_;rw[ni i (by omega)];by_cases a:i=k
  ·subst a;rw[Z7 rfl];exact⟨he,ho,v.symm⟩
  ·rw[Z8 a];exact r i (by omega)
 ·show N.to (if k=k then e else es k)=N.to e;rw[Z7 rfl]
 ·simp only[sm];rw[<-s];have:sm k (fun i=>w (if i=k then e else es i))=sm k (fun i=>w (es i)):=ZO fun i hi=>by rw[Z8 (by omega)]
  rw[this];simp
theorem Net.Walk.cases{N:Net}{w:Nat->Rat}{k v:Nat}{c:Rat}(h:N.Walk w (k+1) v c):∃e c',e<N.m/\N.op e=true/\N.to e=v/\N.Walk w k (N.fr e) c'/\c=c'+w e:=by
 obtain⟨es,r,hv,s⟩:=h;have:=r k (by omega);exact⟨es k,_,this.1,this.2.1,hv,⟨es,fun i hi=>r i (by omega),this.2.2.symm,Y⟩,s.symm⟩
theorem Net.Walk.zero{N:Net}{w:Nat->Rat}{v:Nat}{c:Rat}(h:N.Walk w 0 v c):v=N.s/\c=0:=by
 obtain⟨es,r,hv,s⟩:=h;exact⟨hv.symm,s.symm⟩
theorem Net.Walk.reach{N:Net}{w:Nat->Rat}:∀{k v:Nat}{c:Rat},N.Walk w k v c->N.Reach v
 |0,v,c,h=>by rw[h.zero.1];exact .s
 |k+1,v,c,h=>by
  obtain⟨e,c',he,ho,rfl,h',_⟩:=h.cases;exact .go e he ho h'.reach
theorem Net.Reach.walk{N:Net}(w:Nat->Rat){v:Nat}(h:N.Reach v):∃k c,N.Walk w k v c:=by
 induction h with
 |s=>exact ⟨0,0,.nil w⟩
 |go e he ho _ ih=>
  obtain⟨k,c,h⟩:=ih;exact⟨k+1,_,h.snoc he ho⟩
theorem zT:∀(n:Nat)(f:Nat->Nat),(∀i,i<=n->f i<n)->∃i j,i<j/\j<=n/\f i=f j
 |0,f,h=>by have:=h 0 (by omega);omega
 |n+1,f,h=>by
  by_cases q:∃i,i<=n/\f i=f (n+1)
  ·obtain⟨i,hi,e⟩:=q;exact⟨i,n+1,by omega,by omega,e⟩
  ·have q':∀i,i<=n->f i≠f (n+1):=fun i hi e=>q ⟨i,hi,e⟩;obtain⟨i,j,JD,hj,e⟩:=zT n (fun i=>if f i=n then f (n+1)else f i) (fun i hi=>by
    have J:=h i (by omega);have h2:=h (n+1) (by omega);have h3:=q' i hi;show(if f i=n then f (n+1)else f i)<n;split<;>omega)
   refine⟨i,j,JD,by omega,?_⟩;have h3:=q' i (by omega);have h4:=q' j (by omega);have h5:=h i (by omega);have h6:=h j (by omega);split at e<;>split at e<;>omega
theorem Net.Row.lt{N:Net}(h:N.Ok){es:Nat->Nat}{k:Nat}(r:N.Row es k):∀i,i<=k->N.nd es i<N.n
 |0,_=>h.hs
 |i+1,hi=>h.zU _ (r i (by omega)).1
theorem Net.Walk.cut{N:Net}(h:N.Ok){w:Nat->Rat}(hw:∀e,e<N.m->N.op e=true->0<=w e){k v:Nat}{c:Rat}(r:N.Walk w k v c)(hk:N.n<=k):∃k' c',k'<k/\c'<=c/\N.Walk w k' v c':=by
 obtain⟨es,r,hv,s⟩:=r;obtain⟨i,j,JD,hj,e⟩:=zT N.n (N.nd es) (fun i hi=>r.lt h i (by omega));have ni:∀a,N.nd (fun a=>if a<i then es a else es (a+(j-i))) a=if a<=i then N.nd es a else N.nd es (a+(j-i)):=by
  intro a;cases a with
  |zero=>rw [Z7 (by omega)];rfl
  |succ a=>
   show N.to (if a<i then es a else es (a+(j-i)))=_;by_cases q:a<i;·rw[Z7 q,Z7 (by omega)];rfl
   ·rw[Z8 q,Z8 (by omega)];have:a+1+(j-i)=(a+(j-i))+1:=by omega
    rw[this];rfl
 refine⟨k-(j-i),_,by omega,?_,fun a=>if a<i then es a else es (a+(j-i)),fun a ha=>?_,?_,Y⟩
 ·obtain⟨b,rfl⟩:∃b,k=j+b:=⟨k-j,by omega⟩;have e1:j+b-(j-i)=i+b:=by omega
  obtain⟨g,rfl⟩:∃g,j=i+g:=⟨j-i,by omega⟩;rw[e1,Rp,<-s,Rp,Rp];have f1:sm i (fun a=>w (if a<i then es a else es (a+(i+g-i))))=sm i (fun a=>w (es a)):=ZO fun a ha=>by rw[Z7 ha]
  have f2:sm b (fun a=>w (if i+a<i then es (i+a)else es (i+a+(i+g-i))))=sm b (fun a=>w (es (i+g+a))):=ZO fun a ha=>by
   rw[Z8 (by omega)];have:i+a+(i+g-i)=i+g+a:=by omega
   rw[this]
  have f3:0<=sm g (fun a=>w (es (i+a))):=QL fun a ha=>hw _ (r (i+a) (by omega)).1 (r (i+a) (by omega)).2.1;rw[f1,f2];grind
 ·show(if a<i then es a else es (a+(j-i)))<N.m/\N.op (if a<i then es a else es (a+(j-i)))=true/\N.fr (if a<i then es a else es (a+(j-i)))=_;rw[ni a];by_cases q:a<i
  ·rw[Z7 q,Z7 (by omega)];exact r a (by omega)
  ·rw[Z8 q];have:=r (a+(j-i)) (by omega);refine⟨this.1,this.2.1,?_⟩;rw[this.2.2];by_cases q2:a=i
   ·subst q2;rw[Z7 (by omega),e];congr 1;omega
   ·rw[Z8 (by omega)]
 ·rw[ni,<-hv];by_cases q:k-(j-i)=i
  ·rw[Z7 (by omega),q,e];congr 1;omega
  ·rw[Z8 (by omega)];congr 1;omega
theorem Net.Walk.short{N:Net}(h:N.Ok){w:Nat->Rat}(hw:∀e,e<N.m->N.op e=true->0<=w e):∀{k v:Nat}{c:Rat},N.Walk w k v c->∃k' c',k'<N.n/\c'<=c/\N.Walk w k' v c':=by
 intro k;induction k using Nat.strongRecOn with
 |ind k ih=>
  intro v c r;by_cases q:k<N.n;·exact⟨k,c,q,by grind,r⟩
  ·obtain⟨k',c',J,h2,h3⟩:=r.cut h hw (by omega);obtain⟨k2,c2,h4,h5,h6⟩:=ih k' J h3;exact⟨k2,c2,h4,by grind,h6⟩
def Net.Gr(N:Net)(w:Nat->Rat)(v:Nat)(c:Rat):Prop:=(∃k,N.Walk w k v c)/\∀k c',N.Walk w k v c'->c<=c'
theorem Net.Gr.uniq{N:Net}{w:Nat->Rat}{v:Nat}{c c':Rat}(h:N.Gr w v c)(h':N.Gr w v c'):c=c':=by
 obtain⟨k,a⟩:=h.1;obtain⟨k',a'⟩:=h'.1;have:=h.2 _ _ a';have:=h'.2 _ _ a;grind
open RhRoads (num times less pick solveFrom solve)
def dot(n:Nat)(r:List Rat)(y:Nat->Rat):Rat:=sm n (fun j=>num r j*y j)
theorem QK(k:Rat)(r:List Rat)(j:Nat):num (times k r) j=k*num r j:=by
 unfold num times;rw[ZW,ZW,Zb];cases r[j]?<;>simp
theorem Gq{r q:List Rat}(h:r.length=q.length)(j:Nat):num (less r q) j=num r j-num q j:=by
 unfold num less;rw[ZW,ZW,ZW,List.getElem?_zipWith];by_cases a:j<r.length;·rw[ZT a,ZT (show j<q.length by omega)];rfl
 ·rw[YH (show r.length<=j by omega),YH (show q.length<=j by omega)];show(0:Rat)=0-0;grind
theorem QJ(k:Rat)(r:List Rat):(times k r).length=r.length:=by unfold times;rw[Z3]
theorem zS{r q:List Rat}(h:r.length=q.length):(less r q).length=r.length:=by unfold less;rw[List.length_zipWith];omega
theorem JC(n:Nat)(k:Rat)(r:List Rat)(y:Nat->Rat):dot n (times k r) y=k*dot n r y:=by
 unfold dot;rw[<-WJ];exact ZO fun j _=>by rw[QK];grind
theorem zR(n:Nat){r q:List Rat}(h:r.length=q.length)(y:Nat->Rat):dot n (less r q) y=dot n r y-dot n q y:=by
 unfold dot;rw[<-WB];exact ZO fun j _=>by rw[Gq h];grind
theorem JB{j:Nat}:∀{L:List (List Rat)}{r:List Rat}{l:List (List Rat)},pick j L=some (r,l)->num r j≠0/\L.Perm (r::l)
 |[],r,l,h=>by simp[pick]at h
 |q::L,r,l,h=>by
  unfold pick at h;by_cases a:num q j=0
  ·rw[Z7 a]at h;cases e:pick j L with
   |none=>rw [e]at h;simp at h
   |some x=>
    rw[e]at h;simp at h;obtain⟨J,h2⟩:=h;obtain⟨x1,x2⟩:=x;subst J h2;obtain⟨i1,i2⟩:=JB e;exact⟨i1,(List.Perm.cons q i2).trans (List.Perm.swap _ _ _)⟩
  ·rw[Z8 a]at h;simp at h;obtain⟨J,h2⟩:=h;subst J h2;exact⟨a,List.Perm.refl _⟩
theorem JA{j:Nat}:∀{L:List (List Rat)},pick j L=none->∀r,r∈L->num r j=0
 |[],_,r,h=>by simp at h
 |q::L,h,r,hr=>by
  unfold pick at h;by_cases a:num q j=0
  ·rw[Z7 a]at h;cases e:pick j L with
   |none=>
    rcases ZE.mp hr with rfl|hr;·exact a
    ·exact JA e r hr
   |some x=>rw [e]at h;simp at h
  ·rw[Z8 a]at h;simp at h
structure xJ(n:Nat)(S6:List (List Rat))(j:Nat)(done left:List (List Rat)):Prop where
 ld:done.length=j
 ll:left.length+j=n
 rl:∀r,r∈done++left->r.length=n+1
 un:∀i,i<j->∀c,c<j->num (done.getD i []) c=if c=i then 1 else 0
 ze:∀r,r∈left->∀c,c<j->num r c=0
 sol:∀y:Nat->Rat,(∀r,r∈done++left->dot (n+1) r y=0)->∀r,r∈S6->dot (n+1) r y=0
def wB(n:Nat)(S6:List (List Rat)):Prop:=∀y:Nat->Rat,y n=0->(∀r,r∈S6->dot (n+1) r y=0)->∀j,j<n->y j=0
theorem getD_map{α β:Type}(f:α->β)(l:List α)(i:Nat)(a:α)(b:β)(h:i<l.length):(l.map f).getD i b=f (l.getD i a):=by rw[ZW,ZW,Zb,ZT h];rfl
theorem getD_mem{α:Type}(l:List α)(i:Nat)(a:α)(h:i<l.length):l.getD i a∈l:=by rw[ZW,ZT h];exact WO h
theorem LL{α:Type}(p q:List α)(i:Nat)(a:α)(h:i<p.length):(p++q).getD i a=p.getD i a:=by rw[ZW,ZW,VT h]
theorem LK{α:Type}(p:List α)(x:α)(a:α):(p++[x]).getD p.length a=x:=by rw[ZW,Uy (by omega)];simp
theorem CP{n:Nat}{r:List Rat}{y:Nat->Rat}{i j:Nat}(JD:i≠j)(hi:i<n)(hj:j<n)(h:∀c,c<n->c≠i->c≠j->num r c*y c=0):dot n r y=num r i*y i+num r j*y j:=by
 unfold dot;have:sm n (fun c=>num r c*y c)=sm n (fun c=>(if c=i then num r c*y c else 0)+(if c=j then num r c*y c else 0)):=ZO fun c hc=>by
  by_cases a:c=i
  ·subst a;rw[Z7 Y,Z8 JD];grind
  ·by_cases b:c=j
   ·subst b;rw[Z7 Y,Z8 a];grind
   ·rw[Z8 a,Z8 b,h c hc a b];grind
 rw[this,Tz,YF hi (fun c=>num r c*y c),YF hj (fun c=>num r c*y c)]
theorem zQ{n:Nat}{r:List Rat}{y:Nat->Rat}(h:∀c,c<n->num r c*y c=0):dot n r y=0:=by
 unfold dot;rw[ZO h,Xd]
theorem xJ.pick{n:Nat}{S6:List (List Rat)}{j:Nat}{done left:List (List Rat)}(M:xJ n S6 j done left)(hj:j<n)(T:wB n S6):∃r l,pick j left=some (r,l):=by
 cases e:RhRoads.pick j left with
 |some x=>exact ⟨x.1,x.2,Y⟩
 |none=>
  exfalso;have z:=JA e;have ld:=M.ld;have J:∀j',j'<n->(fun c=>if c=j then(1:Rat)else if c<j then-num (done.getD c []) j else 0) j'=0:=by
   refine T _ ?_ ?_
   ·show(if n=j then(1:Rat)else if n<j then _ else 0)=0;rw[Z8 (by omega),Z8 (by omega)]
   ·refine M.sol _ fun r hr=>?_;rcases Zj.mp hr with hr|hr
    ·obtain⟨i,hi,rfl⟩:=XY.mp hr;have ei:done.getD i []=done[i]:=by rw[ZW,ZT hi];rfl
     rw[CP (i:=i) (j:=j) (by omega) (by omega) (by omega)]
     ·have:=M.un i (by omega) i (by omega);rw[ei,Z7 rfl]at this;rw[this,Z7 Y,Z8 (by omega),Z7 (by omega),ei];grind
     ·intro c hc ci cj;show num done[i] c*(if c=j then(1:Rat)else if c<j then-num (done.getD c []) j else 0)=0;rw[Z8 cj];by_cases q:c<j
      ·have:=M.un i (by omega) c q;rw[ei,Z8 ci]at this;rw[this];grind
      ·rw[Z8 q];grind
    ·refine zQ fun c hc=>?_;show num r c*(if c=j then(1:Rat)else if c<j then-num (done.getD c []) j else 0)=0;by_cases a:c=j;·subst a;rw[z r hr];grind
     ·by_cases b:c<j;·rw[M.ze r hr c b];grind
      ·rw[Z8 a,Z8 b];grind
  have:=J j hj;simp at this
theorem xJ.step{n:Nat}{S6:List (List Rat)}{j:Nat}{done left:List (List Rat)}(M:xJ n S6 j done left){r:List Rat}{l:List (List Rat)}(e:RhRoads.pick j left=some (r,l)):xJ n S6 (j+1) (done.map (fun q=>less q (times (num q j) (times (1/num r j) r)))++[times (1/num r j) r]) (l.map (fun q=>less q (times (num q j) (times (1/num r j) r)))):=by
 obtain⟨hp,pm⟩:=JB e;have ld:=M.ld;have ll:=M.ll;have pl:=pm.length_eq;rw[Zg]at pl;have rm:r∈left:=pm.mem_iff.mpr (YG ..);have lm:∀q,q∈l->q∈left:=fun q hq=>pm.mem_iff.mpr (Zf _ hq);have rr:r.length=n+1:=M.rl r (Xs _ rm);have al:(times (1/num r j) r).length=n+1:=by rw[QJ,rr]
 have cl:∀q:List Rat,q.length=n+1->(less q (times (num q j) (times (1/num r j) r))).length=n+1:=fun q hq=>by rw[zS (by rw[QJ,al,hq]),hq]
 have cn:∀q:List Rat,q.length=n+1->∀c,num (less q (times (num q j) (times (1/num r j) r))) c=num q c-num q j*(1/num r j*num r c):=fun q hq c=>by rw[Gq (by rw[QJ,al,hq]),QK,QK]
 have dm:∀q,q∈done->q.length=n+1:=fun q hq=>M.rl q (Ym _ hq);have km:∀q,q∈left->q.length=n+1:=fun q hq=>M.rl q (Xs _ hq);refine⟨by rw[ZF,Z3];simp;omega,by rw[Z3];omega,?_,?_,?_,?_⟩
 ·intro q hq;rcases Zj.mp hq with hq|hq
  ·rcases Zj.mp hq with hq|hq
   ·obtain⟨q',C9,rfl⟩:=Y9.mp hq;exact cl q' (dm q' C9)
   ·rw[Zm.mp hq];exact al
  ·obtain⟨q',C9,rfl⟩:=Y9.mp hq;exact cl q' (km q' (lm q' C9))
 ·intro i hi c hc;by_cases a:i<j
  ·rw[LL _ _ _ _ (by rw[Z3];omega),getD_map _ done i [] [] (by omega)];have hq:=dm _ (getD_mem done i [] (by omega));rw[cn _ hq c];by_cases b:c<j;·rw[M.un i a c b,M.ze r rm c b];grind
   ·have:c=j:=by omega
    subst this;rw[Z8 (by omega)];grind
  ·have ij:i=j:=by omega
   have:i=(done.map (fun q=>less q (times (num q j) (times (1/num r j) r)))).length:=by rw[Z3];omega
   rw[this,LK,QK,<-this];by_cases b:c<j;·rw[M.ze r rm c b,Z8 (by omega)];grind
   ·have:c=j:=by omega
    subst this;rw[Z7 (by omega)];grind
 ·intro q hq c hc;obtain⟨q',C9,rfl⟩:=Y9.mp hq;rw[cn q' (km q' (lm q' C9)) c];by_cases b:c<j;·rw[M.ze q' (lm q' C9) c b,M.ze r rm c b];grind
  ·have:c=j:=by omega
   subst this;grind
 ·intro y hy;refine M.sol y ?_;have ha:dot (n+1) (times (1/num r j) r) y=0:=hy _ (Ym _ (Xs _ (Zm.mpr Y)));have hr:dot (n+1) r y=0:=by
   rw[JC]at ha;grind
  have back:∀q:List Rat,q.length=n+1->dot (n+1) (less q (times (num q j) (times (1/num r j) r))) y=0->dot (n+1) q y=0:=fun q hq h=>by
   rw[zR _ (by rw[QJ,al,hq]),JC,ha]at h;grind
  intro q hq;rcases Zj.mp hq with hq|hq;·exact back q (dm q hq) (hy _ (Ym _ (Ym _ (Ux hq))))
  ·rcases ZE.mp (pm.mem_iff.mp hq)with rfl|C9;·exact hr
   ·exact back q (km q hq) (hy _ (Xs _ (Ux C9)))
theorem xJ.run{n:Nat}{S6:List (List Rat)}(T:wB n S6):∀(k j:Nat)(done left:List (List Rat)),j+k=n->xJ n S6 j done left->∃D,solveFrom k j done left=some D/\∃L,xJ n S6 n D L
 |0,j,done,left,hk,M=>by
  have:j=n:=by omega
  subst this;exact⟨done,Y,left,M⟩
 |k+1,j,done,left,hk,M=>by
  obtain⟨r,l,e⟩:=M.pick (by omega) T;obtain⟨D,J,h2⟩:=xJ.run T k (j+1) _ _ (by omega) (M.step e);refine⟨D,?_,h2⟩;unfold solveFrom;rw[e];exact J
theorem zP{n:Nat}{S6:List (List Rat)}(hl:S6.length=n)(hr:∀r,r∈S6->r.length=n+1)(T:wB n S6):∃h,solve n S6=some h/\∀r,r∈S6->sm n (fun j=>num r j*num h j)=num r n:=by
 obtain⟨D,e,L,M⟩:=xJ.run T n 0 [] S6 (by omega) ⟨Y,by omega,by simpa using hr,fun i hi=>by omega,fun r _ c hc=>by omega,fun y hy=>by simpa using hy⟩;refine⟨D.map (fun r=>num r n),by unfold solve;rw[e];rfl,?_⟩;have ld:=M.ld;have ll:=M.ll;have nh:∀i,i<n->num (D.map (fun r=>num r n)) i=num (D.getD i []) n:=fun i hi=>getD_map _ D i [] 0 (by omega);have key:=M.sol (fun c=>if c=n then-1 else num (D.map (fun r=>num r n)) c) ?_
 ·intro r Gp;have:=key r Gp;unfold dot at this;simp only[sm]at this;rw[Z7 trivial]at this;have e2:sm n (fun j=>num r j*(if j=n then(-1:Rat)else num (D.map (fun r=>num r n)) j))=sm n (fun j=>num r j*num (D.map (fun r=>num r n)) j):=ZO fun j hj=>by rw[Z8 (by omega)]
  rw[e2]at this;grind
 ·intro r Gp;have l0:L=[]:=Xu.mp (by omega);rw[l0,Xw]at Gp;obtain⟨i,hi,rfl⟩:=XY.mp Gp;have ei:D.getD i []=D[i]:=by rw[ZW,ZT hi];rfl
  rw[CP (i:=i) (j:=n) (by omega) (by omega) (by omega)]
  ·have:=M.un i (by omega) i (by omega);rw[ei,Z7 rfl]at this;rw[this,Z7 Y,Z8 (by omega),nh i (by omega),ei];grind
  ·intro c hc ci cn;have:=M.un i (by omega) c (by omega);rw[ei,Z8 ci]at this;rw[this];grind
end RR
namespace RR
theorem Net.conn{N:Net}(h:N.Ok){x p g:Nat->Rat}(nn:∀e,e<N.m->0<=x e)(cons:∀v,v<N.n->N.dv x v=N.due v)(hp:∀e,e<N.m->x e≠0->p (N.fr e)<p (N.to e))(hg:∀e,e<N.m->x e≠0->g (N.to e)=g (N.fr e))(gs:g N.s=0):∀e,e<N.m->x e≠0->g (N.fr e)=0:=by
 have sums:∀w:Nat->Rat,sm N.m (fun e=>(w (N.to e)-w (N.fr e))*x e)=N.d*(w N.t-w N.s):=by
  intro w;rw[<-Net.parts h w x];have:sm N.n (fun v=>w v*N.dv x v)=sm N.n (fun v=>(if v=N.t then w v*N.d else 0)-(if v=N.s then w v*N.d else 0)):=ZO fun v hv=>by
   rw[cons v hv];unfold Net.due;have:=h.st;by_cases a:v=N.t;·rw[Z7 a,Z7 a,Z8 (by omega)];grind
   ·by_cases b:v=N.s;·rw[Z8 a,Z7 b,Z8 a,Z7 b];grind
    ·rw[Z8 a,Z8 b,Z8 a,Z8 b];grind
  rw[this,WB,YF h.ht (fun v=>w v*N.d),YF h.hs (fun v=>w v*N.d)];grind
 have s1:=sums (fun v=>if g v=0 then 0 else 1);have z1:sm N.m (fun e=>((if g (N.to e)=0 then(0:Rat)else 1)-(if g (N.fr e)=0 then 0 else 1))*x e)=0:=by
  rw[<-Xd N.m];refine ZO fun e he=>?_;by_cases a:x e=0;·rw[a];grind
  ·rw[hg e he a];grind
 have gt:g N.t=0:=by
  rw[z1,Z7 gs]at s1;have:=h.hd;by_cases a:g N.t=0;·exact a
  ·rw[Z8 a]at s1;grind
 have s2:=sums (fun v=>if g v=0 then 0 else p v);simp only[gs,gt,Z7]at s2;have pz:∀e,e<N.m->0<=((if g (N.to e)=0 then 0 else p (N.to e))-(if g (N.fr e)=0 then 0 else p (N.fr e)))*x e:=by
  intro e he;by_cases a:x e=0;·rw[a];grind
  ·rw[hg e he a];have:=hp e he a;refine W5 ?_ (nn e he);split<;>grind
 intro e he hx;have k:=Vq pz (by rw[s2];grind) e he;rw[hg e he hx]at k;have:=hp e he hx;by_cases a:g (N.fr e)=0;·exact a
 ·rw[Z8 a,Z8 a]at k;rcases XJ.mp k with k|k;·grind
  ·exact absurd k hx
def Net.Ro(N:Net)(U:List Nat)(y:Nat->Rat)(z:Rat)(v:Nat):Rat:=ls U (fun e=>N.inc v e*((y (N.to e)-y (N.fr e)+N.c e*z)/N.b e))
theorem Net.CO{N:Net}(h:N.Ok){e:Nat}(he:e<N.m)(w:Nat->Rat):sm N.n (fun v=>w v*N.inc v e)=w (N.to e)-w (N.fr e):=by
 have:sm N.n (fun v=>w v*N.inc v e)=sm N.n (fun v=>(if v=N.to e then w v else 0)-(if v=N.fr e then w v else 0)):=ZO fun v _=>by
  unfold Net.inc;have:=h.ne e he;by_cases a:N.to e=v
  ·subst a;rw[Z7 Y,Z7 Y,Z8 (fun q=>this q.symm)];grind
  ·by_cases b:N.fr e=v
   ·subst b;rw[Z8 a,Z7 Y,Z8 (fun q=>a q.symm),Z7 rfl];grind
   ·rw[Z8 a,Z8 b,Z8 (fun q=>a q.symm),Z8 (fun q=>b q.symm)];grind
 rw[this,WB,YF (h.zU e he),YF (h.AO e he)]
def Net.Yk(N:Net)(U:List Nat)(v:Nat):Prop:=∃e,e∈U/\(N.fr e=v\/N.to e=v)
def Net.O5(N:Net)(U:List Nat):Prop:=∀g:Nat->Rat,(∀e,e∈U->g (N.to e)=g (N.fr e))->g N.s=0->∀e,e∈U->g (N.fr e)=0
theorem Net.Em{N:Net}(h:N.Ok){U:List Nat}(hU:∀e,e∈U->e<N.m)(y u:Nat->Rat)(z:Rat):sm N.n (fun v=>u v*N.Ro U y z v)=ls U (fun e=>(u (N.to e)-u (N.fr e))*((y (N.to e)-y (N.fr e)+N.c e*z)/N.b e)):=by
 have:sm N.n (fun v=>u v*N.Ro U y z v)=sm N.n (fun v=>ls U (fun e=>(u v*N.inc v e)*((y (N.to e)-y (N.fr e)+N.c e*z)/N.b e))):=ZO fun v _=>by
  unfold Net.Ro;rw[<-PU];exact XT fun e _=>by grind
 rw[this,<-uF];refine XT fun e he=>?_;have k:sm N.n (fun i=>u i*N.inc i e*((y (N.to e)-y (N.fr e)+N.c e*z)/N.b e))=((y (N.to e)-y (N.fr e)+N.c e*z)/N.b e)*sm N.n (fun i=>u i*N.inc i e):=by rw[<-WJ];exact ZO fun i _=>by grind
 rw[k,Net.CO h (hU e he) u];grind
theorem Net.kernel{N:Net}(h:N.Ok){U:List Nat}(hU:∀e,e∈U->e<N.m)(T:N.O5 U){u:Nat->Rat}(J:∀v,v<N.n->(v=N.s\/¬N.Yk U v)->u v=0)(h2:∀v,v<N.n->v≠N.s->N.Yk U v->N.Ro U u 0 v=0):∀v,v<N.n->u v=0:=by
 have s:=Net.Em h hU u u 0;have z:sm N.n (fun v=>u v*N.Ro U u 0 v)=0:=by
  refine Vj (ZO (g:=fun _=>0) fun v hv=>?_) (Xd N.n);by_cases a:v=N.s\/¬N.Yk U v;·rw[J v hv a];grind
  ·have b:N.Yk U v:=Classical.byContradiction fun q=>a (.inr q);rw[h2 v hv (fun q=>a (.inl q)) b];grind
 rw[z]at s;have nn:∀e,e∈U->0<=(u (N.to e)-u (N.fr e))*((u (N.to e)-u (N.fr e)+N.c e*0)/N.b e):=by
  intro e he;have O:=h.O e (hU e he);have:(u (N.to e)-u (N.fr e))*((u (N.to e)-u (N.fr e)+N.c e*0)/N.b e)=(u (N.to e)-u (N.fr e))*(u (N.to e)-u (N.fr e))*(1/N.b e):=by grind
  rw[this];refine W5 (sq_nonneg _) ?_;have:0<(N.b e)⁻¹:=Rat.inv_pos.mpr O;grind
 have k:=LN nn (by rw[<-s];grind);have eqs:∀e,e∈U->u (N.to e)=u (N.fr e):=by
  intro e he;have O:=h.O e (hU e he);have:=k e he;rcases XJ.mp this with q|q;·grind
  ·grind
 have fin:=T u eqs (J N.s h.hs (.inl Y));intro v hv;by_cases a:N.Yk U v
 ·obtain⟨e,he,hh⟩:=a;rcases hh with rfl|rfl;·exact fin e he
  ·rw[eqs e he];exact fin e he
 ·exact J v hv (.inr a)
theorem Net.pq{N:Net}(h:N.Ok){x p D:Nat->Rat}(fx:N.Flow x)(px:N.kI x p)(hD:∀v,N.Reach v->N.Gr (N.price x) v (D v)):∀e,e<N.m->x e≠0->D (N.to e)=D (N.fr e)+N.price x e:=by
 have rt:N.Reach N.t:=Net.Wl.reach h ⟨fx,p,px⟩;have dZ:∀k v c,N.Walk (N.price x) k v c->p v-p N.s<=c:=by
  intro k;induction k with
  |zero=>
   intro v c r;obtain⟨rfl,rfl⟩:=r.zero;grind
  |succ k ih=>
   intro v c r;obtain⟨e,c',he,ho,rfl,h',rfl⟩:=r.cases;have:=ih _ _ h';have:=px.le e he ho h'.reach;grind
 have ge:∀v,N.Reach v->p v-p N.s<=D v:=fun v r=>by
  obtain⟨k,w⟩:=(hD v r).1;exact dZ _ _ _ w
 have Ds:D N.s<=0:=(hD N.s .s).2 _ _ (.nil _);have st:∀e,e<N.m->x e≠0->D (N.to e)<=D (N.fr e)+N.price x e:=fun e he hx=>by
  have r:=(px.eq e he hx).1;have o:=fx.op he hx;obtain⟨k,w⟩:=(hD _ r).1;exact(hD _ (.go e he o r)).2 _ _ (w.snoc he o)
 have sums:sm N.m (fun e=>((D (N.to e)-p (N.to e))-(D (N.fr e)-p (N.fr e)))*x e)=N.d*((D N.t-p N.t)-(D N.s-p N.s)):=by
  rw[<-Net.parts h (fun v=>D v-p v) x];have:sm N.n (fun v=>(D v-p v)*N.dv x v)=sm N.n (fun v=>(if v=N.t then(D v-p v)*N.d else 0)-(if v=N.s then(D v-p v)*N.d else 0)):=ZO fun v hv=>by
   rw[fx.cons v hv];unfold Net.due;have:=h.st;by_cases a:v=N.t;·rw[Z7 a,Z7 a,Z8 (by omega)];grind
   ·by_cases b:v=N.s;·rw[Z8 a,Z7 b,Z8 a,Z7 b];grind
    ·rw[Z8 a,Z8 b,Z8 a,Z8 b];grind
  rw[this,WB,YF h.ht (fun v=>(D v-p v)*N.d),YF h.hs (fun v=>(D v-p v)*N.d)];grind
 have nn:∀e,e<N.m->0<=(-1)*(((D (N.to e)-p (N.to e))-(D (N.fr e)-p (N.fr e)))*x e):=by
  intro e he;by_cases a:x e=0;·rw[a];grind
  ·have J:=st e he a;have h2:=(px.eq e he a).2;have h3:0<=((D (N.fr e)-p (N.fr e))-(D (N.to e)-p (N.to e)))*x e:=W5 (by grind) (fx.nn e he);grind
 have uE:sm N.m (fun e=>(-1)*(((D (N.to e)-p (N.to e))-(D (N.fr e)-p (N.fr e)))*x e))<=0:=by
  rw[WJ,sums];have:=ge N.t rt;have:0<=N.d*((D N.t-p N.t)-(D N.s-p N.s)):=W5 (Yy h.hd) (by grind);grind
 intro e he hx;have k:=Vq nn uE e he;have h2:=(px.eq e he hx).2;have:((D (N.to e)-p (N.to e))-(D (N.fr e)-p (N.fr e)))*x e=0:=by grind
 rcases XJ.mp this with q|q;·grind
 ·exact absurd q hx
theorem Net.El{N:Net}(h:N.Ok){x p:Nat->Rat}(fx:N.Flow x)(px:N.kI x p){U:List Nat}(hU:∀e,e∈U↔e<N.m/\x e≠0)(nd:U.Nodup):N.O5 U/\∀hh:Nat->Rat,(∀v,v<N.n->(v=N.s\/¬N.Yk U v)->hh v=0)->(∀v,v<N.n->v≠N.s->N.Yk U v->N.Ro U hh (-1) v=if v=N.t then N.d else 0)->∀e,e∈U->(hh (N.to e)-hh (N.fr e)-N.c e)/N.b e=x e:=by
 have T:N.O5 U:=by
  intro g hg gs e he;refine Net.conn h (p:=p) fx.nn fx.cons (fun e he hx=>?_) (fun e he hx=>hg e ((hU e).mpr ⟨he,hx⟩)) gs e ((hU e).mp he).1 ((hU e).mp he).2;have:=(px.eq e he hx).2;have J:0<N.b e*x e:=VN (h.O e he) (by have:=fx.nn e he;grind);have:=h.hc e he;unfold Net.price at this;unfold Net.price at*;grind
 refine⟨T,fun hh g1 g2=>?_⟩
 classical
 have key:∀v,v<N.n->hh v-(if N.Yk U v then p v-p N.s else 0)=0:=by
  refine Net.kernel h (fun e he=>((hU e).mp he).1) T (u:=fun v=>hh v-(if N.Yk U v then p v-p N.s else 0)) (fun v hv a=>?_) (fun v hv vs tv=>?_)
  ·show hh v-_=0;rw[g1 v hv a];rcases a with rfl|a;·split<;>grind
   ·rw[Z8 a];grind
  ·have e1:=g2 v hv vs tv;unfold Net.Ro at e1⊢;have e2:ls U (fun e=>N.inc v e*((hh (N.to e)-(if N.Yk U (N.to e)then p (N.to e)-p N.s else 0)-(hh (N.fr e)-(if N.Yk U (N.fr e)then p (N.fr e)-p N.s else 0))+N.c e*0)/N.b e))=
    ls U (fun e=>N.inc v e*((hh (N.to e)-hh (N.fr e)+N.c e*-1)/N.b e))-ls U (fun e=>N.inc v e*x e):=by
    rw[<-LO];refine XT fun e he=>?_;have hm:=(hU e).mp he;have O:=h.O e hm.1;rw[Z7 ⟨e,he,.inr Y⟩,Z7 ⟨e,he,.inl Y⟩];have q:=(px.eq e hm.1 hm.2).2;unfold Net.price at q;have q2:x e=(p (N.to e)-p (N.fr e)-N.c e)/N.b e:=by rw[q];grind
    rw[q2];grind
   rw[e2,e1];have e3:ls U (fun e=>N.inc v e*x e)=N.dv x v:=by
    have:∀k,k<=N.m->∀V:List Nat,V.Nodup->(∀e,e∈V↔e<k/\x e≠0)->ls V (fun e=>N.inc v e*x e)=sm k (fun e=>N.inc v e*x e):=by
     intro k;induction k with
     |zero=>
      intro _ V _ hV;have:V=[]:=List.eq_nil_iff_forall_not_mem.mpr fun e he=>by have:=((hV e).mp he).1;omega
      rw[this];rfl
     |succ k ih=>
      intro hk V nV hV;simp only[sm];by_cases a:x k=0
      ·rw[ih (by omega) V nV (fun e=>by
        rw[hV e];constructor
        ·rintro⟨J,h2⟩;refine⟨?_,h2⟩;have:e≠k:=fun q=>h2 (by rw[q];exact a);omega
        ·rintro⟨J,h2⟩;exact⟨by omega,h2⟩),a]
       grind
      ·have mk:k∈V:=(hV k).mpr ⟨by omega,a⟩;have pm:=List.perm_cons_erase mk;have:ls V (fun e=>N.inc v e*x e)=ls (k::V.erase k) (fun e=>N.inc v e*x e):=by
        unfold ls;refine List.Perm.foldr_eq' (pm.map _) ?_ 0;intro a _ b _ c;grind
       rw[this,X1,ih (by omega) (V.erase k) (nV.erase k) (fun e=>by
        rw[nV.mem_erase_iff,hV e];constructor
        ·rintro⟨J,h2,h3⟩;exact⟨by omega,h3⟩
        ·rintro⟨J,h2⟩;exact⟨by omega,by omega,h2⟩)]
       grind
    exact this N.m (by omega) U nd hU
   rw[e3,fx.cons v hv];unfold Net.due;by_cases a:v=N.t;·rw[Z7 a,Z7 a];grind
   ·rw[Z8 a,Z8 a,Z8 vs];grind
 intro e he;have hm:=(hU e).mp he;have k1:=key (N.to e) (h.zU e hm.1);have k2:=key (N.fr e) (h.AO e hm.1);rw[Z7 ⟨e,he,.inr Y⟩]at k1;rw[Z7 ⟨e,he,.inl Y⟩]at k2;have q:=(px.eq e hm.1 hm.2).2;have O:=h.O e hm.1;unfold Net.price at q;have:hh (N.to e)-hh (N.fr e)-N.c e=N.b e*x e:=by grind
 rw[this];grind
open RhRoads
def Wi:Road:=⟨0,1,0,1,0,true⟩
def rd(l:Land)(e:Nat):Road:=l.roads.getD e Wi
def Za(l:Land)(all:Bool):Net:=⟨l.places,l.roads.length,fun e=>(rd l e).from_,fun e=>(rd l e).to_,fun e=>(rd l e).first all,fun e=>(rd l e).each all,fun e=>!(rd l e).shut,l.source,l.goal,(l.units:Rat)⟩
structure Us(n:Nat)(r:Road):Prop where
 f:r.from_<n
 t:r.to_<n
 ne:r.from_≠r.to_
 base:r.base<=1000
 s1:1<=r.slope
 s2:r.slope<=1000
 tn:0<=r.toll
 ng:r.toll.num<=1000000
 td:r.toll.den<=1000000
structure Zh(l:Land):Prop where
 p2:2<=l.places
 p6:l.places<=6
 s:l.source<l.places
 t:l.goal<l.places
 st:l.source≠l.goal
 u1:1<=l.units
 u2:l.units<=1000
 r9:l.roads.length<=9
 rs:∀r,r∈l.roads->Us l.places r
theorem Zh.rd{l:Land}(h:Zh l){e:Nat}(he:e<l.roads.length):Us l.places (rd l e):=h.rs _ (getD_mem _ _ _ he)
theorem natCast_pos{n:Nat}(h:1<=n):(0:Rat)<(n:Rat):=by
 have:((0:Nat):Rat)<(n:Rat):=Rat.natCast_lt_natCast.mpr h;simpa using this
theorem Vp(n:Nat):(0:Rat)<=(n:Rat):=by
 have:((0:Nat):Rat)<=(n:Rat):=Rat.natCast_le_natCast.mpr (Zt n);simpa using this
theorem U_{l:Land}(h:Zh l)(all:Bool):(Za l all).Ok where
 hs:=h.s
 ht:=h.t
 st:=h.st
 hd:=natCast_pos h.u1
 AO:=fun e he=>(h.rd he).f
 zU:=fun e he=>(h.rd he).t
 ne:=fun e he=>(h.rd he).ne
 hc:=fun e he=>by
  have:=(h.rd he).tn;have:=Vp (RR.rd l e).base;show 0<=(RR.rd l e).first all
  unfold Road.first;cases all<;>simp<;>grind
 O:=fun e he=>by
  have:=natCast_pos (h.rd he).s1;show 0<(RR.rd l e).each all;unfold Road.each;cases all<;>simp<;>grind
theorem Iy(l:Land):l.open_=((List.range l.roads.length).filter (fun e=>!(rd l e).shut)).map (fun e=>(e,rd l e)):=by
 unfold Land.open_;rw[X' l.roads Wi,Yn,List.filter_map];rfl
theorem Gn{l:Land}{y:Nat×Road}:y∈l.open_↔y.1<l.roads.length/\y.2=rd l y.1/\(rd l y.1).shut=false:=by
 rw[Iy,Y9];constructor
 ·rintro⟨e,he,rfl⟩;rw[XI,YO]at he;exact⟨he.1,Y,by simpa using he.2⟩
 ·rintro⟨J,h2,h3⟩;refine⟨y.1,?_,by rw[<-h2]⟩;rw[XI,YO];exact⟨J,by simp[h3]⟩
theorem LJ(l:Land)(all:Bool)(f:Flow)(v:Nat):sumAt l f v=(Za l all).dv (on f) v:=by
 have:sumAt l f v=ls l.roads.zipIdx (fun x=>if x.1.to_=v then on f x.2 else if x.1.from_=v then-(on f x.2)else 0):=rfl;rw[this,JE _ Wi];unfold Net.dv;refine ZO fun e _=>?_;show(if(rd l e).to_=v then on f e else if(rd l e).from_=v then-(on f e)else 0)=(if(rd l e).to_=v then(1:Rat)else if(rd l e).from_=v then-1 else 0)*on f e;split;·grind
 ·split<;>grind
theorem zO(l:Land)(all:Bool)(v:Nat):due l v=(Za l all).due v:=rfl
theorem BE{a b:Option Rat}{c:Rat}(h:nearer a b=some c):a=some c\/b=some c:=by
 unfold nearer at h;split at h;·exact .inr h
 ·exact .inl h
 ·split at h;·exact .inr h
  ·exact .inl h
theorem sQ{x:Rat}(b:Option Rat):∃c,c<=x/\nearer (some x) b=some c:=by
 unfold nearer;cases b with
 |none=>exact ⟨x,by grind,Y⟩
 |some y=>
  by_cases a:y<x;·exact⟨y,by grind,by simp[a]⟩
  ·exact⟨x,by grind,by simp[a]⟩
theorem sP{x:Rat}(a:Option Rat):∃c,c<=x/\nearer a (some x)=some c:=by
 unfold nearer;cases a with
 |none=>exact ⟨x,by grind,Y⟩
 |some y=>
  by_cases q:x<y;·exact⟨x,by grind,by simp[q]⟩
  ·exact⟨y,by grind,by simp[q]⟩
theorem Jz{α:Type}{g:α->Option Rat}:∀{L:List α}{a:Option Rat}{c:Rat},L.foldl (fun m x=>nearer m (g x)) a=some c->a=some c\/∃x,x∈L/\g x=some c
 |[],a,c,h=>.inl h
 |x::L,a,c,h=>by
  rcases Jz (L:=L) h with h|⟨y,hy,h⟩
  ·rcases BE h with h|h;·exact .inl h
   ·exact .inr ⟨x,by simp,h⟩
  ·exact .inr ⟨y,by simp[hy],h⟩
theorem Ek{α:Type}{g:α->Option Rat}:∀{L:List α}{x:Rat},∃c,c<=x/\L.foldl (fun m x=>nearer m (g x)) (some x)=some c
 |[],x=>⟨x,by grind,Y⟩
 |y::L,x=>by
  obtain⟨c,J,h2⟩:=sQ (x:=x) (g y);obtain⟨c',h3,h4⟩:=Ek (g:=g) (L:=L) (x:=c);refine⟨c',by grind,?_⟩;rw[RJ,h2,h4]
theorem zN{α:Type}{g:α->Option Rat}:∀{L:List α}{a:Option Rat}{y:α}{x:Rat},y∈L->g y=some x->∃c,c<=x/\L.foldl (fun m x=>nearer m (g x)) a=some c
 |[],a,y,x,h,_=>by simp at h
 |z::L,a,y,x,h,e=>by
  rcases ZE.mp h with rfl|h
  ·obtain⟨c,J,h2⟩:=sP (x:=x) a;obtain⟨c',h3,h4⟩:=Ek (g:=g) (L:=L) (x:=c);refine⟨c',by grind,?_⟩;rw[RJ,e,h2,h4]
  ·obtain⟨c,J,h2⟩:=zN (g:=g) (L:=L) (a:=nearer a (g z)) h e;exact⟨c,J,h2⟩
theorem WT{α:Type}(n:Nat)(f:Nat->α)(v:Nat)(d:α):((List.range n).map f).getD v d=if v<n then f v else d:=by
 rw[ZW,Zb];by_cases h:v<n;·rw[Xv h,Z7 h];rfl
 ·rw[Z8 h,YH (by rw[Y_];omega)];rfl
theorem SA(l:Land)(all:Bool)(f:Flow):∀(k v:Nat)(c:Rat),(costs l all f k).getD v none=some c->∃j,j<=k/\(Za l all).Walk ((Za l all).price (on f)) j v c
 |0,v,c,h=>by
  unfold costs at h;rw[WT]at h;split at h
  ·split at h
   ·next _ e=>
    cases h;subst e;exact⟨0,by omega,.nil _⟩
   ·cases h
  ·cases h
 |k+1,v,c,h=>by
  unfold costs at h;rw[WT]at h;split at h
  ·rcases Jz h with h|⟨x,hx,h⟩
   ·obtain⟨j,J,h2⟩:=SA l all f k v c h;exact⟨j,by omega,h2⟩
   ·rw[XI]at hx;obtain⟨hx,ev⟩:=hx;obtain⟨m1,m2,m3⟩:=Gn.mp hx;cases q:(costs l all f k).getD x.2.from_ none with
    |none=>rw [q]at h;cases h
    |some c'=>
     rw[q]at h;have h:c'+x.2.price all (on f x.1)=c:=Y8 h;obtain⟨j,J,h2⟩:=SA l all f k _ _ q;rw[m2]at h2 h ev;have ev:(rd l x.1).to_=v:=by simpa using ev
     refine⟨j+1,by omega,?_⟩;have:=Net.Walk.snoc (N:=Za l all) (e:=x.1) h2 m1 (by show(!(rd l x.1).shut)=true;rw[m3];rfl);rw[<-h,<-ev];exact this
  ·cases h
theorem Wa{l:Land}(hl:Zh l)(all:Bool)(f:Flow):∀(k j v:Nat)(c:Rat),(Za l all).Walk ((Za l all).price (on f)) j v c->j<=k->∃c',c'<=c/\(costs l all f k).getD v none=some c'
 |0,j,v,c,h,hj=>by
  have:j=0:=by omega
  subst this;obtain⟨rfl,rfl⟩:=h.zero;refine⟨0,by grind,?_⟩;unfold costs;rw[WT,Z7 (show(Za l all).s<l.places from hl.s)];exact Z7 rfl
 |k+1,j,v,c,h,hj=>by
  have hv:v<l.places:=h.reach.lt (U_ hl all);unfold costs;rw[WT,Z7 hv];by_cases a:j<=k
  ·obtain⟨c1,J,h2⟩:=Wa hl all f k j v c h a;simp only[h2];obtain⟨c2,h3,h4⟩:=Ek (g:=fun x:Nat×Road=>((costs l all f k).getD x.2.from_ none).map fun(c:Rat)=>c+x.2.price all (on f x.1)) (L:=l.open_.filter fun(x:Nat×Road)=>x.2.to_==v) (x:=c1);exact⟨c2,by grind,h4⟩
  ·have:j=k+1:=by omega
   subst this;obtain⟨e,c',he,ho,ev,h',rfl⟩:=h.cases;obtain⟨c1,J,h2⟩:=Wa hl all f k k _ c' h' (by omega);have ev:(rd l e).to_=v:=ev;have ho:(!(rd l e).shut)=true:=ho;obtain⟨c2,h3,h4⟩:=zN (g:=fun x:Nat×Road=>((costs l all f k).getD x.2.from_ none).map fun(c:Rat)=>c+x.2.price all (on f x.1)) (L:=l.open_.filter fun(x:Nat×Road)=>x.2.to_==v) (a:=(costs l all f k).getD v none) (y:=(e,rd l e)) (x:=c1+(rd l e).price all (on f e)) (by
    rw[XI];exact⟨Gn.mpr ⟨he,Y,by simpa using ho⟩,by simpa using ev⟩) (by
    have h2:(costs l all f k).getD (rd l e).from_ none=some c1:=h2;show((costs l all f k).getD (rd l e).from_ none).map _=_;rw[h2];rfl)
   refine⟨c2,?_,h4⟩;have:c2<=c1+(Za l all).price (on f) e:=h3;grind
theorem LI{l:Land}(hl:Zh l)(all:Bool){x:Nat->Rat}(hx:∀e,e<l.roads.length->0<=x e):∀e,e<(Za l all).m->(Za l all).op e=true->0<=(Za l all).price x e:=fun e he _=>by
 have J:=(U_ hl all).hc e he;have h2:=(U_ hl all).O e he;have h3:=W5 (Yy h2) (hx e he);unfold Net.price;grind
theorem T6{l:Land}(hl:Zh l)(all:Bool){f:Flow}(hf:∀e,e<l.roads.length->0<=on f e){v:Nat}{c:Rat}:costTo l all f v=some c↔(Za l all).Gr ((Za l all).price (on f)) v c:=by
 have pn:=LI hl all hf;have fw:∀c,costTo l all f v=some c->(Za l all).Gr ((Za l all).price (on f)) v c:=by
  intro c h;obtain⟨j,_,w⟩:=SA l all f _ _ _ h;refine⟨⟨j,w⟩,fun k c' w'=>?_⟩;obtain⟨k2,c2,J,h2,h3⟩:=w'.short (U_ hl all) pn;obtain⟨c3,h4,h5⟩:=Wa hl all f l.places k2 v c2 h3 (YZ J);have:some c=some c3:=h.symm.trans h5;cases this;grind
 refine⟨fw c,fun h=>?_⟩;obtain⟨k,w⟩:=h.1;obtain⟨k2,c2,J,h2,h3⟩:=w.short (U_ hl all) pn;obtain⟨c3,h4,h5⟩:=Wa hl all f l.places k2 v c2 h3 (YZ J);have:=(fw c3 h5).uniq h;rw[<-this];exact h5
theorem WA{l:Land}(hl:Zh l)(all:Bool){f:Flow}(hf:∀e,e<l.roads.length->0<=on f e){v:Nat}(r:(Za l all).Reach v):∃c,costTo l all f v=some c:=by
 obtain⟨k,c,w⟩:=r.walk ((Za l all).price (on f));obtain⟨k2,c2,J,h2,h3⟩:=w.short (U_ hl all) (LI hl all hf);obtain⟨c3,h4,h5⟩:=Wa hl all f l.places k2 v c2 h3 (YZ J);exact⟨c3,h5⟩
theorem O4{l:Land}(all:Bool){f:Flow}{v:Nat}{c:Rat}(h:costTo l all f v=some c):(Za l all).Reach v:=by
 obtain⟨j,_,w⟩:=SA l all f _ _ _ h;exact w.reach
theorem Gm{l:Land}(hl:Zh l)(all:Bool){f:Flow}(h:wrong l all f=none):(Za l all).Wl (on f):=by
 unfold wrong at h;split at h;·cases h
 ·next e1=>
  split at h;·cases h
  ·next e2=>
   rw[VW]at e1 e2;have h:=Option.map_eq_none_iff.mp h;rw[VW]at h;have mz:∀e,e<l.roads.length->(rd l e,e)∈l.roads.zipIdx:=fun e he=>by
    rw[X' l.roads Wi];exact Y9.mpr ⟨e,YO.mpr he,Y⟩
   have a1:∀e,e<l.roads.length->0<=on f e/\((rd l e).shut=true->on f e=0):=fun e he=>by
    have:=e1 _ (mz e he);simp at this;refine⟨by grind,fun q=>this.2 q⟩
   have fl:(Za l all).Flow (on f):=by
    refine⟨fun e he=>(a1 e he).1,fun e he ho=>(a1 e he).2 ?_,fun v hv=>?_⟩
    ·have:(!(rd l e).shut)=false:=ho;simpa using this
    ·have:=e2 v (YO.mpr hv);rw[<-LJ l all,<-zO l all];simpa using this
   have nn:∀e,e<l.roads.length->0<=on f e:=fun e he=>(a1 e he).1;refine⟨fl,fun v=>(costTo l all f v).getD 0,fun e he ho r=>?_,fun e he hx=>?_⟩
   ·obtain⟨c,hc⟩:=WA hl all nn r;obtain⟨g,hg⟩:=WA hl all nn (.go e he ho r);rw[hc,hg];show g<=c+_;obtain⟨k,w⟩:=((T6 hl all nn).mp hc).1;exact((T6 hl all nn).mp hg).2 _ _ (w.snoc he ho)
   ·have:=h _ (mz e he);simp only[Yi,not_and,bne_iff_ne]at this;have:=this hx;have c1:costTo l all f ((Za l all).fr e)=(costs l all f l.places).getD (rd l e).from_ none:=rfl;have c2:costTo l all f ((Za l all).to e)=(costs l all f l.places).getD (rd l e).to_ none:=rfl;rw[<-c1,<-c2]at this;split at this
    ·next c g q1 q2=>
     rw[q1,q2];refine⟨O4 all q1,?_⟩;have:c+(rd l e).price all (on f e)=g:=by simpa using this
     exact this.symm
    ·exact absurd rfl this
theorem Gk{l:Land}(hl:Zh l)(all:Bool){f:Flow}(h:(Za l all).Wl (on f)):wrong l all f=none:=by
 obtain⟨fl,p,px⟩:=h;have nn:∀e,e<l.roads.length->0<=on f e:=fl.nn;unfold wrong;have e1:(l.roads.zipIdx.find? fun(x:Road×Nat)=>decide (on f x.2<0)||(x.1.shut&&on f x.2!=0))=none:=by
  rw[VW];intro y hy;rw[X' l.roads Wi]at hy;obtain⟨e,he,rfl⟩:=Y9.mp hy;have he:=YO.mp he;have J:=nn e he;have h2:=fl.sh e he;simp;refine⟨by grind,fun q=>h2 ?_⟩;show(!(rd l e).shut)=false;have:(rd l e).shut=true:=q;rw[this];rfl
 have e2:((List.range l.places).find? fun(v:Nat)=>sumAt l f v !=due l v)=none:=by
  rw[VW];intro v hv;have:=fl.cons v (YO.mp hv);rw[LJ l all,zO l all,this];simp
 rw[e1,e2];show Option.map _ _=none;rw[Option.map_eq_none_iff,VW];intro y hy;rw[X' l.roads Wi]at hy;obtain⟨e,he,rfl⟩:=Y9.mp hy;have he:=YO.mp he;by_cases hx:on f e=0;·simp[hx]
 ·obtain⟨r,_⟩:=px.eq e he hx;have ho:=fl.op he hx;obtain⟨c,hc⟩:=WA hl all nn r;obtain⟨g,hg⟩:=WA hl all nn (.go e he ho r);have hD:∀v,(Za l all).Reach v->(Za l all).Gr ((Za l all).price (on f)) v ((costTo l all f v).getD 0):=fun v r=>by
   obtain⟨c,hc⟩:=WA hl all nn r;rw[hc];exact(T6 hl all nn).mp hc
  have:=Net.pq (U_ hl all) fl px hD e he hx;rw[hc,hg]at this;have c1:(costs l all f l.places).getD (rd l e).from_ none=some c:=hc;have c2:(costs l all f l.places).getD (rd l e).to_ none=some g:=hg;have c3:(l.roads.getD e Wi)=rd l e:=rfl;simp only[c3,c1,c2];have t2:g=c+(rd l e).price all (on f e):=this;rw[t2];simp
theorem LH{α:Type}{n:Nat}(key:α->Nat)(w:α->Rat)(y:Nat->Rat):∀(L:List α),(∀x,x∈L->key x<n)->sm n (fun u=>ls (L.filter (fun x=>key x==u)) w*y u)=ls L (fun x=>w x*y (key x))
 |[],_=>by
  rw[Tx];refine Vj (ZO (g:=fun _=>0) fun u _=>?_) (Xd n);show ls [] w*y u=0;rw[Tx];grind
 |x::L,h=>by
  rw[X1,<-LH key w y L (fun z hz=>h z (by simp[hz]))];have e:∀u,u<n->ls ((x::L).filter (fun x=>key x==u)) w*y u=(if u=key x then w x*y u else 0)+ls (L.filter (fun x=>key x==u)) w*y u:=by
   intro u _;rw[YD];by_cases a:u=key x;·rw[Z7 (by simp[a]),Z7 a,X1];grind
   ·rw[Z8 (by simp;omega),Z8 a];grind
  rw[ZO e,Tz,YF (h x (by simp)) (fun u=>w x*y u)]
def pr(l:Land)(e:Nat):Nat×Road:=(e,rd l e)
def Ground(l:Land)(q:List (Nat×Road))(v:Nat):Prop:=v=l.source\/(q.any fun(x:Nat×Road)=>x.2.from_==v||x.2.to_==v)=false
theorem LG{l:Land}{all:Bool}{U:List Nat}{v:Nat}:Ground l (U.map (pr l)) v↔v=(Za l all).s\/¬(Za l all).Yk U v:=by
 unfold Ground Net.Yk;refine or_congr Iff.rfl ?_;rw[<-Bool.not_eq_true,UB];refine not_congr ?_;constructor
 ·rintro⟨x,hx,h⟩;obtain⟨e,he,rfl⟩:=Y9.mp hx;refine⟨e,he,?_⟩;rw[Bool.or_eq_true,W_,W_]at h;exact h
 ·rintro⟨e,he,h⟩;refine⟨pr l e,Ux he,?_⟩;rw[Bool.or_eq_true,W_,W_];exact h
theorem CN{L:List Rat}{z:Rat}{n:Nat}(h:L.length=n):(∀u,u<n->num (L++[z]) u=L.getD u 0)/\num (L++[z]) n=z:=by
 refine⟨fun u hu=>LL _ _ _ _ (by omega),?_⟩;subst h;exact LK _ _ _
theorem T5(l:Land)(all:Bool)(q:List (Nat×Road)):(heights l all q).length=l.places:=by
 unfold heights;rw[Z3,Y_]
theorem Rn{l:Land}(hl:Zh l)(all:Bool){U:List Nat}(hU:∀e,e∈U->e<l.roads.length){v:Nat}(hv:v<l.places):∃r,r∈heights l all (U.map (pr l))/\(heights l all (U.map (pr l))).getD v []=r/\r.length=l.places+1/\((v=l.source\/¬(Za l all).Yk U v)/\(∀y:Nat->Rat,dot (l.places+1) r y=y v)\/v≠l.source/\(Za l all).Yk U v/\∀y:Nat->Rat,dot (l.places+1) r y=(Za l all).Ro U y (y l.places) v+(if v=l.goal then(l.units:Rat)else 0)*y l.places):=by
 refine⟨_,getD_mem _ v [] (by rw[T5];exact hv),Y,?_⟩;unfold heights;rw[WT,Z7 hv];by_cases g:Ground l (U.map (pr l)) v
 ·have g':=g;unfold Ground at g';rw[Z7 g'];refine⟨by simp,.inl ⟨(LG (all:=all)).mp g,fun y=>?_⟩⟩;unfold dot;simp only[sm];obtain⟨n1,n2⟩:=CN (L:=(List.range l.places).map (fun(u:Nat)=>if u=v then(1:Rat)else 0)) (z:=0) (n:=l.places) (by simp);rw[n2];have:sm l.places (fun j=>num ((List.range l.places).map (fun(u:Nat)=>if u=v then(1:Rat)else 0)++[0]) j*y j)=sm l.places (fun j=>if j=v then y j else 0):=ZO fun u hu=>by
   rw[n1 u hu,WT,Z7 hu];split<;>grind
  rw[this,YF hv];grind
 ·have g':=g;unfold Ground at g';rw[Z8 g'];have g2:=fun q=>g ((LG (all:=all)).mpr q);refine⟨by simp,.inr ⟨fun q=>g2 (.inl q),Classical.byContradiction fun q=>g2 (.inr q),fun y=>?_⟩⟩;unfold dot;simp only[sm];generalize uD:(U.map (pr l)).filter (fun x=>x.2.to_==v)=into;generalize zM:(U.map (pr l)).filter (fun x=>x.2.from_==v)=out;obtain⟨n1,n2⟩:=CN (L:=(List.range l.places).map (fun(u:Nat)=>(if u=v then ls into (fun x=>1/x.2.each all)+ls out (fun x=>1/x.2.each all)else 0)-ls (into.filter fun x=>x.2.from_==u) (fun x=>1/x.2.each all)-ls (out.filter fun x=>x.2.to_==u) (fun x=>1/x.2.each all)))
   (z:=(if v=l.goal then(l.units:Rat)else 0)+ls into (fun x=>x.2.first all/x.2.each all)-ls out (fun x=>x.2.first all/x.2.each all)) (n:=l.places) (by simp)
  refine Vj (congrArg (fun z=>_+z*y l.places) n2) ?_;show _+((if v=l.goal then(l.units:Rat)else 0)+ls into (fun x=>x.2.first all/x.2.each all)-ls out (fun x=>x.2.first all/x.2.each all))*y l.places=_;have mi:∀x,x∈into->x.2.from_<l.places:=by
   intro x hx;rw[<-uD,XI]at hx;obtain⟨e,he,rfl⟩:=Y9.mp hx.1;exact(hl.rd (hU e he)).f
  have mo:∀x,x∈out->x.2.to_<l.places:=by
   intro x hx;rw[<-zM,XI]at hx;obtain⟨e,he,rfl⟩:=Y9.mp hx.1;exact(hl.rd (hU e he)).t
  have s1:sm l.places (fun j=>num ((List.range l.places).map (fun(u:Nat)=>(if u=v then ls into (fun x=>1/x.2.each all)+ls out (fun x=>1/x.2.each all)else 0)-ls (into.filter fun x=>x.2.from_==u) (fun x=>1/x.2.each all)-ls (out.filter fun x=>x.2.to_==u) (fun x=>1/x.2.each all))++[(if v=l.goal then(l.units:Rat)else 0)+ls into (fun x=>x.2.first all/x.2.each all)-ls out (fun x=>x.2.first all/x.2.each all)]) j*y j)
   =(ls into (fun x=>1/x.2.each all)+ls out (fun x=>1/x.2.each all))*y v-ls into (fun x=>1/x.2.each all*y x.2.from_)-ls out (fun x=>1/x.2.each all*y x.2.to_):=by
   rw[<-LH (fun x:Nat×Road=>x.2.from_) (fun x=>1/x.2.each all) y into mi,<-LH (fun x:Nat×Road=>x.2.to_) (fun x=>1/x.2.each all) y out mo];rw[<-YF hv (fun j=>(ls into (fun x=>1/x.2.each all)+ls out (fun x=>1/x.2.each all))*y j),<-WB,<-WB];refine ZO fun u hu=>?_;rw[n1 u hu,WT,Z7 hu];split<;>grind
  refine Vj (congrArg (fun z=>z+((if v=l.goal then(l.units:Rat)else 0)+ls into (fun x=>x.2.first all/x.2.each all)-ls out (fun x=>x.2.first all/x.2.each all))*y l.places) s1) ?_;show(ls into (fun x=>1/x.2.each all)+ls out (fun x=>1/x.2.each all))*y v-ls into (fun x=>1/x.2.each all*y x.2.from_)-ls out (fun x=>1/x.2.each all*y x.2.to_)+_=_;unfold Net.Ro;have i1:∀f:Nat×Road->Rat,ls into f=ls U (fun e=>if(rd l e).to_=v then f (pr l e)else 0):=by
   intro f;rw[<-uD,JF,En];refine XT fun e _=>?_;show(if((rd l e).to_==v)=true then _ else _)=_;simp
  have o1:∀f:Nat×Road->Rat,ls out f=ls U (fun e=>if(rd l e).from_=v then f (pr l e)else 0):=by
   intro f;rw[<-zM,JF,En];refine XT fun e _=>?_;show(if((rd l e).from_==v)=true then _ else _)=_;simp
  rw[i1,i1,i1,o1,o1,o1];have fin:ls U (fun e=>(Za l all).inc v e*((y ((Za l all).to e)-y ((Za l all).fr e)+(Za l all).c e*y l.places)/(Za l all).b e))=
   y v*ls U (fun e=>if(rd l e).to_=v then 1/(rd l e).each all else 0)+y v*ls U (fun e=>if(rd l e).from_=v then 1/(rd l e).each all else 0)
   -ls U (fun e=>if(rd l e).to_=v then 1/(rd l e).each all*y (rd l e).from_ else 0)-ls U (fun e=>if(rd l e).from_=v then 1/(rd l e).each all*y (rd l e).to_ else 0)
   +y l.places*ls U (fun e=>if(rd l e).to_=v then(rd l e).first all/(rd l e).each all else 0)-y l.places*ls U (fun e=>if(rd l e).from_=v then(rd l e).first all/(rd l e).each all else 0):=by
   rw[<-PU,<-PU,<-PU,<-PU,<-zW,<-LO,<-LO,<-zW,<-LO];refine XT fun e he=>?_;have ne:=(hl.rd (hU e he)).ne;show(if(rd l e).to_=v then(1:Rat)else if(rd l e).from_=v then-1 else 0)*((y (rd l e).to_-y (rd l e).from_+(rd l e).first all*y l.places)/(rd l e).each all)=_;by_cases a:(rd l e).to_=v
   ·rw[Z7 a,Z7 a,Z7 a,Z7 a,Z8 (by omega),Z8 (by omega),Z8 (by omega),a];grind
   ·by_cases b:(rd l e).from_=v
    ·rw[Z8 a,Z7 b,Z8 a,Z8 a,Z8 a,Z7 b,Z7 b,Z7 b,b];grind
    ·rw[Z8 a,Z8 b,Z8 a,Z8 a,Z8 a,Z8 b,Z8 b,Z8 b];grind
  rw[fin];show(ls U (fun e=>if(rd l e).to_=v then 1/(rd l e).each all else 0)+ls U (fun e=>if(rd l e).from_=v then 1/(rd l e).each all else 0))*y v-ls U (fun e=>if(rd l e).to_=v then 1/(rd l e).each all*y (rd l e).from_ else 0)-ls U (fun e=>if(rd l e).from_=v then 1/(rd l e).each all*y (rd l e).to_ else 0)+((if v=l.goal then(l.units:Rat)else 0)+ls U (fun e=>if(rd l e).to_=v then(rd l e).first all/(rd l e).each all else 0)-ls U (fun e=>if(rd l e).from_=v then(rd l e).first all/(rd l e).each all else 0))*y l.places=_;grind
theorem Ur{α:Type}(p:α->Bool):∀(L:List α),L.filter p∈subsets L
 |[]=>by simp[subsets]
 |x::L=>by
  unfold subsets;rw[YD];split;·exact Xs _ (Ux (Ur p L))
  ·exact Ym _ (Ur p L)
theorem Iw{l:Land}(hl:Zh l)(all:Bool){U:List Nat}(hU:∀e,e∈U->e<l.roads.length)(T:(Za l all).O5 U):wB l.places (heights l all (U.map (pr l))):=by
 intro y yn hy;refine Net.kernel (U_ hl all) hU T (fun v hv g=>?_) (fun v hv vs tv=>?_)
 ·obtain⟨r,hr,_,_,h⟩:=Rn hl all hU hv;rcases h with⟨_,h⟩|⟨J,h2,_⟩;·rw[<-h y];exact hy r hr
  ·rcases g with g|g;·exact absurd g J
   ·exact absurd h2 g
 ·obtain⟨r,hr,_,_,h⟩:=Rn hl all hU hv;rcases h with⟨h,_⟩|⟨J,h2,h⟩
  ·rcases h with h|h;·exact absurd h vs
   ·exact absurd tv h
  ·have:=h y;rw[hy r hr,yn]at this;grind
theorem sO(n:Nat)(r h:List Rat):sm n (fun j=>num r j*num h j)=sm n (fun j=>num r j*(if j=n then-1 else num h j)):=ZO fun j hj=>by rw[Z8 (by omega)]
theorem Iv{l:Land}(hl:Zh l)(all:Bool){x:Nat->Rat}(hx:(Za l all).Wl x):flowOn l all (l.open_.filter (fun y=>decide (x y.1≠0)))=some ((List.range l.roads.length).map x):=by
 obtain⟨fx,p,px⟩:=hx;let U:=((List.range l.roads.length).filter (fun e=>!(rd l e).shut)).filter (fun e=>decide (x e≠0))
 have hq:l.open_.filter (fun y=>decide (x y.1≠0))=U.map (pr l):=by
  rw[Iy,List.filter_map];rfl
 have mU:∀e,e∈U↔e<l.roads.length/\x e≠0:=by
  intro e;show e∈((List.range l.roads.length).filter (fun e=>!(rd l e).shut)).filter (fun e=>decide (x e≠0))↔_;rw[XI,XI,YO];constructor
  ·rintro⟨⟨J,h2⟩,h3⟩;exact⟨J,by simpa using h3⟩
  ·rintro⟨J,h2⟩;exact⟨⟨J,fx.op J h2⟩,by simpa using h2⟩
 have m_:U.Nodup:=(RI.filter _).filter _;have hU:∀e,e∈U->e<l.roads.length:=fun e he=>((mU e).mp he).1;obtain⟨T,S⟩:=Net.El (U_ hl all) fx px (U:=U) mU m_;obtain⟨h,eh,sat⟩:=zP (T5 l all (U.map (pr l))) (fun r hr=>by
  obtain⟨v,hv,rfl⟩:=XY.mp hr;rw[T5]at hv;obtain⟨r',_,e,h,_⟩:=Rn hl all hU hv;rw[ZW,ZT (by rw[T5];exact hv)]at e;have e:(heights l all (U.map (pr l)))[v]=r':=e;rw[e];exact h) (Iw hl all hU T)
 have pk:∀r,r∈heights l all (U.map (pr l))->dot (l.places+1) r (fun j=>if j=l.places then-1 else num h j)=0:=fun r hr=>by
  unfold dot;simp only[sm];rw[<-sO,sat r hr,Z7 trivial];grind
 have S2:=S (num h) (fun v hv g=>by
  obtain⟨r,hr,_,_,k⟩:=Rn hl all hU hv;rcases k with⟨_,k⟩|⟨J,h2,_⟩
  ·have:=pk r hr;rw[k]at this;rw[Z8 (show v≠l.places from Y7 hv)]at this;exact this
  ·rcases g with g|g;·exact absurd g J
   ·exact absurd h2 g) (fun v hv vs tv=>by
  obtain⟨r,hr,_,_,k⟩:=Rn hl all hU hv;rcases k with⟨k,_⟩|⟨J,h2,k⟩
  ·rcases k with k|k;·exact absurd k vs
   ·exact absurd tv k
  ·have:=pk r hr;rw[k]at this;simp only[Z7]at this;have e2:(Za l all).Ro U (fun j=>if j=l.places then-1 else num h j) (-1) v=(Za l all).Ro U (num h) (-1) v:=by
    unfold Net.Ro;refine XT fun e he=>?_;have J:(Za l all).to e≠l.places:=Y7 ((U_ hl all).zU e (hU e he));have h2:(Za l all).fr e≠l.places:=Y7 ((U_ hl all).AO e (hU e he));simp only[Z8 J,Z8 h2]
   rw[e2]at this;show _=if v=l.goal then(l.units:Rat)else 0
   grind)
 unfold flowOn;rw[hq,eh];show some _=some _;congr 1;rw[X' l.roads Wi];show List.map _ (List.map _ _)=_;rw[Yn];refine VS fun e he=>?_;have he:=YO.mp he;show(if((U.map (pr l)).any fun y=>y.1==e)=true then(num h (rd l e).to_-num h (rd l e).from_-(rd l e).first all)/(rd l e).each all else 0)=x e;by_cases a:x e=0
 ·rw[Z8,a];rw[UB];rintro⟨y,hy,q⟩;obtain⟨e',qQ,rfl⟩:=Y9.mp hy;have:e'=e:=by rw[W_]at q;exact q
  subst this;exact((mU e').mp qQ).2 a
 ·rw[Z7];·exact S2 e ((mU e).mpr ⟨he,a⟩)
  ·rw[UB];exact⟨pr l e,Ux ((mU e).mpr ⟨he,a⟩),by show(e==e)=true;simp⟩
theorem zL{n:Nat}{x:Nat->Rat}{e:Nat}(he:e<n):on ((List.range n).map x) e=x e:=by
 unfold on;rw[WT,Z7 he]
theorem Net.zK{N:Net}{x y:Nat->Rat}(h:∀e,e<N.m->x e=y e)(v:Nat):N.dv x v=N.dv y v:=ZO fun e he=>by rw[h e he]
theorem Net.NB{N:Net}{x y:Nat->Rat}(h:∀e,e<N.m->x e=y e){e:Nat}(he:e<N.m):N.price x e=N.price y e:=by unfold Net.price;rw[h e he]
theorem Net.Wl.congr{N:Net}{x y:Nat->Rat}(h:∀e,e<N.m->x e=y e)(hx:N.Wl x):N.Wl y:=by
 obtain⟨fx,p,px⟩:=hx;refine⟨⟨fun e he=>by rw[<-h e he];exact fx.nn e he,fun e he ho=>by rw[<-h e he];exact fx.sh e he ho,fun v hv=>by rw[<-Net.zK h v];exact fx.cons v hv⟩,p,fun e he ho r=>?_,fun e he hy=>?_⟩;·rw[<-Net.NB h he];exact px.le e he ho r
 ·rw[<-Net.NB h he];exact px.eq e he (by rw[h e he];exact hy)
theorem Ej{l:Land}{all:Bool}{q:List (Nat×Road)}{f:Flow}(h:flowOn l all q=some f):f.length=l.roads.length:=by
 unfold flowOn at h;cases e:solve l.places (heights l all q)with
 |none=>rw [e]at h;cases h
 |some y=>
  rw[e]at h;have:=Y8 h;rw[<-this,Z3,List.length_zipIdx]
theorem YS{l:Land}(hl:Zh l){all:Bool}{f:Flow}(h:settled l all=some f):f.length=l.roads.length/\(Za l all).Wl (on f):=by
 unfold settled at h;obtain⟨q,hq,e⟩:=List.exists_of_findSome?_eq_some h;split at e
 ·next f' ef=>
  split at e
  ·next w=>
   cases e;exact⟨Ej ef,Gm hl all (by simpa using w)⟩
  ·cases e
 ·cases e
theorem Kl{l:Land}(hl:Zh l)(all:Bool){x:Nat->Rat}(hx:(Za l all).Wl x):settled l all=some ((List.range l.roads.length).map x):=by
 have dY:(Za l all).Wl (on ((List.range l.roads.length).map x)):=hx.congr fun e he=>(zL he).symm;cases e:settled l all with
 |some f=>
  obtain⟨J,h2⟩:=YS hl e;have u:=Net.uniq (U_ hl all) h2 hx;congr 1;apply UA;intro i;by_cases hi:i<l.roads.length
  ·have k:on f i=x i:=u i hi;unfold on at k;rw[ZW,ZT (by omega)]at k;rw[Zb,Xv hi,ZT (by omega)];exact congrArg some k
  ·rw[YH (by omega),YH (by simp;omega)]
 |none=>
  exfalso;unfold settled at e;rw[List.findSome?_eq_none_iff]at e;have:=e _ (Ur (fun y=>decide (x y.1≠0)) l.open_);rw[Iv hl all hx]at this;simp only[Gk hl all dY]at this;simp at this
theorem Iu{l:Land}(hl:Zh l)(all:Bool)(h:¬(Za l all).Reach l.goal):settled l all=none:=by
 cases e:settled l all with
 |none=>rfl
 |some f=>exact absurd (Net.Wl.reach (U_ hl all) (YS hl e).2) h
end RR
namespace RR
structure Net.Kk(N:Net)(x:Nat->Rat):Prop where
 nn:∀e,e<N.m->0<=x e
 cons:∀v,v<N.n->N.dv x v=N.due v
structure Net.U9(N:Net)(U:List Nat)(y h:Nat->Rat):Prop where
 off:∀e,e<N.m->e∉U->y e=0
 on:∀e,e∈U->h (N.to e)-h (N.fr e)=N.c e+N.b e*y e
 cons:∀v,v<N.n->N.dv y v=N.due v
 hs:h N.s=0
def Net.Po(N:Net)(x:Nat->Rat):Rat:=sm N.m (fun e=>N.c e*x e+N.b e*(x e*x e)/2)
def Net.Ir(N:Net)(x y:Nat->Rat):Rat:=sm N.m (fun e=>N.b e*((x e-y e)*(x e-y e)))
theorem Net.QI{N:Net}(h:N.Ok)(w:Nat->Rat){x y:Nat->Rat}(hx:∀v,v<N.n->N.dv x v=N.due v)(hy:∀v,v<N.n->N.dv y v=N.due v):sm N.m (fun e=>(w (N.to e)-w (N.fr e))*(x e-y e))=0:=by
 have e1:=Net.parts h w x;have e2:=Net.parts h w y;have e3:sm N.n (fun v=>w v*N.dv x v)=sm N.n (fun v=>w v*N.dv y v):=ZO fun v hv=>by rw[hx v hv,hy v hv]
 have e4:sm N.m (fun e=>(w (N.to e)-w (N.fr e))*(x e-y e))=sm N.m (fun e=>(w (N.to e)-w (N.fr e))*x e)-sm N.m (fun e=>(w (N.to e)-w (N.fr e))*y e):=by rw[<-WB];exact ZO fun e _=>by grind
 rw[e4,<-e1,<-e2,e3];grind
theorem Net.zJ{N:Net}(h:N.Ok)(x y:Nat->Rat):0<=N.Ir x y:=QL fun e he=>W5 (Yy (h.O e he)) (sq_nonneg _)
theorem Net.Iq{N:Net}(h:N.Ok){x y:Nat->Rat}{e:Nat}(he:e<N.m)(ne:x e≠y e):0<N.Ir x y:=by
 refine zX (fun e he=>W5 (Yy (h.O e he)) (sq_nonneg _)) he (VN (h.O e he) ?_);have J:=sq_nonneg (x e-y e);have h2:(x e-y e)*(x e-y e)≠0:=fun q=>ne (by have:=Mj q;grind);grind
theorem Net.Gj{N:Net}(h:N.Ok){x y:Nat->Rat}(z:N.Ir x y<=0):∀e,e<N.m->x e=y e:=fun e he=>by
 by_cases q:x e=y e;·exact q
 ·have:=Net.Iq h he q;grind
theorem Net.O2{N:Net}(ok:N.Ok){U:List Nat}{x y h:Nat->Rat}(B:N.U9 U y h)(hx:∀v,v<N.n->N.dv x v=N.due v)(off:∀e,e<N.m->e∉U->x e=0):N.Po x-N.Po y=N.Ir x y/2:=by
 have z:=Net.QI ok h hx B.cons;have:N.Po x-N.Po y=N.Ir x y/2+sm N.m (fun e=>(h (N.to e)-h (N.fr e))*(x e-y e)):=by
  unfold Net.Po Net.Ir;have e2:sm N.m (fun e=>N.b e*((x e-y e)*(x e-y e)))/2=sm N.m (fun e=>(1/2)*(N.b e*((x e-y e)*(x e-y e)))):=by rw[WJ];grind
  rw[e2,<-WB,<-Tz];refine ZO fun e he=>?_;by_cases a:e∈U
  ·have:=B.on e a;rw[this];grind
  ·rw[off e he a,B.off e he a];grind
 rw[this,z];grind
def mix(k:Rat)(x y:Nat->Rat):Nat->Rat:=fun e=>(1-k)*x e+k*y e
theorem Net.Gi{N:Net}{x y:Nat->Rat}(k:Rat)(hx:∀v,v<N.n->N.dv x v=N.due v)(hy:∀v,v<N.n->N.dv y v=N.due v):∀v,v<N.n->N.dv (mix k x y) v=N.due v:=by
 intro v hv;have:N.dv (mix k x y) v=(1-k)*N.dv x v+k*N.dv y v:=by
  unfold Net.dv;rw[<-WJ,<-WJ,<-Tz];refine ZO fun e _=>?_;unfold mix;grind
 rw[this,hx v hv,hy v hv];grind
theorem Net.wA{N:Net}(k:Rat)(x y:Nat->Rat):N.Ir (mix k x y) y=(1-k)*(1-k)*N.Ir x y:=by
 unfold Net.Ir;rw[<-WJ];refine ZO fun e _=>?_;unfold mix;grind
theorem Net.wu{N:Net}(ok:N.Ok){U:List Nat}{x y h:Nat->Rat}(B:N.U9 U y h)(hx:∀v,v<N.n->N.dv x v=N.due v)(off:∀e,e<N.m->e∉U->x e=0){k:Rat}(k0:0<k)(k1:k<=1){e:Nat}(he:e<N.m)(ne:x e≠y e):N.Po (mix k x y)<N.Po x:=by
 have J:=Net.O2 ok B hx off;have h2:=Net.O2 ok B (Net.Gi k hx B.cons) (fun e he a=>by unfold mix;rw[off e he a,B.off e he a];grind);rw[Net.wA]at h2;have h3:=Net.Iq ok he ne;have h4:(1-k)*(1-k)*N.Ir x y<N.Ir x y:=by
  have:0<(1-(1-k)*(1-k))*N.Ir x y:=by
   refine VN ?_ h3;have:0<k*(2-k):=VN k0 (by grind);grind
  grind
 grind
theorem Net.wq{N:Net}(ok:N.Ok){U:List Nat}{x y h:Nat->Rat}(B:N.U9 U y h)(hx:∀v,v<N.n->N.dv x v=N.due v)(off:∀e,e<N.m->e∉U->x e=0):N.Po y<=N.Po x:=by
 have J:=Net.O2 ok B hx off;have:=Net.zJ ok x y;grind
theorem Net.Ei{N:Net}(ok:N.Ok){U:List Nat}{x y h:Nat->Rat}(B:N.U9 U y h)(hx:∀v,v<N.n->N.dv x v=N.due v)(off:∀e,e<N.m->e∉U->x e=0){e:Nat}(he:e<N.m)(ne:x e≠y e):N.Po y<N.Po x:=by
 have J:=Net.O2 ok B hx off;have:=Net.Iq ok he ne;grind
theorem Net.Ip{N:Net}(ok:N.Ok){x:Nat->Rat}(F:N.Kk x):∃e,e<N.m/\N.to e=N.t/\x e≠0:=by
 refine Classical.byContradiction fun q=>?_;have e1:=F.cons N.t ok.ht;unfold Net.due at e1;rw[Z7 rfl]at e1;have z:N.dv x N.t<=0:=by
  unfold Net.dv;rw[<-Xd N.m];refine zY fun e he=>?_;unfold Net.inc;have:=F.nn e he;by_cases a:N.to e=N.t
  ·have:x e=0:=by
    by_cases b:x e=0;·exact b
    ·exact absurd ⟨e,he,a,b⟩ q
   rw[this];grind
  ·rw[Z8 a];split<;>grind
 have:=ok.hd;grind
theorem Net.Eh{N:Net}(ok:N.Ok){x p:Nat->Rat}(F:N.Kk x)(hp:∀e,e<N.m->x e≠0->p (N.fr e)<p (N.to e)){U:List Nat}(hU:∀e,e∈U↔e<N.m/\x e≠0):N.O5 U:=
 fun g hg gs e he=>Net.conn ok F.nn F.cons hp (fun e he hx=>hg e ((hU e).mpr ⟨he,hx⟩)) gs e ((hU e).mp he).1 ((hU e).mp he).2
structure Net.Good(N:Net)(x h:Nat->Rat):Prop where
 Vo:N.Kk x
 on:∀e,e<N.m->x e≠0->h (N.to e)-h (N.fr e)=N.c e+N.b e*x e
 hs:h N.s=0
theorem Net.Good.rise{N:Net}(ok:N.Ok){x h:Nat->Rat}(G:N.Good x h):∀e,e<N.m->x e≠0->h (N.fr e)<h (N.to e):=fun e he hx=>by
 have J:=G.on e he hx;have h2:0<N.b e*x e:=VN (ok.O e he) (by have:=G.Vo.nn e he;grind);have:=ok.hc e he;grind
theorem Net.U9.good{N:Net}{U:List Nat}{y h:Nat->Rat}(B:N.U9 U y h)(nn:∀e,e<N.m->0<=y e):N.Good y h:=
 ⟨⟨nn,B.cons⟩,fun e he hx=>B.on e (Classical.byContradiction fun q=>hx (B.off e he q)),B.hs⟩
theorem Net.Good.same{N:Net}(ok:N.Ok){x h x' h':Nat->Rat}(G:N.Good x h)(G':N.Good x' h')(s:∀e,e<N.m->(x e≠0↔x' e≠0)):∀e,e<N.m->x e=x' e:=by
 refine Net.Gj ok ?_;have z:=Net.QI ok (fun v=>h v-h' v) G.Vo.cons G'.Vo.cons;have:N.Ir x x'=sm N.m (fun e=>(h (N.to e)-h' (N.to e)-(h (N.fr e)-h' (N.fr e)))*(x e-x' e)):=by
  unfold Net.Ir;refine ZO fun e he=>?_;by_cases a:x e=0
  ·have b:x' e=0:=Classical.byContradiction fun q=>(s e he).mpr q a;rw[a,b];grind
  ·have J:=G.on e he a;have h2:=G'.on e he ((s e he).mp a);have:h (N.to e)-h' (N.to e)-(h (N.fr e)-h' (N.fr e))=N.b e*(x e-x' e):=by grind
   rw[this];grind
 rw[this,z];grind
theorem Net.Jy{N:Net}{x y:Nat->Rat}(h:∀e,e<N.m->x e=y e):N.Po x=N.Po y:=ZO fun e he=>by rw[h e he]
theorem Net.zI{N:Net}(ok:N.Ok){U:List Nat}(hU:∀e,e∈U->e<N.m)(nd:U.Nodup){h:Nat->Rat}(hs:h N.s=0)(tt:N.Yk U N.t)(O:∀v,v<N.n->v≠N.s->N.Yk U v->N.Ro U h (-1) v=if v=N.t then N.d else 0){y:Nat->Rat}(y1:∀e,e∈U->y e=(h (N.to e)-h (N.fr e)-N.c e)/N.b e)(y0:∀e,e<N.m->e∉U->y e=0):N.U9 U y h:=by
 have dX:∀f:Nat->Rat,ls U (fun e=>f e*y e)=sm N.m (fun e=>f e*y e):=by
  intro f;have:∀k,k<=N.m->∀V:List Nat,V.Nodup->(∀e,e∈V->e<k/\e∈U)->(∀e,e<k->e∈U->e∈V)->ls V (fun e=>f e*y e)=sm k (fun e=>f e*y e):=by
   intro k;induction k with
   |zero=>
    intro _ V _ hV _;have:V=[]:=List.eq_nil_iff_forall_not_mem.mpr fun e he=>by have:=(hV e he).1;omega
    rw[this];rfl
   |succ k ih=>
    intro hk V nV hV kH;simp only[sm];by_cases a:k∈U
    ·have mk:k∈V:=kH k (by omega) a;have pm:=List.perm_cons_erase mk;have:ls V (fun e=>f e*y e)=ls (k::V.erase k) (fun e=>f e*y e):=by
      unfold ls;refine List.Perm.foldr_eq' (pm.map _) ?_ 0;intro a _ b _ c;grind
     rw[this,X1,ih (by omega) (V.erase k) (nV.erase k) (fun e he=>by
      rw[nV.mem_erase_iff]at he;have:=hV e he.2;exact⟨by omega,this.2⟩) (fun e he hu=>by
      rw[nV.mem_erase_iff];exact⟨by omega,kH e (by omega) hu⟩)]
     grind
    ·rw[ih (by omega) V nV (fun e he=>by
      have:=hV e he;refine⟨?_,this.2⟩;have:e≠k:=fun q=>a (by rw[<-q];exact this.2);omega) (fun e he hu=>kH e (by omega) hu),y0 k (by omega) a]
     grind
  exact this N.m (by omega) U nd (fun e he=>⟨hU e he,he⟩) (fun e _ he=>he)
 have hJ:∀v,N.dv y v=N.Ro U h (-1) v:=by
  intro v;unfold Net.dv Net.Ro;rw[<-dX];refine XT fun e he=>?_;rw[y1 e he];grind
 have other:∀v,v<N.n->v≠N.s->N.dv y v=N.due v:=by
  intro v hv vs;by_cases t:N.Yk U v
  ·rw[hJ v,O v hv vs t];unfold Net.due;rw[Z8 vs]
  ·have vt:v≠N.t:=fun q=>t (by rw[q];exact tt);unfold Net.due;rw[Z8 vt,Z8 vs,hJ v];unfold Net.Ro;refine CQ fun e he=>?_;unfold Net.inc;rw[Z8 (fun q=>t ⟨e,he,.inr q⟩),Z8 (fun q=>t ⟨e,he,.inl q⟩)];grind
 refine⟨y0,fun e he=>?_,fun v hv=>?_,hs⟩
 ·have:=ok.O e (hU e he);rw[y1 e he];grind
 ·by_cases vs:v=N.s
  ·subst vs;have p:=Net.parts ok (fun _=>1) y;have p0:sm N.m (fun e=>((1:Rat)-1)*y e)=0:=by
    refine Vj (ZO (g:=fun _=>0) fun e _=>?_) (Xd _);grind
   rw[p0]at p;have p1:sm N.n (fun v=>1*N.dv y v)=sm N.n (fun v=>(if v=N.s then N.dv y v else 0)+(if v=N.t then N.d else 0)):=ZO fun v hv=>by
    by_cases a:v=N.s;·rw[Z7 a,Z8 (by have:=ok.st;omega)];grind
    ·rw[Z8 a,other v hv a];unfold Net.due;rw[Z8 a];grind
   rw[p1,Tz,YF ok.hs (fun v=>N.dv y v),YF ok.ht (fun _=>N.d)]at p;unfold Net.due;rw[Z8 ok.st,Z7 rfl];grind
  ·exact other v hv vs
structure Net.V6(N:Net)(x h:Nat->Rat)(Ht:Nat->Prop)(Ze:Nat->Rat)(X7:Nat->Nat)(T:Nat)(ks:Nat->Nat)(r:Nat):Prop where
 s:Ht N.s
 Rm:∀v,Ht v->v=N.s\/∃e,e<N.m/\x e≠0/\(N.fr e=v\/N.to e=v)
 all:∀e,e<N.m->x e≠0->Ht (N.fr e)/\Ht (N.to e)
 lh:∀v,Ht v->Ze v=h v
 t0:∀v,Ht v->X7 v=0
 tT:∀v,X7 v<=T
 emp:∀i,i<=r->ks i<N.m/\x (ks i)=0
 last:Ht (N.to (ks 0))
 gap:Ze (N.fr (ks 0))+N.c (ks 0)<h (N.to (ks 0))
 link:∀i,i<r->N.fr (ks i)=N.to (ks (i+1))/\¬Ht (N.to (ks (i+1)))/\Ze (N.to (ks (i+1)))=Ze (N.fr (ks (i+1)))+N.c (ks (i+1))/\X7 (N.fr (ks (i+1)))<X7 (N.to (ks (i+1)))
 first:Ht (N.fr (ks r))
section
variable{N:Net}{x h Ze:Nat->Rat}{Ht:Nat->Prop}{X7:Nat->Nat}{T:Nat}{ks:Nat->Nat}{r:Nat}
theorem Net.V6.LF(D:N.V6 x h Ht Ze X7 T ks r):∀i j,1<=i->i<j->j<=r->X7 (N.to (ks j))<X7 (N.to (ks i)):=by
 intro i j hi JD;induction j with
 |zero=>omega
 |succ j ih=>
  intro hj;have step:∀k,1<=k->k<r->X7 (N.to (ks (k+1)))<X7 (N.to (ks k)):=fun k hk hr=>by
   have J:=(D.link k hr).1;obtain⟨k',rfl⟩:∃k',k=k'+1:=⟨k-1,by omega⟩;have h2:=(D.link k' (by omega)).2.2.2;rw[<-J];exact h2
  by_cases e:i=j;·subst e;exact step i hi (by omega)
  ·have:=ih (by omega) (by omega);have:=step j (by omega) (by omega);omega
theorem Net.V6.inj(D:N.V6 x h Ht Ze X7 T ks r){i j:Nat}(hi:i<=r)(hj:j<=r)(e:N.to (ks i)=N.to (ks j)):i=j:=by
 by_cases a:i=0
 ·by_cases b:j=0;·omega
  ·obtain⟨j',rfl⟩:∃j',j=j'+1:=⟨j-1,by omega⟩;subst a;exact absurd D.last (by rw[e];exact(D.link j' (by omega)).2.1)
 ·by_cases b:j=0
  ·obtain⟨i',rfl⟩:∃i',i=i'+1:=⟨i-1,by omega⟩;subst b;exact absurd D.last (by rw[<-e];exact(D.link i' (by omega)).2.1)
  ·by_cases c:i<j;·have:=D.LF i j (by omega) c hj;rw[e]at this;omega
   ·by_cases c':j<i;·have:=D.LF j i (by omega) c' hi;rw[e]at this;omega
    ·omega
theorem Net.V6.Kj(ok:N.Ok)(G:N.Good x h)(D:N.V6 x h Ht Ze X7 T ks r){U:List Nat}(hU:∀e,e∈U↔e<N.m/\(x e≠0\/∃i,i<=r/\e=ks i)):N.O5 U:=by
 intro g hg gs;have c:=Net.conn ok G.Vo.nn G.Vo.cons (G.rise ok) (fun e he hx=>hg e ((hU e).mpr ⟨he,.inl hx⟩)) gs;have ht:∀v,Ht v->g v=0:=fun v hv=>by
  rcases D.Rm v hv with rfl|⟨e,he,hx,rfl|rfl⟩;·exact gs
  ·exact c e he hx
  ·rw[hg e ((hU e).mpr ⟨he,.inl hx⟩)];exact c e he hx
 have ch:∀k i,i+k=r->g (N.fr (ks i))=0:=by
  intro k;induction k with
  |zero=>
   intro i hi;have:i=r:=by omega
   subst this;exact ht _ D.first
  |succ k ih=>
   intro i hi;rw[(D.link i (by omega)).1,hg _ ((hU _).mpr ⟨(D.emp (i+1) (by omega)).1,.inr ⟨i+1,by omega,Y⟩⟩)];exact ih (i+1) (by omega)
 intro e he;obtain⟨hm,hx|⟨i,hi,rfl⟩⟩:=(hU e).mp he;·exact c e hm hx
 ·exact ch (r-i) i (by omega)
theorem Net.V6.rise(ok:N.Ok)(G:N.Good x h)(D:N.V6 x h Ht Ze X7 T ks r):∃p:Nat->Rat,∀e,e<N.m->(x e≠0\/∃i,i<=r/\e=ks i)->p (N.fr e)<p (N.to e):=by
 have gp:=D.gap;have Tp:(0:Rat)<(T:Rat)+1:=by
  have:(0:Rat)<=(T:Rat):=by
   have:((0:Nat):Rat)<=(T:Rat):=Rat.natCast_le_natCast.mpr (Zt T);simpa using this
  grind
 generalize hg:(h (N.to (ks 0))-Ze (N.fr (ks 0))-N.c (ks 0))/((T:Rat)+1)=sN;have e1:sN*((T:Rat)+1)=h (N.to (ks 0))-Ze (N.fr (ks 0))-N.c (ks 0):=by rw[<-hg];grind
 have ep:0<sN:=by
  rw[<-hg,Zk];exact VN (by grind) (Rat.inv_pos.mpr Tp)
 refine⟨fun v=>Ze v+sN*(X7 v:Rat),fun e he k=>?_⟩;show Ze (N.fr e)+sN*(X7 (N.fr e):Rat)<Ze (N.to e)+sN*(X7 (N.to e):Rat);have hc:=ok.hc e he;rcases k with hx|⟨i,hi,rfl⟩
 ·obtain⟨J,h2⟩:=D.all e he hx;rw[D.t0 _ J,D.t0 _ h2,D.lh _ J,D.lh _ h2];have:=G.rise ok e he hx;grind
 ·by_cases i0:i=0
  ·subst i0;rw[D.t0 _ D.last,D.lh _ D.last];have h3:(X7 (N.fr (ks 0)):Rat)<=(T:Rat):=Rat.natCast_le_natCast.mpr (D.tT _);have h4:0<=sN*((T:Rat)-(X7 (N.fr (ks 0)):Rat)):=W5 (Yy ep) (by grind);have:((0:Nat):Rat)=0:=rfl;rw[this];grind
  ·obtain⟨j,rfl⟩:∃j,i=j+1:=⟨i-1,by omega⟩;obtain⟨_,_,h2,h3⟩:=D.link j (by omega);have h4:(X7 (N.fr (ks (j+1))):Rat)<(X7 (N.to (ks (j+1))):Rat):=Rat.natCast_lt_natCast.mpr h3;have h5:0<sN*((X7 (N.to (ks (j+1))):Rat)-(X7 (N.fr (ks (j+1))):Rat)):=VN ep (by grind);rw[h2];grind
theorem Net.V6.pos(ok:N.Ok)(G:N.Good x h)(D:N.V6 x h Ht Ze X7 T ks r){U:List Nat}(hU:∀e,e∈U↔e<N.m/\(x e≠0\/∃i,i<=r/\e=ks i)){y hy:Nat->Rat}(B:N.U9 U y hy):∀i,i<=r->0<y (ks i):=by
 have z1:=Net.QI ok Ze B.cons G.Vo.cons;have z2:=Net.QI ok hy B.cons G.Vo.cons;have k0:=D.emp 0 (by omega);generalize hg:h (N.to (ks 0))-Ze (N.fr (ks 0))-N.c (ks 0)=gap;have gp:0<gap:=by have:=D.gap;grind
 have Ir:N.Ir y x=gap*y (ks 0):=by
  have e1:N.Ir y x=sm N.m (fun e=>(hy (N.to e)-hy (N.fr e))*(y e-x e))-sm N.m (fun e=>(Ze (N.to e)-Ze (N.fr e))*(y e-x e))+sm N.m (fun e=>if e=ks 0 then gap*y e else 0):=by
   unfold Net.Ir;rw[<-WB,<-Tz];refine ZO fun e he=>?_;by_cases a:e∈U
   ·have J:=B.on e a;obtain⟨_,hx|⟨i,hi,rfl⟩⟩:=(hU e).mp a
    ·have h2:=G.on e he hx;obtain⟨q1,q2⟩:=D.all e he hx;have ne:e≠ks 0:=fun q=>hx (by rw[q];exact k0.2);rw[Z8 ne,D.lh _ q1,D.lh _ q2,J,h2];grind
    ·have xe:=(D.emp i hi).2;by_cases i0:i=0
     ·subst i0;rw[Z7 Y,xe,D.lh _ D.last,J];grind
     ·obtain⟨j,rfl⟩:∃j,i=j+1:=⟨i-1,by omega⟩;obtain⟨_,_,h2,_⟩:=D.link j (by omega);have ne:ks (j+1)≠ks 0:=fun q=>by
       have:=D.inj hi (by omega) (show N.to (ks (j+1))=N.to (ks 0) by rw[q]);omega
      rw[Z8 ne,xe,J,h2];grind
   ·have y0:=B.off e he a;have x0:x e=0:=Classical.byContradiction fun q=>a ((hU e).mpr ⟨he,.inl q⟩);rw[x0,y0];split<;>grind
  rw[e1,z1,z2,YF k0.1 (fun e=>gap*y e)];grind
 have fn:=Net.zJ ok y x;have y0:0<y (ks 0):=by
  have ge:0<=y (ks 0):=by
   by_cases q:0<=y (ks 0);·exact q
   ·have:0<gap*-y (ks 0):=VN gp (by grind);grind
  by_cases q:y (ks 0)=0
  ·exfalso;have same:=Net.Gj ok (x:=y) (y:=x) (by rw[Ir,q];grind);have cn:=Net.conn ok (g:=fun v=>hy v-h v) G.Vo.nn G.Vo.cons (G.rise ok) (fun e he hx=>by
    have J:=B.on e ((hU e).mpr ⟨he,.inl hx⟩);have h2:=G.on e he hx;have h3:=same e he;rw[h3]at J;grind) (by have:=B.hs;have:=G.hs;grind)
   have ht:∀v,Ht v->hy v=h v:=fun v hv=>by
    rcases D.Rm v hv with rfl|⟨e,he,hx,rfl|rfl⟩;·rw[B.hs,G.hs]
    ·have:=cn e he hx;grind
    ·have:=cn e he hx;have J:=B.on e ((hU e).mpr ⟨he,.inl hx⟩);have h2:=G.on e he hx;have h3:=same e he;rw[h3]at J;grind
   have cl:∀i,i<=r->hy (N.to (ks i))=hy (N.fr (ks i))+N.c (ks i):=fun i hi=>by
    have J:=B.on (ks i) ((hU _).mpr ⟨(D.emp i hi).1,.inr ⟨i,hi,Y⟩⟩);have h3:=same (ks i) (D.emp i hi).1;rw[h3,(D.emp i hi).2]at J;grind
   have ch:∀k i,i+k=r->hy (N.fr (ks i))=Ze (N.fr (ks i)):=by
    intro k;induction k with
    |zero=>
     intro i hi;have:i=r:=by omega
     subst this;rw[ht _ D.first,D.lh _ D.first]
    |succ k ih=>
     intro i hi;obtain⟨J,_,h2,_⟩:=D.link i (by omega);rw[J,cl (i+1) (by omega),ih (i+1) (by omega),h2]
   have J:=cl 0 (by omega);rw[ch r 0 (by omega),ht _ D.last]at J;have:=D.gap;grind
  ·grind
 have eqs:∀i,i<r->y (ks (i+1))=y (ks i):=by
  intro i hi;obtain⟨l1,l2,_,_⟩:=D.link i hi;have m1:=D.emp (i+1) (by omega);have m0:=D.emp i (by omega);have c:=B.cons (N.to (ks (i+1))) (ok.zU _ m1.1);have ws:N.to (ks (i+1))≠N.s:=fun q=>l2 (by rw[q];exact D.s);have wt:N.to (ks (i+1))≠N.t:=fun q=>by
   obtain⟨e,he,et,ex⟩:=Net.Ip ok G.Vo;exact l2 (by rw[q,<-et];exact(D.all e he ex).2)
  unfold Net.due at c;rw[Z8 wt,Z8 ws]at c;have nk:ks (i+1)≠ks i:=fun q=>by
   have:=D.inj (i:=i+1) (j:=i) (by omega) (by omega) (by rw[q]);omega
  have e1:N.dv y (N.to (ks (i+1)))=sm N.m (fun e=>(if e=ks (i+1)then y e else 0)-(if e=ks i then y e else 0)):=by
   unfold Net.dv;refine ZO fun e he=>?_;unfold Net.inc;by_cases a:e=ks (i+1)
   ·subst a;rw[Z7 Y,Z7 Y,Z8 nk];grind
   ·rw[Z8 a];by_cases b:e=ks i
    ·subst b;have tn:N.to (ks i)≠N.to (ks (i+1)):=fun q=>by
      have:=D.inj (i:=i) (j:=i+1) (by omega) (by omega) q;omega
     rw[Z8 tn,Z7 l1,Z7 rfl];grind
    ·rw[Z8 b];by_cases u:e∈U
     ·obtain⟨_,hx|⟨j,hj,rfl⟩⟩:=(hU e).mp u
      ·obtain⟨q1,q2⟩:=D.all e he hx;rw[Z8 (fun q=>l2 (by rw[<-q];exact q2)),Z8 (fun q=>l2 (by rw[<-q];exact q1))];grind
      ·have t1:N.to (ks j)≠N.to (ks (i+1)):=fun q=>by
        have:=D.inj (i:=j) (j:=i+1) hj (by omega) q;subst this;exact a rfl
       have t2:N.fr (ks j)≠N.to (ks (i+1)):=fun q=>by
        by_cases jr:j=r
        ·subst jr;exact l2 (by rw[<-q];exact D.first)
        ·rw[(D.link j (by omega)).1]at q;have:=D.inj (i:=j+1) (j:=i+1) (by omega) (by omega) q;have:j=i:=by omega
         subst this;exact b rfl
       rw[Z8 t1,Z8 t2];grind
     ·rw[B.off e he u];grind
  rw[e1,WB,YF m1.1 (fun e=>y e),YF m0.1 (fun e=>y e)]at c;grind
 intro i;induction i with
 |zero=>intro _;exact y0
 |succ i ih=>
  intro hi;rw[eqs i (by omega)];exact ih (by omega)
end
theorem Net.NA{N:Net}(ok:N.Ok){x p:Nat->Rat}(F:N.Kk x)(hp:∀e,e<N.m->x e≠0->p (N.fr e)<p (N.to e)){R:Nat->Prop}(rs:R N.s)(rg:∀e,e<N.m->x e≠0->R (N.fr e)->R (N.to e)):∀e,e<N.m->x e≠0->R (N.fr e):=by
 classical
 have sums:∀w:Nat->Rat,sm N.m (fun e=>(w (N.to e)-w (N.fr e))*x e)=N.d*(w N.t-w N.s):=by
  intro w;rw[<-Net.parts ok w x];have:sm N.n (fun v=>w v*N.dv x v)=sm N.n (fun v=>(if v=N.t then w v*N.d else 0)-(if v=N.s then w v*N.d else 0)):=ZO fun v hv=>by
   rw[F.cons v hv];unfold Net.due;have:=ok.st;by_cases a:v=N.t;·rw[Z7 a,Z7 a,Z8 (by omega)];grind
   ·by_cases b:v=N.s;·rw[Z8 a,Z7 b,Z8 a,Z7 b];grind
    ·rw[Z8 a,Z8 b,Z8 a,Z8 b];grind
  rw[this,WB,YF ok.ht (fun v=>w v*N.d),YF ok.hs (fun v=>w v*N.d)];grind
 have s1:=sums (fun v=>if R v then 0 else 1);simp only[Z7 rs]at s1;have nn:∀e,e<N.m->0<=(-1)*(((if R (N.to e)then(0:Rat)else 1)-(if R (N.fr e)then 0 else 1))*x e):=by
  intro e he;by_cases a:x e=0;·rw[a];grind
  ·have J:=rg e he a;have h2:=F.nn e he;by_cases b:R (N.fr e);·rw[Z7 b,Z7 (J b)];grind
   ·rw[Z8 b];by_cases c:R (N.to e);·rw[Z7 c];grind
    ·rw[Z8 c];grind
 have uE:sm N.m (fun e=>(-1)*(((if R (N.to e)then(0:Rat)else 1)-(if R (N.fr e)then 0 else 1))*x e))<=0:=by
  rw[WJ,s1];have:0<=N.d*((if R N.t then(0:Rat)else 1)-0):=W5 (Yy ok.hd) (by split<;>grind);grind
 have k:=Vq nn uE;have cn:=Net.conn ok (g:=fun v=>if R v then 0 else 1) F.nn F.cons hp (fun e he hx=>by
  have:=k e he;have:((if R (N.to e)then(0:Rat)else 1)-(if R (N.fr e)then 0 else 1))*x e=0:=by grind
  rcases XJ.mp this with q|q
  ·show(if R (N.to e)then(0:Rat)else 1)=if R (N.fr e)then 0 else 1
   grind
  ·exact absurd q hx) (Z7 rs)
 intro e he hx;have:=cn e he hx;by_cases a:R (N.fr e);·exact a
 ·simp only[Z8 a]at this;grind
theorem Rl{a b:Rat}(ha:0<=a)(O:0<b):0<=a/b:=by rw[Zk];exact W5 ha (Yy (Rat.inv_pos.mpr O))
theorem zH{a b:Rat}(ha:0<a)(O:0<b):0<a/b:=by rw[Zk];exact VN ha (Rat.inv_pos.mpr O)
theorem Net.moved{N:Net}(ok:N.Ok){U:List Nat}{x y h:Nat->Rat}(F:N.Kk x)(B:N.U9 U y h)(off:∀e,e<N.m->e∉U->x e=0)(Z':∀e,e<N.m->x e=0->0<=y e){k:Nat}(hk:k<N.m)(yk:y k<0)(mn:∀e,e<N.m->y e<0->x k*(-y e)<=x e*(-y k)){x':Nat->Rat}(qM:∀e,e<N.m->x' e=(x e*(-y k)+x k*y e)/(x k-y k)):0<x k/\N.Kk x'/\x' k=0/\k∈U/\(∀e,e<N.m->x' e≠0->e∈U)/\N.Po x'<N.Po x:=by
 have xk:0<x k:=by
  have J:=F.nn k hk;have h2:x k≠0:=fun q=>by have:=Z' k hk q;grind
  grind
 have ku:k∈U:=Classical.byContradiction fun q=>by have:=B.off k hk q;grind
 have dp:0<x k-y k:=by grind
 have em:∀e,e<N.m->x' e=mix (x k/(x k-y k)) x y e:=fun e he=>by rw[qM e he];unfold mix;grind
 refine⟨xk,⟨fun e he=>?_,fun v hv=>?_⟩,?_,ku,fun e he QN=>?_,?_⟩
 ·rw[qM e he];refine Rl ?_ dp;have J:=F.nn e he;have h2:0<=x e*(-y k):=W5 J (by grind);by_cases a:y e<0;·have:=mn e he a;grind
  ·have:0<=x k*y e:=W5 (Yy xk) (by grind);grind
 ·have:=Net.Gi (x k/(x k-y k)) F.cons B.cons v hv;rw[<-this];unfold Net.dv;exact ZO fun e he=>by rw[em e he]
 ·rw[qM k hk];grind
 ·refine Classical.byContradiction fun q=>QN ?_;rw[qM e he,off e he q,B.off e he q];grind
 ·have:N.Po x'=N.Po (mix (x k/(x k-y k)) x y):=Net.Jy em;rw[this];refine Net.wu ok B F.cons off (zH xk dp) ?_ hk (by grind);have:x k/(x k-y k)*(x k-y k)=x k:=by grind
  have J:0<=(-y k)/(x k-y k):=Rl (by grind) dp;have h2:x k/(x k-y k)+(-y k)/(x k-y k)=1:=by grind
  grind
theorem Net.Good.rests{N:Net}(ok:N.Ok){x h Ze:Nat->Rat}(G:N.Good x h)(op:∀e,e<N.m->N.op e=true){Lb:Nat->Prop}(ls:Lb N.s)(le:∀e,e<N.m->Lb (N.fr e)->Lb (N.to e)/\Ze (N.to e)<=Ze (N.fr e)+N.price x e)(eq:∀e,e<N.m->x e≠0->Ze (N.to e)=Ze (N.fr e)+N.price x e):N.Wl x:=by
 have rl:∀v,N.Reach v->Lb v:=fun v r=>by
  induction r with
  |s=>exact ls
  |go e he _ _ ih=>exact (le e he ih).1
 refine⟨⟨G.Vo.nn,fun e he ho=>?_,G.Vo.cons⟩,Ze,fun e he ho r=>(le e he (rl _ r)).2,fun e he hx=>⟨?_,eq e he hx⟩⟩;·rw[op e he]at ho;cases ho
 ·exact Net.NA ok G.Vo (G.rise ok) .s (fun e he _ r=>.go e he (op e he) r) e he hx
open Classical in
noncomputable def Net.cnt(N:Net)(f:Rat):Nat:=((RhRoads.subsets (List.range N.m)).filter (fun S=>decide (∃x h,N.Good x h/\(∀e,e<N.m->(e∈S↔x e≠0))/\N.Po x<f))).length
theorem filter_lt{α:Type}{p q:α->Bool}:∀{L:List α},(∀a,a∈L->p a=true->q a=true)->(∃a,a∈L/\q a=true/\p a=false)->(L.filter p).length<(L.filter q).length
 |[],_,h=>by obtain⟨a,ha,_⟩:=h;simp at ha
 |b::L,h,k=>by
  have le:∀{M:List α},(∀a,a∈M->p a=true->q a=true)->(M.filter p).length<=(M.filter q).length:=by
   intro M;induction M with
   |nil=>intro _;simp
   |cons c M ih=>
    intro hM;have:=ih (fun a ha=>hM a (by simp[ha]));rw[YD,YD];by_cases pc:p c=true;·rw[Z7 pc,Z7 (hM c (by simp) pc)];simp;omega
    ·rw[Z8 pc];split<;>simp<;>omega
  have hL:∀a,a∈L->p a=true->q a=true:=fun a ha=>h a (by simp[ha]);rw[YD,YD];obtain⟨a,ha,qa,pa⟩:=k;rcases ZE.mp ha with rfl|ha
  ·rw[Z8 (by rw[pa];decide),Z7 qa];have:=le hL;simp;omega
  ·have:=filter_lt hL ⟨a,ha,qa,pa⟩;by_cases pc:p b=true;·rw[Z7 pc,Z7 (h b (by simp) pc)];simp;omega
   ·rw[Z8 pc];split<;>simp<;>omega
theorem U1{α:Type}(p:α->Bool):∀(L:List α),L.filter p∈RhRoads.subsets L
 |[]=>by simp[RhRoads.subsets]
 |x::L=>by
  unfold RhRoads.subsets;rw[YD];split;·exact Xs _ (Ux (U1 p L))
  ·exact Ym _ (U1 p L)
theorem Net.sM{N:Net}(ok:N.Ok){x h:Nat->Rat}(G:N.Good x h){f:Rat}(hf:N.Po x<f):N.cnt (N.Po x)<N.cnt f:=by
 classical
 unfold Net.cnt;refine filter_lt (fun S _ hp=>?_) ⟨(List.range N.m).filter (fun e=>decide (x e≠0)),U1 _ _,?_,?_⟩
 ·simp only[decide_eq_true_eq]at hp⊢;obtain⟨x',h',G',s,l⟩:=hp;exact⟨x',h',G',s,by grind⟩
 ·simp only[decide_eq_true_eq];refine⟨x,h,G,fun e he=>?_,hf⟩;rw[XI,YO];simp[he]
 ·simp only[decide_eq_false_iff_not];rintro⟨x',h',G',s,l⟩;have:=Net.Good.same ok G' G (fun e he=>by
   rw[<-s e he,XI,YO];simp[he])
  rw[Net.Jy this]at l;grind
structure Net.Way(N:Net)(X7:Nat->Nat)(ks:Nat->Nat)(r:Nat):Prop where
 lt:∀i,i<=r->ks i<N.m
 goal:N.to (ks 0)=N.t
 src:N.fr (ks r)=N.s
 link:∀i,i<r->N.fr (ks i)=N.to (ks (i+1))
 rise:∀i,i<=r->X7 (N.fr (ks i))<X7 (N.to (ks i))
theorem Net.Way.LF{N:Net}{X7:Nat->Nat}{ks:Nat->Nat}{r:Nat}(W:N.Way X7 ks r):∀i j,i<j->j<=r->X7 (N.to (ks j))<X7 (N.to (ks i)):=by
 intro i j JD;induction j with
 |zero=>omega
 |succ j ih=>
  intro hj;have J:=W.link j (by omega);have h2:=W.rise j (by omega);rw[J]at h2;by_cases e:i=j;·subst e;exact h2
  ·have:=ih (by omega) (by omega);omega
theorem Net.Way.inj{N:Net}{X7:Nat->Nat}{ks:Nat->Nat}{r:Nat}(W:N.Way X7 ks r){i j:Nat}(hi:i<=r)(hj:j<=r)(e:ks i=ks j):i=j:=by
 by_cases c:i<j;·have:=W.LF i j c hj;rw[e]at this;omega
 ·by_cases c':j<i;·have:=W.LF j i c' hi;rw[e]at this;omega
  ·omega
theorem Net.Way.Kj{N:Net}{X7:Nat->Nat}{ks:Nat->Nat}{r:Nat}(W:N.Way X7 ks r){U:List Nat}(hU:∀e,e∈U↔∃i,i<=r/\e=ks i):N.O5 U:=by
 intro g hg gs;have ch:∀k i,i+k=r->g (N.fr (ks i))=0:=by
  intro k;induction k with
  |zero=>
   intro i hi;have:i=r:=by omega
   subst this;rw[W.src];exact gs
  |succ k ih=>
   intro i hi;rw[W.link i (by omega),hg _ ((hU _).mpr ⟨i+1,by omega,Y⟩)];exact ih (i+1) (by omega)
 intro e he;obtain⟨i,hi,rfl⟩:=(hU e).mp he;exact ch (r-i) i (by omega)
theorem Net.Way.Vo{N:Net}(ok:N.Ok){X7:Nat->Nat}{ks:Nat->Nat}{r:Nat}(W:N.Way X7 ks r){x:Nat->Rat}(J:∀i,i<=r->x (ks i)=N.d)(h0:∀e,e<N.m->(∀i,i<=r->e≠ks i)->x e=0):N.Kk x:=by
 refine⟨fun e he=>?_,fun v hv=>?_⟩
 ·by_cases a:∃i,i<=r/\e=ks i
  ·obtain⟨i,hi,rfl⟩:=a;rw[J i hi];exact Yy ok.hd
  ·rw[h0 e he (fun i hi q=>a ⟨i,hi,q⟩)];grind
 ·have e1:N.dv x v=sm (r+1) (fun i=>N.inc v (ks i)*N.d):=by
   have sw:sm (r+1) (fun i=>N.inc v (ks i)*N.d)=sm (r+1) (fun i=>sm N.m (fun e=>if e=ks i then N.inc v e*N.d else 0)):=ZO fun i hi=>by rw[YF (W.lt i (by omega)) (fun e=>N.inc v e*N.d)]
   rw[sw,Ml];unfold Net.dv;refine ZO fun e he=>?_;by_cases a:∃i,i<=r/\e=ks i
   ·obtain⟨i,hi,rfl⟩:=a;rw[J i hi];refine(YF (show i<r+1 by omega) (fun _=>N.inc v (ks i)*N.d)).symm.trans (ZO fun j hj=>?_);by_cases c:j=i;·subst c;rw[Z7 Y,Z7 rfl]
    ·rw[Z8 c,Z8 (fun q=>c (W.inj (by omega) hi q.symm))]
   ·rw[h0 e he (fun i hi q=>a ⟨i,hi,q⟩)];have:sm (r+1) (fun i=>if e=ks i then N.inc v e*N.d else 0)=0:=by
     refine Vj (ZO (g:=fun _=>0) fun i hi=>?_) (Xd _);exact Z8 fun q=>a ⟨i,by omega,q⟩
    rw[this];grind
  have pj:∀e,e<N.m->N.inc v e=(if N.to e=v then 1 else 0)-(if N.fr e=v then 1 else 0):=fun e he=>by
   unfold Net.inc;have:=ok.ne e he;by_cases a:N.to e=v;·rw[Z7 a,Z7 a,Z8 (by omega)];grind
   ·rw[Z8 a,Z8 a];split<;>grind
  have dW:∀k,k<=r->sm (k+1) (fun i=>N.inc v (ks i)*N.d)=((if N.t=v then 1 else 0)-(if N.fr (ks k)=v then 1 else 0))*N.d:=by
   intro k;induction k with
   |zero=>
    intro _;simp only[sm];rw[pj _ (W.lt 0 (by omega)),W.goal];grind
   |succ k ih=>
    intro hk;have:=ih (by omega);rw[show sm (k+1+1) (fun i=>N.inc v (ks i)*N.d)=sm (k+1) (fun i=>N.inc v (ks i)*N.d)+N.inc v (ks (k+1))*N.d from rfl,this,pj _ (W.lt (k+1) hk),W.link k (by omega)];grind
  rw[e1,dW r (by omega),W.src];unfold Net.due;have:=ok.st;by_cases a:v=N.t;·rw[Z7 a.symm,Z8 (by omega),Z7 a];grind
  ·rw[Z8 (fun q=>a q.symm),Z8 a];by_cases b:v=N.s;·rw[Z7 b.symm,Z7 b];grind
   ·rw[Z8 (fun q=>b q.symm),Z8 b];grind
structure Sub(N P:Net)(g:Rat)(nm:Nat->Nat):Prop where
 gp:0<g
 n:P.n=N.n
 s:P.s=N.s
 t:P.t=N.t
 d:P.d=N.d*g
 lt:∀j,j<P.m->nm j<N.m/\N.op (nm j)=true
 inj:∀i j,i<P.m->j<P.m->nm i=nm j->i=j
 all:∀e,e<N.m->N.op e=true->∃j,j<P.m/\nm j=e
 fr:∀j,j<P.m->P.fr j=N.fr (nm j)
 to:∀j,j<P.m->P.to j=N.to (nm j)
 c:∀j,j<P.m->P.c j=N.c (nm j)*g
 b:∀j,j<P.m->P.b j=N.b (nm j)
 op:∀j,j<P.m->P.op j=true
theorem Sub.reach{N P:Net}{g:Rat}{nm:Nat->Nat}(S:Sub N P g nm){v:Nat}:P.Reach v↔N.Reach v:=by
 constructor
 ·intro r;induction r with
  |s=>rw [S.s];exact .s
  |go j hj _ _ ih=>
   rw[S.to j hj];rw[S.fr j hj]at ih;exact .go _ (S.lt j hj).1 (S.lt j hj).2 ih
 ·intro r;induction r with
  |s=>rw [<-S.s];exact .s
  |go e he ho _ ih=>
   obtain⟨j,hj,rfl⟩:=S.all e he ho;rw[<-S.to j hj];rw[<-S.fr j hj]at ih;exact .go j hj (S.op j hj) ih
theorem Sub.rests{N P:Net}{g:Rat}{nm:Nat->Nat}(S:Sub N P g nm){x z:Nat->Rat}(h:P.Wl x)(z1:∀j,j<P.m->z (nm j)=x j/g)(z0:∀e,e<N.m->N.op e=false->z e=0):N.Wl z:=by
 obtain⟨F,p,px⟩:=h;have gp:=S.gp;have cs:∀e,e<N.m->(∃j,j<P.m/\nm j=e)\/N.op e=false:=fun e he=>by
  cases q:N.op e with
  |true=>exact .inl (S.all e he q)
  |false=>exact .inr rfl
 have xz:∀j,j<P.m->x j=z (nm j)*g:=fun j hj=>by rw[z1 j hj];grind
 refine⟨⟨fun e he=>?_,z0,fun v hv=>?_⟩,fun v=>p v/g,fun e he ho r=>?_,fun e he hz=>?_⟩
 ·rcases cs e he with⟨j,hj,rfl⟩|q;·rw[z1 j hj];exact Rl (F.nn j hj) gp
  ·rw[z0 e he q];grind
 ·have e1:N.dv z v*g=P.dv x v:=by
   unfold Net.dv;have sw:sm P.m (fun j=>P.inc v j*x j)=sm P.m (fun j=>sm N.m (fun e=>if e=nm j then N.inc v e*(z e*g)else 0)):=ZO fun j hj=>by
    rw[YF (S.lt j hj).1 (fun e=>N.inc v e*(z e*g)),xz j hj];unfold Net.inc;rw[S.to j hj,S.fr j hj]
   rw[sw,Ml];have:sm N.m (fun e=>N.inc v e*z e)*g=sm N.m (fun e=>g*(N.inc v e*z e)):=by rw[WJ];grind
   rw[this];refine ZO fun e he=>?_;rcases cs e he with⟨j,hj,rfl⟩|q
   ·have:sm P.m (fun i=>if nm j=nm i then N.inc v (nm j)*(z (nm j)*g)else 0)=sm P.m (fun i=>if i=j then N.inc v (nm j)*(z (nm j)*g)else 0):=ZO fun i hi=>by
     by_cases a:i=j;·subst a;rw[Z7 Y,Z7 rfl]
     ·rw[Z8 a,Z8 (fun q=>a (S.inj i j hi hj q.symm))]
    rw[this,YF hj (fun _=>N.inc v (nm j)*(z (nm j)*g))];grind
   ·rw[z0 e he q];have:sm P.m (fun i=>if e=nm i then N.inc v e*(0*g)else 0)=0:=by
     refine Vj (ZO (g:=fun _=>0) fun i hi=>?_) (Xd _);split<;>grind
    rw[this];grind
  have e2:=F.cons v (by rw[S.n];exact hv);rw[<-e1]at e2;have e3:P.due v=N.due v*g:=by
   unfold Net.due;rw[S.t,S.s,S.d];split;·rfl
   ·split<;>grind
  rw[e3]at e2;have gn:g≠0:=by grind
  have:N.dv z v=N.due v*g/g:=by rw[<-e2];grind
  rw[this];grind
 ·obtain⟨j,hj,rfl⟩:=S.all e he ho;have:=px.le j hj (S.op j hj) (S.reach.mpr (by rw[S.fr j hj];exact r));rw[S.to j hj,S.fr j hj]at this;unfold Net.price at this⊢;rw[S.c j hj,S.b j hj,xz j hj]at this;have k:0<=(p (N.fr (nm j))+(N.c (nm j)*g+N.b (nm j)*(z (nm j)*g))-p (N.to (nm j)))/g:=Rl (by grind) gp;show p (N.to (nm j))/g<=p (N.fr (nm j))/g+(N.c (nm j)+N.b (nm j)*z (nm j));have:(p (N.fr (nm j))+(N.c (nm j)*g+N.b (nm j)*(z (nm j)*g))-p (N.to (nm j)))/g=p (N.fr (nm j))/g+(N.c (nm j)+N.b (nm j)*z (nm j))-p (N.to (nm j))/g:=by grind
  grind
 ·rcases cs e he with⟨j,hj,rfl⟩|q
  ·have xj:x j≠0:=fun q=>hz (by rw[z1 j hj,q];grind);obtain⟨r,e1⟩:=px.eq j hj xj;rw[S.fr j hj]at r;refine⟨S.reach.mp r,?_⟩;rw[S.to j hj,S.fr j hj]at e1;unfold Net.price at e1⊢;rw[S.c j hj,S.b j hj,xz j hj]at e1;show p (N.to (nm j))/g=p (N.fr (nm j))/g+(N.c (nm j)+N.b (nm j)*z (nm j));rw[e1];grind
  ·exact absurd (z0 e he q) hz
end RR
namespace RR
def X(r:Nat->Rat):(List Nat->Rat)->List Nat->Rat
 |_,[]=>0
 |F,c::cs=>r c*F cs-X r (fun ds=>F (c::ds)) cs
theorem zG(r s:Nat->Rat):∀(cs:List Nat)(F:List Nat->Rat),X (fun c=>r c+s c) F cs=X r F cs+X s F cs
 |[],F=>by simp only[X];grind
 |c::cs,F=>by simp only[X];rw[zG r s cs];grind
theorem Eg(k:Rat)(r:Nat->Rat):∀(cs:List Nat)(F:List Nat->Rat),X (fun c=>k*r c) F cs=k*X r F cs
 |[],F=>by simp only[X];grind
 |c::cs,F=>by simp only[X];rw[Eg k r cs];grind
theorem uC(f:Nat->Nat->Rat)(lam:Nat->Rat)(F:List Nat->Rat)(cs:List Nat):∀k:Nat,X (fun c=>sm k (fun t=>lam t*f t c)) F cs=sm k (fun t=>lam t*X (f t) F cs)
 |0=>by
  have:=Eg 0 (fun _=>0) cs F;simp only[sm];have e:(fun _:Nat=>(0:Rat))=fun _=>0*0:=by funext;grind
  rw[e,this];grind
 |k+1=>by
  simp only[sm];rw[zG,Eg,uC f lam F cs k]
theorem zF(r:Nat->Rat)(a b:Rat):∀(cs:List Nat)(F G:List Nat->Rat),X r (fun ds=>a*F ds+b*G ds) cs=a*X r F cs+b*X r G cs
 |[],F,G=>by simp only[X];grind
 |c::cs,F,G=>by simp only[X];rw[zF r a b cs];grind
theorem Ef(r s:Nat->Rat):∀(cs:List Nat)(F:List Nat->Rat),X r (X s F) cs=-X s (X r F) cs
 |[],F=>by simp only[X];grind
 |c::cs,F=>by
  have J:X r (X s F) (c::cs)=r c*X s F cs-(s c*X r F cs+(-1)*X r (X s (fun ds=>F (c::ds))) cs):=by
   rw[<-zF];show r c*X s F cs-X r (fun ds=>X s F (c::ds)) cs=_;congr 2;funext ds;simp only[X];grind
  have h2:X s (X r F) (c::cs)=s c*X r F cs-(r c*X s F cs+(-1)*X s (X r (fun ds=>F (c::ds))) cs):=by
   rw[<-zF];show s c*X r F cs-X s (fun ds=>X r F (c::ds)) cs=_;congr 2;funext ds;simp only[X];grind
  rw[J,h2,Ef r s cs];grind
theorem wo(r:Nat->Rat)(F:List Nat->Rat)(cs:List Nat):X r (X r F) cs=0:=by
 have:=Ef r r cs F;grind
def Wd:List (Nat->Rat)->List Nat->Rat
 |[]=>fun cs=>if cs=[]then 1 else 0
 |r::w=>X r (Wd w)
theorem zE(r:Nat->Rat):∀cs,X r (fun _=>0) cs=0
 |[]=>rfl
 |c::cs=>by simp only[X];rw[zE r cs];grind
theorem zD{r:Nat->Rat}:∀{w:List (Nat->Rat)},r∈w->∀cs,X r (Wd w) cs=0
 |s::w,h,cs=>by
  rcases ZE.mp h with rfl|h;·exact wo _ _ _
  ·show X r (X s (Wd w)) cs=0;rw[Ef];have:X r (Wd w)=fun _=>0:=funext fun ds=>zD h ds;rw[this,zE];grind
def PR(x:Rat):Prop:=∃z:Int,x=(z:Rat)
theorem PR.mul{x y:Rat}(hx:PR x)(hy:PR y):PR (x*y):=by
 obtain⟨a,rfl⟩:=hx;obtain⟨b,rfl⟩:=hy;exact⟨a*b,by rw[Zn]⟩
theorem PR.sub{x y:Rat}(hx:PR x)(hy:PR y):PR (x-y):=by
 obtain⟨a,rfl⟩:=hx;obtain⟨b,rfl⟩:=hy;exact⟨a-b,by rw[UE]⟩
theorem PR.neg{x:Rat}(hx:PR x):PR (-x):=by
 obtain⟨a,rfl⟩:=hx;exact⟨-a,by rw[Rat.intCast_neg]⟩
theorem zC{r:Nat->Rat}(hr:∀c,PR (r c)):∀(cs:List Nat)(F:List Nat->Rat),(∀ds,PR (F ds))->PR (X r F cs)
 |[],F,_=>⟨0,Y⟩
 |c::cs,F,h=>((hr c).mul (h cs)).sub (zC hr cs _ (fun ds=>h (c::ds)))
theorem Ee:∀{w:List (Nat->Rat)},(∀r,r∈w->∀c,PR (r c))->∀cs,PR (Wd w cs)
 |[],_,cs=>by
  unfold Wd;split;·exact⟨1,Y⟩
  ·exact⟨0,Y⟩
 |r::w,h,cs=>zC (h r (by simp)) cs _ (Ee fun s hs=>h s (by simp[hs]))
def sg:Nat->Rat
 |0=>1
 |k+1=>-sg k
theorem zB:∀k,sg k*sg k=1
 |0=>by simp only[sg];grind
 |k+1=>by simp only[sg];have:=zB k;grind
theorem zA:∀k,PR (sg k)
 |0=>⟨1,Y⟩
 |k+1=>(zA k).neg
theorem Gh{v:Nat->Rat}{j:Nat}:∀(cs:List Nat)(F:List Nat->Rat),(∀c,c∈cs->v c=0)->X v F (cs++[j])=sg cs.length*(v j*F cs)
 |[],F,_=>by
  show v j*F []-0=_;simp only[sg,List.length_nil];grind
 |c::cs,F,h=>by
  show v c*F (cs++[j])-X v (fun ds=>F (c::ds)) (cs++[j])=_;rw[h c (by simp),Gh cs _ (fun d hd=>h d (by simp[hd]))];simp only[sg,Zg];grind
def WL(A:Nat->Nat->Rat):Nat->List (Nat->Rat)
 |0=>[]
 |k+1=>A k::WL A k
theorem Qq{A:Nat->Nat->Rat}:∀{k t:Nat},t<k->A t∈WL A k
 |k+1,t,h=>by
  by_cases e:t=k;·subst e;exact YG ..
  ·exact Zf _ (Qq (by omega))
theorem Tw{A:Nat->Nat->Rat}(h:∀i c,PR (A i c)):∀{k:Nat},∀r,r∈WL A k->∀c,PR (r c)
 |0,r,hr,_=>by simp[WL]at hr
 |k+1,r,hr,c=>by
  rcases ZE.mp hr with rfl|hr;·exact h k c
  ·exact Tw h r hr c
def minor(A:Nat->Nat->Rat)(k:Nat):Rat:=Wd (WL A k) (List.range k)
theorem Jx(A:Nat->Nat->Rat){k j:Nat}{u v lam:Nat->Rat}(hv:∀c,v c=u c+sm k (fun t=>lam t*A t c))(z:∀c,c<k->v c=0):X u (Wd (WL A k)) (List.range k++[j])=sg k*(v j*minor A k):=by
 have e1:X v (Wd (WL A k)) (List.range k++[j])=X u (Wd (WL A k)) (List.range k++[j]):=by
  have:v=fun c=>u c+(fun c=>sm k (fun t=>lam t*A t c)) c:=funext hv;rw[this,zG,uC];have:sm k (fun t=>lam t*X (A t) (Wd (WL A k)) (List.range k++[j]))=0:=by
   refine Vj (ZO (g:=fun _=>0) fun t ht=>?_) (Xd k);rw[zD (Qq ht)];grind
  rw[this];grind
 rw[<-e1,Gh _ _ (fun c hc=>z c (YO.mp hc)),Y_];rfl
theorem BD{A:Nat->Nat->Rat}(hA:∀i c,PR (A i c))(k:Nat):PR (minor A k):=Ee (Tw hA) _
theorem Qp{A:Nat->Nat->Rat}(hA:∀i c,PR (A i c)){k j:Nat}{u v lam:Nat->Rat}(hu:∀c,PR (u c))(hv:∀c,v c=u c+sm k (fun t=>lam t*A t c))(z:∀c,c<k->v c=0):PR (v j*minor A k):=by
 have:=Jx A (j:=j) hv z;have h2:v j*minor A k=sg k*X u (Wd (WL A k)) (List.range k++[j]):=by
  rw[this];have:=zB k;grind
 rw[h2];exact(zA k).mul (zC hu _ _ (Ee (Tw hA)))
theorem Ed(A:Nat->Nat->Rat){k:Nat}{v lam:Nat->Rat}(hv:∀c,v c=A k c+sm k (fun t=>lam t*A t c))(z:∀c,c<k->v c=0):minor A (k+1)=sg k*(v k*minor A k):=by
 rw[<-Jx A (j:=k) hv z];unfold minor;rw[WD];rfl
def ent(rows:List (List Int))(i j:Nat):Int:=(rows.getD i []).getD j 0
def Vn(p:Nat)(bf:Int)(pr row:List Int):List Int:=List.zipWith (fun a b=>(pr.getD p 0*a-row.getD p 0*b).fdiv bf) row pr
noncomputable def Vh(p:Nat)(bf:Int)(rows:List (List Int)):List (List Int):=rows.zipIdx.map (fun x=>if x.2=p then rows.getD p []else Vn p bf (rows.getD p []) x.1)
noncomputable def Yc:Nat->List (List Int)->List (List Int)×Int
 |0,rows=>(rows,1)
 |k+1,rows=>(Vh k (Yc k rows).2 (Yc k rows).1,ent (Yc k rows).1 k k)
structure Rk(n w:Nat)(rows:List (List Int)):Prop where
 len:rows.length=n
 row:∀r,r∈rows->r.length=w
theorem Rk.at{n w:Nat}{rows:List (List Int)}(R:Rk n w rows){i:Nat}(hi:i<n):(rows.getD i []).length=w:=R.row _ (getD_mem _ _ _ (by rw[R.len];exact hi))
theorem O1{α:Type}(f:Int->Int->α){p q:List Int}{j w:Nat}(hp:p.length=w)(hq:q.length=w)(hj:j<w)(d:α):(List.zipWith f p q).getD j d=f (p.getD j 0) (q.getD j 0):=by
 rw[ZW,List.getElem?_zipWith,ZW,ZW,ZT (by omega),ZT (by omega)];rfl
theorem Io{n w p:Nat}{bf:Int}{rows:List (List Int)}(R:Rk n w rows)(hp:p<n):Rk n w (Vh p bf rows):=by
 refine⟨by unfold Vh;rw[Z3,List.length_zipIdx,R.len],fun r hr=>?_⟩;unfold Vh at hr;rw[X' rows [],Yn]at hr;obtain⟨i,hi,rfl⟩:=Y9.mp hr;have hi:=YO.mp hi;rw[R.len]at hi;show(if i=p then rows.getD p []else Vn p bf (rows.getD p []) (rows.getD i [])).length=w;split;·exact R.at hp
 ·unfold Vn;rw[List.length_zipWith,R.at hi,R.at hp];omega
theorem Nz{n w p:Nat}{bf:Int}{rows:List (List Int)}(R:Rk n w rows)(hp:p<n){i j:Nat}(hi:i<n)(hj:j<w):ent (Vh p bf rows) i j=if i=p then ent rows p j else(ent rows p p*ent rows i j-ent rows i p*ent rows p j).fdiv bf:=by
 unfold ent Vh;rw[X' rows [],Yn,WT,R.len,Z7 hi];show(if i=p then rows.getD p []else Vn p bf (rows.getD p []) (rows.getD i [])).getD j 0=_;split;·rfl
 ·unfold Vn;rw[O1 _ (R.at hi) (R.at hp) hj]
theorem Ec{a b c:Int}(O:0<b)(h:(a:Rat)=(b:Rat)*(c:Rat)):a.fdiv b=c:=by
 have:a=b*c:=by
  have:((a:Int):Rat)=((b*c:Int):Rat):=by rw[h,Zn]
  exact Rat.intCast_inj.mp this
 rw[this,Int.mul_fdiv_cancel_left _ (by omega)]
structure xI(n:Nat)(A:Nat->Nat->Rat)(k:Nat)(rows:List (List Int))(bf:Int)(V lam:Nat->Nat->Rat):Prop where
 Im:Rk n (n+1) rows
 pos:0<bf
 ent:∀i,i<n->∀j,j<n+1->(ent rows i j:Rat)=(bf:Rat)*V i j
 un:∀i,i<n->∀c,c<k->V i c=if c=i then 1 else 0
 comb:∀i,i<n->∀c,V i c=(if i<k then 0 else A i c)+sm k (fun t=>lam i t*A t c)
 sol:∀y:Nat->Rat,(∀i,i<n->sm (n+1) (fun j=>V i j*y j)=0)->∀i,i<n->sm (n+1) (fun j=>A i j*y j)=0
 mi:(bf:Rat)=minor A k\/(bf:Rat)=-minor A k
def Sy(n:Nat)(A:Nat->Nat->Rat):Prop:=∀x:Nat->Rat,(∃i,i<n/\x i≠0)->0<sm n (fun i=>x i*sm n (fun j=>A i j*x j))
theorem xI.int{n k:Nat}{A:Nat->Nat->Rat}{rows:List (List Int)}{bf:Int}{V lam:Nat->Nat->Rat}(hA:∀i c,PR (A i c))(hk:k<=n){V' Qv:Nat->Nat->Rat}{b':Rat}(un:∀i,i<n->∀c,c<k->V' i c=if c=i then 1 else 0)(comb:∀i,i<n->∀c,V' i c=(if i<k then 0 else A i c)+sm k (fun t=>Qv i t*A t c))(mi:b'=minor A k\/b'=-minor A k):∀i,i<n->∀j,PR (b'*V' i j):=by
 have O:∀x:Rat,PR (x*minor A k)->PR (b'*x):=fun x hx=>by
  rcases mi with e|e
  ·have:b'*x=x*minor A k:=by rw[e];grind
   rw[this];exact hx
  ·have:b'*x=-(x*minor A k):=by rw[e];grind
   rw[this];exact hx.neg
 intro i hi j;by_cases ik:i<k
 ·
  have hu:∀c:Nat,PR (if c=i then(1:Rat)else 0):=fun c=>by
   split;·exact⟨1,Y⟩
   ·exact⟨0,Y⟩
  have J:=Qp hA (k:=k) (j:=j) (u:=fun c=>if c=i then 1 else 0) (v:=fun c=>(if c=i then 1 else 0)-V' i c) (lam:=fun t=>-Qv i t) hu (fun c=>by
   rw[comb i hi c,Z7 ik];have:sm k (fun t=>-Qv i t*A t c)=(-1)*sm k (fun t=>Qv i t*A t c):=by rw[<-WJ];exact ZO fun t _=>by grind
   rw[this];grind) (fun c hc=>by rw[un i hi c hc];grind)
  have h2:PR ((if j=i then(1:Rat)else 0)*minor A k):=(hu j).mul (BD hA k);refine O _ ?_;have:V' i j*minor A k=(if j=i then(1:Rat)else 0)*minor A k-((if j=i then 1 else 0)-V' i j)*minor A k:=by grind
  rw[this];exact h2.sub J
 ·have J:=Qp hA (k:=k) (j:=j) (u:=A i) (v:=V' i) (lam:=Qv i) (hA i) (fun c=>by rw[comb i hi c,Z8 ik]) (fun c hc=>by rw[un i hi c hc,Z8 (by omega)]);exact O _ J
theorem xI.step{n k:Nat}{A:Nat->Nat->Rat}{rows:List (List Int)}{bf:Int}{V lam:Nat->Nat->Rat}(hA:∀i c,PR (A i c))(PD:Sy n A)(hk:k<n)(B:xI n A k rows bf V lam):∃V' Qv,xI n A (k+1) (Vh k bf rows) (RR.ent rows k k) V' Qv:=by
 have dU:0<V k k:=by
  have:=PD (fun i=>if i<k then lam k i else if i=k then 1 else 0) ⟨k,hk,by
   show(if k<k then lam k k else if k=k then(1:Rat)else 0)≠0;rw[Z8 (by omega),Z7 rfl];grind⟩
  have e:sm n (fun i=>(if i<k then lam k i else if i=k then 1 else 0)*sm n (fun j=>A i j*(if j<k then lam k j else if j=k then 1 else 0)))=V k k:=by
   have s1:sm n (fun i=>(if i<k then lam k i else if i=k then 1 else 0)*sm n (fun j=>A i j*(if j<k then lam k j else if j=k then 1 else 0)))
    =sm n (fun j=>V k j*(if j<k then lam k j else if j=k then 1 else 0)):=by
    have:∀i,i<n->(if i<k then lam k i else if i=k then 1 else 0)*sm n (fun j=>A i j*(if j<k then lam k j else if j=k then 1 else 0))=sm n (fun j=>(if i<k then lam k i else if i=k then 1 else 0)*(A i j*(if j<k then lam k j else if j=k then 1 else 0))):=fun i _=>by rw[WJ]
    rw[ZO this,Ml];refine ZO fun j hj=>?_;have:sm n (fun i=>(if i<k then lam k i else if i=k then 1 else 0)*(A i j*(if j<k then lam k j else if j=k then 1 else 0)))=(if j<k then lam k j else if j=k then 1 else 0)*sm n (fun i=>(if i<k then lam k i else if i=k then 1 else 0)*A i j):=by rw[<-WJ];exact ZO fun i _=>by grind
    rw[this];have:sm n (fun i=>(if i<k then lam k i else if i=k then 1 else 0)*A i j)=V k j:=by
     rw[B.comb k hk j,Z8 (by omega)];obtain⟨m,rfl⟩:∃m,n=k+(1+m):=⟨n-k-1,by omega⟩;rw[Rp,Rp];have f1:sm k (fun i=>(if i<k then lam k i else if i=k then 1 else 0)*A i j)=sm k (fun t=>lam k t*A t j):=ZO fun i hi=>by rw[Z7 hi]
     have f2:sm m (fun i=>(if k+(1+i)<k then lam k (k+(1+i))else if k+(1+i)=k then 1 else 0)*A (k+(1+i)) j)=0:=by
      refine Vj (ZO (g:=fun _=>0) fun i hi=>?_) (Xd m);rw[Z8 (by omega),Z8 (by omega)];grind
     rw[f1,f2];simp only[sm];rw[Z8 (by omega),Z7 (by omega)];have:k+0=k:=rfl;rw[this];grind
    rw[this];grind
   rw[s1];have:sm n (fun j=>V k j*(if j<k then lam k j else if j=k then 1 else 0))=sm n (fun j=>if j=k then V k j else 0):=ZO fun j hj=>by
    by_cases a:j<k;·rw[B.un k hk j a,Z8 (show¬j=k by omega),Z8 (show¬j=k by omega)];grind
    ·rw[Z8 a];split<;>grind
   rw[this,YF hk]
  rw[e]at this;exact this
 have bp:(0:Rat)<(bf:Rat):=by
  have:((0:Int):Rat)<(bf:Rat):=QQ.mpr B.pos;simpa using this
 have m8:=B.ent k hk k (by omega);have kF:0<RR.ent rows k k:=by
  have:((0:Int):Rat)<(RR.ent rows k k:Rat):=by rw[m8];exact VN bp dU
  exact QQ.mp this
 let V':Nat->Nat->Rat:=fun i c=>if i=k then V k c/V k k else V i c-V i k*(V k c/V k k)
 let Qv:Nat->Nat->Rat:=fun i t=>if i=k then(if t=k then 1/V k k else lam k t/V k k)else(if t=k then-(V i k/V k k)else lam i t-V i k/V k k*lam k t)
 have hE:∀i,i<n->∀c,c<k+1->V' i c=if c=i then 1 else 0:=by
  intro i hi c hc;show(if i=k then V k c/V k k else V i c-V i k*(V k c/V k k))=_;by_cases ik:i=k
  ·subst ik;rw[Z7 rfl];by_cases ck:c=i;·subst ck;rw[Z7 rfl];grind
   ·rw[B.un i hi c (by omega),Z8 ck];grind
  ·rw[Z8 ik];by_cases ck:c=k
   ·subst ck;rw[Z8 (fun q=>ik q.symm)];grind
   ·rw[B.un k hk c (by omega),Z8 ck,B.un i hi c (by omega)];grind
 have uB:∀i,i<n->∀c,V' i c=(if i<k+1 then 0 else A i c)+sm (k+1) (fun t=>Qv i t*A t c):=by
  intro i hi c;have kE:=B.comb k hk c;rw[Z8 (by omega)]at kE;show(if i=k then V k c/V k k else V i c-V i k*(V k c/V k k))=_+(sm k (fun t=>Qv i t*A t c)+Qv i k*A k c);by_cases ik:i=k
  ·subst ik;rw[Z7 Y,Z7 (by omega)];have e1:sm i (fun t=>Qv i t*A t c)=(1/V i i)*sm i (fun t=>lam i t*A t c):=by
    rw[<-WJ];refine ZO fun t ht=>?_;show(if i=i then(if t=i then 1/V i i else lam i t/V i i)else _)*A t c=_;rw[Z7 Y,Z8 (by omega)];grind
   have e2:Qv i i=1/V i i:=by
    show(if i=i then(if i=i then 1/V i i else lam i i/V i i)else _)=_;rw[Z7 Y,Z7 rfl]
   rw[e1,e2,kE];grind
  ·rw[Z8 ik];have e1:sm k (fun t=>Qv i t*A t c)=sm k (fun t=>lam i t*A t c)-(V i k/V k k)*sm k (fun t=>lam k t*A t c):=by
    rw[<-WJ,<-WB];refine ZO fun t ht=>?_;show(if i=k then _ else(if t=k then-(V i k/V k k)else lam i t-V i k/V k k*lam k t))*A t c=_;rw[Z8 ik,Z8 (by omega)];grind
   have e2:Qv i k=-(V i k/V k k):=by
    show(if i=k then _ else(if k=k then-(V i k/V k k)else _))=_;rw[Z8 ik,Z7 rfl]
   have dS:=B.comb i hi c;rw[e1,e2,dS,kE];by_cases il:i<k;·rw[Z7 il,Z7 (by omega)];grind
   ·rw[Z8 il,Z8 (by omega)];grind
 have g_:(RR.ent rows k k:Rat)=minor A (k+1)\/(RR.ent rows k k:Rat)=-minor A (k+1):=by
  have ms:=Ed A (k:=k) (v:=V k) (lam:=lam k) (fun c=>by have:=B.comb k hk c;rw[Z8 (by omega)]at this;exact this) (fun c hc=>by rw[B.un k hk c hc,Z8 (by omega)]);have sq:=zB k;have s1:sg k=1\/sg k=-1:=by
   have:(sg k-1)*(sg k+1)=0:=by grind
   rcases XJ.mp this with q|q;·left;grind
   ·right;grind
  rw[m8];rcases B.mi with e|e<;>rcases s1 with s|s<;>rw[ms,s,e];·left;grind
  ·right;grind
  ·right;grind
  ·left;grind
 have pf:=xI.int (rows:=rows) (bf:=bf) (V:=V) (lam:=lam) hA (show k+1<=n by omega) hE uB g_;refine⟨V',Qv,Io B.Im hk,kF,fun i hi j hj=>?_,hE,uB,fun y hy=>?_,g_⟩
 ·rw[Nz B.Im hk hi hj];by_cases ik:i=k
  ·subst ik;rw[Z7 Y,B.ent i hi j hj,m8];show _=(bf:Rat)*V i i*(if i=i then V i j/V i i else _);rw[Z7 rfl];grind
  ·rw[Z8 ik];obtain⟨z,hz⟩:=pf i hi j;have:(RR.ent rows k k*RR.ent rows i j-RR.ent rows i k*RR.ent rows k j).fdiv bf=z:=by
    refine Ec B.pos ?_;rw[<-hz,UE,Zn,Zn,m8,B.ent i hi j hj,B.ent i hi k (by omega),B.ent k hk j hj];show _=(bf:Rat)*((bf:Rat)*V k k*(if i=k then _ else V i j-V i k*(V k j/V k k)));rw[Z8 ik];grind
   rw[this,hz]
 ·refine B.sol y fun i hi=>?_;have GI:=hy k hk;have ek:sm (n+1) (fun j=>V k j*y j)=0:=by
   have:sm (n+1) (fun j=>V k j*y j)=V k k*sm (n+1) (fun j=>V' k j*y j):=by
    rw[<-WJ];refine ZO fun j _=>?_;show _=V k k*((if k=k then V k j/V k k else _)*y j);rw[Z7 rfl];grind
   rw[this,GI];grind
  by_cases ik:i=k;·subst ik;exact ek
  ·have:sm (n+1) (fun j=>V i j*y j)=sm (n+1) (fun j=>V' i j*y j)+V i k/V k k*sm (n+1) (fun j=>V k j*y j):=by
    rw[<-WJ,<-Tz];refine ZO fun j _=>?_;show _=(if i=k then _ else V i j-V i k*(V k j/V k k))*y j+_;rw[Z8 ik];grind
   rw[this,hy i hi,ek];grind
theorem xI.run{n:Nat}{rows:List (List Int)}(R:Rk n (n+1) rows)(PD:Sy n (fun i j=>(RR.ent rows i j:Rat))):∀k,k<=n->∃V lam,xI n (fun i j=>(RR.ent rows i j:Rat)) k (Yc k rows).1 (Yc k rows).2 V lam
 |0,_=>by
  refine⟨fun i j=>(RR.ent rows i j:Rat),fun _ _=>0,R,by show(0:Int)<1;omega,fun i hi j hj=>?_,fun i _ c hc=>by omega,fun i _ c=>?_,fun y hy=>hy,?_⟩
  ·show(RR.ent rows i j:Rat)=((1:Int):Rat)*(RR.ent rows i j:Rat);have:((1:Int):Rat)=1:=rfl;rw[this];grind
  ·rw[Z8 (by omega)];simp only[sm];grind
  ·left;rfl
 |k+1,hk=>by
  obtain⟨V,lam,B⟩:=xI.run R PD k (by omega);exact B.step (fun i c=>⟨_,Y⟩) PD (by omega)
theorem LD{n:Nat}{rows:List (List Int)}(hn:0<n)(R:Rk n (n+1) rows)(PD:Sy n (fun i j=>(RR.ent rows i j:Rat))):∃h:Nat->Rat,Rk n (n+1) (Yc n rows).1/\0<ent (Yc n rows).1 0 0/\(∀i,i<n->(ent (Yc n rows).1 i n:Rat)=(ent (Yc n rows).1 0 0:Rat)*h i)/\∀i,i<n->sm n (fun j=>(ent rows i j:Rat)*h j)=(ent rows i n:Rat):=by
 obtain⟨V,lam,B⟩:=xI.run R PD n (ZK n);have e0:=B.ent 0 hn 0 (by omega);rw[B.un 0 hn 0 hn,Z7 rfl]at e0;have g9:ent (Yc n rows).1 0 0=(Yc n rows).2:=by
  apply Rat.intCast_inj.mp;rw[e0];grind
 refine⟨fun i=>V i n,B.Im,by rw[g9];exact B.pos,fun i hi=>by rw[g9];exact B.ent i hi n (by omega),fun i hi=>?_⟩;have key:=B.sol (fun j=>if j=n then-1 else V j n) (fun i hi=>by
  simp only[sm];rw[Z7 trivial];have:sm n (fun j=>V i j*(if j=n then-1 else V j n))=sm n (fun j=>if j=i then V j n else 0):=ZO fun j hj=>by
   rw[Z8 (by omega),B.un i hi j hj];split<;>grind
  rw[this,YF hi (fun j=>V j n)];grind) i hi
 simp only[sm]at key;rw[Z7 trivial]at key;have:sm n (fun j=>(ent rows i j:Rat)*(if j=n then-1 else V j n))=sm n (fun j=>(ent rows i j:Rat)*V j n):=ZO fun j hj=>by rw[Z8 (by omega)]
 rw[this]at key;grind
open Classical in
noncomputable def Net.rowsOf(N:Net)(U:List Nat)(S:Rat)(v u:Nat):Rat:=
 if v=N.s\/¬N.Yk U v then(if u=v then 1 else 0)
 else if u=N.s then 0
 else if u=N.n then S*(if v=N.t then N.d else 0)+ls U (fun e=>S/N.b e*N.inc v e*N.c e)
 else ls U (fun e=>S/N.b e*N.inc v e*N.inc u e)
theorem Net.zy{N:Net}{U:List Nat}{u:Nat}(h:¬N.Yk U u){e:Nat}(he:e∈U):N.inc u e=0:=by
 unfold Net.inc;rw[Z8 (fun q=>h ⟨e,he,.inr q⟩),Z8 (fun q=>h ⟨e,he,.inl q⟩)]
theorem Net.Il{N:Net}(ok:N.Ok){U:List Nat}(hU:∀e,e∈U->e<N.m)(f y:Nat->Rat):sm N.n (fun u=>ls U (fun e=>f e*N.inc u e)*y u)=ls U (fun e=>f e*(y (N.to e)-y (N.fr e))):=by
 have:sm N.n (fun u=>ls U (fun e=>f e*N.inc u e)*y u)=sm N.n (fun u=>ls U (fun e=>f e*(y u*N.inc u e))):=ZO fun u _=>by
  have:ls U (fun e=>f e*N.inc u e)*y u=y u*ls U (fun e=>f e*N.inc u e):=by grind
  rw[this,<-PU];exact XT fun e _=>by grind
 rw[this,<-uF];refine XT fun e he=>?_;rw[WJ,Net.CO ok (hU e he) y]
theorem Net.CM{N:Net}(ok:N.Ok){U:List Nat}(hU:∀e,e∈U->e<N.m)(T:N.O5 U){S:Rat}(hS:0<S):Sy N.n (N.rowsOf U S):=by
 classical
 intro x hx;let z:Nat->Rat:=fun v=>if v=N.s\/¬N.Yk U v then 0 else x v
 have z0:∀v,(v=N.s\/¬N.Yk U v)->z v=0:=fun v h=>Z7 h;have z1:∀v,¬(v=N.s\/¬N.Yk U v)->z v=x v:=fun v h=>Z8 h;have row:∀v,v<N.n->x v*sm N.n (fun u=>N.rowsOf U S v u*x u)=(x v-z v)*(x v-z v)+z v*ls U (fun e=>S/N.b e*N.inc v e*(z (N.to e)-z (N.fr e))):=by
  intro v hv;by_cases g:v=N.s\/¬N.Yk U v
  ·have:sm N.n (fun u=>N.rowsOf U S v u*x u)=sm N.n (fun u=>if u=v then x u else 0):=ZO fun u _=>by
    unfold Net.rowsOf;rw[Z7 g];split<;>grind
   rw[this,YF hv,z0 v g];grind
  ·have:sm N.n (fun u=>N.rowsOf U S v u*x u)=sm N.n (fun u=>ls U (fun e=>S/N.b e*N.inc v e*N.inc u e)*z u):=ZO fun u hu=>by
    unfold Net.rowsOf;rw[Z8 g];by_cases us:u=N.s;·rw[Z7 us,z0 u (.inl us)];grind
    ·rw[Z8 us,Z8 (by omega)];by_cases ut:N.Yk U u;·rw[z1 u (fun q=>by rcases q with q|q;exact us q;exact q ut)]
     ·have:ls U (fun e=>S/N.b e*N.inc v e*N.inc u e)=0:=CQ fun e he=>by rw[Net.zy ut he];grind
      rw[this];grind
   rw[this,Net.Il ok hU (fun e=>S/N.b e*N.inc v e) z,z1 v g];grind
 rw[ZO row,Tz];have q1:sm N.n (fun v=>z v*ls U (fun e=>S/N.b e*N.inc v e*(z (N.to e)-z (N.fr e))))=ls U (fun e=>S/N.b e*((z (N.to e)-z (N.fr e))*(z (N.to e)-z (N.fr e)))):=by
  have:∀v,v<N.n->z v*ls U (fun e=>S/N.b e*N.inc v e*(z (N.to e)-z (N.fr e)))=ls U (fun e=>(S/N.b e*(z (N.to e)-z (N.fr e)))*N.inc v e)*z v:=fun v _=>by
   have:ls U (fun e=>S/N.b e*N.inc v e*(z (N.to e)-z (N.fr e)))=ls U (fun e=>(S/N.b e*(z (N.to e)-z (N.fr e)))*N.inc v e):=XT fun e _=>by grind
   rw[this];grind
  rw[ZO this,Net.Il ok hU];exact XT fun e _=>by grind
 have n1:∀v,v<N.n->0<=(x v-z v)*(x v-z v):=fun v _=>sq_nonneg _;have n2:∀e,e∈U->0<=S/N.b e*((z (N.to e)-z (N.fr e))*(z (N.to e)-z (N.fr e))):=fun e he=>W5 (Rl (Yy hS) (ok.O e (hU e he))) (sq_nonneg _);have p1:=QL n1;have p2:=JG n2;rw[q1];by_cases pos:0<sm N.n (fun v=>(x v-z v)*(x v-z v))+ls U (fun e=>S/N.b e*((z (N.to e)-z (N.fr e))*(z (N.to e)-z (N.fr e))));·exact pos
 ·exfalso;have a1:=Vq n1 (by grind);have a2:=LN n2 (by grind);have eqs:∀e,e∈U->z (N.to e)=z (N.fr e):=fun e he=>by
   have O:=zH hS (ok.O e (hU e he));rcases XJ.mp (a2 e he)with q|q;·grind
   ·have:=Mj q;grind
  have fin:=T z eqs (z0 _ (.inl Y));obtain⟨i,hi,ne⟩:=hx;have xz:x i=z i:=by have:=Mj (a1 i hi);grind
  have:z i=0:=by
   by_cases t:N.Yk U i
   ·obtain⟨e,he,rfl|rfl⟩:=t;·exact fin e he
    ·rw[eqs e he];exact fin e he
   ·exact z0 i (.inr t)
  exact ne (by rw[xz,this])
theorem Net.zx{N:Net}(ok:N.Ok){U:List Nat}(hU:∀e,e∈U->e<N.m){S:Rat}(hS:0<S){h:Nat->Rat}(hh:∀v,v<N.n->sm N.n (fun u=>N.rowsOf U S v u*h u)=N.rowsOf U S v N.n):(∀v,v<N.n->(v=N.s\/¬N.Yk U v)->h v=0)/\∀v,v<N.n->v≠N.s->N.Yk U v->N.Ro U h (-1) v=if v=N.t then N.d else 0:=by
 have g0:∀v,v<N.n->(v=N.s\/¬N.Yk U v)->h v=0:=fun v hv g=>by
  have e:=hh v hv;have:sm N.n (fun u=>N.rowsOf U S v u*h u)=sm N.n (fun u=>if u=v then h u else 0):=ZO fun u _=>by
   unfold Net.rowsOf;rw[Z7 g];split<;>grind
  rw[this,YF hv]at e;rw[e];unfold Net.rowsOf;rw[Z7 g,Z8 (by omega)]
 refine⟨g0,fun v hv vs vt=>?_⟩;have g:¬(v=N.s\/¬N.Yk U v):=fun q=>by rcases q with q|q;exact vs q;exact q vt
 have e:=hh v hv;have e1:sm N.n (fun u=>N.rowsOf U S v u*h u)=sm N.n (fun u=>ls U (fun e=>S/N.b e*N.inc v e*N.inc u e)*h u):=ZO fun u hu=>by
  unfold Net.rowsOf;rw[Z8 g];by_cases us:u=N.s;·rw[Z7 us,g0 u hu (.inl us)];grind
  ·rw[Z8 us,Z8 (by omega)]
 rw[e1,Net.Il ok hU (fun e=>S/N.b e*N.inc v e) h]at e;have e2:N.rowsOf U S v N.n=S*(if v=N.t then N.d else 0)+ls U (fun e=>S/N.b e*N.inc v e*N.c e):=by
  unfold Net.rowsOf;rw[Z8 g,Z8 (by have:=ok.hs;omega),Z7 rfl]
 rw[e2]at e;have e3:S*N.Ro U h (-1) v=ls U (fun e=>S/N.b e*N.inc v e*(h (N.to e)-h (N.fr e)))-ls U (fun e=>S/N.b e*N.inc v e*N.c e):=by
  unfold Net.Ro;rw[<-PU,<-LO];exact XT fun e _=>by grind
 have e4:S*N.Ro U h (-1) v=S*(if v=N.t then N.d else 0):=by rw[e3,e];grind
 have sn:S≠0:=by grind
 have:N.Ro U h (-1) v=S*N.Ro U h (-1) v/S:=by grind
 rw[this,e4];grind
end RR
namespace RR
def qr(u l:Int):Rat:=(u:Rat)/(l:Rat)
theorem uA{u l:Int}(h:0<l):qr u l=mkRat u l.toNat:=by
 unfold qr;have e:((l.toNat:Nat):Int)=l:=Int.toNat_of_nonneg (SH h);rw[Rat.mkRat_eq_div];congr 1;rw[<-Xy,e]
theorem Ik{u l g:Int}(h:0<l)(hg:g=((Int.gcd u l:Nat):Int)):(qr u l).num=u/g:=by
 rw[uA h,Rat.num_mkRat,Z8 (by omega),hg];congr 2;unfold Int.gcd;rw[Nat.gcd_comm];congr 1;omega
theorem LC{u l g:Int}(h:0<l)(hg:g=((Int.gcd u l:Nat):Int)):(((qr u l).den:Nat):Int)=l/g:=by
 rw[uA h,Rat.den_mkRat,Z8 (by omega),hg,Int.natCast_ediv];congr 2;·omega
 ·unfold Int.gcd;rw[Nat.gcd_comm];congr 1;omega
theorem VM(q:Rat):0<(q.den:Int):=by
 have:=q.den_nz;omega
theorem V5(q:Rat):(q.num:Rat)/((q.den:Int):Rat)=q:=by
 rw[Xy];rw[<-Rat.mkRat_eq_div];exact Rat.mkRat_self q
theorem sL(q:Rat):((q.den:Int):Rat)≠0:=by
 intro h;have:(q.den:Int)=0:=by exact_mod_cast h
 have:=VM q;omega
theorem Ij(a b:Rat):qr (a.num*b.den+b.num*a.den) (a.den*b.den)=a+b:=by
 have ha:=V5 a;have O:=V5 b;have da:=sL a;have db:=sL b;unfold qr;rw[Xz,Zn,Zn,Zn];conv=>rhs;rw[<-ha,<-O]
 rw[Zk,Zk,Zk,Vx,Rat.add_mul];grind
theorem Gg(a b:Rat):qr (a.num*b.num) (a.den*b.den)=a*b:=by
 have ha:=V5 a;have O:=V5 b;unfold qr;rw[Zn,Zn];conv=>rhs;rw[<-ha,<-O]
 rw[Zk,Zk,Zk,Vx];grind
theorem wj(a b:Rat):decide (a.num*b.den<b.num*a.den)=decide (a<b):=by
 congr 1;rw[Rat.lt_iff]
theorem sJ(a b:Rat)(O:0<b):qr (a.num*b.den) (a.den*b.num)=a/b:=by
 have ha:=V5 a;have kS:=V5 b;unfold qr;rw[Zn,Zn];conv=>rhs;rw[<-ha,<-kS]
 rw[Zk,Zk,Zk,Zk,Vx,Vx,Rat.inv_inv];grind
theorem Eb(u:Int):qr u 1=(u:Rat):=by
 unfold qr;rw[Zk];show(u:Rat)*(1:Rat)⁻¹=u;rw[show(1:Rat)⁻¹=1 by decide+kernel,Vv]
def Bd(n:Nat)(x:Int):Prop:=x.natAbs<2^n
theorem Bd.mono{m n:Nat}{x:Int}(h:Bd m x)(k:m<=n):Bd n x:=Zl h (Tn (by decide) k)
theorem Bd.mul{m n:Nat}{x y:Int}(hx:Bd m x)(hy:Bd n y):Bd (m+n) (x*y):=by
 unfold Bd at*;rw[Int.natAbs_mul,Nat.pow_add];exact Nat.mul_lt_mul'' hx hy
theorem Bd.neg{n:Nat}{x:Int}(h:Bd n x):Bd n (-x):=by
 unfold Bd at*;rw[Int.natAbs_neg];exact h
theorem Bd.add{n:Nat}{x y:Int}(hx:Bd n x)(hy:Bd n y):Bd (n+1) (x+y):=by
 unfold Bd at*;rw[Nat.pow_succ];have:=Int.natAbs_add_le x y;omega
theorem Bd.sub{n:Nat}{x y:Int}(hx:Bd n x)(hy:Bd n y):Bd (n+1) (x-y):=by
 rw[Int.sub_eq_add_neg];exact hx.add hy.neg
theorem Bd.zero(n:Nat):Bd n 0:=by
 unfold Bd;exact Nat.pos_of_ne_zero (by simp)
theorem Bd.one{n:Nat}(h:1<=n):Bd n 1:=by
 refine Bd.mono (m:=1) ?_ h;unfold Bd;decide
theorem Bd.le{n:Nat}{x y:Int}(h:Bd n y)(k:x.natAbs<=y.natAbs):Bd n x:=Yx k h
theorem Bd.div{n:Nat}{x y:Int}(h:Bd n x):Bd n (x/y):=by
 refine h.le ?_;exact Int.natAbs_ediv_le_natAbs x y
structure Rb(n:Nat)(q:Rat):Prop where
 num:Bd n q.num
 den:Bd n q.den
theorem Rb.mono{m n:Nat}{q:Rat}(h:Rb m q)(k:m<=n):Rb n q:=⟨h.num.mono k,h.den.mono k⟩
theorem Rb.qr{n:Nat}{u l:Int}(hl:0<l)(hu:Bd n u)(O:Bd n l):Rb n (qr u l):=by
 refine⟨?_,?_⟩
 ·rw[Ik hl rfl];exact hu.div
 ·rw[LC hl rfl];exact O.div
theorem U8(a b:Rat):0<(a.den:Int)*b.den:=US (VM a) (VM b)
theorem Rb.add{m n:Nat}{a b:Rat}(ha:Rb m a)(O:Rb n b):Rb (m+n+1) (a+b):=by
 rw[<-Ij];refine Rb.qr (U8 a b) (Bd.add (ha.num.mul O.den) ?_) ((ha.den.mul O.den).mono (by omega));rw[Nat.add_comm];exact O.num.mul ha.den
theorem Rb.neg{n:Nat}{a:Rat}(h:Rb n a):Rb n (-a):=by
 refine⟨?_,?_⟩
 ·rw[Rat.neg_num];exact h.num.neg
 ·rw[Rat.neg_den];exact h.den
theorem Rb.sub{m n:Nat}{a b:Rat}(ha:Rb m a)(O:Rb n b):Rb (m+n+1) (a-b):=by
 rw[Rat.sub_eq_add_neg];exact ha.add O.neg
theorem Rb.mul{m n:Nat}{a b:Rat}(ha:Rb m a)(O:Rb n b):Rb (m+n) (a*b):=by
 rw[<-Gg];exact Rb.qr (U8 a b) (ha.num.mul O.num) (ha.den.mul O.den)
theorem Rb.ofInt{n:Nat}{x:Int}(h:Bd n x)(k:1<=n):Rb n (x:Rat):=by
 refine⟨?_,?_⟩
 ·rw[Rat.num_intCast];exact h
 ·rw[Rat.den_intCast];exact Bd.one k
theorem zw{x y:Int}(hx:0<=x)(hy:0<y):Int.gcd y (x%y)=Int.gcd x y:=by
 obtain⟨m,rfl⟩:=Ms hx;obtain⟨n,rfl⟩:=Ms (SH hy);rw[<-Int.natCast_emod];show Nat.gcd n (m%n)=Nat.gcd m n;rw[Nat.gcd_comm n (m%n),<-Nat.gcd_rec,Nat.gcd_comm]
theorem Gf{a b:Int}(ha:0<a)(O:0<b):a/((Int.gcd a b:Nat):Int)*b=((Int.lcm a b:Nat):Int):=by
 obtain⟨m,rfl⟩:=Ms (SH ha);obtain⟨n,rfl⟩:=Ms (SH O);show((m:Int)/((Nat.gcd m n:Nat):Int))*(n:Int)=((Nat.lcm m n:Nat):Int);rw[<-Int.natCast_ediv,<-Int.natCast_mul];congr 1;unfold Nat.lcm;rw[Nat.mul_comm m n,Nat.mul_div_assoc n (Nat.gcd_dvd_left m n),Nat.mul_comm]
theorem Jw{a b:Int}(O:0<b):0<((Int.gcd a b:Nat):Int):=by
 have:=Int.gcd_pos_of_ne_zero_right a (b:=b) (by omega);omega
theorem CL(a b:Int):Int.gcd (if a<0 then-a else a) b=Int.gcd a b:=by
 split;·exact Int.neg_gcd
 ·rfl
structure BF(N:Net)(w:Nat->Rat)(Ze:Nat->Option Rat)(r i:Nat):Prop where
 sound:∀v c,Ze v=some c->∃j,N.Walk w j v c
 comp:∀j v c,j<=r->N.Walk w j v c->∃c',c'<=c/\Ze v=some c'
 part:∀e,e<i->e<N.m->N.op e=true->∀j c,j<=r->N.Walk w j (N.fr e) c->∃c',c'<=c+w e/\Ze (N.to e)=some c'
def BC(N:Net)(w:Nat->Rat)(Ze:Nat->Option Rat)(i:Nat):Prop:=
 ∀e,e<i->e<N.m->N.op e=true->∀c,Ze (N.fr e)=some c->∃c',c'<=c+w e/\Ze (N.to e)=some c'
def start(s:Nat):Nat->Option Rat:=fun v=>if v=s then some 0 else none
def put(Ze:Nat->Option Rat)(v:Nat)(c:Rat):Nat->Option Rat:=fun u=>if u=v then some c else Ze u
variable{N:Net}{w:Nat->Rat}{Ze:Nat->Option Rat}{r i:Nat}
theorem BF.start(N:Net)(w:Nat->Rat):BF N w (RR.start N.s) 0 0 where
 sound:=fun v c h=>by
  unfold RR.start at h;split at h;·rename_i e;cases h;subst e;exact⟨0,.nil w⟩
  ·cases h
 comp:=fun j v c hj h=>by
  obtain rfl:j=0:=by omega
  obtain⟨rfl,rfl⟩:=h.zero;exact⟨0,Ye,Z7 Y⟩
 part:=fun e he=>by omega
theorem BF.skip(B:BF N w Ze r i)(h:N.op i=false\/Ze (N.fr i)=none):BF N w Ze r (i+1)where
 sound:=B.sound
 comp:=B.comp
 part:=fun e he hm ho j c hj hw=>by
  by_cases q:e<i;·exact B.part e q hm ho j c hj hw
  ·obtain rfl:e=i:=by omega
   rcases h with h|h;·rw[h]at ho;cases ho
   ·obtain⟨c',_,e'⟩:=B.comp j _ c hj hw;rw[h]at e';cases e'
theorem BC.skip(B:BC N w Ze i)(h:N.op i=false\/Ze (N.fr i)=none):BC N w Ze (i+1):=fun e he hm ho c hc=>by
 by_cases q:e<i;·exact B e q hm ho c hc
 ·obtain rfl:e=i:=by omega
  rcases h with h|h;·rw[h]at ho;cases ho
  ·rw[h]at hc;cases hc
theorem BF.keep(B:BF N w Ze r i){c d:Rat}(hc:Ze (N.fr i)=some c)(hd:Ze (N.to i)=some d)(h:d<=c+w i):BF N w Ze r (i+1)where
 sound:=B.sound
 comp:=B.comp
 part:=fun e he hm ho j c1 hj hw=>by
  by_cases q:e<i;·exact B.part e q hm ho j c1 hj hw
  ·obtain rfl:e=i:=by omega
   obtain⟨c',J,h2⟩:=B.comp j _ c1 hj hw;rw[hc]at h2;cases h2;exact⟨d,by grind,hd⟩
theorem BC.keep(B:BC N w Ze i){c d:Rat}(hc:Ze (N.fr i)=some c)(hd:Ze (N.to i)=some d)(h:d<=c+w i):BC N w Ze (i+1):=fun e he hm ho c1 xH=>by
 by_cases q:e<i;·exact B e q hm ho c1 xH
 ·obtain rfl:e=i:=by omega
  rw[hc]at xH;cases xH;exact⟨d,h,hd⟩
theorem BF.put(B:BF N w Ze r i)(hm:i<N.m)(ho:N.op i=true){c:Rat}(hc:Ze (N.fr i)=some c)(h:∀d,Ze (N.to i)=some d->c+w i<d):BF N w (RR.put Ze (N.to i) (c+w i)) r (i+1)where
 sound:=fun v x hx=>by
  unfold RR.put at hx;split at hx
  ·rename_i e;cases hx;obtain⟨j,hj⟩:=B.sound _ c hc;subst e;exact⟨j+1,hj.snoc hm ho⟩
  ·exact B.sound v x hx
 comp:=fun j v x hj hw=>by
  obtain⟨c',J,h2⟩:=B.comp j v x hj hw;unfold RR.put;by_cases q:v=N.to i
  ·rw[Z7 q];subst q;have:=h c' h2;exact⟨_,by grind,Y⟩
  ·rw[Z8 q];exact⟨c',J,h2⟩
 part:=fun e he dR EV j c1 hj hw=>by
  unfold RR.put;by_cases q:e<i
  ·obtain⟨c',J,h2⟩:=B.part e q dR EV j c1 hj hw;by_cases z:N.to e=N.to i
   ·rw[Z7 z];rw[z]at h2;have:=h c' h2;exact⟨_,by grind,Y⟩
   ·rw[Z8 z];exact⟨c',J,h2⟩
  ·obtain rfl:e=i:=by omega
   rw[Z7 rfl];obtain⟨c',J,h2⟩:=B.comp j _ c1 hj hw;rw[hc]at h2;cases h2;exact⟨_,by grind,Y⟩
theorem BF.next(B:BF N w Ze r N.m):BF N w Ze (r+1) 0 where
 sound:=B.sound
 comp:=fun j v c hj hw=>by
  by_cases q:j<=r;·exact B.comp j v c q hw
  ·obtain rfl:j=r+1:=by omega
   obtain⟨e,c',he,ho,rfl,we,rfl⟩:=hw.cases;exact B.part e he he ho r c' (ZK _) we
 part:=fun e he=>by omega
theorem BF.done(B:BF N w Ze r i)(ok:N.Ok)(hw:∀e,e<N.m->N.op e=true->0<=w e)(hr:N.n<=r)(hm:i<N.m)(ho:N.op i=true){c:Rat}(hc:Ze (N.fr i)=some c):∃d,Ze (N.to i)=some d/\d<=c+w i:=by
 obtain⟨j,hj⟩:=B.sound _ c hc;obtain⟨k,c',hk,hle,hs⟩:=(hj.snoc hm ho).short ok hw;obtain⟨d,J,h2⟩:=B.comp k _ c' (by omega) hs;exact⟨d,h2,by grind⟩
theorem BF.dist(B:BF N w Ze r i)(C:BC N w Ze N.m):∀v c,Ze v=some c↔N.Gr w v c:=by
 have low:∀j v c,N.Walk w j v c->∃c',c'<=c/\Ze v=some c':=by
  intro j;induction j with
  |zero=>exact fun v c h=>B.comp 0 v c (Zt _) h
  |succ j ih=>
   intro v c h;obtain⟨e,c',he,ho,rfl,we,rfl⟩:=h.cases;obtain⟨a,J,h2⟩:=ih _ _ we;obtain⟨b,h3,h4⟩:=C e he he ho a h2;exact⟨b,by grind,h4⟩
 intro v c;constructor
 ·intro h;refine⟨B.sound v c h,fun k c' hk=>?_⟩;obtain⟨d,J,h2⟩:=low k v c' hk;rw[h]at h2;cases h2;exact J
 ·rintro⟨⟨k,hk⟩,h2⟩;obtain⟨d,h3,h4⟩:=low k v c hk;obtain⟨j,hj⟩:=B.sound v d h4;have:=h2 j d hj;rw[h4];congr 1;grind
theorem BC.zero:BC N w Ze 0:=fun e he=>by omega
end RR
namespace RR
open RhRoads
noncomputable def rowAt(l:Land):List Nat->List Nat×Nat
 |r=>r.foldl (fun p e=>(p.2::p.1,(rd l e).to_)) ([],l.source)
theorem N8(l:Land):rowAt l []=([],l.source):=rfl
theorem Sx(l:Land)(r:List Nat)(e:Nat):rowAt l (r++[e])=((rowAt l r).2::(rowAt l r).1,(rd l e).to_):=by
 unfold rowAt;rw[List.foldl_append];rfl
noncomputable def X6(l:Land)(W4:List Nat)(v:Nat):List Nat:=(List.range l.roads.length).filter fun e=>!(rd l e).shut&&((rd l e).from_==v&&!(W4.contains (rd l e).to_||(rd l e).to_==v))
theorem WK(l:Land)(k:Nat)(W4:List Nat)(v:Nat)(h:v≠l.goal):waysFrom l (k+1) W4 v=(X6 l W4 v).flatMap fun e=>(waysFrom l k (v::W4) (rd l e).to_).map fun w=>e::w:=by
 show(if v=l.goal then[[]]else _)=_;rw[Z8 h,Iy,List.filter_map,List.flatMap_map,List.filter_filter];unfold X6;congr 1;congr 1;funext e;exact Bool.and_comm _ _
noncomputable def ext(l:Land)(r:List Nat):List (List Nat):=(waysFrom l (l.places+1-r.length) (rowAt l r).1 (rowAt l r).2).map fun w=>r++w
theorem ext_nil(l:Land):ext l []=ways l:=by
 unfold ext ways;rw[N8];simp
theorem zu{l:Land}{r:List Nat}(h:(rowAt l r).2=l.goal)(hl:r.length<=l.places):ext l r=[r]:=by
 unfold ext;obtain⟨k,e⟩:∃k,l.places+1-r.length=k+1:=⟨l.places-r.length,by omega⟩;rw[e];show List.map _ (if(rowAt l r).2=l.goal then[[]]else _)=_;rw[Z7 h];simp
theorem zr{l:Land}{r:List Nat}(h:(rowAt l r).2≠l.goal)(hl:r.length<=l.places):ext l r=(X6 l (rowAt l r).1 (rowAt l r).2).flatMap fun e=>ext l (r++[e]):=by
 unfold ext;obtain⟨k,e⟩:∃k,l.places+1-r.length=k+1:=⟨l.places-r.length,by omega⟩;rw[e,WK l k _ _ h,List.map_flatMap];congr 1;funext x;rw[Sx,ZF,Yn];have e2:l.places+1-(r.length+[x].length)=k:=by
  show l.places+1-(r.length+1)=k;omega
 rw[e2];congr 1;funext w;simp
structure O0(l:Land)(r:List Nat):Prop where
 lt:∀e,e∈r->e<l.roads.length
 nd:((rowAt l r).2::(rowAt l r).1).Nodup
 pl:∀v,v∈(rowAt l r).2::(rowAt l r).1->v<l.places
theorem BB(l:Land):∀r:List Nat,(rowAt l r).1.length=r.length:=by
 intro r;have:∀(r:List Nat)(p:List Nat×Nat),(r.foldl (fun p e=>(p.2::p.1,(rd l e).to_)) p).1.length=p.1.length+r.length:=by
  intro r;induction r with
  |nil=>intro p;rfl
  |cons e r ih=>
   intro p;rw[RJ,ih];simp;omega
 unfold rowAt;rw[this];simp
theorem W3:∀(n:Nat)(L:List Nat),L.Nodup->(∀v,v∈L->v<n)->L.length<=n:=by
 intro n;induction n with
 |zero=>
  intro L _ h;cases L with
  |nil=>exact ZK _
  |cons a L=>exact absurd (h a (YG ..)) (by omega)
 |succ n ih=>
  intro L nd h;have J:=ih (L.erase n) (nd.erase n) (fun v hv=>by
   have h2:=h v (List.mem_of_mem_erase hv);have h3:v≠n:=fun q=>by subst q;exact(List.Nodup.not_mem_erase nd) hv
   omega)
  have:=List.length_erase_le (l:=L) (a:=n);rw[List.length_erase]at J;split at J<;>omega
theorem O0.len{l:Land}{r:List Nat}(h:O0 l r):r.length+1<=l.places:=by
 have:=W3 l.places _ h.nd h.pl;rw[Zg,BB]at this;exact this
theorem O0.nil{l:Land}(h:l.source<l.places):O0 l []where
 lt:=fun e he=>by cases he
 nd:=by rw[N8];simp
 pl:=fun v hv=>by
  rw[N8]at hv;simp at hv;omega
theorem QH{l:Land}{W4:List Nat}{v e:Nat}:e∈X6 l W4 v↔e<l.roads.length/\(rd l e).shut=false/\(rd l e).from_=v/\(rd l e).to_∉W4/\(rd l e).to_≠v:=by
 unfold X6;rw[XI,YO];simp
theorem O0.snoc{l:Land}(hl:Zh l){r:List Nat}(h:O0 l r){e:Nat}(he:e∈X6 l (rowAt l r).1 (rowAt l r).2):O0 l (r++[e]):=by
 obtain⟨J,h2,h3,h4,h5⟩:=QH.mp he;refine⟨fun x hx=>?_,?_,fun v hv=>?_⟩
 ·rw[Zj,Zm]at hx;rcases hx with hx|rfl;·exact h.lt x hx
  ·exact J
 ·rw[Sx];refine Wf.mpr ⟨?_,h.nd⟩;simp[h4,h5]
 ·rw[Sx]at hv;rcases ZE.mp hv with rfl|hv;·exact(hl.rd J).t
  ·exact h.pl v hv
noncomputable def below(l:Land):Nat->List Nat->Nat->Nat
 |0,_,_=>1
 |k+1,W4,v=>1+((X6 l W4 v).map fun e=>below l k (v::W4) (rd l e).to_).sum
def WS(l:Land)(r:List Nat):Nat:=below l (l.places+1-r.length) (rowAt l r).1 (rowAt l r).2
theorem Ge{l:Land}{r:List Nat}(hl:r.length<=l.places):WS l r=1+((X6 l (rowAt l r).1 (rowAt l r).2).map fun e=>WS l (r++[e])).sum:=by
 unfold WS;obtain⟨k,e⟩:∃k,l.places+1-r.length=k+1:=⟨l.places-r.length,by omega⟩;rw[e];show 1+_=1+_;congr 2;congr 1;funext x;rw[Sx,ZF];have e2:l.places+1-(r.length+[x].length)=k:=by
  show l.places+1-(r.length+1)=k;omega
 rw[e2]
theorem LB(l:Land)(r:List Nat):0<WS l r:=by
 unfold WS;generalize l.places+1-r.length=k;cases k with
 |zero=>exact Nat.one_pos
 |succ k=>show 0<1+_;omega
structure LA(l:Land)(found started:List (List Nat)):Prop where
 ok:∀r,r∈started->O0 l r
 fd:∀r,r∈found->O0 l r
 perm:(found++started.flatMap (ext l)).Perm (ways l)
theorem LA.start{l:Land}(hl:Zh l):LA l [] [[]]where
 ok:=fun r hr=>by
  rw[Zm]at hr;subst hr;exact .nil hl.s
 fd:=fun r hr=>by cases hr
 perm:=by simp[ext_nil]
theorem LA.goal{l:Land}{found started:List (List Nat)}{r:List Nat}(h:LA l found (started++[r]))(hg:(rowAt l r).2=l.goal):LA l (found++[r]) started where
 ok:=fun x hx=>h.ok x (Ym _ hx)
 fd:=fun x hx=>by
  rcases Zj.mp hx with hx|hx;·exact h.fd x hx
  ·rw[Zm]at hx;subst hx;exact h.ok _ (by simp)
 perm:=by
  refine List.Perm.trans ?_ h.perm;have ho:=(h.ok r (by simp)).len;rw[Tr,VX];refine List.Perm.append_left _ ?_;have e:List.flatMap (ext l) [r]=[r]:=by simp[zu hg (by omega)]
  rw[e];exact List.perm_append_comm
theorem LA.more{l:Land}(hl:Zh l){found started:List (List Nat)}{r:List Nat}(h:LA l found (started++[r]))(hg:(rowAt l r).2≠l.goal):LA l found (started++(X6 l (rowAt l r).1 (rowAt l r).2).map fun e=>r++[e])where
 ok:=fun x hx=>by
  rcases Zj.mp hx with hx|hx;·exact h.ok x (Ym _ hx)
  ·obtain⟨e,he,rfl⟩:=Y9.mp hx;exact(h.ok r (by simp)).snoc hl he
 fd:=h.fd
 perm:=by
  have ho:=(h.ok r (by simp)).len;have e:List.flatMap (ext l) ((X6 l (rowAt l r).1 (rowAt l r).2).map fun e=>r++[e])=List.flatMap (ext l) [r]:=by
   rw[List.flatMap_map];simp[zr hg (show r.length<=l.places by omega)]
  have h2:=h.perm;rw[Tr]at h2⊢;rw[e];exact h2
theorem BA{l:Land}{started:List (List Nat)}{r:List Nat}(hr:r.length<=l.places):((started++(X6 l (rowAt l r).1 (rowAt l r).2).map fun e=>r++[e]).map (WS l)).sum<((started++[r]).map (WS l)).sum:=by
 rw[YV,YV,List.sum_append,List.sum_append,Yn];have:=Ge (l:=l) (r:=r) hr;have e:((X6 l (rowAt l r).1 (rowAt l r).2).map (WS l∘fun e=>r++[e])).sum=((X6 l (rowAt l r).1 (rowAt l r).2).map fun e=>WS l (r++[e])).sum:=rfl;rw[e];simp;omega
theorem Jv{l:Land}{started:List (List Nat)}{r:List Nat}:(started.map (WS l)).sum<((started++[r]).map (WS l)).sum:=by
 rw[YV,List.sum_append];have:=LB l r;simp;omega
def before:List Nat->List Nat->Prop
 |[],_=>True
 |_::_,[]=>False
 |a::p,b::q=>a<b\/(a=b/\before p q)
theorem Gd(l:Land):∀(k:Nat)(W4:List Nat)(v:Nat),(waysFrom l k W4 v).Pairwise before:=by
 intro k;induction k with
 |zero=>exact fun W4 v=>List.Pairwise.nil
 |succ k ih=>
  intro W4 v;by_cases h:v=l.goal
  ·show List.Pairwise before (if v=l.goal then[[]]else _);rw[Z7 h];exact List.pairwise_singleton _ _
  ·rw[WK l k W4 v h];have hs:(X6 l W4 v).Pairwise (·<·):=Mr _ (List.pairwise_lt_range);generalize X6 l W4 v=L at hs;induction L with
   |nil=>exact List.Pairwise.nil
   |cons e L kD=>
    rw[List.pairwise_cons]at hs;rw[VU,List.pairwise_append];refine⟨?_,kD hs.2,?_⟩
    ·rw[Uw];exact(ih _ _).imp fun h=>Or.inr ⟨Y,h⟩
    ·intro x hx y hy;obtain⟨p,_,rfl⟩:=Y9.mp hx;obtain⟨f,hf,hy⟩:=List.mem_flatMap.mp hy;obtain⟨q,_,rfl⟩:=Y9.mp hy;exact Or.inl (hs.1 f hf)
theorem RY:∀p q:List Nat,before p q->before q p->p=q
 |[],[],_,_=>rfl
 |[],b::q,_,h=>h.elim
 |a::p,[],h,_=>h.elim
 |a::p,b::q,J,h2=>by
  have J:a<b\/(a=b/\before p q):=J;have h2:b<a\/(b=a/\before q p):=h2;have e:a=b:=by omega
  subst e;rw[RY p q (by rcases J with h|h;omega;exact h.2) (by rcases h2 with h|h;omega;exact h.2)]
theorem Ea{L M:List (List Nat)}(h:L.Perm M)(hL:L.Pairwise before)(hM:M.Pairwise before):L=M:=
 List.Perm.eq_of_pairwise (fun a b _ _=>RY a b) hL hM h
theorem D'{l:Land}{found L:List (List Nat)}(P:LA l found [])(h:L.Perm found)(hs:L.Pairwise before):L=ways l:=by
 refine Ea (h.trans ?_) hs (Gd l _ _ _);have:=P.perm;simpa using this
structure OZ(f:Flow)(w:List Nat)(m:Rat):Prop where
 mem:∃e,e∈w/\on f e=m
 le:∀e,e∈w->m<=on f e
theorem OZ.uniq{f:Flow}{w:List Nat}{m n:Rat}(a:OZ f w m)(b:OZ f w n):m=n:=by
 obtain⟨e,J,h2⟩:=a.mem;obtain⟨g,h3,h4⟩:=b.mem;have:=a.le g h3;have:=b.le e J;grind
theorem PQ(f:Flow):∀w:List Nat,w≠[]->OZ f w (leastOn f w)
 |[],h=>absurd rfl h
 |[e],_=>⟨⟨e,Zm.mpr Y,Y⟩,fun g hg=>by
  rw[Zm]at hg;subst hg;exact Ye⟩
 |e::g::r,_=>by
  have ih:=PQ f (g::r) (by simp);have e1:leastOn f (e::g::r)=if on f e<leastOn f (g::r)then on f e else leastOn f (g::r):=rfl
  rw[e1];split
  ·rename_i h;refine⟨⟨e,by simp,Y⟩,fun x hx=>?_⟩;rcases ZE.mp hx with rfl|hx;·exact Ye
   ·have:=ih.le x hx;grind
  ·rename_i h;obtain⟨x,J,h2⟩:=ih.mem;refine⟨⟨x,Zf _ J,h2⟩,fun y hy=>?_⟩;rcases ZE.mp hy with rfl|hy;·grind
   ·exact ih.le y hy
noncomputable def Uq(f:Flow)(w:List Nat)(m:Rat):Flow:=f.zipIdx.map fun(x:Rat×Nat)=>if w.contains x.2 then x.1-m else x.1
theorem Wz(f:Flow)(w:List Nat)(m:Rat):(Uq f w m).length=f.length:=by
 unfold Uq;rw[Z3,List.length_zipIdx]
theorem Ju{f:Flow}{w:List Nat}{m:Rat}{e:Nat}(he:e<f.length):on (Uq f w m) e=if e∈w then on f e-m else on f e:=by
 unfold on Uq;rw[ZW,Zb,List.getElem?_zipIdx,ZT he];simp[ZW,ZT he]
noncomputable def pass:List (List Nat)->Flow->List (Rat×List Nat)
 |[],_=>[]
 |w::ws,f=>if leastOn f w=0 then pass ws f else(leastOn f w,w)::pass ws (Uq f w (leastOn f w))
def wc(f:Flow)(w:List Nat):Prop:=∃e,e∈w/\e<f.length/\on f e=0
noncomputable def busy(f:Flow):Nat:=((List.range f.length).filter fun e=>decide (on f e≠0)).length
theorem Lz{p q:Nat->Bool}:∀{L:List Nat},(∀a,a∈L->p a=true->q a=true)->(∃a,a∈L/\q a=true/\p a=false)->(L.filter p).length<(L.filter q).length
 |[],_,h=>by obtain⟨a,J,_⟩:=h;cases J
 |x::L,h,k=>by
  have hle:∀{L:List Nat},(∀a,a∈L->p a=true->q a=true)->(L.filter p).length<=(L.filter q).length:=by
   intro L;induction L with
   |nil=>intro _;exact ZK _
   |cons y L ih=>
    intro h;have:=ih fun a ha=>h a (Zf _ ha);rw[YD,YD];have h2:=h y (by simp);split
    ·rename_i c;rw[Z7 (h2 c)];simp;exact this
    ·split;·simp;omega
     ·exact this
  have h0:=hle fun a ha=>h a (Zf x ha);rw[YD,YD];obtain⟨a,J,h2,h3⟩:=k;rcases ZE.mp J with rfl|J
  ·rw[Z7 h2,Z8 (by rw[h3];simp)];simp;omega
  ·have ih:=Lz (L:=L) (fun a ha=>h a (Zf x ha)) ⟨a,J,h2,h3⟩;split
   ·rename_i c;rw[Z7 (h x (by simp) c)];simp;exact ih
   ·split;·simp;omega
    ·exact ih
theorem PN(l:Land):∀(B A:List (List Nat))(f:Flow)(k:Nat),ways l=A++B->(∀w,w∈ways l->w≠[]/\∀e,e∈w->e<f.length)->(∀e,0<=on f e)->(∀w,w∈A->wc f w)->busy f<k->partsOf l k f=pass B f
 |[],A,f,k,hw,hn,h0,O,hk=>by
  obtain⟨k,rfl⟩:∃j,k=j+1:=⟨k-1,by omega⟩;rw[Xw]at hw;have e:(ways l).find? (fun(w:List Nat)=>w.all fun(e:Nat)=>decide (0<on f e))=none:=by
   rw[VW];intro w hm c;rw[hw]at hm;obtain⟨x,J,h2,h3⟩:=O w hm;have:=VY.mp c x J;have:=ZD this;grind
  show(match(ways l).find? (fun(w:List Nat)=>w.all fun(e:Nat)=>decide (0<on f e))with|none=>[]|some w=>_)=_;rw[e];rfl
 |w::B,A,f,k,hw,hn,h0,O,hk=>by
  have o_:w∈ways l:=by rw[hw];simp
  have hL:=PQ f w (hn w o_).1;show _=(if leastOn f w=0 then pass B f else _);by_cases c:leastOn f w=0
  ·rw[Z7 c];refine PN l B (A++[w]) f k (by rw[hw];simp) hn h0 (fun x hx=>?_) hk;rcases Zj.mp hx with hx|hx;·exact O x hx
   ·rw[Zm]at hx;subst hx;obtain⟨e,J,h2⟩:=hL.mem;exact⟨e,J,(hn _ o_).2 e J,by rw[h2];exact c⟩
  ·rw[Z8 c];obtain⟨k,rfl⟩:∃j,k=j+1:=⟨k-1,by omega⟩;have hp:0<leastOn f w:=by
    obtain⟨e,J,h2⟩:=hL.mem;have:=h0 e;rw[h2]at this;grind
   have e:(ways l).find? (fun(w:List Nat)=>w.all fun(e:Nat)=>decide (0<on f e))=some w:=by
    rw[hw,List.find?_append,VW.mpr]
    ·rw[Option.none_or,List.find?_cons_of_pos];refine VY.mpr fun e he=>ZP ?_;have:=hL.le e he;grind
    ·intro x hx d;obtain⟨e,J,h2,h3⟩:=O x hx;have:=ZD (VY.mp d e J);grind
   have e2:partsOf l (k+1) f=(leastOn f w,w)::partsOf l k (Uq f w (leastOn f w)):=by
    show(match(ways l).find? (fun(w:List Nat)=>w.all fun(e:Nat)=>decide (0<on f e))with|none=>[]|some w=>_)=_;rw[e];rfl
   rw[e2];congr 1;have sI:∀e,e<f.length->on (Uq f w (leastOn f w)) e=if e∈w then on f e-leastOn f w else on f e:=fun e he=>Ju he
   refine PN l B (A++[w]) _ k (by rw[hw];simp) (fun x hx=>⟨(hn x hx).1,by rw[Wz];exact(hn x hx).2⟩) (fun e=>?_) (fun x hx=>?_) ?_
   ·by_cases he:e<f.length
    ·rw[sI e he];split
     ·rename_i hm;have:=hL.le e hm;grind
     ·exact h0 e
    ·unfold on;rw[ZW,YH (by rw[Wz];omega)];exact Ye
   ·rcases Zj.mp hx with hx|hx
    ·obtain⟨e,J,h2,h3⟩:=O x hx;refine⟨e,J,by rw[Wz];exact h2,?_⟩;rw[sI e h2,Z8,h3];intro hm;have:=hL.le e hm;grind
    ·rw[Zm]at hx;subst hx;obtain⟨e,J,h2⟩:=hL.mem;refine⟨e,J,by rw[Wz];exact(hn _ o_).2 e J,?_⟩;rw[sI e ((hn _ o_).2 e J),Z7 J];grind
   ·have WY:busy (Uq f w (leastOn f w))<busy f:=by
     unfold busy;rw[Wz];refine Lz (fun a ha pH=>?_) ?_
     ·have ha:=YO.mp ha;have pH:=ZD pH;refine ZP fun q=>pH ?_;rw[sI a ha,Z8,q];intro hm;have:=hL.le a hm;grind
     ·obtain⟨e,J,h2⟩:=hL.mem;have he:=(hn _ o_).2 e J;refine⟨e,YO.mpr he,ZP (by grind),ZC ?_⟩;rw[sI e he,Z7 J];grind
    omega
theorem wb(f:Flow):busy f<=f.length:=by
 unfold busy;have:=Wg (fun e=>decide (on f e≠0)) (List.range f.length);rw[Y_]at this;exact this
theorem D_{l:Land}(hl:Zh l){f:Flow}(hf:f.length=l.roads.length)(h0:∀e,0<=on f e)(hw:∀w,w∈ways l->w≠[]/\∀e,e∈w->e<l.roads.length):parts l f=pass (ways l) f:=by
 unfold parts;refine PN l (ways l) [] f (ROADS+1) rfl (by rw[hf];exact hw) h0 (fun w hw=>by cases hw) ?_;have:=wb f;have:=hl.r9;show busy f<9+1;omega
theorem Ii(l:Land)(st:l.source≠l.goal):∀(k:Nat)(W4:List Nat)(v:Nat)(w:List Nat),w∈waysFrom l k W4 v->(∀e,e∈w->e<l.roads.length/\(rd l e).to_∉W4/\(rd l e).to_≠v)/\(v≠l.goal->w≠[])/\(w.map fun e=>(rd l e).to_).Nodup:=by
 intro k;induction k with
 |zero=>
  intro W4 v w hw;cases hw
 |succ k ih=>
  intro W4 v w hw;by_cases h:v=l.goal
  ·have hw:w∈(if v=l.goal then[[]]else _):=hw;rw[Z7 h,Zm]at hw;subst hw;exact⟨fun e he=>(by cases he),fun q=>absurd h q,Tq⟩
  ·rw[WK l k W4 v h,List.mem_flatMap]at hw;obtain⟨e,he,hw⟩:=hw;obtain⟨x,hx,rfl⟩:=Y9.mp hw;obtain⟨J,h2,h3,h4,h5⟩:=QH.mp he;obtain⟨i1,i2,i3⟩:=ih _ _ x hx;refine⟨fun g hg=>?_,fun _=>by simp,?_⟩
   ·rcases ZE.mp hg with rfl|hg;·exact⟨J,h4,h5⟩
    ·obtain⟨j1,j2,j3⟩:=i1 g hg;exact⟨j1,fun q=>j2 (Zf _ q),fun q=>j2 (by rw[q];simp)⟩
   ·rw[Y1,Wf];refine⟨fun q=>?_,i3⟩;obtain⟨g,hg,e2⟩:=Y9.mp q;exact(i1 g hg).2.2 e2
theorem Ly{l:Land}(hl:Zh l){w:List Nat}(hw:w∈ways l):w≠[]/\(∀e,e∈w->e<l.roads.length)/\w.Nodup:=by
 obtain⟨J,h2,h3⟩:=Ii l hl.st _ _ _ w hw;refine⟨h2 hl.st,fun e he=>(J e he).1,?_⟩;have:=Uw.mp h3;exact this.imp fun h q=>h (by rw[q])
end RR
namespace RR
structure Jt where
 tail:Nat
 head:Nat
 cost:Int
 slope:Int
structure Y2 where
 n:Nat
 s:Nat
 t:Nat
 units:Int
 links:List Jt
def Y2.lk(P:Y2)(e:Nat):Jt:=P.links.getD e ⟨0,1,0,1⟩
def Y2.XS(P:Y2):Net:=⟨P.n,P.links.length,fun e=>(P.lk e).tail,fun e=>(P.lk e).head,fun e=>((P.lk e).cost:Rat),fun e=>((P.lk e).slope:Rat),fun _=>true,P.s,P.t,(P.units:Rat)⟩
structure Y2.Ok(P:Y2):Prop where
 s:P.s<P.n
 t:P.t<P.n
 st:P.s≠P.t
 u:0<P.units
 lt:∀e,e<P.links.length->(P.lk e).tail<P.n
 lh:∀e,e<P.links.length->(P.lk e).head<P.n
 ne:∀e,e<P.links.length->(P.lk e).tail≠(P.lk e).head
 c:∀e,e<P.links.length->0<=(P.lk e).cost
 b:∀e,e<P.links.length->0<(P.lk e).slope
theorem intCast_pos{z:Int}(h:0<z):(0:Rat)<(z:Rat):=by
 have:=QQ (a:=0) (b:=z);exact this.mpr h
theorem Sw{z:Int}(h:0<=z):(0:Rat)<=(z:Rat):=by
 have:=QR (a:=0) (b:=z);exact this.mpr h
theorem Y2.Ok.XS{P:Y2}(h:P.Ok):P.XS.Ok where
 hs:=h.s
 ht:=h.t
 st:=h.st
 hd:=intCast_pos h.u
 AO:=h.lt
 zU:=h.lh
 ne:=h.ne
 hc:=fun e he=>Sw (h.c e he)
 O:=fun e he=>intCast_pos (h.b e he)
def Rj(U:List Nat)(f:Nat->Int):Int:=(U.map f).sum
theorem Bz(U:List Nat)(e:Nat)(f:Nat->Int):Rj (U++[e]) f=Rj U f+f e:=by
 unfold Rj;rw[YV,List.sum_append];simp
theorem CK(U:List Nat)(f:Nat->Int):((Rj U f:Int):Rat)=ls U (fun e=>(f e:Rat)):=by
 induction U with
 |nil=>rfl
 |cons e U ih=>
  unfold Rj at ih⊢;rw[Y1,To,Xz,ih];rfl
theorem wa{U:List Nat}{f:Nat->Int}(h:∀e,e∈U->0<=f e):0<=Rj U f:=by
 induction U with
 |nil=>exact UT _
 |cons e U ih=>
  unfold Rj at ih⊢;rw[Y1,To];have:=h e (by simp);have:=ih fun x hx=>h x (by simp[hx]);omega
theorem By{U:List Nat}{f:Nat->Int}(h:∀e,e∈U->0<=f e)(z:Rj U f=0):∀e,e∈U->f e=0:=by
 induction U with
 |nil=>intro e he;cases he
 |cons e U ih=>
  unfold Rj at ih z;rw[Y1,To]at z;have J:=h e (by simp);have h2:0<=(U.map f).sum:=wa fun x hx=>h x (by simp[hx]);intro x hx;rcases ZE.mp hx with rfl|hx;·omega
  ·exact ih (fun y hy=>h y (by simp[hy])) (by omega) x hx
def Y2.ic(P:Y2)(v e:Nat):Int:=if(P.lk e).head=v then 1 else if(P.lk e).tail=v then-1 else 0
theorem Y2.D9(P:Y2)(v e:Nat):(P.ic v e:Rat)=P.XS.inc v e:=by
 unfold Y2.ic Net.inc;show _=if(P.lk e).head=v then(1:Rat)else if(P.lk e).tail=v then-1 else 0
 split;·rfl
 ·split<;>rfl
noncomputable def Y2.raw(P:Y2)(U:List Nat)(S:Int)(v u:Nat):Int:=
 if u=P.n then(if v=P.t then S*P.units else 0)+Rj U (fun e=>S/(P.lk e).slope*P.ic v e*(P.lk e).cost)else Rj U (fun e=>S/(P.lk e).slope*P.ic v e*P.ic u e)
theorem S5{S b:Int}(O:0<b)(h:b∣S):((S/b:Int):Rat)=(S:Rat)/(b:Rat):=by
 obtain⟨k,rfl⟩:=h;rw[Int.mul_ediv_cancel_left _ (by omega),Zn];have:(b:Rat)≠0:=by
  have:=intCast_pos O;grind
 rw[Zk];grind
open Classical in
theorem Y2.CJ{P:Y2}(ok:P.Ok){U:List Nat}(hU:∀e,e∈U->e<P.links.length){S:Int}(hS:0<S)(hd:∀e,e∈U->(P.lk e).slope∣S){v u:Nat}(hv:v<P.n)(hu:u<P.n+1):
 P.XS.rowsOf U (S:Rat) v u=(((if v=P.s\/P.raw U S v v=0 then(if u=v then 1 else 0)else if u=P.s then 0 else P.raw U S v u):Int):Rat):=by
 have wt:∀e,e∈U->0<S/(P.lk e).slope:=fun e he=>by
  have O:=ok.b e (hU e he);obtain⟨k,hk⟩:=hd e he;rw[hk,Int.mul_ediv_cancel_left _ (by omega)];rw[hk]at hS;exact Int.pos_of_mul_pos_right hS O
 have g8:P.raw U S v v=0↔¬P.XS.Yk U v:=by
  unfold Y2.raw;rw[Z8 (by omega)];constructor
  ·rintro z ⟨e,he,q⟩;have:=By (fun x hx=>?_) z e he
   ·have w:=wt e he;have QN:=ok.ne e (hU e he);have ic:P.ic v e=1\/P.ic v e=-1:=by
     unfold Y2.ic;rcases q with q|q
     ·right;have q:(P.lk e).tail=v:=q;rw[Z8 (fun z=>QN (by rw[q,z])),Z7 q]
     ·left;exact Z7 q
    rcases ic with ic|ic<;>rw[ic]at this<;>omega
   ·have w:=wt x hx;rw[Int.mul_assoc];exact Int.mul_nonneg (by omega) (by
     unfold Y2.ic;split;·decide
     ·split<;>decide)
  ·intro z;unfold Rj;have:(U.map fun e=>S/(P.lk e).slope*P.ic v e*P.ic v e)=U.map fun _=>(0:Int):=by
    refine VS fun e he=>?_;have:P.ic v e=0:=by
     unfold Y2.ic;rw[Z8 (show¬(P.lk e).head=v from fun q=>z ⟨e,he,.inr q⟩),Z8 (show¬(P.lk e).tail=v from fun q=>z ⟨e,he,.inl q⟩)]
    rw[this];simp
   rw[this];clear this hU hd wt z;induction U with
   |nil=>rfl
   |cons e U ih=>simpa using ih
 unfold Net.rowsOf;by_cases g:v=P.s\/P.raw U S v v=0
 ·rw[Z7 g,Z7 (by rcases g with g|g;exact .inl g;exact .inr (g8.mp g))];split<;>rfl
 ·rw[Z8 g,Z8 (fun q=>g (by rcases q with q|q;exact .inl q;exact .inr (g8.mpr q)))];by_cases us:u=P.s;·rw[Z7 us,Z7 (show u=P.XS.s from us)];rfl
  ·rw[Z8 us,Z8 (show¬u=P.XS.s from us)];unfold Y2.raw;by_cases un:u=P.n
   ·rw[Z7 un,Z7 (show u=P.XS.n from un),Xz,CK];congr 1
    ·by_cases vt:v=P.t;·rw[Z7 vt,Z7 (show v=P.XS.t from vt),Zn];rfl
     ·rw[Z8 vt,Z8 (show¬v=P.XS.t from vt)];show(S:Rat)*0=0;grind
    ·refine XT fun e he=>?_;rw[Zn,Zn,S5 (ok.b e (hU e he)) (hd e he),Y2.D9];rfl
   ·rw[Z8 un,Z8 (show¬u=P.XS.n from un),CK];refine XT fun e he=>?_;rw[Zn,Zn,S5 (ok.b e (hU e he)) (hd e he),Y2.D9,Y2.D9];rfl
def ld(ys:List Int)(w:Int)(e:Nat):Rat:=(ys.getD e 0:Rat)/(w:Rat)
theorem Y2.balanced{P:Y2}(ok:P.Ok){U:List Nat}(hU:∀e,e∈U->e<P.links.length)(nd:U.Nodup)(T:P.XS.O5 U)(tt:P.XS.Yk U P.t){S:Int}(hS:0<S)(hd:∀e,e∈U->(P.lk e).slope∣S){rows:List (List Int)}(R:Rk P.n (P.n+1) rows)(hr:∀v,v<P.n->∀u,u<P.n+1->ent rows v u=if v=P.s\/P.raw U S v v=0 then(if u=v then 1 else 0)else if u=P.s then 0 else P.raw U S v u){ys:List Int}(hl:ys.length=P.links.length)(y1:∀e,e∈U->ys.getD e 0=(ent (Yc P.n rows).1 (P.lk e).head P.n-ent (Yc P.n rows).1 (P.lk e).tail P.n-(P.lk e).cost*ent (Yc P.n rows).1 0 0)*(S/(P.lk e).slope))(y0:∀e,e<P.links.length->e∉U->ys.getD e 0=0):0<ent (Yc P.n rows).1 0 0/\∃h,P.XS.U9 U (ld ys (S*ent (Yc P.n rows).1 0 0)) h:=by
 have nk:=ok.XS;have en:∀v,v<P.n->∀u,u<P.n+1->(ent rows v u:Rat)=P.XS.rowsOf U (S:Rat) v u:=fun v hv u hu=>by rw[hr v hv u hu,Y2.CJ ok hU hS hd hv hu]
 have PD:Sy P.n (fun i j=>(ent rows i j:Rat)):=by
  intro x hx;have q:=Net.CM nk hU T (intCast_pos hS) x hx;have e:sm P.n (fun i=>x i*sm P.n (fun j=>(ent rows i j:Rat)*x j))=sm P.XS.n (fun i=>x i*sm P.XS.n (fun j=>P.XS.rowsOf U (S:Rat) i j*x j)):=by
   refine ZO fun i hi=>?_;congr 1;refine ZO fun j hj=>?_;rw[en i hi j (by omega)]
  rw[e];exact q
 have hn:0<P.n:=by have:=ok.s;omega
 obtain⟨h,R',lp,hh,sol⟩:=LD hn R PD;refine⟨lp,h,?_⟩;obtain⟨b1,b2⟩:=Net.zx (N:=P.XS) nk hU (intCast_pos hS) (h:=h) (fun v hv=>by
  have q:=en v hv P.n (by omega);refine Vj ?_ q;rw[<-sol v hv];exact ZO fun j hj=>by rw[en v hv j (by have:j<P.n:=hj;omega)])
 refine Net.zI nk hU nd (b1 P.s ok.s (.inl Y)) tt b2 (fun e he=>?_) (fun e he hn=>?_)
 ·unfold ld;rw[y1 e he,Zn,UE,UE,Zn,hh _ (ok.lh e (hU e he)),hh _ (ok.lt e (hU e he)),S5 (ok.b e (hU e he)) (hd e he),Zn];have l0:((ent (Yc P.n rows).1 0 0:Int):Rat)≠0:=by have:=intCast_pos lp;grind
  have s0:(S:Rat)≠0:=by have:=intCast_pos hS;grind
  have b0:((P.lk e).slope:Rat)≠0:=by have:=intCast_pos (ok.b e (hU e he));grind
  show _=(h (P.lk e).head-h (P.lk e).tail-((P.lk e).cost:Rat))/((P.lk e).slope:Rat);generalize((ent (Yc P.n rows).1 0 0:Int):Rat)=L at*;generalize(S:Rat)=S' at*;generalize((P.lk e).slope:Rat)=b at*;rw[Zk,Zk,Zk,Vx];have i1:L*L⁻¹=1:=Vw _ l0;have i2:S'*S'⁻¹=1:=Vw _ s0;grind
 ·unfold ld;rw[y0 e he hn];show(0:Rat)/_=0;grind
end RR
namespace RR
def Net.Gb(N:Net)(x:Nat->Rat)(v:Nat):Prop:=v=N.s\/∃e,e<N.m/\x e≠0/\(N.fr e=v\/N.to e=v)
structure m7(P:Y2)(x h:Nat->Rat)(w:Int)(hg:Nat->Option Int):Prop where
 uz:∀v,P.XS.Gb x v↔∃z,hg v=some z
 val:∀v z,hg v=some z->(z:Rat)=h v*(w:Rat)
structure Ga(P:Y2)(w:Int)(hg:Nat->Option Int)(Ze:Nat->Option Int)(arr:Nat->Option Nat)(X7:Nat->Nat)(T:Nat):Prop where
 fix:∀v z,hg v=some z->Ze v=some z/\arr v=none/\X7 v=0
 qL:∀v b,hg v=none->Ze v=some b->∃e a,arr v=some e/\e<P.links.length/\(P.lk e).head=v/\Ze (P.lk e).tail=some a/\a+(P.lk e).cost*w<=b/\(a+(P.lk e).cost*w=b->X7 (P.lk e).tail<X7 v)
 Xf:∀v,Ze v=none->arr v=none
 tT:∀v,X7 v<=T
def Qu(Ze:Nat->Option Int)(v:Nat)(c:Int):Nat->Option Int:=fun u=>if u=v then some c else Ze u
def putN(arr:Nat->Option Nat)(v:Nat)(e:Nat):Nat->Option Nat:=fun u=>if u=v then some e else arr u
def v_(X7:Nat->Nat)(v:Nat)(t:Nat):Nat->Nat:=fun u=>if u=v then t else X7 u
section
variable{P:Y2}{w:Int}{hg Ze:Nat->Option Int}{arr:Nat->Option Nat}{X7:Nat->Nat}{T:Nat}
theorem Ga.start:Ga P w hg hg (fun _=>none) (fun _=>0) 0 where
 fix:=fun v z h=>⟨h,Y,Y⟩
 qL:=fun v b J h2=>by rw[J]at h2;cases h2
 Xf:=fun _ _=>rfl
 tT:=fun _=>ZK _
theorem Ga.put(S:Ga P w hg Ze arr X7 T)(ok:P.Ok){e:Nat}(he:e<P.links.length){a:Int}(ha:Ze (P.lk e).tail=some a)(hh:hg (P.lk e).head=none)(hl:∀b,Ze (P.lk e).head=some b->a+(P.lk e).cost*w<b):Ga P w hg (Qu Ze (P.lk e).head (a+(P.lk e).cost*w)) (putN arr (P.lk e).head e) (v_ X7 (P.lk e).head (T+1)) (T+1)where
 fix:=fun v z h=>by
  have hv:v≠(P.lk e).head:=fun q=>by rw[q,hh]at h;cases h
  unfold Qu putN v_;rw[Z8 hv,Z8 hv,Z8 hv];exact S.fix v z h
 qL:=fun v b J h2=>by
  have ne:=ok.ne e he;unfold Qu putN v_ at*;by_cases hv:v=(P.lk e).head
  ·rw[Z7 hv]at h2;cases h2;refine⟨e,a,Z7 hv,he,hv.symm,?_,UT _,fun _=>?_⟩;·rw[Z8 ne];exact ha
   ·rw[Z8 ne,Z7 hv];have:=S.tT (P.lk e).tail;omega
  ·rw[Z8 hv]at h2⊢;obtain⟨f,c,g1,g2,g3,g4,g5,g6⟩:=S.qL v b J h2;refine⟨f,?_⟩;by_cases ht:(P.lk f).tail=(P.lk e).head
   ·refine⟨a+(P.lk e).cost*w,g1,g2,g3,Z7 ht,?_,fun q=>?_⟩
    ·rw[ht]at g4;have:=hl c g4;omega
    ·rw[ht]at g4;have:=hl c g4;omega
   ·refine⟨c,g1,g2,g3,by rw[Z8 ht];exact g4,g5,fun q=>?_⟩;rw[Z8 ht,Z8 hv];exact g6 q
 Xf:=fun v h=>by
  unfold Qu at h;unfold putN;by_cases hv:v=(P.lk e).head;·rw[Z7 hv]at h;cases h
  ·rw[Z8 hv]at h⊢;exact S.Xf v h
 tT:=fun v=>by
  unfold v_;split;·exact ZK _
  ·exact Nat.le_succ_of_le (S.tT v)
def D8(P:Y2)(w:Int)(hg Ze:Nat->Option Int)(i:Nat):Prop:=∀e,e<i->e<P.links.length->hg (P.lk e).head=none->∀a,Ze (P.lk e).tail=some a->∃b,Ze (P.lk e).head=some b/\b<=a+(P.lk e).cost*w
def Chain(P:Y2)(arr:Nat->Option Nat):Nat->List Nat->Prop
 |v,[]=>arr v=none
 |v,e::ks=>arr v=some e/\Chain P arr (P.lk e).tail ks
theorem Ga.rests(S:Ga P w hg Ze arr X7 T)(C:D8 P w hg Ze P.links.length)(ok:P.Ok)(hw:0<w){ys:List Int}{h:Nat->Rat}(G:P.XS.Good (ld ys w) h)(Hg:m7 P (ld ys w) h w hg)(hn:∀e,e<P.links.length->¬0<ys.getD e 0->∀a z,Ze (P.lk e).tail=some a->hg (P.lk e).head=some z->z<=a+(P.lk e).cost*w):P.XS.Wl (ld ys w):=by
 have wp:=intCast_pos hw;have w0:(w:Rat)≠0:=by grind
 have yz:∀e,(ld ys w e=0↔ys.getD e 0=0):=fun e=>by
  unfold ld;constructor
  ·intro q;rw[Zk]at q;have:=XJ.mp q;rcases this with z|z;·exact_mod_cast z
   ·have:=Vw _ w0;rw[z]at this;grind
  ·intro q;rw[q];show(0:Rat)/_=0;grind
 have yn:∀e,e<P.links.length->0<=ys.getD e 0:=fun e he=>by
  have q:=G.Vo.nn e he;unfold ld at q;have:(0:Rat)<=(ys.getD e 0:Rat):=by
   have:=W5 q (Yy wp);rw[Zk,UD,Tf _ w0,Vv]at this;exact this
  exact_mod_cast this
 let lb:Nat->Rat:=fun v=>((Ze v).getD 0:Rat)/(w:Rat)
 have uy:∀v a,Ze v=some a->lb v*(w:Rat)=(a:Rat):=fun v a q=>by
  show((Ze v).getD 0:Rat)/(w:Rat)*(w:Rat)=_;rw[q,Zk,UD,Tf _ w0,Vv];rfl
 have o8:∀v,P.XS.Gb (ld ys w) v->lb v=h v/\∃z,hg v=some z/\Ze v=some z:=fun v q=>by
  obtain⟨z,hz⟩:=(Hg.uz v).mp q;have J:=Hg.val v z hz;have h2:=(S.fix v z hz).1;have h3:=uy v z h2;rw[J]at h3;refine⟨?_,z,hz,h2⟩;have:(lb v-h v)*(w:Rat)=0:=by grind
  rcases XJ.mp this with z|z;·grind
  ·exact absurd z w0
 refine Net.Good.rests ok.XS G (fun _ _=>rfl) (Ze:=lb) (Lb:=fun v=>∃a,Ze v=some a) ?_ ?_ ?_
 ·obtain⟨_,z,_,hz⟩:=o8 P.s (.inl Y);exact⟨z,hz⟩
 ·intro e he ⟨a,ha⟩;have ha:Ze (P.lk e).tail=some a:=ha;by_cases x0:ld ys w e=0
  ·have pr:P.XS.price (ld ys w) e=((P.lk e).cost:Rat):=by
    unfold Net.price;rw[x0];show((P.lk e).cost:Rat)+_*0=_;grind
   rw[pr];have key:∀b,Ze (P.lk e).head=some b->b<=a+(P.lk e).cost*w->lb (P.lk e).head<=lb (P.lk e).tail+((P.lk e).cost:Rat):=fun b O hle=>by
    have J:=uy _ a ha;have h2:=uy _ b O;have h3:(b:Rat)<=((a+(P.lk e).cost*w:Int):Rat):=by exact_mod_cast hle
    rw[Xz,Zn,<-J,<-h2]at h3;by_cases q:lb (P.lk e).head<=lb (P.lk e).tail+((P.lk e).cost:Rat);·exact q
    ·have:0<(lb (P.lk e).head-(lb (P.lk e).tail+((P.lk e).cost:Rat)))*(w:Rat):=VN (by grind) wp;grind
   cases hh:hg (P.lk e).head with
   |none=>
    obtain⟨b,O,hle⟩:=C e he he hh a ha;exact⟨⟨b,O⟩,key b O hle⟩
   |some z=>
    have hle:=hn e he (by rw[(yz e).mp x0];decide) a z ha hh;have O:=(S.fix _ z hh).1;exact⟨⟨z,O⟩,key z O hle⟩
  ·have t1:=o8 (P.lk e).tail (.inr ⟨e,he,x0,.inl Y⟩);have t2:=o8 (P.lk e).head (.inr ⟨e,he,x0,.inr Y⟩);obtain⟨e2,z,_,hz⟩:=t2;refine⟨⟨z,hz⟩,?_⟩;show lb (P.lk e).head<=lb (P.lk e).tail+_;rw[e2,t1.1];have:=G.on e he x0;have this:h (P.lk e).head-h (P.lk e).tail=P.XS.price (ld ys w) e:=this;grind
 ·intro e he x0;have t1:=o8 (P.lk e).tail (.inr ⟨e,he,x0,.inl Y⟩);have t2:=o8 (P.lk e).head (.inr ⟨e,he,x0,.inr Y⟩);show lb (P.lk e).head=lb (P.lk e).tail+_;rw[t1.1,t2.1];have:=G.on e he x0;have this:h (P.lk e).head-h (P.lk e).tail=P.XS.price (ld ys w) e:=this;grind
theorem Ga.sF(S:Ga P w hg Ze arr X7 T)(C:D8 P w hg Ze P.links.length)(ok:P.Ok)(hw:0<w){ys:List Int}{h:Nat->Rat}(G:P.XS.Good (ld ys w) h)(Hg:m7 P (ld ys w) h w hg){e:Nat}{ks:List Nat}(he:e<P.links.length)(y0:¬0<ys.getD e 0){a z:Int}(ha:Ze (P.lk e).tail=some a)(hz:hg (P.lk e).head=some z)(lt:a+(P.lk e).cost*w<z)(ch:Chain P arr (P.lk e).tail ks):∃lb:Nat->Rat,P.XS.V6 (ld ys w) h (P.XS.Gb (ld ys w)) lb X7 T (fun i=>(e::ks).getD i 0) ks.length:=by
 have wp:=intCast_pos hw;have w0:(w:Rat)≠0:=by grind
 have yn:∀e,e<P.links.length->0<=ys.getD e 0:=fun e he=>by
  have q:=G.Vo.nn e he;unfold ld at q;have:(0:Rat)<=(ys.getD e 0:Rat):=by
   have:=W5 q (Yy wp);rw[Zk,UD,Tf _ w0,Vv]at this;exact this
  exact_mod_cast this
 let lb:Nat->Rat:=fun v=>((Ze v).getD 0:Rat)/(w:Rat)
 have uy:∀v a,Ze v=some a->lb v*(w:Rat)=(a:Rat):=fun v a q=>by
  show((Ze v).getD 0:Rat)/(w:Rat)*(w:Rat)=_;rw[q,Zk,UD,Tf _ w0,Vv];rfl
 have g7:∀p q:Rat,p*(w:Rat)=q*(w:Rat)->p=q:=fun p q r=>by
  have:(p-q)*(w:Rat)=0:=by grind
  rcases XJ.mp this with z|z;·grind
  ·exact absurd z w0
 have all:∀(ks:List Nat)(v:Nat)(a:Int),Ze v=some a->Chain P arr v ks->
  (∀i,i<ks.length->ks.getD i 0<P.links.length/\hg (P.lk (ks.getD i 0)).head=none/\lb (P.lk (ks.getD i 0)).head=lb (P.lk (ks.getD i 0)).tail+((P.lk (ks.getD i 0)).cost:Rat)/\X7 (P.lk (ks.getD i 0)).tail<X7 (P.lk (ks.getD i 0)).head)/\
  (∀i,i<ks.length->(P.lk (ks.getD i 0)).head=if i=0 then v else(P.lk (ks.getD (i-1) 0)).tail)/\
  P.XS.Gb (ld ys w) (if ks.length=0 then v else(P.lk (ks.getD (ks.length-1) 0)).tail):=by
  intro ks;induction ks with
  |nil=>
   intro v a hv hc;refine⟨fun i hi=>absurd hi (by simp),fun i hi=>absurd hi (by simp),?_⟩;show P.XS.Gb (ld ys w) v;refine(Hg.uz v).mpr ?_;cases q:hg v with
   |some z=>exact ⟨z,Y⟩
   |none=>
    obtain⟨f,_,g1,_⟩:=S.qL v a q hv;have hc:arr v=none:=hc;rw[hc]at g1;cases g1
  |cons f ks ih=>
   intro v a hv hc;obtain⟨xH,ux⟩:arr v=some f/\Chain P arr (P.lk f).tail ks:=hc;have kz:hg v=none:=by
    cases q:hg v with
    |none=>rfl
    |some z=>
     have:=(S.fix v z q).2.1;rw[xH]at this;cases this
   obtain⟨f',b,g1,g2,g3,g4,g5,g6⟩:=S.qL v a kz hv;rw[xH]at g1;cases g1;obtain⟨a',J,h2⟩:=C f g2 g2 (by rw[g3];exact kz) b g4;rw[g3,hv]at J;cases J;have eqv:b+(P.lk f).cost*w=a:=by omega
   obtain⟨i1,i2,i3⟩:=ih _ b g4 ux;refine⟨fun i hi=>?_,fun i hi=>?_,?_⟩
   ·cases i with
    |zero=>
     show f<_/\hg (P.lk f).head=none/\lb (P.lk f).head=lb (P.lk f).tail+((P.lk f).cost:Rat)/\X7 (P.lk f).tail<X7 (P.lk f).head;rw[g3];refine⟨g2,kz,g7 _ _ ?_,g6 eqv⟩;rw[uy v a hv,Rat.add_mul,uy _ b g4,<-Zn,<-Xz,eqv]
    |succ i=>exact i1 i (by simpa using hi)
   ·cases i with
    |zero=>rw [Z7 rfl];exact g3
    |succ i=>
     rw[Z8 (by omega)];have:=i2 i (by simpa using hi);show(P.lk (ks.getD i 0)).head=(P.lk ((f::ks).getD (i+1-1) 0)).tail;rw[this];cases i with
     |zero=>rfl
     |succ i=>rw [Z8 (by omega)];rfl
   ·rw[Z8 (by simp)];cases ks with
    |nil=>exact i3
    |cons g ks=>
     rw[Z8 (by simp)]at i3;exact i3
 obtain⟨i1,i2,i3⟩:=all ks _ a ha ch;have zero:∀f,f<P.links.length->hg (P.lk f).head=none->ld ys w f=0:=fun f hf q=>by
  by_cases z:ld ys w f=0;·exact z
  ·obtain⟨y,hy⟩:=(Hg.uz (P.lk f).head).mp (.inr ⟨f,hf,z,.inr Y⟩);rw[q]at hy;cases hy
 refine⟨lb,.inl Y,fun v hv=>hv,fun f hf hx=>⟨.inr ⟨f,hf,hx,.inl Y⟩,.inr ⟨f,hf,hx,.inr Y⟩⟩,fun v hv=>?_,fun v hv=>?_,S.tT,fun i hi=>?_,?_,?_,fun i hi=>?_,?_⟩
 ·obtain⟨y,hy⟩:=(Hg.uz v).mp hv;refine g7 _ _ ?_;rw[uy v y (S.fix v y hy).1];exact Hg.val v y hy
 ·obtain⟨y,hy⟩:=(Hg.uz v).mp hv;exact(S.fix v y hy).2.2
 ·cases i with
  |zero=>
   refine⟨he,?_⟩;have:ys.getD e 0=0:=by have:=yn e he;omega
   show ld ys w e=0;unfold ld;rw[this];show(0:Rat)/_=0;grind
  |succ i=>
   obtain⟨j1,j2,_⟩:=i1 i (by omega);exact⟨j1,zero _ j1 j2⟩
 ·exact(Hg.uz _).mpr ⟨z,hz⟩
 ·have J:=uy _ a ha;have h2:=Hg.val _ z hz;have h3:((a+(P.lk e).cost*w:Int):Rat)<(z:Rat):=by exact_mod_cast lt
  rw[Xz,Zn,<-J,h2]at h3;show lb (P.lk e).tail+((P.lk e).cost:Rat)<h (P.lk e).head;by_cases q:lb (P.lk e).tail+((P.lk e).cost:Rat)<h (P.lk e).head;·exact q
  ·have:0<=(lb (P.lk e).tail+((P.lk e).cost:Rat)-h (P.lk e).head)*(w:Rat):=W5 (by grind) (Yy wp);grind
 ·obtain⟨j1,j2,j3,j4⟩:=i1 i hi;have j5:=i2 i hi;refine⟨?_,fun q=>?_,j3,j4⟩
  ·show(P.lk ((e::ks).getD i 0)).tail=(P.lk (ks.getD i 0)).head;rw[j5];cases i with
   |zero=>rfl
   |succ i=>rw [Z8 (by omega)];rfl
  ·obtain⟨y,hy⟩:=(Hg.uz _).mp q;have hy:hg (P.lk (ks.getD i 0)).head=some y:=hy;rw[j2]at hy;cases hy
 ·show P.XS.Gb (ld ys w) (P.lk ((e::ks).getD ks.length 0)).tail;cases ks with
  |nil=>exact i3
  |cons g ks=>
   rw[Z8 (by simp)]at i3;exact i3
end
theorem N7(f:Int->Int)(f0:f 0=0)(ys:List Int)(e:Nat):(ys.map f).getD e 0=f (ys.getD e 0):=by
 rw[ZW,ZW,Zb];cases ys[e]?with
 |none=>exact f0.symm
 |some y=>rfl
theorem Ny{w d:Int}(hw:0<w)(hd:0<d)(h:d∣w):0<w/d:=by
 obtain⟨k,rfl⟩:=h;rw[Int.mul_ediv_cancel_left _ (by omega)];exact Int.pos_of_mul_pos_right hw hd
theorem zq{ys:List Int}{w d:Int}(hd:0<d)(hw:0<w)(dw:d∣w)(dy:∀y,y∈ys->d∣y)(e:Nat):ld (ys.map (fun y=>y/d)) (w/d) e=ld ys w e:=by
 unfold ld;rw[N7 (fun y=>y/d) (by simp)];have hy:d∣ys.getD e 0:=by
  rw[ZW];cases h:ys[e]?with
  |none=>exact ⟨0,by simp⟩
  |some y=>exact dy y (Y3 h)
 rw[S5 hd hy,S5 hd dw];have d0:(d:Rat)≠0:=by have:=intCast_pos hd;grind
 have w0:(w:Rat)≠0:=by have:=intCast_pos hw;grind
 generalize(d:Rat)=d' at*;generalize(w:Rat)=w' at*;generalize((ys.getD e 0:Int):Rat)=y;rw[Zk,Zk,Zk,Zk,Vx,Rat.inv_inv];have i1:d'*d'⁻¹=1:=Vw _ d0;grind
def OY(g:Int)(ys:List Int):Int:=ys.foldl (fun g y=>((Int.gcd g y:Nat):Int)) g
theorem Bx(g:Int)(ys:List Int)(y:Int):OY g (ys++[y])=((Int.gcd (OY g ys) y:Nat):Int):=by
 unfold OY;rw[List.foldl_append];rfl
theorem Mi(ys:List Int):∀g:Int,0<g->0<OY g ys/\OY g ys∣g/\∀y,y∈ys->OY g ys∣y:=by
 induction ys with
 |nil=>exact fun g hg=>⟨hg,Int.dvd_refl _,fun y hy=>by cases hy⟩
 |cons y ys ih=>
  intro g hg;have dQ:0<((Int.gcd g y:Nat):Int):=by
   have:=Int.gcd_pos_of_ne_zero_left y (a:=g) (by omega);omega
  obtain⟨J,h2,h3⟩:=ih _ dQ;refine⟨J,Int.dvd_trans h2 (Int.gcd_dvd_left ..),fun z hz=>?_⟩;rcases ZE.mp hz with rfl|hz;·exact Int.dvd_trans h2 (Int.gcd_dvd_right ..)
  ·exact h3 z hz
theorem T4{ys:List Int}{w:Int}(hw:0<w)(e:Nat):ld ys w e=0↔ys.getD e 0=0:=by
 have w0:(w:Rat)≠0:=by have:=intCast_pos hw;grind
 unfold ld;constructor
 ·intro q;rw[Zk]at q;rcases XJ.mp q with z|z;·exact_mod_cast z
  ·have:=Vw _ w0;rw[z]at this;grind
 ·intro q;rw[q];show(0:Rat)/_=0;grind
theorem Uo{ys:List Int}{w:Int}(hw:0<w)(e:Nat):ld ys w e*(w:Rat)=(ys.getD e 0:Rat):=by
 have w0:(w:Rat)≠0:=by have:=intCast_pos hw;grind
 unfold ld;rw[Zk,UD,Tf _ w0,Vv]
theorem Js{ys:List Int}{w:Int}(hw:0<w)(e:Nat):0<=ld ys w e↔0<=ys.getD e 0:=by
 have wp:=intCast_pos hw;have h:=Uo (ys:=ys) hw e;constructor
 ·intro q;have:=W5 q (Yy wp);rw[h]at this;exact_mod_cast this
 ·intro q;have q:=Sw q;unfold ld;exact Rl q wp
theorem Lx{ys:List Int}{w:Int}(hw:0<w)(e:Nat):ld ys w e<0↔ys.getD e 0<0:=by
 have:=Js (ys:=ys) hw e;constructor
 ·intro q;by_cases z:0<=ys.getD e 0
  ·have:=this.mpr z;grind
  ·omega
 ·intro q;by_cases z:0<=ld ys w e
  ·have:=this.mp z;omega
  ·grind
structure D7(xs ys:List Int)(k i:Nat):Prop where
 lt:k<i
 neg:ys.getD k 0<0
 mn:∀e,e<i->ys.getD e 0<0->xs.getD k 0*(-ys.getD e 0)<=xs.getD e 0*(-ys.getD k 0)
theorem D7.first{xs ys:List Int}{i:Nat}(h:∀e,e<i->¬ys.getD e 0<0)(hi:ys.getD i 0<0):D7 xs ys i (i+1):=
 ⟨VR _,hi,fun e he hn=>by
  by_cases q:e<i;·exact absurd hn (h e q)
  ·obtain rfl:e=i:=by omega
   exact UT _⟩
theorem D7.skip{xs ys:List Int}{k i:Nat}(E:D7 xs ys k i)(hi:¬ys.getD i 0<0):D7 xs ys k (i+1):=
 ⟨XW E.lt,E.neg,fun e he hn=>by
  by_cases q:e<i;·exact E.mn e q hn
  ·obtain rfl:e=i:=by omega
   exact absurd hn hi⟩
theorem D7.keep{xs ys:List Int}{k i:Nat}(E:D7 xs ys k i)(h:¬xs.getD i 0*ys.getD k 0>xs.getD k 0*ys.getD i 0):D7 xs ys k (i+1):=
 ⟨XW E.lt,E.neg,fun e he hn=>by
  by_cases q:e<i;·exact E.mn e q hn
  ·obtain rfl:e=i:=by omega
   rw[Int.mul_neg,Int.mul_neg];omega⟩
theorem D7.take{xs ys:List Int}{k i:Nat}(E:D7 xs ys k i)(hi:ys.getD i 0<0)(h:xs.getD i 0*ys.getD k 0>xs.getD k 0*ys.getD i 0):D7 xs ys i (i+1):=
 ⟨VR _,hi,fun e he hn=>by
  by_cases q:e<i
  ·have J:=E.mn e q hn;have nk:=E.neg;generalize xs.getD i 0=a at*;generalize xs.getD k 0=b at*;generalize xs.getD e 0=c at*;generalize ys.getD k 0=y at*;generalize ys.getD i 0=z at*;generalize ys.getD e 0=u at*;have s1:(b*(-u))*(-z)<=(c*(-y))*(-z):=Int.mul_le_mul_of_nonneg_right J (by omega);have s2:(a*(-y))*(-u)<=(b*(-z))*(-u):=Int.mul_le_mul_of_nonneg_right (by rw[Int.mul_neg,Int.mul_neg];omega) (by omega);have e1:(a*(-y))*(-u)=(a*(-u))*(-y):=by grind
   have e2:(b*(-z))*(-u)=(b*(-u))*(-z):=by grind
   have e3:(c*(-y))*(-z)=(c*(-z))*(-y):=by grind
   have y0:0< -y:=by omega
   have s3:(a*(-u))*(-y)<=(c*(-z))*(-y):=by rw[<-e1,<-e3];rw[e2]at s2;exact Int.le_trans s2 s1
   exact Int.le_of_mul_le_mul_right s3 y0
  ·obtain rfl:e=i:=by omega
   exact UT _⟩
theorem F'{xs ys:List Int}{wx wy:Int}(hx:0<wx)(hy:0<wy){k:Nat}(xk:0<=xs.getD k 0)(yk:ys.getD k 0<0){zs:List Int}{e:Nat}(hz:zs.getD e 0=ys.getD e 0*xs.getD k 0-xs.getD e 0*ys.getD k 0):0<xs.getD k 0*wy-ys.getD k 0*wx/\ld zs (xs.getD k 0*wy-ys.getD k 0*wx) e=(ld xs wx e*(-ld ys wy k)+ld xs wx k*ld ys wy e)/(ld xs wx k-ld ys wy k):=by
 have F_:0<xs.getD k 0*wy-ys.getD k 0*wx:=by
  have J:0<=xs.getD k 0*wy:=Int.mul_nonneg xk (by omega);have h2:0<(-ys.getD k 0)*wx:=US (by omega) hx;rw[Int.neg_mul]at h2;omega
 refine⟨F_,?_⟩;have px:=intCast_pos hx;have py:=intCast_pos hy;have pw:=intCast_pos F_;have a1:=Uo (ys:=xs) hx e;have a2:=Uo (ys:=xs) hx k;have a3:=Uo (ys:=ys) hy e;have a4:=Uo (ys:=ys) hy k;have a5:=Uo (ys:=zs) F_ e;rw[hz,UE,Zn,Zn,UE,Zn,Zn,<-a1,<-a2,<-a3,<-a4]at a5;have kp:0<ld xs wx k-ld ys wy k:=by
  have J:=(Js (ys:=xs) hx k).mpr xk;have h2:=(Lx (ys:=ys) hy k).mpr yk;grind
 generalize ld zs (xs.getD k 0*wy-ys.getD k 0*wx) e=z at*;generalize ld xs wx e=p at*;generalize ld xs wx k=q at*;generalize ld ys wy e=r at*;generalize ld ys wy k=u at*;generalize(wx:Rat)=a at*;generalize(wy:Rat)=b at*;have key:z*(q-u)*(a*b)=(p*(-u)+q*r)*(a*b):=by grind
 have ab:0<a*b:=VN px py;have kx:z*(q-u)=p*(-u)+q*r:=by
  have:(z*(q-u)-(p*(-u)+q*r))*(a*b)=0:=by grind
  rcases XJ.mp this with h|h;·grind
  ·grind
 rw[<-kx,Zk,UD,Vw _ (by grind),Vv]
theorem Bd.fdiv{n:Nat}{x y:Int}(hy:0<y)(h:Bd n x):Bd n (x.fdiv y):=by
 rw[Int.fdiv_eq_ediv_of_nonneg x (by omega)];exact h.div
theorem v9{n:Nat}{rows:List (List Int)}(R:Rk n (n+1) rows)(PD:Sy n (fun i j=>(ent rows i j:Rat))){b:Nat}(O:∀i,i<n->∀j,j<n+1->Bd b (ent rows i j)):∀k,k<=n->(Rk n (n+1) (Yc k rows).1/\0<(Yc k rows).2/\∀i,i<n->∀j,j<n+1->Bd (2^k*(b+1)-1) (ent (Yc k rows).1 i j)):=by
 intro k;induction k with
 |zero=>
  intro _;exact⟨R,Int.one_pos,fun i hi j hj=>(O i hi j hj).mono (by omega)⟩
 |succ k ih=>
  intro hk;obtain⟨J,h2,h3⟩:=ih (by omega);obtain⟨V,lam,B⟩:=xI.run R PD (k+1) hk;refine⟨B.Im,B.pos,fun i hi j hj=>?_⟩;show Bd _ (ent (Vh k (Yc k rows).2 (Yc k rows).1) i j);rw[Nz J (by omega) hi hj];have e:2^(k+1)*(b+1)=2^k*(b+1)+2^k*(b+1):=by rw[Nat.pow_succ];grind
  have e1:1<=2^k*(b+1):=Nat.mul_pos (Nat.pow_pos (by decide)) (by omega);split;·exact(h3 k (by omega) j hj).mono (by omega)
  ·refine Bd.fdiv h2 ?_;have a1:=(h3 k (by omega) k (by omega)).mul (h3 i hi j hj);have a2:=(h3 i hi k (by omega)).mul (h3 k (by omega) j hj);exact(a1.sub a2).mono (by omega)
theorem Sv{n:Nat}{rows:List (List Int)}(R:Rk n (n+1) rows)(PD:Sy n (fun i j=>(ent rows i j:Rat))){b:Nat}(hn:n<=6)(O:∀i,i<n->∀j,j<n+1->Bd b (ent rows i j))(k:Nat)(hk:k<=n):Rk n (n+1) (Yc k rows).1/\0<(Yc k rows).2/\∀i,i<n->∀j,j<n+1->Bd (64*(b+1)) (ent (Yc k rows).1 i j):=by
 obtain⟨J,h2,h3⟩:=v9 R PD O k hk;refine⟨J,h2,fun i hi j hj=>(h3 i hi j hj).mono ?_⟩;have:2^k*(b+1)<=64*(b+1):=Nat.mul_le_mul_right _ (show 2^k<=2^6 from Tn (by decide) (by omega));omega
theorem Qo:∀(A B:List Nat),A.Nodup->(∀e,e∈A->e∈B)->A.length<=B.length
 |[],B,_,_=>Zt _
 |a::A,B,nd,h=>by
  rw[Wf]at nd;have ha:=h a (by simp);have ih:=Qo A (B.erase a) nd.2 fun e he=>(List.mem_erase_of_ne (fun q=>nd.1 (by rw[<-q];exact he))).mpr (h e (by simp[he]));rw[List.length_erase_of_mem ha]at ih;have:0<B.length:=List.length_pos_of_mem ha;rw[Zg];omega
structure Ki(N:Net)(p x0:Nat->Rat)(U:List Nat)(x y h:Nat->Rat):Prop where
 Vo:N.Kk x
 lt:∀e,e∈U->e<N.m
 nd:U.Nodup
 rise:∀e,e∈U->p (N.fr e)<p (N.to e)
 Ro:N.U9 U y h
 off:∀e,e<N.m->e∉U->x e=0
 zz:∀e,e<N.m->x e=0->0<=y e
 o7:N.Po x<N.Po x0\/(N.Po x=N.Po x0/\∃e,e<N.m/\x e≠y e)
theorem Ki.done{N:Net}(ok:N.Ok){p x0 x y h:Nat->Rat}{U:List Nat}(S:Ki N p x0 U x y h)(nn:∀e,e<N.m->0<=y e):N.Good y h/\N.Po y<N.Po x0:=by
 refine⟨S.Ro.good nn,?_⟩;rcases S.o7 with f|⟨f,e,he,ne⟩
 ·have:=Net.wq ok S.Ro S.Vo.cons S.off;grind
 ·have:=Net.Ei ok S.Ro S.Vo.cons S.off he ne;grind
theorem Ki.move{N:Net}(ok:N.Ok){p x0 x y h:Nat->Rat}{U:List Nat}(S:Ki N p x0 U x y h){k:Nat}(hk:k<N.m)(yk:y k<0)(mn:∀e,e<N.m->y e<0->x k*(-y e)<=x e*(-y k)){x':Nat->Rat}(qM:∀e,e<N.m->x' e=(x e*(-y k)+x k*y e)/(x k-y k)){U':List Nat}(hU:∀e,e∈U'↔e<N.m/\x' e≠0)(nd:U'.Nodup):0<x k/\N.Kk x'/\N.O5 U'/\N.Yk U' N.t/\U'.length<U.length/\∀y' h',N.U9 U' y' h'->Ki N p x0 U' x' y' h':=by
 obtain⟨J,h2,h3,h4,h5,h6⟩:=Net.moved ok S.Vo S.Ro S.off S.zz hk yk mn qM;have sub:∀e,e∈U'->e∈U:=fun e he=>by
  obtain⟨a,b⟩:=(hU e).mp he;exact h5 e a b
 have kn:k∉U':=fun q=>((hU k).mp q).2 h3;refine⟨J,h2,?_,?_,?_,fun y' h' B=>?_⟩;·exact Net.Eh ok (p:=p) h2 (fun e he hx=>S.rise e (h5 e he hx)) hU
 ·obtain⟨e,he,ht,hx⟩:=Net.Ip ok h2;exact⟨e,(hU e).mpr ⟨he,hx⟩,.inr ht⟩
 ·have hl:=Qo U' (U.erase k) nd fun e he=>(List.mem_erase_of_ne (fun q=>kn (by rw[<-q];exact he))).mpr (sub e he);rw[List.length_erase_of_mem h4]at hl;have:0<U.length:=List.length_pos_of_mem h4;omega
 ·refine⟨h2,fun e he=>((hU e).mp he).1,nd,fun e he=>S.rise e (sub e he),B,fun e he hn=>?_,fun e he hx=>?_,.inl ?_⟩
  ·by_cases q:x' e=0;·exact q
   ·exact absurd ((hU e).mpr ⟨he,q⟩) hn
  ·rw[B.off e he (fun q=>((hU e).mp q).2 hx)];exact Ye
  ·rcases S.o7 with f|⟨f,_⟩<;>grind
theorem Ki.start{N:Net}(ok:N.Ok){x h Ze:Nat->Rat}{Ht:Nat->Prop}{X7:Nat->Nat}{T:Nat}{ks:Nat->Nat}{r:Nat}(G:N.Good x h)(D:N.V6 x h Ht Ze X7 T ks r){U:List Nat}(hU:∀e,e∈U↔e<N.m/\(x e≠0\/∃i,i<=r/\e=ks i))(nd:U.Nodup):N.O5 U/\N.Yk U N.t/\∃p,∀y h',N.U9 U y h'->Ki N p x U x y h':=by
 obtain⟨p,hp⟩:=D.rise ok G;refine⟨D.Kj ok G hU,?_,p,fun y h' B=>?_⟩
 ·obtain⟨e,he,ht,hx⟩:=Net.Ip ok G.Vo;exact⟨e,(hU e).mpr ⟨he,.inl hx⟩,.inr ht⟩
 ·have pos:=D.pos ok G hU B;refine⟨G.Vo,fun e he=>((hU e).mp he).1,nd,fun e he=>hp e ((hU e).mp he).1 ((hU e).mp he).2,B,fun e he hn=>?_,fun e he hx=>?_,.inr ⟨Y,ks 0,(D.emp 0 (Zt _)).1,?_⟩⟩
  ·by_cases q:x e=0;·exact q
   ·exact absurd ((hU e).mpr ⟨he,.inl q⟩) hn
  ·by_cases q:e∈U
   ·rcases((hU e).mp q).2 with z|⟨i,hi,rfl⟩;·exact absurd hx z
    ·exact Yy (pos i hi)
   ·rw[B.off e he q];exact Ye
  ·rw[(D.emp 0 (Zt _)).2];have:=pos 0 (Zt _);grind
theorem Net.V6.nodup{N:Net}{x h Ze:Nat->Rat}{Ht:Nat->Prop}{X7:Nat->Nat}{T:Nat}{ks:Nat->Nat}{r:Nat}(D:N.V6 x h Ht Ze X7 T ks r){L:List Nat}(hl:L.length=r+1)(hL:∀i,i<L.length->L.getD i 0=ks i):L.Nodup:=by
 rw[List.nodup_iff_pairwise_ne,Pj];intro i j hi hj JD q;have J:=hL i hi;have h2:=hL j hj;rw[ZW,ZT hi]at J;rw[ZW,ZT hj]at h2;have J:L[i]=ks i:=J;have h2:L[j]=ks j:=h2;have:=D.inj (i:=i) (j:=j) (by omega) (by omega) (by rw[<-J,<-h2,q]);omega
open RhRoads
theorem PM{n:Nat}{p:Nat->Bool}{i:Nat}(hi:i<n)(hp:p i=true)(h:∀j,j<i->p j=false):(List.range n).find? p=some i:=by
 rw[List.find?_eq_some_iff_append];refine⟨hp,List.range i,(List.range' (i+1) (n-i-1)),?_,fun a ha=>?_⟩
 ·have e1:List.range n=List.range' 0 n:=List.range_eq_range';have e2:List.range i=List.range' 0 i:=List.range_eq_range';rw[e1,e2];have:n=i+((n-i-1)+1):=by omega
  conv=>lhs;rw[this]
  rw[<-List.range'_append_1,List.range'_succ];simp
 ·rw[h a (YO.mp ha)];rfl
theorem U0{n:Nat}{p:Nat->Bool}(h:∀j,j<n->p j=false):(List.range n).find? p=none:=by
 rw[VW];intro a ha;rw[h a (YO.mp ha)];simp
theorem F9{l:Land}(q:Road×Nat->Bool):(l.roads.zipIdx.find? q).map (fun x=>x.2)=(List.range l.roads.length).find? fun e=>q (rd l e,e):=by
 rw[X' l.roads Wi,List.find?_map];cases h:(List.range l.roads.length).find? (q∘fun i=>(l.roads.getD i Wi,i))with
 |none=>
  rw[show(fun e=>q (rd l e,e))=(q∘fun i=>(l.roads.getD i Wi,i))from rfl,h];rfl
 |some e=>
  rw[show(fun e=>q (rd l e,e))=(q∘fun i=>(l.roads.getD i Wi,i))from rfl,h];rfl
def ME(l:Land)(f:Flow)(e:Nat):Bool:=decide (on f e<0)||((rd l e).shut&&on f e !=0)
def Kh(l:Land)(f:Flow)(v:Nat):Bool:=sumAt l f v !=due l v
noncomputable def N6(l:Land)(all:Bool)(f:Flow)(e:Nat):Bool:=on f e !=0&&(match costTo l all f (rd l e).from_,costTo l all f (rd l e).to_ with
 |some c,some g=>c+(rd l e).price all (on f e)!=g
 |_,_=>true)
theorem zp(l:Land)(all:Bool)(f:Flow):wrong l all f=match(List.range l.roads.length).find? (ME l f)with
 |some e=>some (1,e)
 |none=>match(List.range l.places).find? (Kh l f)with
  |some v=>some (2,v)
  |none=>((List.range l.roads.length).find? (N6 l all f)).map fun e=>(3,e):=by
 unfold wrong;have J:=F9 (l:=l) (fun(x:Road×Nat)=>decide (on f x.2<0)||(x.1.shut&&on f x.2!=0));have h3:=F9 (l:=l) (fun(x:Road×Nat)=>on f x.2!=0&&(match(costs l all f l.places).getD x.1.from_ none,(costs l all f l.places).getD x.1.to_ none with
  |some c,some g=>c+x.1.price all (on f x.2)!=g
  |_,_=>true))
 have e1:(fun e=>(fun(x:Road×Nat)=>decide (on f x.2<0)||(x.1.shut&&on f x.2!=0)) (rd l e,e))=ME l f:=rfl;rw[e1]at J;have e3:(List.range l.roads.length).find? (N6 l all f)=(List.range l.roads.length).find? fun e=>(fun(x:Road×Nat)=>on f x.2!=0&&(match(costs l all f l.places).getD x.1.from_ none,(costs l all f l.places).getD x.1.to_ none with
  |some c,some g=>c+x.1.price all (on f x.2)!=g
  |_,_=>true)) (rd l e,e):=rfl
 rw[e3,<-h3,<-J];cases hq:List.find? (fun(x:Road×Nat)=>decide (on f x.2<0)||(x.1.shut&&on f x.2!=0)) l.roads.zipIdx with
 |some x=>rfl
 |none=>
  show(match(List.range l.places).find? (fun(v:Nat)=>sumAt l f v !=due l v)with|some v=>some (2,v)|none=>_)=(match(List.range l.places).find? (Kh l f)with|some v=>some (2,v)|none=>_);rw[show(fun(v:Nat)=>sumAt l f v !=due l v)=Kh l f from rfl];cases(List.range l.places).find? (Kh l f)with
  |some v=>rfl
  |none=>
   show Option.map _ _=Option.map _ (Option.map _ _);rw[Option.map_map];rfl
end RR
namespace RR
theorem Jr(shape:Int->Option (Nat×Nat)):∀f,PyFlat.calls shape f []=some []
 |0=>rfl
 |_+1=>rfl
theorem Lw{shape:Int->Option (Nat×Nat)}{f:Nat}{p:Int}{r:List Int}{cs:List (List (List Int))}(h:PyFlat.calls shape f (p::r)=some cs):∃f' c t uw,f=f'+1/\PyFlat.call shape (p::r)=some (c,t)/\PyFlat.calls shape f' t=some uw/\cs=c::uw:=by
 cases f with
 |zero=>cases h
 |succ f=>
  have h:(match PyFlat.call shape (p::r)with|none=>none|some (c,t)=>match PyFlat.calls shape f t with|none=>none|some cs=>some (c::cs))=some cs:=h;cases hc:PyFlat.call shape (p::r)with
  |none=>rw [hc]at h;cases h
  |some x=>
   obtain⟨c,t⟩:=x;rw[hc]at h;have h:(match PyFlat.calls shape f t with|none=>none|some cs=>some (c::cs))=some cs:=h;cases ht:PyFlat.calls shape f t with
   |none=>rw [ht]at h;cases h
   |some uw=>
    rw[ht]at h;cases h;exact⟨f,c,t,uw,Y,Y,ht,Y⟩
inductive Cut:List Int->List (List Int)->List Int->Prop where
 |plain (p:Int) (a t:List Int) (n:Nat):PyWqagde.shape p=some (n,0)->a.length=n->Cut (p::(a++t)) [p::a] t
 |judge (q:Int) (a t:List Int):Cut (20::q::(a.length:Int)::(a++t)) [[20,q],a] t
def Ih:List (Int×Nat×Nat):=[(1,4,0),(2,4,0),(3,3,0),(4,3,0),(5,2,0),(6,1,0),(7,0,0),(8,0,0),(9,0,0),(10,0,0),(11,0,0),(12,0,0),(13,1,0),(14,1,0),(15,0,0),(16,1,0),(17,0,0),(18,1,0),(19,0,0),(20,1,1)]
theorem W2{p q:Int}{a x:Nat×Nat}{r:Option (Nat×Nat)}{L:List (Int×Nat×Nat)}(h:(if p=q then some a else r)=some x)(k:r=some x->(p,x)∈L):(p,x)∈(q,a)::L:=by
 by_cases c:p=q
 ·rw[Z7 c]at h;cases h;rw[c];exact YG
 ·rw[Z8 c]at h;exact Zf _ (k h)
theorem N5{p:Int}{x:Nat×Nat}(h:PyWqagde.shape p=some x):(p,x)∈Ih:=W2 h fun h=>W2 h fun h=>W2 h fun h=>W2 h fun h=>W2 h fun h=>W2 h fun h=>W2 h fun h=>W2 h fun h=>W2 h fun h=>W2 h fun h=>W2 h fun h=>W2 h fun h=>W2 h fun h=>W2 h fun h=>W2 h fun h=>W2 h fun h=>W2 h fun h=>W2 h fun h=>W2 h fun h=>W2 h fun h=>nomatch h
theorem F8{p:Int}{n k:Nat}(h:PyWqagde.shape p=some (n,k)):k=0\/(p=20/\n=1/\k=1):=
 (by decide:∀e∈Ih,e.2.2=0\/(e.1=20/\e.2.1=1/\e.2.2=1)) _ (N5 h)
theorem zo{l:List Int}{c:List (List Int)}{t:List Int}(h:PyFlat.call PyWqagde.shape l=some (c,t)):Cut l c t:=by
 cases l with
 |nil=>cases h
 |cons p r=>
  have h:(match PyWqagde.shape p with|none=>none|some (n,k)=>if r.length<n then none else match PyFlat.rows k (r.drop n)with|none=>none|some (xs,t)=>some ((p::r.take n)::xs,t))=some (c,t):=h;cases hs:PyWqagde.shape p with
  |none=>rw [hs]at h;cases h
  |some x=>
   obtain⟨n,k⟩:=x;rw[hs]at h;have h:(if r.length<n then none else match PyFlat.rows k (r.drop n)with|none=>none|some (xs,t)=>some ((p::r.take n)::xs,t))=some (c,t):=h;by_cases hl:r.length<n;·rw[Z7 hl]at h;cases h
   ·rw[Z8 hl]at h;rcases F8 hs with rfl|⟨rfl,rfl,rfl⟩
    ·have h:some ([p::r.take n],r.drop n)=some (c,t):=h;cases h;have:=Cut.plain p (r.take n) (r.drop n) n hs (by rw[Xt];omega);rw[List.take_append_drop]at this;exact this
    ·cases r with
     |nil=>exact absurd (show([]:List Int).length<1 by decide) hl
     |cons q r=>
      have h:(match PyFlat.rows 1 r with|none=>none|some (xs,t)=>some ((20::[q])::xs,t))=some (c,t):=h;cases r with
      |nil=>cases h
      |cons m r=>
       have e:PyFlat.rows 1 (m::r)=if 0<=m/\m.toNat<=r.length then some ([r.take m.toNat],r.drop m.toNat)else none:=by
        show(match PyFlat.row (m::r)with|none=>none|some (x,s)=>match PyFlat.rows 0 s with|none=>none|some (xs,t)=>some (x::xs,t))=_;show(match(if 0<=m/\m.toNat<=r.length then some (r.take m.toNat,r.drop m.toNat)else none)with|none=>none|some (x,s)=>match PyFlat.rows 0 s with|none=>none|some (xs,t)=>some (x::xs,t))=_;by_cases g:0<=m/\m.toNat<=r.length;·rw[Z7 g,Z7 g];rfl
        ·rw[Z8 g,Z8 g]
       rw[e]at h;by_cases g:0<=m/\m.toNat<=r.length
       ·rw[Z7 g]at h;cases h;have:=Cut.judge q (r.take m.toNat) (r.drop m.toNat);rw[List.take_append_drop,Xt]at this;have e2:((min m.toNat r.length:Nat):Int)=m:=by omega
        rw[e2]at this;exact this
       ·rw[Z8 g]at h;cases h
def qK(p:Int)(n:Nat):Prop:=∀a:List Int,a.length=n->PyWqagde.whole [p::a]=[p::a]
theorem Ig{p:Int}(h:PyWqagde.whole [[p]]=[[p]]):qK p 0:=fun a e=>match a,e with|[],_=>h
theorem zm{p:Int}(h:∀x,PyWqagde.whole [[p,x]]=[[p,x]]):qK p 1:=fun a e=>match a,e with|[x],_=>h x
theorem kr{p:Int}(h:∀x y,PyWqagde.whole [[p,x,y]]=[[p,x,y]]):qK p 2:=fun a e=>match a,e with|[x,y],_=>h x y
theorem o6{p:Int}(h:∀x y z,PyWqagde.whole [[p,x,y,z]]=[[p,x,y,z]]):qK p 3:=fun a e=>match a,e with|[x,y,z],_=>h x y z
theorem o5{p:Int}(h:∀x y z u,PyWqagde.whole [[p,x,y,z,u]]=[[p,x,y,z,u]]):qK p 4:=fun a e=>match a,e with|[x,y,z,u],_=>h x y z u
theorem X0{P:Int×Nat×Nat->Prop}{x:Int×Nat×Nat}{L:List (Int×Nat×Nat)}(h:P x)(k:∀e∈L,P e):∀e∈x::L,P e:=List.forall_mem_cons.mpr ⟨h,k⟩
theorem v8:∀e∈Ih,e.2.2=0->qK e.1 e.2.1:=X0 (fun _=>o5 fun _ _ _ _=>rfl) (X0 (fun _=>o5 fun _ _ _ _=>rfl) (X0 (fun _=>o6 fun _ _ _=>rfl) (X0 (fun _=>o6 fun _ _ _=>rfl) (X0 (fun _=>kr fun _ _=>rfl) (X0 (fun _=>zm fun _=>rfl) (X0 (fun _=>Ig Y) (X0 (fun _=>Ig Y) (X0 (fun _=>Ig Y) (X0 (fun _=>Ig Y) (X0 (fun _=>Ig Y) (X0 (fun _=>Ig Y) (X0 (fun _=>zm fun _=>rfl) (X0 (fun _=>zm fun _=>rfl) (X0 (fun _=>Ig Y) (X0 (fun _=>zm fun _=>rfl) (X0 (fun _=>Ig Y) (X0 (fun _=>zm fun _=>rfl) (X0 (fun _=>Ig Y) (X0 (fun z=>nomatch z) (fun _ z=>nomatch z))))))))))))))))))))
theorem Bw{l:List Int}{c:List (List Int)}{t:List Int}(h:Cut l c t):PyWqagde.whole c=c:=by
 cases h with
 |plain p a t n hs hl=>exact v8 _ (N5 hs) rfl a hl
 |judge q a t=>rfl
theorem Jq:∀{cs:List (List (List Int))}{f:Nat}{l:List Int},PyFlat.calls PyWqagde.shape f l=some cs->cs.map PyWqagde.whole=cs
 |[],_,_,_=>rfl
 |c::cs,f,[],h=>by
  rw[Jr]at h;cases h
 |c::cs,f,p::r,h=>by
  obtain⟨f',c',t,uw,_,J,h2,h3⟩:=Lw h;cases h3;rw[Y1,Bw (zo J),Jq h2]
open RhRoads RoadSpec
theorem N4(p q:Nat):qr (p:Int) (q:Int)=(p:Rat)/(q:Rat):=by
 unfold qr;rw[Xy,Xy]
theorem v7{p q:Nat}(hq:0<q)(dP:q<=1000000)(hp:p<=1000000):0<=(p:Rat)/(q:Rat)/\((p:Rat)/(q:Rat)).num<=1000000/\((p:Rat)/(q:Rat)).den<=1000000:=by
 have h0:(0:Int)<(q:Int):=by omega
 refine⟨Rl (Vp p) (natCast_pos hq),?_,?_⟩
 ·rw[<-N4,Ik h0 rfl];have h2:=Int.ediv_le_self (b:=((Int.gcd (p:Int) (q:Int):Nat):Int)) (show(0:Int)<=(p:Int) by omega);omega
 ·have:((((p:Rat)/(q:Rat)).den:Nat):Int)<=1000000:=by
   rw[<-N4,LC h0 rfl];have h2:=Int.ediv_le_self (b:=((Int.gcd (p:Int) (q:Int):Nat):Int)) (show(0:Int)<=(q:Int) by omega);omega
  omega
theorem Zh.one{l:Land}(h:Zh l)(e:Nat)(f:Road->Road)(hf:∀r,Us l.places r->Us l.places (f r)):Zh (RoadSpec.one l e f):=by
 refine⟨h.p2,h.p6,h.s,h.t,h.st,h.u1,h.u2,?_,fun r hr=>?_⟩
 ·show(l.roads.modify e f).length<=9;rw[List.length_modify];exact h.r9
 ·have hr:r∈l.roads.modify e f:=hr;obtain⟨i,hi,rfl⟩:=XY.mp hr;rw[List.getElem_modify];rw[List.length_modify]at hi;have:=h.rs _ (WO hi);show Us l.places _;split;·exact hf _ this
  ·exact this
theorem D6{l:Land}(h:Zh l)(c:Call):Zh (changed l c).1:=by
 cases c with
 |road u v a b=>
  simp only[changed];split;·exact h
  ·split;·exact h
   ·split;·exact h
    ·rename_i J h2 h3;refine⟨h.p2,h.p6,h.s,h.t,h.st,h.u1,h.u2,?_,fun r hr=>?_⟩
     ·show(l.roads++[_]).length<=9;rw[ZF];have h3:¬9<=l.roads.length:=h3;simp;omega
     ·have hr:r∈l.roads++[_]:=hr;rcases Zj.mp hr with hr|hr;·exact h.rs r hr
      ·rw[Zm]at hr;subst hr;have h2:¬(1000<a\/b=0\/1000<b):=h2;exact⟨by show u<l.places;omega,by show v<l.places;omega,by show u≠v;omega,by show a<=1000;omega,by show 1<=b;omega,by show b<=1000;omega,by show(0:Rat)<=0;exact Ye,by show(0:Rat).num<=1000000;decide,by show(0:Rat).den<=1000000;decide⟩
 |change e a b=>
  simp only[changed];split;·exact h
  ·split;·exact h
   ·rename_i J h2;have h2:¬(1000<a\/b=0\/1000<b):=h2;exact h.one e _ fun r hr=>⟨hr.f,hr.t,hr.ne,by show a<=1000;omega,by show 1<=b;omega,by show b<=1000;omega,hr.tn,hr.ng,hr.td⟩
 |toll e p q=>
  simp only[changed];split;·exact h
  ·split;·exact h
   ·rename_i J h2;have h2:¬(q=0\/1000000<q\/1000000<p):=h2;obtain⟨t1,t2,t3⟩:=v7 (p:=p) (q:=q) (by omega) (by omega) (by omega);exact h.one e _ fun r hr=>⟨hr.f,hr.t,hr.ne,hr.base,hr.s1,hr.s2,t1,t2,t3⟩
 |shut e z=>
  simp only[changed];split;·exact h
  ·split;·exact h
   ·exact h.one e _ fun r hr=>⟨hr.f,hr.t,hr.ne,hr.base,hr.s1,hr.s2,hr.tn,hr.ng,hr.td⟩
 |demand d=>
  simp only[changed];split;·exact h
  ·rename_i J;have J:¬(d=0\/1000<d):=J;exact⟨h.p2,h.p6,h.s,h.t,h.st,by show 1<=d;omega,by show d<=1000;omega,h.r9,h.rs⟩
 |_=>exact h
theorem zk{l:Land}(h:Zh l){d:Nat}(J:1<=d)(h2:d<=1000):Zh {l with units:=d}:=
 ⟨h.p2,h.p6,h.s,h.t,h.st,J,h2,h.r9,h.rs⟩
theorem CI{l:Land}(h:Zh l)(e:Nat):Zh (RoadSpec.one l e fun(r:Road)=>{r with shut:=true}):=
 h.one e _ fun r hr=>⟨hr.f,hr.t,hr.ne,hr.base,hr.s1,hr.s2,hr.tn,hr.ng,hr.td⟩
theorem v5{s:State}(h:∀l,s=some l->Zh l)(c:Call):∀l,(RoadSpec.step s c).1=some l->Zh l:=by
 intro l hl;cases c with
 |land n a t d=>
  have hl:(if n<2\/6<n\/n<=a\/n<=t\/a=t\/d=0\/MOST<d then(s,no 1)else(some ⟨n,a,t,d,[]⟩,says 0)).1=some l:=hl;by_cases q:n<2\/6<n\/n<=a\/n<=t\/a=t\/d=0\/MOST<d
  ·rw[Z7 q]at hl;exact h l hl
  ·rw[Z8 q]at hl;have hl:some (⟨n,a,t,d,[]⟩:Land)=some l:=hl;cases hl;have q:¬(n<2\/6<n\/n<=a\/n<=t\/a=t\/d=0\/1000<d):=q;exact⟨by show 2<=n;omega,by show n<=6;omega,by show a<n;omega,by show t<n;omega,by show a≠t;omega,by show 1<=d;omega,by show d<=1000;omega,by show 0<=9;omega,fun r hr=>by cases hr⟩
 |_=>
  cases s with
  |none=>cases hl
  |some l0=>
   have hl:some (changed l0 _).1=some l:=hl;cases hl;exact D6 (h l0 Y) _
end RR
namespace RR
def setM(M:Nat->Nat->Int)(v j:Nat)(z:Int):Nat->Nat->Int:=fun a b=>if a=v/\b=j then z else M a b
noncomputable def Y2.dl(P:Y2)(S:Int)(e v u:Nat):Int:=if u=P.n then S/(P.lk e).slope*P.ic v e*(P.lk e).cost else S/(P.lk e).slope*P.ic v e*P.ic u e
theorem kq{P:Y2}(ok:P.Ok){e:Nat}(he:e<P.links.length)(S:Int)(M M1 M2 M3 M4 M5 M6:Nat->Nat->Int)(J:M1=setM M (P.lk e).tail (P.lk e).tail (M (P.lk e).tail (P.lk e).tail+S/(P.lk e).slope))(h2:M2=setM M1 (P.lk e).head (P.lk e).head (M1 (P.lk e).head (P.lk e).head+S/(P.lk e).slope))(h3:M3=setM M2 (P.lk e).tail (P.lk e).head (M2 (P.lk e).tail (P.lk e).head-S/(P.lk e).slope))(h4:M4=setM M3 (P.lk e).head (P.lk e).tail (M3 (P.lk e).head (P.lk e).tail-S/(P.lk e).slope))(h5:M5=setM M4 (P.lk e).tail P.n (M4 (P.lk e).tail P.n-S/(P.lk e).slope*(P.lk e).cost))(h6:M6=setM M5 (P.lk e).head P.n (M5 (P.lk e).head P.n+S/(P.lk e).slope*(P.lk e).cost)):∀v u,M6 v u=M v u+P.dl S e v u:=by
 have a1:=ok.lt e he;have a2:=ok.lh e he;have a3:=ok.ne e he;intro v u;unfold Y2.dl Y2.ic;generalize(P.lk e).tail=t at*;generalize(P.lk e).head=h at*;generalize S/(P.lk e).slope=w at*;generalize(P.lk e).cost=c at*;generalize P.n=n at*;subst J h2 h3 h4 h5 h6;have t1:¬t=n:=by omega
 have t2:¬h=n:=by omega
 have t3:¬h=t:=fun q=>a3 q.symm;have t4:¬n=t:=by omega
 have t5:¬n=h:=by omega
 unfold setM;by_cases v1:v=h
 ·subst v1;by_cases u1:u=n;·subst u1;simp[a3,t1,t2,t3,t4,t5]
  ·by_cases u2:u=v;·subst u2;simp[a3,t1,t2,t3,t4,t5]
   ·by_cases u3:u=t;·subst u3;simp[a3,t1,t2,t3,t4,t5];omega
    ·have u4:¬v=u:=fun q=>u2 q.symm;have u5:¬t=u:=fun q=>u3 q.symm;simp[a3,t1,t2,t3,t4,t5,u1,u2,u3,u4,u5]
 ·have v3:¬h=v:=fun q=>v1 q.symm;by_cases v2:v=t
  ·subst v2;by_cases u1:u=n;·subst u1;simp[a3,t1,t2,t3,t4,t5];grind
   ·by_cases u2:u=h;·subst u2;simp[a3,t1,t2,t3,t4,t5];omega
    ·by_cases u3:u=v;·subst u3;simp[a3,t1,t2,t3,t4,t5]
     ·have u4:¬v=u:=fun q=>u3 q.symm;have u5:¬h=u:=fun q=>u2 q.symm;simp[a3,t1,t2,t3,t4,t5,u1,u2,u3,u4,u5]
  ·have v4:¬t=v:=fun q=>v2 q.symm;simp[v1,v2,v3,v4]
def Y2.Um(P:Y2)(U:List Nat)(S:Int)(v u:Nat):Int:=Rj U (fun e=>P.dl S e v u)
theorem Bv(P:Y2)(U:List Nat)(e:Nat)(S:Int)(v u:Nat):P.Um (U++[e]) S v u=P.Um U S v u+P.dl S e v u:=Bz U e _
theorem zj(P:Y2)(U:List Nat)(S:Int)(v u:Nat):P.raw U S v u=(if u=P.n/\v=P.t then S*P.units else 0)+P.Um U S v u:=by
 unfold Y2.raw Y2.Um Y2.dl;by_cases q:u=P.n
 ·subst q;simp
 ·simp[q]
theorem vZ{U:List Nat}{f:Nat->Int}{b:Nat}:∀k,U.length<=2^k->(∀e,e∈U->Bd b (f e))->Bd (b+k) (Rj U f):=by
 have key:∀(U:List Nat),(∀e,e∈U->Bd b (f e))->(Rj U f).natAbs<=U.length*(2^b-1):=by
  intro U;induction U with
  |nil=>intro _;simp[Rj]
  |cons e U ih=>
   intro h;have J:=ih fun x hx=>h x (by simp[hx]);have h2:=h e (by simp);unfold Bd at h2;unfold Rj at J⊢;rw[Y1,To,Zg,Nat.add_mul,Nat.one_mul];have:=Int.natAbs_add_le (f e) (U.map f).sum;omega
 intro k hk h;have J:=key U h;unfold Bd;have p1:0<2^b:=Nat.pow_pos (by decide);have p2:0<2^k:=Nat.pow_pos (by decide);have h2:U.length*(2^b-1)<=2^k*(2^b-1):=Nat.mul_le_mul_right _ hk;have h3:2^k*(2^b-1)<2^(b+k):=by
  rw[Nat.pow_add,Nat.mul_comm (2^b)];exact Nat.mul_lt_mul_of_pos_left (by omega) p2
 omega
theorem zi(P:Y2)(v e:Nat):Bd 1 (P.ic v e):=by
 unfold Y2.ic Bd;split;·decide
 ·split<;>decide
structure Y2.Sz(P:Y2):Prop where
 n6:P.n<=6
 m9:P.links.length<=9
 c:∀e,e<P.links.length->Bd 300 (P.lk e).cost
 b:∀e,e<P.links.length->Bd 11 (P.lk e).slope
 u:Bd 300 P.units
theorem sE{P:Y2}(Z':P.Sz){U:List Nat}(hU:∀e,e∈U->e<P.links.length)(h9:U.length<=9){S:Int}(hS:Bd 100 S)(v u:Nat):Bd 410 (P.raw U S v u):=by
 rw[zj];have J:Bd 405 (P.Um U S v u):=by
  refine vZ 4 (by omega) fun e he=>?_;unfold Y2.dl;split;·exact((hS.div.mul (zi P v e)).mul (Z'.c e (hU e he))).mono (by omega)
  ·exact((hS.div.mul (zi P v e)).mul (zi P u e)).mono (by omega)
 have h2:Bd 405 (if u=P.n/\v=P.t then S*P.units else 0):=by
  split;·exact(hS.mul Z'.u).mono (by omega)
  ·exact Bd.zero _
 exact(h2.add J).mono (by omega)
def Ie(P:Y2)(U:List Nat):Int:=U.foldl (fun g e=>((Int.lcm g (P.lk e).slope:Nat):Int)) 1
theorem Jp(P:Y2)(U:List Nat)(e:Nat):Ie P (U++[e])=((Int.lcm (Ie P U) (P.lk e).slope:Nat):Int):=by
 unfold Ie;rw[List.foldl_append];rfl
theorem zg{a b:Int}{m n:Nat}(ha:0<a)(O:0<b)(hm:Bd m a)(hn:Bd n b):0<((Int.lcm a b:Nat):Int)/\a∣((Int.lcm a b:Nat):Int)/\b∣((Int.lcm a b:Nat):Int)/\Bd (m+n) ((Int.lcm a b:Nat):Int):=by
 refine⟨?_,Int.dvd_lcm_left ..,Int.dvd_lcm_right ..,?_⟩
 ·have:=Int.lcm_pos (m:=a) (n:=b) (by omega) (by omega);omega
 ·rw[<-Gf ha O];exact(hm.div).mul hn
theorem CH{P:Y2}(ok:P.Ok)(Z':P.Sz):∀(U:List Nat),(∀e,e∈U->e<P.links.length)->0<Ie P U/\(∀e,e∈U->(P.lk e).slope∣Ie P U)/\Bd (1+11*U.length) (Ie P U):=by
 intro U;generalize hn:U.length=n;induction n generalizing U with
 |zero=>
  intro _;obtain rfl:=Xu.mp hn;exact⟨Int.one_pos,fun e he=>(by cases he),Bd.one (by omega)⟩
 |succ n ih=>
  intro hU;have QN:U≠[]:=fun q=>by subst q;cases hn
  obtain⟨V,e,rfl⟩:∃V e,U=V++[e]:=⟨U.dropLast,U.getLast QN,(List.dropLast_concat_getLast QN).symm⟩;rw[ZF]at hn;have hn:V.length+1=n+1:=hn;obtain⟨J,h2,h3⟩:=ih V (by omega) fun x hx=>hU x (by simp[hx]);have he:=hU e (by simp);obtain⟨l1,l2,l3,l4⟩:=zg J (ok.b e he) h3 (Z'.b e he);rw[Jp];refine⟨l1,fun x hx=>?_,l4.mono (by omega)⟩;rcases Zj.mp hx with hx|hx;·exact Int.dvd_trans (h2 x hx) l2
  ·rw[Zm]at hx;subst hx;exact l3
noncomputable def Y2.MD(P:Y2)(x:Nat->Rat):Net:={P.XS with op:=fun e=>decide (x e≠0)}
theorem Y2.Ok.MD{P:Y2}(ok:P.Ok)(x:Nat->Rat):(P.MD x).Ok:=⟨ok.XS.hs,ok.XS.ht,ok.XS.st,ok.XS.hd,ok.XS.AO,ok.XS.zU,ok.XS.ne,ok.XS.hc,ok.XS.O⟩
structure Carry(P:Y2)(x h:Nat->Rat)(w:Int)(hg:Nat->Option Int)(r:Nat)(D:List Nat):Prop where
 val:∀v z,hg v=some z->(z:Rat)=h v*(w:Rat)
 F7:∀v z,hg v=some z->P.XS.Gb x v
 comp:∀j v c,j<=r->(P.MD x).Walk (fun _=>0) j v c->∃z,hg v=some z
 part:∀e,e∈D->∀j c,j<=r->(P.MD x).Walk (fun _=>0) j (P.lk e).tail c->∃z,hg (P.lk e).head=some z
section
variable{P:Y2}{h:Nat->Rat}{w:Int}{hg:Nat->Option Int}{r:Nat}{D ys:List Int}
theorem Carry.start{x:Nat->Rat}(G:P.XS.Good x h):Carry P x h w (fun v=>if v=P.s then some 0 else none) 0 []where
 val:=fun v z e=>by
  by_cases q:v=P.s
  ·rw[Z7 q]at e;cases e;have:h P.s=0:=G.hs;rw[q,this];show(0:Rat)=0*_;grind
  ·rw[Z8 q]at e;cases e
 F7:=fun v z e=>by
  by_cases q:v=P.s;·exact .inl q
  ·rw[Z8 q]at e;cases e
 comp:=fun j v c hj hw=>by
  obtain rfl:j=0:=by omega
  obtain⟨rfl,_⟩:=hw.zero;exact⟨0,Z7 Y⟩
 part:=fun e he=>by cases he
theorem Carry.keep{x:Nat->Rat}{D:List Nat}(C:Carry P x h w hg r D){e:Nat}(k:hg (P.lk e).tail=none\/∃z,hg (P.lk e).head=some z):Carry P x h w hg r (D++[e])where
 val:=C.val
 F7:=C.F7
 comp:=C.comp
 part:=fun f hf j c hj hw=>by
  rcases Zj.mp hf with hf|hf;·exact C.part f hf j c hj hw
  ·rw[Zm]at hf;subst hf;rcases k with k|k
   ·obtain⟨z,hz⟩:=C.comp j _ c hj hw;rw[k]at hz;cases hz
   ·exact k
theorem Carry.put{ys:List Int}{D:List Nat}(ok:P.Ok)(w0:0<w)(G:P.XS.Good (ld ys w) h)(C:Carry P (ld ys w) h w hg r D){e:Nat}(he:e<P.links.length)(hx:ys.getD e 0≠0){z:Int}(hz:hg (P.lk e).tail=some z)(hn:hg (P.lk e).head=none):Carry P (ld ys w) h w (Qu hg (P.lk e).head (z+(P.lk e).cost*w+(P.lk e).slope*ys.getD e 0)) r (D++[e])where
 val:=fun v y hy=>by
  unfold Qu at hy;by_cases q:v=(P.lk e).head
  ·rw[Z7 q]at hy;cases hy;have x0:ld ys w e≠0:=fun q=>hx ((T4 w0 e).mp q);have on:=G.on e he x0;have on:h (P.lk e).head-h (P.lk e).tail=((P.lk e).cost:Rat)+((P.lk e).slope:Rat)*ld ys w e:=on;have hv:=C.val _ z hz;have lm:=Uo (ys:=ys) w0 e;rw[q,Xz,Xz,Zn,Zn,hv,<-lm];generalize h (P.lk e).head=a at*;generalize h (P.lk e).tail=b at*;generalize ld ys w e=y at*;clear hz hn hx x0 G C;grind
  ·rw[Z8 q]at hy;exact C.val v y hy
 F7:=fun v y hy=>by
  unfold Qu at hy;by_cases q:v=(P.lk e).head;·exact .inr ⟨e,he,fun q=>hx ((T4 w0 e).mp q),.inr q.symm⟩
  ·rw[Z8 q]at hy;exact C.F7 v y hy
 comp:=fun j v c hj hw=>by
  obtain⟨y,hy⟩:=C.comp j v c hj hw;unfold Qu;by_cases q:v=(P.lk e).head;·exact⟨_,Z7 q⟩
  ·exact⟨y,by rw[Z8 q];exact hy⟩
 part:=fun f hf j c hj hw=>by
  unfold Qu;by_cases q:(P.lk f).head=(P.lk e).head;·exact⟨_,Z7 q⟩
  ·rw[Z8 q];rcases Zj.mp hf with hf|hf;·exact C.part f hf j c hj hw
   ·rw[Zm]at hf;subst hf;exact absurd rfl q
theorem Carry.next{x:Nat->Rat}{D:List Nat}(C:Carry P x h w hg r D)(all:∀e,e<P.links.length->x e≠0->e∈D):Carry P x h w hg (r+1) []where
 val:=C.val
 F7:=C.F7
 comp:=fun j v c hj hw=>by
  by_cases q:j<=r;·exact C.comp j v c q hw
  ·obtain rfl:j=r+1:=by omega
   obtain⟨e,c',he,ho,rfl,we,rfl⟩:=hw.cases;exact C.part e (all e he (ZD ho)) r c' (ZK _) we
 part:=fun e he=>by cases he
theorem Carry.done{x:Nat->Rat}(ok:P.Ok)(G:P.XS.Good x h)(C:Carry P x h w hg P.n []):m7 P x h w hg where
 val:=C.val
 uz:=fun v=>by
  constructor
  ·intro tv;have reach:∀v,(P.MD x).Reach v->∃z,hg v=some z:=fun v hv=>by
    obtain⟨k,c,hw⟩:=hv.walk (fun _=>0);obtain⟨k',c',hk,_,we⟩:=hw.short (ok.MD x) fun _ _ _=>Ye;exact C.comp k' v c' (by have:k'<P.n:=hk;omega) we
   have go:∀e,e<P.XS.m->x e≠0->(P.MD x).Reach (P.XS.fr e):=Net.NA ok.XS G.Vo (G.rise ok.XS) (R:=(P.MD x).Reach) (.s (N:=P.MD x)) fun e he hx hr=>.go (N:=P.MD x) e he (ZP hx) hr;rcases tv with rfl|⟨e,he,hx,q|q⟩;·exact reach _ (.s (N:=P.MD x))
   ·rw[<-q];exact reach _ (go e he hx)
   ·rw[<-q];exact reach _ (.go (N:=P.MD x) e he (ZP hx) (go e he hx))
  ·rintro⟨z,hz⟩;exact C.F7 v z hz
end
noncomputable def Y2.YC(P:Y2)(w C:Int)(hg:Nat->Option Int):Net where
 n:=P.n+1
 m:=P.links.length+P.n
 fr:=fun e=>if e<P.links.length then(P.lk e).tail else P.n
 to:=fun e=>if e<P.links.length then(P.lk e).head else e-P.links.length
 c:=fun e=>if e<P.links.length then(((P.lk e).cost*w:Int):Rat)else(((hg (e-P.links.length)).getD 0+C:Int):Rat)
 b:=fun _=>1
 op:=fun e=>if e<P.links.length then(hg (P.lk e).head).isNone else(hg (e-P.links.length)).isSome
 s:=P.n
 t:=0
 d:=1
noncomputable def VL(n:Nat)(C:Int)(Ze:Nat->Option Int):Nat->Option Rat:=fun v=>if v=n then some 0 else(Ze v).map fun z=>((z+C:Int):Rat)
structure Tb(P:Y2)(w C:Int)(hg:Nat->Option Int):Prop where
 w0:0<w
 lt:∀v z,hg v=some z->v<P.n
 nn:∀v z,hg v=some z->0<=z+C
theorem ko{P:Y2}{w C:Int}{hg:Nat->Option Int}(ok:P.Ok)(Z9:Tb P w C hg):∀e,e<(P.YC w C hg).m->(P.YC w C hg).op e=true->0<=(P.YC w C hg).c e:=fun e he ho=>by
 show 0<=(if e<P.links.length then(((P.lk e).cost*w:Int):Rat)else _);by_cases q:e<P.links.length
 ·rw[Z7 q];exact Sw (Int.mul_nonneg (ok.c e q) (SH Z9.w0))
 ·rw[Z8 q];have ho:(if e<P.links.length then(hg (P.lk e).head).isNone else(hg (e-P.links.length)).isSome)=true:=ho;rw[Z8 q]at ho;obtain⟨z,hz⟩:=Option.isSome_iff_exists.mp ho;rw[hz];exact Sw (Z9.nn _ z hz)
theorem kj{P:Y2}{w C:Int}{hg:Nat->Option Int}(ok:P.Ok):∀e,e<(P.YC w C hg).m->(P.YC w C hg).fr e<(P.YC w C hg).n/\(P.YC w C hg).to e<(P.YC w C hg).n/\(P.YC w C hg).fr e≠(P.YC w C hg).to e:=fun e he=>by
 show(if e<P.links.length then(P.lk e).tail else P.n)<P.n+1/\(if e<P.links.length then(P.lk e).head else e-P.links.length)<P.n+1/\(if e<P.links.length then(P.lk e).tail else P.n)≠(if e<P.links.length then(P.lk e).head else e-P.links.length);have he:e<P.links.length+P.n:=he;by_cases q:e<P.links.length
 ·rw[Z7 q,Z7 q];have:=ok.lt e q;have:=ok.lh e q;exact⟨by omega,by omega,ok.ne e q⟩
 ·rw[Z8 q,Z8 q];exact⟨by omega,by omega,by omega⟩
section
variable{P:Y2}{w C:Int}{hg Ze:Nat->Option Int}{r:Nat}
theorem sy(Z9:Tb P w C hg):BF (P.YC w C hg) (P.YC w C hg).c (VL P.n C hg) 0 0 where
 sound:=fun v c hv=>by
  unfold VL at hv;by_cases q:v=P.n
  ·rw[Z7 q]at hv;cases hv;subst q;exact⟨0,.nil _⟩
  ·rw[Z8 q]at hv;obtain⟨z,hz,rfl⟩:=Uv.mp hv;have hl:=Z9.lt v z hz;have nq:¬P.links.length+v<P.links.length:=by omega
   have e1:P.links.length+v-P.links.length=v:=by omega
   have wk:=(Net.Walk.nil (N:=P.YC w C hg) (P.YC w C hg).c);have f1:(P.YC w C hg).fr (P.links.length+v)=(P.YC w C hg).s:=by
    show(if P.links.length+v<P.links.length then _ else P.n)=P.n;rw[Z8 nq]
   have f2:(P.YC w C hg).to (P.links.length+v)=v:=by
    show(if P.links.length+v<P.links.length then _ else P.links.length+v-P.links.length)=v;rw[Z8 nq,e1]
   have f3:(P.YC w C hg).c (P.links.length+v)=((z+C:Int):Rat):=by
    show(if P.links.length+v<P.links.length then _ else(((hg (P.links.length+v-P.links.length)).getD 0+C:Int):Rat))=_;rw[Z8 nq,e1,hz];rfl
   rw[<-f1]at wk;have:=wk.snoc (show P.links.length+v<P.links.length+P.n by omega) (by
    show(if P.links.length+v<P.links.length then _ else(hg (P.links.length+v-P.links.length)).isSome)=true;rw[Z8 nq,e1,hz];rfl)
   rw[f2,f3]at this;refine⟨1,?_⟩;have z0:(0:Rat)+((z+C:Int):Rat)=((z+C:Int):Rat):=by grind
   rw[z0]at this;exact this
 comp:=fun j v c hj hw=>by
  obtain rfl:j=0:=by omega
  obtain⟨rfl,rfl⟩:=hw.zero;exact⟨0,Ye,Z7 Y⟩
 part:=fun e he=>by omega
theorem Su{v:Nat}{z:Int}(hv:v≠P.n)(h:Ze v=some z):VL P.n C Ze v=some (((z+C:Int)):Rat):=by
 unfold VL;rw[Z8 hv,h];rfl
theorem Ic{v:Nat}(hv:v≠P.n)(h:Ze v=none):VL P.n C Ze v=none:=by
 unfold VL;rw[Z8 hv,h];rfl
theorem uu(ok:P.Ok){i:Nat}(hi:i<P.links.length)(B:BF (P.YC w C hg) (P.YC w C hg).c (VL P.n C Ze) r i)(h:Ze (P.lk i).tail=none\/∃z,hg (P.lk i).head=some z):BF (P.YC w C hg) (P.YC w C hg).c (VL P.n C Ze) r (i+1):=by
 refine B.skip ?_;rcases h with h|⟨z,h⟩
 ·right;show VL P.n C Ze (if i<P.links.length then(P.lk i).tail else P.n)=none;rw[Z7 hi];have:=ok.lt i hi;exact Ic (by omega) h
 ·left;show(if i<P.links.length then(hg (P.lk i).head).isNone else _)=false;rw[Z7 hi,h];rfl
theorem oZ(ok:P.Ok){i:Nat}(hi:i<P.links.length)(B:BF (P.YC w C hg) (P.YC w C hg).c (VL P.n C Ze) r i){a b:Int}(ha:Ze (P.lk i).tail=some a)(O:Ze (P.lk i).head=some b)(h:b<=a+(P.lk i).cost*w):BF (P.YC w C hg) (P.YC w C hg).c (VL P.n C Ze) r (i+1):=by
 have l1:=ok.lt i hi;have l2:=ok.lh i hi;refine B.keep (c:=((a+C:Int):Rat)) (d:=((b+C:Int):Rat)) ?_ ?_ ?_
 ·show VL P.n C Ze (if i<P.links.length then(P.lk i).tail else P.n)=_;rw[Z7 hi];exact Su (by omega) ha
 ·show VL P.n C Ze (if i<P.links.length then(P.lk i).head else i-P.links.length)=_;rw[Z7 hi];exact Su (by omega) O
 ·show _<=_+(if i<P.links.length then(((P.lk i).cost*w:Int):Rat)else _);rw[Z7 hi,<-Xz];exact QR.mpr (by omega)
theorem kh(ok:P.Ok){i:Nat}(hi:i<P.links.length)(B:BF (P.YC w C hg) (P.YC w C hg).c (VL P.n C Ze) r i){a:Int}(ha:Ze (P.lk i).tail=some a)(hh:hg (P.lk i).head=none)(h:∀b,Ze (P.lk i).head=some b->a+(P.lk i).cost*w<b):BF (P.YC w C hg) (P.YC w C hg).c (VL P.n C (Qu Ze (P.lk i).head (a+(P.lk i).cost*w))) r (i+1):=by
 have l1:=ok.lt i hi;have l2:=ok.lh i hi;have et:(P.YC w C hg).to i=(P.lk i).head:=by
  show(if i<P.links.length then(P.lk i).head else i-P.links.length)=_;rw[Z7 hi]
 have ew:(P.YC w C hg).c i=(((P.lk i).cost*w:Int):Rat):=by
  show(if i<P.links.length then(((P.lk i).cost*w:Int):Rat)else _)=_;rw[Z7 hi]
 have:=B.put (show i<P.links.length+P.n by omega) (by
  show(if i<P.links.length then(hg (P.lk i).head).isNone else _)=true;rw[Z7 hi,hh];rfl) (c:=((a+C:Int):Rat)) (by
  show VL P.n C Ze (if i<P.links.length then(P.lk i).tail else P.n)=_;rw[Z7 hi];exact Su (by omega) ha) (fun d hd=>by
  rw[et]at hd;cases O:Ze (P.lk i).head with
  |none=>rw [Ic (by omega) O]at hd;cases hd
  |some b=>
   rw[Su (by omega) O]at hd;cases hd;rw[ew,<-Xz];exact QQ.mpr (by have:=h b O;omega))
 rw[et,ew,<-Xz]at this;refine(show RR.put (VL P.n C Ze) (P.lk i).head ((a+C+(P.lk i).cost*w:Int):Rat)=VL P.n C (Qu Ze (P.lk i).head (a+(P.lk i).cost*w))from ?_)▸this;funext u;unfold RR.put VL Qu;by_cases q:u=(P.lk i).head
 ·rw[Z7 q,Z8 (by omega),Z7 q];show some _=some _;congr 2;omega
 ·rw[Z8 q];by_cases z:u=P.n;·rw[Z7 z,Z7 z]
  ·rw[Z8 z,Z8 z,Z8 q]
theorem sx(fix:∀v z,hg v=some z->Ze v=some z)(Z9:Tb P w C hg)(B:BF (P.YC w C hg) (P.YC w C hg).c (VL P.n C Ze) r P.links.length):BF (P.YC w C hg) (P.YC w C hg).c (VL P.n C Ze) (r+1) 0:=by
 refine BF.next ?_;show BF _ _ _ r (P.links.length+P.n);have:∀k,BF (P.YC w C hg) (P.YC w C hg).c (VL P.n C Ze) r (P.links.length+k):=by
  intro k;induction k with
  |zero=>exact B
  |succ k ih=>
   have nq:¬P.links.length+k<P.links.length:=by omega
   have e1:P.links.length+k-P.links.length=k:=by omega
   show BF _ _ _ r (P.links.length+k+1);cases hk:hg k with
   |none=>
    refine ih.skip (.inl ?_);show(if P.links.length+k<P.links.length then _ else(hg (P.links.length+k-P.links.length)).isSome)=false;rw[Z8 nq,e1,hk];rfl
   |some z=>
    have hl:=Z9.lt k z hk;refine ih.keep (c:=0) (d:=((z+C:Int):Rat)) ?_ ?_ ?_
    ·show VL P.n C Ze (if P.links.length+k<P.links.length then _ else P.n)=_;rw[Z8 nq];exact Z7 rfl
    ·show VL P.n C Ze (if P.links.length+k<P.links.length then _ else P.links.length+k-P.links.length)=_;rw[Z8 nq,e1];exact Su (by omega) (fix k z hk)
    ·show _<=0+(if P.links.length+k<P.links.length then _ else(((hg (P.links.length+k-P.links.length)).getD 0+C:Int):Rat));rw[Z8 nq,e1,hk];show _<=0+((z+C:Int):Rat);grind
 exact this P.n
theorem oY(ok:P.Ok)(Z9:Tb P w C hg){i:Nat}(hi:i<P.links.length)(B:BF (P.YC w C hg) (P.YC w C hg).c (VL P.n C Ze) r i)(hr:P.n+1<=r){a:Int}(ha:Ze (P.lk i).tail=some a)(hh:hg (P.lk i).head=none):∃b,Ze (P.lk i).head=some b/\b<=a+(P.lk i).cost*w:=by
 have l1:=ok.lt i hi;have l2:=ok.lh i hi;have n0:0<P.n:=by omega
 have okx:(P.YC w C hg).n<=r:=hr;obtain⟨j,hj⟩:=B.sound ((P.YC w C hg).fr i) ((a+C:Int):Rat) (by
  show VL P.n C Ze (if i<P.links.length then(P.lk i).tail else P.n)=_;rw[Z7 hi];exact Su (by omega) ha)
 have key:(⟨(P.YC w C hg).n,(P.YC w C hg).m,(P.YC w C hg).fr,(P.YC w C hg).to,fun _=>0,fun _=>1,(P.YC w C hg).op,(P.YC w C hg).s,(P.YC w C hg).t,1⟩:Net).Ok:=
  ⟨VR _,by show 0<P.n+1;omega,by show P.n≠0;omega,by show(0:Rat)<1;grind,fun e he=>(kj (w:=w) (C:=C) (hg:=hg) ok e he).1,fun e he=>(kj (w:=w) (C:=C) (hg:=hg) ok e he).2.1,fun e he=>(kj (w:=w) (C:=C) (hg:=hg) ok e he).2.2,fun e he=>Ye,fun e he=>by show(0:Rat)<1;grind⟩
 have kg:(P.YC w C hg).op i=true:=by
  show(if i<P.links.length then(hg (P.lk i).head).isNone else _)=true;rw[Z7 hi,hh];rfl
 have wk:=hj.snoc (show i<P.links.length+P.n by omega) kg;have dO:(⟨(P.YC w C hg).n,(P.YC w C hg).m,(P.YC w C hg).fr,(P.YC w C hg).to,fun _=>0,fun _=>1,(P.YC w C hg).op,(P.YC w C hg).s,(P.YC w C hg).t,1⟩:Net).Walk (P.YC w C hg).c (j+1) ((P.YC w C hg).to i) (((a+C:Int):Rat)+(P.YC w C hg).c i):=by
  obtain⟨es,J,h2,h3⟩:=wk;refine⟨es,fun k hk=>?_,?_,h3⟩
  ·obtain⟨a1,a2,a3⟩:=J k hk;refine⟨a1,a2,?_⟩;rw[a3];cases k<;>rfl
  ·rw[<-h2];rfl
 obtain⟨k,c',hk,hle,hs⟩:=dO.short key (fun e he ho=>ko ok Z9 e he ho);have nH:(P.YC w C hg).Walk (P.YC w C hg).c k ((P.YC w C hg).to i) c':=by
  obtain⟨es,J,h2,h3⟩:=hs;refine⟨es,fun k hk=>?_,?_,h3⟩
  ·obtain⟨a1,a2,a3⟩:=J k hk;refine⟨a1,a2,?_⟩;rw[a3];cases k<;>rfl
  ·rw[<-h2];cases k<;>rfl
 obtain⟨d,J,h2⟩:=B.comp k _ c' (by have:k<P.n+1:=hk;omega) nH;have et:(P.YC w C hg).to i=(P.lk i).head:=by
  show(if i<P.links.length then(P.lk i).head else i-P.links.length)=_;rw[Z7 hi]
 have ew:(P.YC w C hg).c i=(((P.lk i).cost*w:Int):Rat):=by
  show(if i<P.links.length then(((P.lk i).cost*w:Int):Rat)else _)=_;rw[Z7 hi]
 rw[et]at h2;cases O:Ze (P.lk i).head with
 |none=>rw [Ic (by omega) O]at h2;cases h2
 |some b=>
  rw[Su (by omega) O]at h2;cases h2;refine⟨b,Y,?_⟩;rw[ew]at hle;have:((b+C:Int):Rat)<=((a+C+(P.lk i).cost*w:Int):Rat):=by
   rw[Xz (a+C)];grind
  have:=QR.mp this;omega
end
theorem D5(n:Nat)(hg:Nat->Option Int):∃C:Int,0<=C/\∀v,v<n->∀z,hg v=some z->0<=z+C:=by
 induction n with
 |zero=>exact ⟨0,UT _,fun v hv=>by omega⟩
 |succ n ih=>
  obtain⟨C,c0,hC⟩:=ih;refine⟨C+((hg n).getD 0).natAbs,by omega,fun v hv z hz=>?_⟩;by_cases q:v<n
  ·have:=hC v q z hz;omega
  ·have:v=n:=by omega
   subst this;rw[hz];show 0<=z+(C+z.natAbs);omega
theorem Net.Way.oX{N:Net}(ok:N.Ok){X7:Nat->Nat}{ks:Nat->Nat}{r:Nat}(W:N.Way X7 ks r){U:List Nat}(hU:∀e,e∈U↔∃i,i<=r/\e=ks i){y h:Nat->Rat}(B:N.U9 U y h):∀i,i<=r->y (ks i)=N.d:=by
 let x:Nat->Rat:=fun e=>if e∈U then N.d else 0
 have F:N.Kk x:=W.Vo ok (fun i hi=>Z7 ((hU _).mpr ⟨i,hi,Y⟩)) fun e he hn=>Z8 fun q=>by
  obtain⟨i,hi,rfl⟩:=(hU e).mp q;exact hn i hi rfl
 have zz:∀v,v<N.n->N.dv (fun e=>y e-x e) v=0:=fun v hv=>by
  have J:=B.cons v hv;have h2:=F.cons v hv;have:N.dv (fun e=>y e-x e) v=N.dv y v-N.dv x v:=by
   unfold Net.dv;rw[<-WB];exact ZO fun e _=>by grind
  rw[this,J,h2];grind
 have off:∀e,e<N.m->e∉U->y e-x e=0:=fun e he hn=>by
  have:x e=0:=Z8 hn;rw[B.off e he hn,this];grind
 have key:∀i,i<=r->y (ks i)-x (ks i)=0:=by
  intro i;induction i using Nat.strongRecOn with
  |ind i ih=>
   intro hi;have hv:N.to (ks i)<N.n:=ok.zU _ (W.lt i hi);have hd:=zz _ hv;have e:N.dv (fun e=>y e-x e) (N.to (ks i))=sm N.m (fun e=>if e=ks i then y e-x e else 0):=by
    refine ZO fun e he=>?_;show N.inc (N.to (ks i)) e*(y e-x e)=_;by_cases q:e=ks i
    ·subst q;rw[Z7 rfl];unfold Net.inc;rw[Z7 rfl];grind
    ·rw[Z8 q];by_cases hu:e∈U
     ·obtain⟨j,hj,rfl⟩:=(hU e).mp hu;by_cases ji:j<i
      ·rw[ih j ji hj];grind
      ·have jne:j≠i:=fun z=>q (by rw[z]);have gZ:i<j:=by omega
       have n1:¬N.to (ks j)=N.to (ks i):=fun z=>by
        have:=W.LF i j gZ hj;rw[z]at this;omega
       have n2:¬N.fr (ks j)=N.to (ks i):=fun z=>by
        have J:=W.rise j hj;have h2:=W.LF i j gZ hj;rw[z]at J;omega
       unfold Net.inc;rw[Z8 n1,Z8 n2];grind
     ·rw[off e he hu];grind
   rw[e,YF (W.lt i hi)]at hd;exact hd
 intro i hi;have J:=key i hi;have h2:x (ks i)=N.d:=Z7 ((hU _).mpr ⟨i,hi,Y⟩);rw[h2]at J;grind
theorem Net.Way.good{N:Net}(ok:N.Ok){X7:Nat->Nat}{ks:Nat->Nat}{r:Nat}(W:N.Way X7 ks r){U:List Nat}(hU:∀e,e∈U↔∃i,i<=r/\e=ks i){y h:Nat->Rat}(B:N.U9 U y h):N.Good y h:=
 B.good fun e he=>by
  by_cases hu:e∈U
  ·obtain⟨i,hi,rfl⟩:=(hU e).mp hu;rw[W.oX ok hU B i hi];exact Yy ok.hd
  ·rw[B.off e he hu];exact Ye
open RhRoads
theorem Bu{L:List Nat}(nd:L.Nodup){i j:Nat}(hi:i<L.length)(hj:j<L.length)(e:L[i]=L[j]):i=j:=by
 have h:=Pj.mp nd;by_cases a:i<j;·exact absurd e (h i j hi hj a)
 ·by_cases b:j<i;·exact absurd e.symm (h j i hj hi b)
  ·omega
noncomputable def opens(l:Land):List Nat:=(List.range l.roads.length).filter fun e=>!(rd l e).shut
theorem UC{l:Land}{e:Nat}:e∈opens l↔e<l.roads.length/\(rd l e).shut=false:=by
 unfold opens;rw[XI,YO];simp
theorem T3(l:Land):(opens l).Nodup:=Mr _ RI
structure Ss(l:Land)(all:Bool)(qs:List Rat)(bs:List Int):Prop where
 ql:qs.length=l.roads.length
 bl:bs.length=l.roads.length
 q:∀e,e<l.roads.length->qs.getD e 0=(rd l e).first all
 b:∀e,e<l.roads.length->(bs.getD e 0:Rat)=(rd l e).each all
 b0:∀e,e<l.roads.length->0<bs.getD e 0
 bn:∀e,e<l.roads.length->Bd 31 (qs.getD e 0).num
 bd:∀e,e<l.roads.length->Bd 20 (qs.getD e 0).den
 bb:∀e,e<l.roads.length->Bd 11 (bs.getD e 0)
def Ib(qs:List Rat):Int:=qs.foldl (fun g q=>((Int.lcm g q.den:Nat):Int)) 1
theorem Jo(qs:List Rat)(q:Rat):Ib (qs++[q])=((Int.lcm (Ib qs) q.den:Nat):Int):=by
 unfold Ib;rw[List.foldl_append];rfl
theorem CG:∀(n:Nat)(qs:List Rat),qs.length=n->(∀q,q∈qs->Bd 20 q.den)->0<Ib qs/\(∀q,q∈qs->(q.den:Int)∣Ib qs)/\Bd (1+20*n) (Ib qs):=by
 intro n;induction n with
 |zero=>
  intro qs h _;obtain rfl:=Xu.mp h;exact⟨Int.one_pos,fun q hq=>(by cases hq),Bd.one (by omega)⟩
 |succ n ih=>
  intro qs h O;have QN:qs≠[]:=fun q=>by subst q;cases h
  obtain⟨V,e,rfl⟩:∃V e,qs=V++[e]:=⟨qs.dropLast,qs.getLast QN,(List.dropLast_concat_getLast QN).symm⟩;rw[ZF]at h;have h:V.length+1=n+1:=h;obtain⟨J,h2,h3⟩:=ih V (by omega) fun x hx=>O x (by simp[hx]);obtain⟨l1,l2,l3,l4⟩:=zg J (VM e) h3 (O e (by simp));rw[Jo];refine⟨l1,fun x hx=>?_,l4.mono (by omega)⟩;rcases Zj.mp hx with hx|hx;·exact Int.dvd_trans (h2 x hx) l2
  ·rw[Zm]at hx;subst hx;exact l3
def Ia(l:Land)(qs:List Rat)(bs:List Int)(g:Int)(e:Nat):Jt:=⟨(rd l e).from_,(rd l e).to_,(qs.getD e 0).num*(g/(qs.getD e 0).den),bs.getD e 0⟩
noncomputable def XG(l:Land)(qs:List Rat)(bs:List Int)(g:Int):Y2:=⟨l.places,l.source,l.goal,(l.units:Int)*g,(opens l).map (Ia l qs bs g)⟩
section
variable{l:Land}{all:Bool}{qs:List Rat}{bs:List Int}{g:Int}
theorem Yh:(XG l qs bs g).links.length=(opens l).length:=by
 show((opens l).map _).length=_;rw[Z3]
theorem Xx{j:Nat}(hj:j<(opens l).length):(XG l qs bs g).lk j=Ia l qs bs g ((opens l).getD j 0):=by
 unfold Y2.lk;show((opens l).map (Ia l qs bs g)).getD j _=_;exact getD_map _ _ j 0 _ hj
theorem V_{j:Nat}(hj:j<(opens l).length):(opens l).getD j 0<l.roads.length/\(rd l ((opens l).getD j 0)).shut=false:=UC.mp (getD_mem _ _ _ hj)
theorem dN(hl:Zh l)(A:Ss l all qs bs){e:Nat}(he:e<l.roads.length):0<=(qs.getD e 0).num:=by
 rw[A.q e he];exact Td.mpr ((U_ hl all).hc e he)
theorem Bt(hl:Zh l)(A:Ss l all qs bs)(hg:0<g):(XG l qs bs g).Ok where
 s:=hl.s
 t:=hl.t
 st:=hl.st
 u:=US (by have:=hl.u1;omega) hg
 lt:=fun j hj=>by
  rw[Yh]at hj;rw[Xx hj];exact(hl.rd (V_ hj).1).f
 lh:=fun j hj=>by
  rw[Yh]at hj;rw[Xx hj];exact(hl.rd (V_ hj).1).t
 ne:=fun j hj=>by
  rw[Yh]at hj;rw[Xx hj];exact(hl.rd (V_ hj).1).ne
 c:=fun j hj=>by
  rw[Yh]at hj;rw[Xx hj];exact Int.mul_nonneg (dN hl A (V_ hj).1) (Int.ediv_nonneg (SH hg) (SH (VM _)))
 b:=fun j hj=>by
  rw[Yh]at hj;rw[Xx hj];exact A.b0 _ (V_ hj).1
theorem Jn(hl:Zh l):(opens l).length<=9:=by
 have:=W3 l.roads.length (opens l) (T3 l) fun e he=>(UC.mp he).1;have:=hl.r9;omega
theorem Bs(hl:Zh l)(A:Ss l all qs bs)(bg:Bd 181 g):(XG l qs bs g).Sz where
 n6:=hl.p6
 m9:=by rw[Yh];exact Jn hl
 c:=fun j hj=>by
  rw[Yh]at hj;rw[Xx hj];exact((A.bn _ (V_ hj).1).mul bg.div).mono (by omega)
 b:=fun j hj=>by
  rw[Yh]at hj;rw[Xx hj];exact A.bb _ (V_ hj).1
 u:=by
  have J:Bd 10 (l.units:Int):=by
   unfold Bd;have:=hl.u2;omega
  exact(J.mul bg).mono (by omega)
theorem F6{q:Rat}{g:Int}(hd:(q.den:Int)∣g):((q.num*(g/q.den):Int):Rat)=q*(g:Rat):=by
 rw[Zn,S5 (VM q) hd];have J:=V5 q;have h2:=sL q;have h3:((q.den:Int):Rat)*((q.den:Int):Rat)⁻¹=1:=Vw _ h2;rw[Zk]at J⊢;conv=>rhs;rw[<-J]
 grind
theorem PL(hl:Zh l)(A:Ss l all qs bs)(hg:0<g)(hd:∀q,q∈qs->(q.den:Int)∣g):Sub (Za l all) (XG l qs bs g).XS (g:Rat) (fun j=>(opens l).getD j 0)where
 gp:=intCast_pos hg
 n:=rfl
 s:=rfl
 t:=rfl
 d:=by
  show(((l.units:Int)*g:Int):Rat)=(l.units:Rat)*(g:Rat);rw[Zn,Xy]
 lt:=fun j hj=>by
  have hj:j<(XG l qs bs g).links.length:=hj;rw[Yh]at hj;obtain⟨J,h2⟩:=V_ hj;refine⟨J,?_⟩;show(!(rd l _).shut)=true;rw[h2];rfl
 inj:=fun i j hi hj e=>by
  have hi:i<(XG l qs bs g).links.length:=hi;have hj:j<(XG l qs bs g).links.length:=hj;rw[Yh]at hi hj;have e:(opens l).getD i 0=(opens l).getD j 0:=e;rw[ZW,ZW,ZT hi,ZT hj]at e;have e:(opens l)[i]=(opens l)[j]:=e;exact Bu (T3 l) hi hj e
 all:=fun e he ho=>by
  have ho:(!(rd l e).shut)=true:=ho;have hm:e∈opens l:=UC.mpr ⟨he,by simpa using ho⟩;obtain⟨j,hj,q⟩:=XY.mp hm;refine⟨j,?_,?_⟩
  ·show j<(XG l qs bs g).links.length;rw[Yh];exact hj
  ·show(opens l).getD j 0=e;rw[ZW,ZT hj];exact q
 fr:=fun j hj=>by
  have hj:j<(XG l qs bs g).links.length:=hj;rw[Yh]at hj;show((XG l qs bs g).lk j).tail=_;rw[Xx hj];rfl
 to:=fun j hj=>by
  have hj:j<(XG l qs bs g).links.length:=hj;rw[Yh]at hj;show((XG l qs bs g).lk j).head=_;rw[Xx hj];rfl
 c:=fun j hj=>by
  have hj:j<(XG l qs bs g).links.length:=hj;rw[Yh]at hj;show(((XG l qs bs g).lk j).cost:Rat)=(rd l ((opens l).getD j 0)).first all*(g:Rat)
  obtain⟨J,h2⟩:=V_ hj;rw[Xx hj,<-A.q _ J];exact F6 (hd _ (getD_mem _ _ _ (by rw[A.ql];exact J)))
 b:=fun j hj=>by
  have hj:j<(XG l qs bs g).links.length:=hj;rw[Yh]at hj;show(((XG l qs bs g).lk j).slope:Rat)=(rd l ((opens l).getD j 0)).each all;obtain⟨J,h2⟩:=V_ hj;rw[Xx hj,<-A.b _ J];rfl
 op:=fun _ _=>rfl
noncomputable def Ri(l:Land)(ys:List Int)(w g:Int)(i e:Nat):Rat:=if e∈(opens l).take i then qr (ys.getD ((opens l).idxOf e) 0) (w*g)else 0
theorem H_(hl:Zh l)(A:Ss l all qs bs)(hg:0<g)(hd:∀q,q∈qs->(q.den:Int)∣g){ys:List Int}{w:Int}(hw:0<w)(R:(XG l qs bs g).XS.Wl (ld ys w)):settled l all=some ((List.range l.roads.length).map (Ri l ys w g (opens l).length)):=by
 refine Kl hl all ?_;refine Sub.rests (PL hl A hg hd) R (fun j hj=>?_) (fun e he ho=>?_)
 ·have hj:j<(XG l qs bs g).links.length:=hj;rw[Yh]at hj;show Ri l ys w g (opens l).length ((opens l).getD j 0)=ld ys w j/(g:Rat);unfold Ri;have hm:(opens l).getD j 0∈(opens l):=getD_mem _ _ _ hj;rw[XX,Z7 hm];have ix:(opens l).idxOf ((opens l).getD j 0)=j:=by
   rw[ZW,ZT hj];exact(T3 l).idxOf_getElem j hj
  rw[ix];unfold qr ld;rw[Zn,Zk,Zk,Zk,Vx];grind
 ·unfold Ri;rw[Z8];intro q;rw[XX]at q;have J:=(UC.mp q).2;have ho:(!(rd l e).shut)=false:=ho;rw[J]at ho;cases ho
theorem HZ(hl:Zh l)(A:Ss l all qs bs)(hg:0<g)(hd:∀q,q∈qs->(q.den:Int)∣g)(h:¬(XG l qs bs g).XS.Reach (XG l qs bs g).t):settled l all=none:=
 Iu hl all fun q=>h ((PL hl A hg hd).reach.mpr q)
end
theorem F5(l:Land)(f:Flow):total l f=sm l.roads.length (fun e=>on f e*(((rd l e).base:Rat)+((rd l e).slope:Rat)*on f e)):=by
 have:=JE l.roads Wi (fun(x:Road×Nat)=>on f x.2*((x.1.base:Rat)+(x.1.slope:Rat)*on f x.2));exact this
theorem D4(l:Land):∀(k:Nat)(W4:List Nat)(v:Nat),(waysFrom l k W4 v).Nodup:=by
 intro k;induction k with
 |zero=>exact fun W4 v=>Tq
 |succ k ih=>
  intro W4 v;by_cases h:v=l.goal
  ·show List.Nodup (if v=l.goal then[[]]else _);rw[Z7 h];simp
  ·rw[WK l k W4 v h];have hs:(X6 l W4 v).Nodup:=Mr _ RI;generalize X6 l W4 v=L at hs;induction L with
   |nil=>exact Tq
   |cons e L kD=>
    rw[Wf]at hs;rw[VU,List.nodup_append];refine⟨?_,kD hs.2,?_⟩
    ·refine Uw.mpr ((ih _ _).imp fun h q=>h ?_);injection q
    ·intro x hx y hy q;obtain⟨p,_,rfl⟩:=Y9.mp hx;obtain⟨f,hf,hy⟩:=List.mem_flatMap.mp hy;obtain⟨r,_,rfl⟩:=Y9.mp hy;injection q with q _
     exact hs.1 (q▸hf)
theorem Lv{p q r:Nat->Bool}:∀L:List Nat,(∀x,x∈L->p x=true->q x=false)->(∀x,x∈L->p x=true->r x=true)->(∀x,x∈L->q x=true->r x=true)->(L.filter p).length+(L.filter q).length<=(L.filter r).length
 |[],_,_,_=>by simp
 |x::L,J,h2,h3=>by
  have ih:=Lv L (fun y hy=>J y (Zf x hy)) (fun y hy=>h2 y (Zf x hy)) (fun y hy=>h3 y (Zf x hy));have a:=J x (YG ..);have b:=h2 x (YG ..);have c:=h3 x (YG ..);rw[YD,YD,YD];by_cases hp:p x=true
  ·rw[Z7 hp,Z8 (by rw[a hp];simp),Z7 (b hp)];simp;omega
  ·rw[Z8 hp];by_cases hq:q x=true
   ·rw[Z7 hq,Z7 (c hq)];simp;omega
   ·rw[Z8 hq];split;·simp;omega
    ·exact ih
noncomputable def Nw(l:Land)(W4:List Nat):Nat:=((List.range l.roads.length).filter fun e=>!W4.contains (rd l e).from_).length
theorem D1(l:Land)(W4:List Nat)(v:Nat)(hv:v∉W4):(X6 l W4 v).length+Nw l (v::W4)<=Nw l W4:=by
 unfold X6 Nw;refine Lv _ (fun x _ h=>?_) (fun x _ h=>?_) (fun x _ h=>?_)
 ·simp at h;simp[h.2.1]
 ·simp at h;simp[h.2.1,hv]
 ·simp at h;simp[h.2]
theorem gY:∀(N:Nat)(L:List Nat),(∀x,x∈L->x^3<=N)->∃B,B^3<=N/\∀x,x∈L->x<=B
 |N,[],_=>⟨0,by simp,fun x hx=>by cases hx⟩
 |N,y::L,h=>by
  obtain⟨B,b1,b2⟩:=gY N L fun x hx=>h x (Zf _ hx);by_cases q:y<=B
  ·refine⟨B,b1,fun x hx=>?_⟩;rcases ZE.mp hx with rfl|hx;·exact q
   ·exact b2 x hx
  ·refine⟨y,h y (YG ..),fun x hx=>?_⟩;rcases ZE.mp hx with rfl|hx;·exact ZK _
   ·have:=b2 x hx;omega
theorem F4{α β:Type}(f:α->List β)(B:Nat):∀L:List α,(∀x,x∈L->(f x).length<=B)->(L.flatMap f).length<=L.length*B
 |[],_=>by simp
 |x::L,h=>by
  rw[VU,ZF,Zg,Nat.succ_mul];have:=F4 f B L fun y hy=>h y (Zf _ hy);have:=h x (YG ..);omega
theorem vY:∀d:Nat,d<=9->d^3<=3^d:=by decide
theorem Br{l:Land}(hl:Zh l):∀(k:Nat)(W4:List Nat)(v:Nat),v∉W4->(waysFrom l k W4 v).length^3<=3^Nw l W4:=by
 intro k;induction k with
 |zero=>
  intro W4 v _;show 0^3<=_;simp
 |succ k ih=>
  intro W4 v hv;by_cases h:v=l.goal
  ·show(if v=l.goal then[[]]else _:List (List Nat)).length^3<=_;rw[Z7 h];show 1^3<=_;rw[Nat.one_pow];exact Nat.one_le_pow _ _ (by omega)
  ·rw[WK l k W4 v h];have key:∀e,e∈X6 l W4 v->((waysFrom l k (v::W4) (rd l e).to_).map fun w=>e::w).length^3<=3^Nw l (v::W4):=fun e he=>by
    obtain⟨_,_,_,h4,h5⟩:=QH.mp he;rw[Z3];refine ih _ _ fun q=>?_;rcases ZE.mp q with q|q;·exact h5 q
    ·exact h4 q
   obtain⟨B,b1,b2⟩:=gY (3^Nw l (v::W4)) ((X6 l W4 v).map fun e=>((waysFrom l k (v::W4) (rd l e).to_).map fun w=>e::w).length) fun x hx=>by
    obtain⟨e,he,rfl⟩:=Y9.mp hx;exact key e he
   have J:=F4 (fun e=>(waysFrom l k (v::W4) (rd l e).to_).map fun w=>e::w) B (X6 l W4 v) fun e he=>b2 _ (Y9.mpr ⟨e,he,Y⟩);have d9:(X6 l W4 v).length<=9:=by
    have:=Wg (fun e=>!(rd l e).shut&&((rd l e).from_==v&&!(W4.contains (rd l e).to_||(rd l e).to_==v))) (List.range l.roads.length);rw[Y_]at this;have:=hl.r9;unfold X6;omega
   refine ZA (Nat.pow_le_pow_left J 3) ?_;rw[Nat.mul_pow];refine ZA (Nat.mul_le_mul (vY _ d9) b1) ?_;rw[<-Nat.pow_add];exact Tn (by omega) (D1 l W4 v hv)
theorem F3{l:Land}(hl:Zh l):(ways l).length<64:=by
 have h:=Br hl (l.places+1) [] l.source (by simp);have h9:Nw l []<=9:=by
  have:=Wg (fun e=>!([]:List Nat).contains (rd l e).from_) (List.range l.roads.length);rw[Y_]at this;have:=hl.r9;unfold Nw;omega
 have h2:=ZA h (Tn (show 0<3 by omega) h9);by_cases q:(ways l).length<64;·exact q
 ·have:=Nat.pow_le_pow_left (Nat.not_lt.mp q) 3;have h2:(ways l).length^3<=3^9:=h2;omega
theorem Bq{l:Land}{a:Bool}(b:Bool){v:Nat}(h:(Za l a).Reach v):(Za l b).Reach v:=by
 induction h with
 |s=>exact Net.Reach.s (N:=Za l b)
 |go e he ho _ ih=>exact Net.Reach.go (N:=Za l b) e he ho ih
theorem Bp{l:Land}(ok:Zh l){all:Bool}{f:Flow}(h:(Za l all).Flow (on f)):0<total l f:=by
 rw[F5];have nn:∀e,e<l.roads.length->0<=on f e*(((rd l e).base:Rat)+((rd l e).slope:Rat)*on f e):=fun e he=>by
  have J:0<=on f e:=h.nn e he;have h2:(0:Rat)<=((rd l e).base:Rat):=Vp _;have h3:(0:Rat)<=((rd l e).slope:Rat):=Vp _;exact Te J (Rat.add_nonneg h2 (Te h3 J))
 by_cases q:sm l.roads.length (fun e=>on f e*(((rd l e).base:Rat)+((rd l e).slope:Rat)*on f e))<=0
 ·exfalso;have z:=Vq nn q;have z0:∀e,e<l.roads.length->on f e=0:=fun e he=>by
   by_cases c:on f e=0;·exact c
   ·have J:0<=on f e:=h.nn e he;have h2:(0:Rat)<=((rd l e).base:Rat):=Vp _;have h3:(0:Rat)<((rd l e).slope:Rat):=natCast_pos (ok.rd he).s1;have hp:0<on f e:=by grind
    have h5:=Rat.mul_pos h3 hp;have h6:0<on f e*(((rd l e).base:Rat)+((rd l e).slope:Rat)*on f e):=Rat.mul_pos hp (by grind);have:=z e he;grind
  have d:=h.cons l.goal ok.t;have e1:(Za l all).dv (on f) l.goal=0:=by
   unfold Net.dv;rw[ZO (g:=fun _=>0) fun e he=>by rw[z0 e he];grind];exact Xd _
  rw[e1]at d;have e2:(Za l all).due l.goal=(l.units:Rat):=Z7 rfl;rw[e2]at d;have:=natCast_pos ok.u1;grind
 ·exact Rat.not_le.mp q
theorem DZ{l:Land}(all:Bool):∀(k:Nat)(W4:List Nat)(v:Nat)(w:List Nat),w∈waysFrom l k W4 v->(Za l all).Reach v->(Za l all).Reach l.goal:=by
 intro k;induction k with
 |zero=>
  intro W4 v w hw _;cases hw
 |succ k ih=>
  intro W4 v w hw r;by_cases h:v=l.goal
  ·rw[<-h];exact r
  ·rw[WK l k W4 v h,List.mem_flatMap]at hw;obtain⟨e,he,hw⟩:=hw;obtain⟨x,hx,rfl⟩:=Y9.mp hw;obtain⟨J,h2,h3,_,_⟩:=QH.mp he;refine ih _ _ x hx ?_;refine Net.Reach.go (N:=Za l all) e J ?_ ?_
   ·show(!(rd l e).shut)=true;rw[h2];rfl
   ·show(Za l all).Reach (rd l e).from_;rw[h3];exact r
theorem Bo{l:Land}(all:Bool){w:List Nat}(h:w∈ways l):(Za l all).Reach l.goal:=DZ all _ _ _ w h (Net.Reach.s (N:=Za l all))
end RR
namespace L2
open PySem PySem.Spec PyProof.Rows
def WM:List Int->List Int->Bool
 |_,[]=>false
 |[],_::_=>true
 |a::p,b::q=>if a=b then WM p q else decide (a<b)
theorem QG(p:List Int):WM p []=false:=by cases p<;>rfl
theorem ints_cons{v:Value}{vs:List Value}{n:Int}{ns:List Int}(h:IntsAre (v::vs) (n::ns)):(∃t,v=.int n t)/\IntsAre vs ns:=by
 cases h with
 |cons _ t J=>exact ⟨⟨t,Y⟩,J⟩
theorem ints_get:∀{vs:List Value}{ns:List Int},IntsAre vs ns->∀i,i<vs.length->∃t,vs[i]?=some (.int (ns.getD i 0) t)
 |[],_,_,i,h=>absurd h (by simp)
 |v::vs,[],h,i,_=>by cases h
 |v::vs,n::ns,h,0,_=>by
  obtain⟨⟨t,rfl⟩,_⟩:=ints_cons h;exact⟨t,Y⟩
 |v::vs,n::ns,h,i+1,hi=>by
  obtain⟨_,h2⟩:=ints_cons h;exact ints_get h2 i (by simpa using hi)
theorem drop_getD{ns:List Int}{i:Nat}(h:i<ns.length):ns.drop i=ns.getD i 0::ns.drop (i+1):=by
 rw[List.drop_eq_getElem_cons h,ZW,ZT h];rfl
open AutoSeq1 (wpAny_loadPart')in
theorem sv{l b:Addr}{us vs:List Value}{n m:Nat}{ns ms:List Int}(hu:IntsAre us ns)(hv:IntsAre vs ms)(k:Nat):
 ∀i:Nat,us.length-i=k->i<=us.length->Meets (Builtin.«list.__eq__.loop» ⟨[.ref l,.ref b,rawInt i,rawInt 0],[]⟩)
  (fun _ R s=>s.heap.get? l=some (seqObj "list" us.toArray n)/\s.heap.get? b=some (seqObj "list" vs.toArray m)/\R (.ok (.ret (.bool (WM (ns.drop i) (ms.drop i))))) s):=by
 have ul:=hu.length;have vl:=hv.length;have key:∀i,i<=us.length->(∀prog w A R s,s.heap.get? l=some (seqObj "list" us.toArray n)/\s.heap.get? b=some (seqObj "list" vs.toArray m)/\R (.ok (.ret (.bool (WM (ns.drop (i+1)) (ms.drop (i+1)))))) s->i<us.length->
  codeAny (model prog w) A (.builtin "list.__eq__.loop" ⟨[.ref l,.ref b,rawInt ((i+1:Nat):Int),rawInt 0],[]⟩) R s)->Meets (Builtin.«list.__eq__.loop» ⟨[.ref l,.ref b,rawInt i,rawInt 0],[]⟩)
  (fun _ R s=>s.heap.get? l=some (seqObj "list" us.toArray n)/\s.heap.get? b=some (seqObj "list" vs.toArray m)/\R (.ok (.ret (.bool (WM (ns.drop i) (ms.drop i))))) s):=by
  intro i hi go prog w A R s h;obtain⟨hp,g,d,tk,os⟩:=s;obtain⟨J,h2,h⟩:=h
  wp_walk using wpAny_loadPart' J,wpAny_loadPart' h2
  have e1:((i:Nat):Int).toNat=i:=by simp
  rw[e1];by_cases q1:i<us.length
  ·obtain⟨t,et⟩:=ints_get hu i q1;have et:us.toArray[i]?=some (.int (ns.getD i 0) t):=by simpa using et
   by_cases q2:i<vs.length
   ·obtain⟨t2,mZ⟩:=ints_get hv i q2;have mZ:vs.toArray[i]?=some (.int (ms.getD i 0) t2):=by simpa using mZ
    rw[et,mZ];refine ZU (wpAny_eqBool_int ?_);rw[drop_getD (show i<ns.length by omega),drop_getD (show i<ms.length by omega)]at h;by_cases z:ns.getD i 0=ms.getD i 0
    ·have hz:(ns.getD i 0==ms.getD i 0)=true:=by rw[z];exact beq_self_eq_true _
     have h:R (.ok (.ret (.bool (if ns.getD i 0=ms.getD i 0 then WM (ns.drop (i+1)) (ms.drop (i+1))else decide (ns.getD i 0<ms.getD i 0))))) _:=h;rw[Z7 z]at h;rw[hz]
     wp_walk
     exact⟨plainId_quiet MeetsSeq3.plain_eq_loop _,go prog w A R _ ⟨J,h2,h⟩ q1⟩
    ·have hz:(ns.getD i 0==ms.getD i 0)=false:=by simpa using z
     have h:R (.ok (.ret (.bool (if ns.getD i 0=ms.getD i 0 then WM (ns.drop (i+1)) (ms.drop (i+1))else decide (ns.getD i 0<ms.getD i 0))))) _:=h;rw[Z8 z]at h;rw[hz]
     wp_walk using wpAny_loadPart' J,wpAny_loadPart' h2
     rw[et,mZ];refine ZU (wpAny_lt_int ?_)
     wp_walk
     exact h
   ·have e3:vs.toArray[i]?=none:=by simp;omega
    rw[et,e3]
    wp_walk using wpAny_loadPart' J,wpAny_loadPart' h2
    show R (.ok (.ret (.bool (decide (us.toArray.size<vs.toArray.size))))) _;rw[ZC (by simp;omega)];rw[Pl (show ms.length<=i by omega)]at h;rw[QG]at h;exact h
  ·have e3:us.toArray[i]?=none:=by simp;omega
   rw[e3];rw[Pl (show ns.length<=i by omega)]at h;have fin:R (.ok (.ret (.bool (decide (us.toArray.size<vs.toArray.size))))) {heap:=hp,gens:=g,drawn:=d,toks:=tk,os:=os}:=by
    by_cases q2:i<vs.length
    ·rw[ZP (by simp;omega)];rw[drop_getD (show i<ms.length by omega)]at h;exact h
    ·rw[Pl (show ms.length<=i by omega)]at h;by_cases q3:us.length<vs.length;·omega
     ·rw[ZC (by simpa using q3)];exact h
   wp_walk using wpAny_loadPart' J,wpAny_loadPart' h2
   exact fin
 induction k with
 |zero=>
  intro i hk hi;exact key i hi fun prog w A R s _ q=>by omega
 |succ k ih=>
  intro i hk hi;exact key i hi fun prog w A R s h q=>codeAny_builtin MeetsSeq3.entry_eq_loop (by
   rw[Around.under_plainId MeetsSeq3.plain_eq_loop _];exact ih (i+1) (by omega) q prog w A R _ h)
theorem su{l b:Addr}{us vs:List Value}{n m:Nat}{ns ms:List Int}(hu:IntsAre us ns)(hv:IntsAre vs ms):Meets (Builtin.«list.__lt__» ⟨[.ref l,.ref b],[]⟩) (fun _ R s=>s.heap.get? l=some (seqObj "list" us.toArray n)/\s.heap.get? b=some (seqObj "list" vs.toArray m)/\R (.ok (.ret (.bool (WM ns ms)))) s):=by
 intro prog w A R s h;obtain⟨hp,g,d,tk,os⟩:=s;obtain⟨J,h2,h⟩:=h;have f3:=AutoSeq1.sub_list_list
 wp_walk using AutoSeq1.wpAny_loadPart' J,AutoSeq1.wpAny_loadPart' h2
 exact⟨plainId_quiet MeetsSeq3.plain_eq_loop _,codeAny_builtin MeetsSeq3.entry_eq_loop (by
  rw[Around.under_plainId MeetsSeq3.plain_eq_loop _];exact sv hu hv _ 0 rfl (Zt _) prog w A R _ ⟨J,h2,h⟩)⟩
section
variable{prog:Program}{w:World}{A:Around}{E:Value->Shared->Prop}{s:Shared}
theorem sr{l b:Addr}{us vs:List Value}{n m:Nat}{ns ms:List Int}{Q:Bool->Shared->Prop}(hU:A.units<cLine)(J:s.heap.get? l=some (seqObj "list" us.toArray n))(h2:s.heap.get? b=some (seqObj "list" vs.toArray m))(hu:IntsAre us ns)(hv:IntsAre vs ms)(q:Q (WM ns ms) s):wpAny (model prog w) A (keyLt' oneType' (.ref l) (.ref b)) Q E s:=by
 rw[keyLt'_oneType,oneLt'_eq];simp only[if_true];refine ZU (wpAny_cRoomFor hU ?_);refine ZU (wpAny_callSpecialIfBound?_slot ⟨_,J,Y⟩ PySem.F.slot_list_lt (call_meets PySem.F.slot_list_lt ⟨_,J,Y⟩ PySem.F.entry_list_lt (PySem.F.args_list_lt_2 _ _) (su hu hv) ⟨J,h2,?_⟩));exact Ws q
end
end L2
namespace L2
open PySem PySem.Spec PyProof.Rows PySem.W
structure HY(n:Nat)(lt:Nat->Nat->Bool):Prop where
 tr:∀a b c,lt a b=true->lt b c=true->lt a c=true
 uE:∀a b,a<n->b<n->a≠b->lt a b=false->lt b a=true
structure Pm(n:Nat)(p:Array Nat):Prop where
 perm:p.toList.Perm (List.range n)
theorem Pm.size{n:Nat}{p:Array Nat}(h:Pm n p):p.size=n:=by
 have:=h.perm.length_eq;simpa using this
theorem Pm.get{n:Nat}{p:Array Nat}(h:Pm n p){i:Nat}(hi:i<n):p[i]?=some (p.getD i 0):=by
 have hs:=h.size;have:i<p.size:=by omega
 simp[Array.getD,this]
theorem Pm.lt{n:Nat}{p:Array Nat}(h:Pm n p){i:Nat}(hi:i<n):p.getD i 0<n:=by
 have J:=h.get hi;have h2:p.getD i 0∈p.toList:=by
  rw[Array.mem_toList_iff];exact Array.mem_of_getElem? J
 exact YO.mp (h.perm.mem_iff.mp h2)
theorem Pm.inj{n:Nat}{p:Array Nat}(h:Pm n p){i j:Nat}(hi:i<n)(hj:j<n)(ne:i≠j):p.getD i 0≠p.getD j 0:=by
 intro e;have nd:p.toList.Nodup:=h.perm.nodup_iff.mpr RI;have hs:=h.size;have J:=h.get hi;have h2:=h.get hj;rw[<-Array.getElem?_toList]at J h2;rw[e,<-h2]at J;exact ne ((List.getElem?_inj (by simpa[hs]using hi) nd).mp J)
theorem Pm.range(n:Nat):Pm n (List.toArray (List.range n)):=⟨by simp⟩
theorem Pm.of{n:Nat}{p q:Array Nat}(h:Pm n p)(hq:q.Perm p):Pm n q:=⟨(Array.perm_iff_toList_perm.mp hq).trans h.perm⟩
section
variable{n:Nat}{lt:Nat->Nat->Bool}{cmp:Nat->Nat->(Bool->Shared->Prop)->Shared->Prop}{s:Shared}
def Up(lt:Nat->Nat->Bool)(p:Array Nat)(m:Nat):Prop:=∀i j,i<j->j<m->lt (p.getD i 0) (p.getD j 0)=true
def sk(lt:Nat->Nat->Bool)(p:Array Nat)(m:Nat):Prop:=∀i j,i<j->j<m->lt (p.getD j 0) (p.getD i 0)=true
theorem Up.more(Z9:HY n lt){p:Array Nat}{m:Nat}(h:Up lt p m)(J:1<=m)(hl:lt (p.getD (m-1) 0) (p.getD m 0)=true):Up lt p (m+1):=by
 intro i j JD hj;by_cases q:j<m;·exact h i j JD q
 ·have:j=m:=by omega
  subst this;by_cases q2:i=j-1;·rw[q2];exact hl
  ·exact Z9.tr _ _ _ (h i (j-1) (by omega) (by omega)) hl
theorem sk.more(Z9:HY n lt){p:Array Nat}{m:Nat}(h:sk lt p m)(J:1<=m)(hl:lt (p.getD m 0) (p.getD (m-1) 0)=true):sk lt p (m+1):=by
 intro i j JD hj;by_cases q:j<m;·exact h i j JD q
 ·have:j=m:=by omega
  subst this;by_cases q2:i=j-1;·rw[q2];exact hl
  ·exact Z9.tr _ _ _ hl (h i (j-1) (by omega) (by omega))
def Bn(n:Nat)(lt:Nat->Nat->Bool)(cmp:Nat->Nat->(Bool->Shared->Prop)->Shared->Prop)(s:Shared):Prop:=∀i j C,i<n->j<n->C (lt i j) s->cmp i j C s
theorem DY(Z9:HY n lt)(ha:Bn n lt cmp s){p:Array Nat}(hp:Pm n p){G:Nat->Shared->Prop}:∀(f m:Nat),1<=m->m+f<=n->Up lt p m->(∀k,m<=k->k<=m+f->Up lt p k->(k<m+f->lt (p.getD k 0) (p.getD (k-1) 0)=true)->G k s)->(kas_asc p f m).kasWp cmp G s
 |0,m,J,hf,hs,hG=>hG m (ZK _) (ZK _) hs fun q=>absurd q (by omega)
 |f+1,m,J,hf,hs,hG=>by
  show cmp (p.getD m 0) (p.getD (m-1) 0) (fun c s'=>(if c=true then KasT.ret m else kas_asc p f (m+1)).kasWp cmp G s') s;refine ha _ _ _ (hp.lt (by omega)) (hp.lt (by omega)) ?_;cases q:lt (p.getD m 0) (p.getD (m-1) 0)with
  |true=>
   rw[Z7 rfl];exact hG m (ZK _) (by omega) hs fun _=>q
  |false=>
   rw[Z8 (by simp)];have:=Z9.uE _ _ (hp.lt (show m<n by omega)) (hp.lt (show m-1<n by omega)) (hp.inj (by omega) (by omega) (by omega)) q;exact DY Z9 ha hp f (m+1) (by omega) (by omega) (hs.more Z9 J this) fun k k1 k2 k3 k4=>hG k (by omega) (by omega) k3 fun z=>k4 (by omega)
theorem CD(Z9:HY n lt)(ha:Bn n lt cmp s){p:Array Nat}(hp:Pm n p){G:Array Nat×Nat×Nat->Shared->Prop}:∀(f m:Nat),1<=m->m+f<=n->sk lt p m->(∀k,m<=k->k<=m+f->sk lt p k->G (p,k,0) s)->(kas_desc f p m 0).kasWp cmp G s
 |0,m,J,hf,hs,hG=>hG m (ZK _) (ZK _) hs
 |f+1,m,J,hf,hs,hG=>by
  show cmp (p.getD m 0) (p.getD (m-1) 0) (fun c s'=>(if c=true then(if 0>0 then kas_desc f (kas_rev p (m-(0+1)) m) (m+1) 0 else kas_desc f p (m+1) 0)else .ask (p.getD (m-1) 0) (p.getD m 0) fun d=>if d=true then .ret (p,m,0)else kas_desc f p (m+1) (0+1)).kasWp cmp G s') s;refine ha _ _ _ (hp.lt (by omega)) (hp.lt (by omega)) ?_;cases q:lt (p.getD m 0) (p.getD (m-1) 0)with
  |true=>
   rw[Z7 Y,Z8 (by omega)];exact CD Z9 ha hp f (m+1) (by omega) (by omega) (hs.more Z9 J q) fun k k1 k2 k3=>hG k (by omega) (by omega) k3
  |false=>
   rw[Z8 (by simp)];have:=Z9.uE _ _ (hp.lt (show m<n by omega)) (hp.lt (show m-1<n by omega)) (hp.inj (by omega) (by omega) (by omega)) q;refine ha _ _ _ (hp.lt (by omega)) (hp.lt (by omega)) ?_;rw[this];exact hG m (ZK _) (by omega) hs
theorem CC{p:Array Nat}{m:Nat}(hm:m<=p.size)(i:Nat):(kas_rev p 0 m).getD i 0=if i<m then p.getD (m-1-i) 0 else p.getD i 0:=by
 have e:=getElem?_mirror_all (xs:=p) (i:=0) hm i;have d:∀(q:Array Nat) k,q.getD k 0=(q[k]?).getD 0:=fun q k=>by by_cases z:k<q.size<;>simp[Array.getD,z]
 rw[d];unfold kas_rev;rw[e];by_cases q:i<m;·rw[Z7 ⟨Zt _,q⟩,Z7 q,d,show 0+m-1-i=m-1-i by omega]
 ·rw[Z8 (fun z=>q z.2),Z8 q,d]
theorem sj{p:Array Nat}{m:Nat}(hm:m<=p.size)(h:sk lt p m):Up lt (kas_rev p 0 m) m:=by
 intro i j JD hj;rw[CC hm,CC hm,Z7 (by omega),Z7 hj];exact h _ _ (by omega) (by omega)
theorem zf{p:Array Nat}{m:Nat}(hp:Pm n p):Pm n (kas_rev p 0 m):=hp.of (mirror_perm _ _ _ _)
theorem zd(Z9:HY n lt)(ha:Bn n lt cmp s){p:Array Nat}(hp:Pm n p)(J:1<=n){G:Nat×Array Nat->Shared->Prop}(hG:∀m q,1<=m->m<=n->Pm n q->Up lt q m->G (m,q) s):(kas_count n p).kasWp cmp G s:=by
 unfold kas_count;rw[KasT.kasWp_bind];refine DY Z9 ha hp (n-1) 1 (ZK _) (by omega) (fun i j JD hj=>by omega) fun k k1 k2 k3 k4=>?_;have e:1+(n-1)=n:=by omega
 rw[e]at k2 k4;by_cases q:(k==n)=true
 ·rw[Z7 q];exact hG k p k1 k2 hp k3
 ·rw[Z8 q];have q:k<n:=by
   have:k≠n:=fun z=>q (by rw[z];exact beq_self_eq_true _);omega
  by_cases q2:k>1
  ·rw[Z7 q2];refine ha _ _ _ (hp.lt (by omega)) (hp.lt (by omega)) ?_;rw[k3 0 (k-1) (by omega) (by omega)];exact hG k p k1 k2 hp k3
  ·rw[Z8 q2];have:k=1:=by omega
   subst this;unfold kas_descPart;rw[KasT.kasWp_bind];have d2:sk lt p (1+1):=fun i j JD hj=>by
    have e1:i=0:=by omega
    have e2:j=1:=by omega
    rw[e1,e2];exact k4 q
   refine CD Z9 ha hp _ (1+1) (by omega) (by omega) d2 fun r r1 r2 r3=>?_;have r2:r<=n:=by omega
   show(if(0:Nat)>0 then _ else kas_tail3 r n p).kasWp cmp G s;rw[Z8 (by omega)];unfold kas_tail3;rw[KasT.kasWp_bind];have hsz:=hp.size;refine DY Z9 ha (zf hp) (n-r) r (by omega) (by omega) (sj (by omega) r3) fun m m1 m2 m3 _=>?_;exact hG m _ (by omega) (by omega) (zf hp) m3
theorem Lu(Z9:HY n lt)(ha:Bn n lt cmp s){p:Array Nat}(hp:Pm n p){k:Nat}(hk:k<n)(hs:Up lt p k){G:Nat->Shared->Prop}(hG:∀l,l<=k->(∀i,i<l->lt (p.getD i 0) (p.getD k 0)=true)->(∀i,l<=i->i<k->lt (p.getD k 0) (p.getD i 0)=true)->G l s):∀(f l r:Nat),l<=r->r<=k->r-l<=f->(∀i,i<l->lt (p.getD i 0) (p.getD k 0)=true)->(∀i,r<=i->i<k->lt (p.getD k 0) (p.getD i 0)=true)->(kas_place p k f l r).kasWp cmp G s
 |0,l,r,J,h2,h3,a,b=>by
  have:l=r:=by omega
  subst this;exact hG l h2 a b
 |f+1,l,r,J,h2,h3,a,b=>by
  unfold kas_place;by_cases q:l>=r
  ·rw[Z7 q];have:l=r:=by omega
   subst this;exact hG l h2 a b
  ·rw[Z8 q];have m1:(l+r)/2<r:=by omega
   have m0:l<=(l+r)/2:=by omega
   refine ha _ _ _ (hp.lt hk) (hp.lt (by omega)) ?_;cases z:lt (p.getD k 0) (p.getD ((l+r)/2) 0)with
   |true=>
    show(kas_place p k f l ((l+r)/2)).kasWp cmp G s;refine Lu Z9 ha hp hk hs hG f l ((l+r)/2) m0 (by omega) (by omega) a fun i i1 i2=>?_;by_cases zz:i=(l+r)/2;·rw[zz];exact z
    ·exact Z9.tr _ _ _ z (hs _ _ (by omega) i2)
   |false=>
    show(kas_place p k f ((l+r)/2+1) r).kasWp cmp G s;have zt:=Z9.uE _ _ (hp.lt hk) (hp.lt (show(l+r)/2<n by omega)) (hp.inj hk (by omega) (by omega)) z;refine Lu Z9 ha hp hk hs hG f ((l+r)/2+1) r (by omega) h2 (by omega) (fun i i1=>?_) b;by_cases zz:i=(l+r)/2;·rw[zz];exact zt
    ·exact Z9.tr _ _ _ (hs _ _ (by omega) (by omega)) zt
theorem CB{p:Array Nat}{k l:Nat}(hk:k<p.size)(hl:l<=k)(i:Nat):(bubble p k (k-l)).getD i 0=if i=l then p.getD k 0 else if l<i/\i<=k then p.getD (i-1) 0 else p.getD i 0:=by
 have e:=getElem?_bubble hk (k-l) (by omega) i;have d:∀(q:Array Nat) k,q.getD k 0=(q[k]?).getD 0:=fun q k=>by by_cases z:k<q.size<;>simp[Array.getD,z]
 rw[d,e,show k-(k-l)=l by omega];by_cases q:i=l;·rw[Z7 q,Z7 q,d]
 ·rw[Z8 q,Z8 q];by_cases q2:l<i/\i<=k;·rw[Z7 q2,Z7 q2,d]
  ·rw[Z8 q2,Z8 q2,d]
theorem zc(Z9:HY n lt)(ha:Bn n lt cmp s){G:Array Nat->Shared->Prop}(hG:∀q,Pm n q->Up lt q n->G q s):∀(f k:Nat)(p:Array Nat),k+f=n->Pm n p->Up lt p k->(kas_bin f p k).kasWp cmp G s
 |0,k,p,J,hp,hs=>hG p hp (by rw[<-J];exact hs)
 |f+1,k,p,J,hp,hs=>by
  show((kas_place p k k 0 k).bind fun l=>kas_bin f (bubble p k (k-l)) (k+1)).kasWp cmp G s;rw[KasT.kasWp_bind];have hk:k<n:=by omega
  have hsz:=hp.size;refine Lu Z9 ha hp hk hs (fun l l1 a b=>?_) k 0 k (Zt _) (ZK _) (by omega) (fun i hi=>by omega) (fun i i1 i2=>by omega);refine zc Z9 ha hG f (k+1) _ (by omega) (hp.of (bubble_perm _ _ _)) fun i j JD hj=>?_;rw[CB (by omega) l1,CB (by omega) l1];by_cases qi:i=l
  ·rw[Z7 qi,Z8 (by omega),Z7 ⟨by omega,by omega⟩];exact b _ (by omega) (by omega)
  ·rw[Z8 qi];by_cases qj:j=l
   ·rw[Z7 qj,Z8 (by omega)];exact a _ (by omega)
   ·rw[Z8 qj];by_cases c1:l<i/\i<=k
    ·rw[Z7 c1,Z7 ⟨by omega,by omega⟩];exact hs _ _ (by omega) (by omega)
    ·rw[Z8 c1];by_cases c2:l<j/\j<=k
     ·rw[Z7 c2];exact hs _ _ (by omega) (by omega)
     ·rw[Z8 c2];exact hs _ _ JD (by omega)
theorem vX(Z9:HY n lt)(ha:Bn n lt cmp s)(J:1<=n){G:Array Nat->Shared->Prop}(hG:∀q,Pm n q->Up lt q n->G q s):(kas_sort n).kasWp cmp G s:=by
 unfold kas_sort;rw[KasT.kasWp_bind];refine zd Z9 ha (Pm.range n) J fun m q m1 m2 hq hs=>?_;show(if m<n then kas_bin (n-max m 1) q (max m 1)else KasT.ret q).kasWp cmp G s;by_cases c:m<n
 ·rw[Z7 c];have e:max m 1=m:=by omega
  rw[e];exact zc Z9 ha hG (n-m) m q (by omega) hq hs
 ·rw[Z8 c];have:m=n:=by omega
  subst this;exact hG q hq hs
end
theorem Ls(a b:Int)(p q:List Int):WM (a::p) (b::q)=if a=b then WM p q else decide (a<b):=rfl
theorem F2:∀a b c:List Int,WM a b=true->WM b c=true->WM a c=true
 |_,[],_,h,_=>by rw[QG]at h;cases h
 |_,_::_,[],_,h=>by rw[QG]at h;cases h
 |[],_::_,_::_,_,_=>rfl
 |x::p,y::q,z::r,J,h2=>by
  rw[Ls]at J h2⊢;by_cases e1:x=y
  ·rw[Z7 e1]at J;by_cases e2:y=z
   ·rw[Z7 e2]at h2;rw[Z7 (e1.trans e2)];exact F2 p q r J h2
   ·rw[Z8 e2]at h2;rw[Z8 (by rw[e1];exact e2),e1];exact h2
  ·rw[Z8 e1]at J;have J:=ZD J;by_cases e2:y=z
   ·rw[Z8 (by omega)];exact ZP (by omega)
   ·rw[Z8 e2]at h2;have h2:=ZD h2;rw[Z8 (by omega)];exact ZP (by omega)
theorem Jm:∀a b:List Int,a≠b->WM a b=false->WM b a=true
 |[],[],h,_=>absurd rfl h
 |[],_::_,_,h=>by cases h
 |_::_,[],_,_=>rfl
 |x::p,y::q,h,J=>by
  rw[Ls]at J⊢;by_cases e:x=y
  ·rw[Z7 e]at J;rw[Z7 e.symm];exact Jm p q (fun z=>h (by rw[e,z])) J
  ·rw[Z8 e]at J;have J:=of_decide_eq_false J;rw[Z8 (fun z=>e z.symm)];exact ZP (by omega)
theorem y_{ks:List (List Int)}(nd:ks.Nodup):HY ks.length (fun i j=>WM (ks.getD i []) (ks.getD j []))where
 tr:=fun a b c=>F2 _ _ _
 uE:=fun a b ha O ne h=>Jm _ _ (fun e=>ne (by
  rw[ZW,ZW,ZT ha,ZT O]at e;have e:ks[a]=ks[b]:=e;exact(List.getElem_inj nd).mp e)) h
theorem Bm(vs:List Value):(List.toArray ((List.toArray (List.range vs.length)).toList.map fun i=>vs.getD i Value.none))=vs.toArray:=by
 congr 1;refine UA fun i=>?_;by_cases h:i<vs.length
 ·rw[Zb,Xv h,ZT h];simp[h]
 ·rw[YH (by simp;omega),YH (by omega)]
def Lr(h:Heap)(a:Addr)(vs:List Value):Heap:=((h.update a (Obj.mapSeq fun _=>#[])).push (seqObj "tuple" vs.toArray 0)).push (seqObj "list" #[] 0)
def y9(h:Heap)(vs:List Value)(ks:List (List Int)):Prop:=∀i,i<vs.length->∃a us n,vs.getD i Value.none=.ref a/\h.get? a=some (seqObj "list" us.toArray n)/\IntsAre us (ks.getD i [])
section
variable{prog:Program}{w:World}{A:Around}{E:Value->Shared->Prop}{s:Shared}
theorem Bl{a:Addr}{vs:List Value}{ks:List (List Int)}{n:Nat}{P:PySem.Fin->Shared->Prop}(hU:A.units<cLine)(ho:s.heap.get? a=some (seqObj "list" vs.toArray n))(hk:y9 (Lr s.heap a vs) vs ks)(kl:ks.length=vs.length)(nd:ks.Nodup)(qJ:vs.length<64)(h:∀p,Pm vs.length p->Up (fun i j=>WM (ks.getD i []) (ks.getD j [])) p vs.length->P (.done (.ret .none)) {s with heap:=sortedHeap s.heap a vs (List.toArray (p.toList.map fun i=>vs.getD i Value.none))}):wpAny (model prog w) A (Builtin.«list.sort» ⟨[.ref a],[]⟩) P E s:=by
 have hz:vs.length<=sizeLine:=by rw[sizeLine_eq];omega
 have hsz:vs.toArray.size=vs.length:=Y0;have la:a<s.heap.objs.size:=Zo ho;obtain⟨e1,J⟩:∃e1,(s.heap.update a (Obj.mapSeq fun _=>#[])).get? a=some (seqObj "list" #[] e1):=⟨_,get?_update_seq ho (fun _=>#[])⟩;have h6:(Lr s.heap a vs).get? a=some (seqObj "list" #[] e1):=by
  unfold Lr;rw[Th,Th];·exact J
  ·rw[Heap.size_update];exact Y7 la
  ·rw[size_push',Heap.size_update];exact Y7 (XW la)
 rw[list_sort_plain];refine ZU (listItems_at ho Y (ZU (listUpdate_at ho Y (ZU (seqEpoch_at J Y (ZU (wpAny_newTuple (ZU (wpAny_newList (Vz ?_))))))))));show wpAny (model prog w) A _ P E {s with heap:=Lr s.heap a vs};dsimp only;by_cases c:vs.toArray.size<2
 ·rw[Z7 c,Z7 c];refine ZU (Zq ?_);rw[StateT.run_pure];refine ZU (Zq (ZU (seqEpoch_at h6 Y (ZU (listUpdate_at h6 Y ?_ (hsz2:=?_))))))
  ·simp only[bne_self_eq_false,Pn,if_false];refine Zq ?_;have:=h _ (Pm.range vs.length) (fun i j JD hj=>by omega);rw[Bm]at this;have e:(pairsOf vs).map (·.2)=vs.toArray:=by
    apply Array.toList_inj.mp;rw[Array.toList_map,pairsOf_toList];simp[List.map_snd_zip]
   rw[<-e]at this;exact this
  ·rw[Array.size_map];show(pairsOf vs).size<=_;rw[pairsOf_size];exact Nat.le_succ_of_le hz
 ·rw[Z8 c,Z8 c];have c2:2<=vs.length:=by omega
  refine ZU (kas_kind (T:=.type "list") c2 (fun v hv=>?_) rfl rfl ?_)
  ·obtain⟨i,hi,rfl⟩:=List.getElem_of_mem hv;obtain⟨b,us,m,g1,g2,_⟩:=hk i hi;have e:vs[i]=.ref b:=by rw[<-g1];simp[hi]
   rw[e];exact(Looks.ld g2).andThen .now
  ·refine ZU (X2 (kat_run (Q:=fun st s'=>s'={s with heap:=Lr s.heap a vs}/\∃p:Array Nat,Pm vs.length p/\Up (fun i j=>WM (ks.getD i []) (ks.getD j [])) p vs.length/\arrOf st=p.map (kas_item (vs.toArray.zip vs.toArray))/\failedOf st=none)
    (G:=fun p s'=>s'={s with heap:=Lr s.heap a vs}/\Pm vs.length p/\Up (fun i j=>WM (ks.getD i []) (ks.getD j [])) p vs.length) rfl c2 qJ (fun p st s' a1 a2 a3 a4=>⟨a4.1,p,a4.2.1,a4.2.2,a2,a3⟩) ?_) ?_ fun _ _ e=>e)
   ·have Z9:=y_ nd;rw[kl]at Z9;refine vX Z9 (fun i j C hi hj q=>?_) (by omega) fun p hp hs=>⟨Y,hp,hs⟩;obtain⟨b1,us1,m1,g1,g2,g3⟩:=hk i hi;obtain⟨b2,us2,m2,f1,f2,f3⟩:=hk j hj;show wpAny _ _ (keyLt' oneType' (vs.getD i Value.none) (vs.getD j Value.none)) C (fun _ _=>False) _;rw[g1,f1];exact sr hU g2 f2 g3 f3 q
   ·rintro⟨⟨⟩,st⟩ s' ⟨rfl,p,hp,hs,ha,hf⟩;dsimp only at ha hf⊢;have zM:=kat_snds (vs:=vs) (ks:=vs) rfl ha;have dM:((arrOf st).map (·.2)).size<=sizeLine:=by
     rw[zM,Y0,Z3,SI,hp.size];exact hz
    refine ZU (seqEpoch_at h6 Y (ZU (listUpdate_at h6 Y ?_ (hsz2:=Nat.le_succ_of_le dM))));rw[hf];simp only[bne_self_eq_false,Pn,if_false];refine Zq ?_;have:=h p hp hs;rw[<-zM]at this;exact this
theorem F1{l:Addr}{vs:List Value}{ks:List (List Int)}{Q:Value->Shared->Prop}(hU:A.units+8<cLine)(hl:s.heap.IsList l vs.toArray)(hk:y9 s.heap vs ks)(kl:ks.length=vs.length)(nd:ks.Nodup)(qJ:vs.length<64)(h:∀p,Pm vs.length p->Up (fun i j=>WM (ks.getD i []) (ks.getD j [])) p vs.length->Q (.ref (s.heap.objs.size+1)) {s with heap:=sortedAll s.heap vs (List.toArray (p.toList.map fun i=>vs.getD i Value.none))}):wpAny (model prog w) A (call (.builtin "sorted") [.ref l]) Q E s:=by
 have hz:vs.length<=sizeLine:=by rw[sizeLine_eq];omega
 refine Calls.call_function_entry kind_sorted plain_sorted entry_sorted (args_sorted1 _) ?_;unfold Builtin.«sorted»;refine ZU (m:=checkCount "sorted" 1 1 _) (Zq (ZU (collect_list hl (ZU (wpAny_newList ?_)))));have hsz:((s.heap.push (seqObj "list" #[] 0)).update s.heap.objs.size (Obj.mapSeq (·++vs.toArray))).objs.size=s.heap.objs.size+1:=by rw[Heap.size_update,size_push']
 have hn:(((s.heap.push (seqObj "list" #[] 0)).update s.heap.objs.size (Obj.mapSeq (·++vs.toArray))).push (seqObj "list" vs.toArray 0)).get? (s.heap.objs.size+1)=some (seqObj "list" vs.toArray 0):=by
  have:=Xa ((s.heap.push (seqObj "list" #[] 0)).update s.heap.objs.size (Obj.mapSeq (·++vs.toArray))) (o:=seqObj "list" vs.toArray 0) rfl;rw[hsz]at this;exact this
 show wpAny _ _ _ _ _ {s with heap:=((s.heap.push (seqObj "list" #[] 0)).update s.heap.objs.size (Obj.mapSeq (·++vs.toArray))).push (seqObj "list" vs.toArray 0)};rw[hsz];refine ZU (Vz (wpAny_call_entry slot_list_sort ⟨_,hn,Y⟩ entry_list_sort (Bl (ks:=ks) ?_ hn (fun i hi=>?_) kl nd qJ fun p hp hs=>Z1 Y (Zq (Z1 Y (h p hp hs)))) (args_list_sort _)))
 ·show A.units+1+1<cLine;omega
 ·obtain⟨a,us,n,g1,g2,g3⟩:=hk i hi;refine⟨a,us,n,g1,?_,g3⟩;have la:a<s.heap.objs.size:=Zo g2;unfold Lr;rw[Th,Th,Heap.get?_update_ne,Th,Heap.get?_update_ne,Th];·exact g2
  ·exact Y7 la
  ·exact Y7 la
  ·rw[hsz];exact Y7 (XW la)
  ·exact Y7 (XW la)
  ·rw[Heap.size_update,size_push',hsz];exact Y7 (XW (XW la))
  ·rw[size_push',Heap.size_update,size_push',hsz];exact Y7 (XW (XW (XW la)))
end
section
variable{X:Cx}
def y8(K:W.Frag):List V->Hp->VK->Prop:=fun vs H Q=>∃(a:Addr) (rs:List Addr) (ks:List (List Int)),vs=[V.ref a]/\Zw K H a (rs.map V.ref)/\ks.length=rs.length/\(∀(i:Nat) r,rs[i]?=some r->H r=some (.lst ((ks.getD i []).map V.int)))/\ks.Nodup/\rs.length<64/\
 ∀(vW:List Addr)(xG:List (List Int))(p:Addr),xG.length=vW.length->xG.Perm ks->xG.Pairwise (fun x y=>WM x y=true)->(∀(i:Nat) r,vW[i]?=some r->H r=some (.lst ((xG.getD i []).map V.int)))->H p=none->Q (.ref p) (upd H p (.lst (vW.map V.ref)))
theorem Jl:∀{rs:List Addr}{us:List Value},Vals (rs.map V.ref) us->us=rs.map Value.ref
 |[],us,h=>by
  cases h;rfl
 |r::rs,us,h=>by
  cases h with
  |cons J h2=>
   rw[Jl h2];cases J;rfl
theorem OX:∀rs:List Addr,Vals (rs.map V.ref) (rs.map Value.ref)
 |[]=>.nil
 |_::rs=>.cons Y (OX rs)
theorem DX(hu:X.A.units+64<cLine):NI X (.builtin "sorted") (y8 X.K):=by
 intro pins s σ H vs us Q I r h;obtain⟨a,rs,ks,rfl,hs,kl,hr,nd,qJ,q⟩:=h;obtain⟨Y5,rv,hl,_⟩:=I.list hs;rw[Vals.wW r];have ei:=Jl rv;subst ei;have lm:(rs.map Value.ref).length=rs.length:=Z3 ..
 have gd:∀i,i<rs.length->(rs.map Value.ref).getD i Value.none=Value.ref (rs.getD i 0):=fun i hi=>by simp[hi]
 refine F1 (ks:=ks) (by omega) hl.isList (fun i hi=>?_) (by rw[lm];exact kl) nd (by rw[lm];exact qJ) fun p hp hs=>?_
 ·rw[lm]at hi;have e:rs[i]?=some (rs.getD i 0):=by simp[hi]
  obtain⟨js,m,v1,v2,_⟩:=I.lst (hr i _ e);exact⟨rs.getD i 0,js,m,gd i hi,v2,v1.ints⟩
 ·rw[lm]at hp hs;have ps:=hp.size;have pl:∀i,i<rs.length->p.getD i 0<rs.length:=fun i hi=>hp.lt hi;have eo:(p.toList.map fun i=>(rs.map Value.ref).getD i Value.none)=(p.toList.map fun i=>rs.getD i 0).map Value.ref:=by
   rw[Yn];refine VS fun i hi=>?_;exact gd i (YO.mp (hp.perm.mem_iff.mp hi))
  have lo:((p.toList.map fun i=>rs.getD i 0).map V.ref).length<=sizeLine:=by
   rw[Z3,Z3,SI,ps];exact wU qJ
  obtain⟨ep,qQ⟩:=sortedAll_at s.heap (rs.map Value.ref) (List.toArray (p.toList.map fun i=>(rs.map Value.ref).getD i Value.none));rw[eo]at qQ;refine⟨.ref _,upd H (s.heap.objs.size+1) (.lst ((p.toList.map fun i=>rs.getD i 0).map V.ref)),I.laid (t':=s.toks) (fun _ _=>sortedAll_old) (Nat.le_succ _) ?_,Y,q _ (p.toList.map fun i=>ks.getD i []) _ ?_ ?_ ?_ ?_ (I.X3.fresh (Nat.le_succ _))⟩
  ·rw[eo];exact⟨lo,_,ep,OX _,qQ⟩
  ·rw[Z3,Z3]
  ·have:=hp.perm.map (fun i=>ks.getD i []);refine this.trans (.of_eq ?_);rw[<-kl];refine UA fun i=>?_;by_cases hi:i<ks.length
   ·rw[Zb,Xv hi,ZT hi];simp[hi]
   ·rw[YH (by simp;omega),YH (by omega)]
  ·rw[Uw,Pj];intro i j hi hj JD;rw[SI,ps]at hi hj;have:=hs i j JD hj;have g:∀i(h:i<p.toList.length),p.toList[i]=p.getD i 0:=fun i h=>by
    have h':i<p.size:=by simpa using h
    simp[Array.getD,h']
   rw[g,g];exact this
  ·intro i r hi;rw[Zb]at hi;obtain⟨j,hj,rfl⟩:=Uv.mp hi;have jm:=YO.mp (hp.perm.mem_iff.mp (Y3 hj));have e:rs[j]?=some (rs.getD j 0):=by simp[jm]
   have:=hr j _ e;rw[ZW (l:=List.map _ _),Zb,hj];exact this
end
end L2
namespace L2
open PySem PySem.Spec PyProof.Rows
section
variable{prog:Program}{w:World}{A:Around}{R:Result->Shared->Prop}{I:Addr}{fp wr:List Addr}{n:Nat}{P:Nat->Value->Prop}{St:Nat->Heap->Prop}
def y6(n:Nat)(num:Nat->Int)(d v:Value):Prop:=(n=0/\v=d)\/∃m t,v=.int m t/\(∃j,j<n/\num j=m)/\∀j,j<n->num j<=m
def oW(h:Heap)(S:Addr)(i:Nat)(num:Nat->Int):Prop:=(i=0/\∃c,h.get? S=some {cls:=.type "list",dict:=none,data:=.seq #[] c,slots:=#[]})\/
 (0<i/\∃m t c,h.get? S=some {cls:=.type "list",dict:=none,data:=.seq #[.int m t,.int m t] c,slots:=#[]}/\(∃j,j<i/\num j=m)/\∀j,j<i->num j<=m)
theorem Bk(W:Walks prog w A.in1 I fp wr n P St)(num:Nat->Int)(hP:∀i v,P i v->∃t,v=.int (num i) t)(S:Addr)(kf:S∉fp)(d:Value):∀(k i:Nat)(s:Shared),n-i=k->i<=n->St i s.heap->oW s.heap S i num->(∀v h' tk,y6 n num d v->(∀b o,b∉wr->b≠S->s.heap.get? b=some o->h'.get? b=some o)->R (.ok (.ret v)) {s with heap:=h',toks:=tk})->codeAny (model prog w) A (.builtin "max.loop" ⟨[.ref I,.none,.ref S],[("default",d)]⟩) R s:=by
 have ke:S∉wr:=fun h=>kf (W.sub _ h);have F0:(toString "max"++toString ".loop":String)="max.loop":=by decide
 intro k;induction k with
 |zero=>
  intro i s hk hi AD hB hR;obtain rfl:i=n:=by omega
  refine codeAny_builtin F.entry_max_loop ?_;rw[Around.under_plainId Tj _];rcases hB with⟨h0,c,hS⟩|⟨h0,m,t,c,hS,hm⟩
  ·show wpAny _ A.in1 (seqItems? (.ref S)>>=_) _ _ s;refine ZU (wpAny_seqItems hS Y ?_);show wpAny _ A.in1 (tryCatch (pyNext (.ref I)) _>>=_) _ _ s;refine ZU (wpAny_tryCatch (W.done s _ _ AD fun h' tk GI=>?_));refine ZU (wpAny_rule (Zq ?_));exact hR d h' tk (.inl ⟨h0,Y⟩) fun b o O _ e=>GI b o O e
  ·show wpAny _ A.in1 (seqItems? (.ref S)>>=_) _ _ s;refine ZU (wpAny_seqItems hS Y ?_);show wpAny _ A.in1 (tryCatch (pyNext (.ref I)) _>>=_) _ _ s;refine ZU (wpAny_tryCatch (W.done s _ _ AD fun h' tk GI=>?_));refine ZU (wpAny_updateSeq (GI S _ ke hS) rfl (ZU (wpAny_letGo (Zq ?_))));exact hR _ _ tk (.inr ⟨m,t,Y,hm⟩) fun b o O vV e=>(Uu _ _ (Xb vV)).trans (GI b o O e)
 |succ k ih=>
  intro i s hk hi AD hB hR;have WY:i<n:=by omega
  refine codeAny_builtin F.entry_max_loop ?_;rw[Around.under_plainId Tj _];rcases hB with⟨h0,c,hS⟩|⟨h0,m,t,c,hS,⟨j0,gX,dJ⟩,hm⟩
  ·show wpAny _ A.in1 (seqItems? (.ref S)>>=_) _ _ s;refine ZU (wpAny_seqItems hS Y ?_);show wpAny _ A.in1 (tryCatch (pyNext (.ref I)) _>>=_) _ _ s;refine ZU (wpAny_tryCatch (W.item i s _ _ WY AD fun v h' tk hv vU GI=>?_));obtain⟨t,rfl⟩:=hP i v hv;have qI:=GI S _ ke hS;show wpAny _ A.in1 (updateSeq S (fun _=>#[Value.int (num i) t,Value.int (num i) t])>>=_) _ _ _;refine ZU (wpAny_updateSeq qI Y ?_);rw[F0];refine Zq ⟨plainId_quiet Tj _,ih (i+1) _ (by omega) WY (W.frame _ _ _ vU fun b O o e=>(Uu _ _ (fun h:S=b=>kf (by rw[h];exact O))).trans e)
    (.inr ⟨by omega,num i,t,_,Heap.get?_update_self _ qI Y,⟨i,by omega,Y⟩,fun j hj=>?_⟩) fun v' h2 oV tJ si=>?_⟩
   ·rw[show j=i by omega];exact UT _
   ·exact hR v' h2 oV tJ fun b o O vV e=>si b o O vV ((Uu _ _ (Xb vV)).trans (GI b o O e))
  ·show wpAny _ A.in1 (seqItems? (.ref S)>>=_) _ _ s;refine ZU (wpAny_seqItems hS Y ?_);show wpAny _ A.in1 (tryCatch (pyNext (.ref I)) _>>=_) _ _ s;refine ZU (wpAny_tryCatch (W.item i s _ _ WY AD fun v h' tk hv vU GI=>?_));obtain⟨t',rfl⟩:=hP i v hv;have qI:=GI S _ ke hS;show wpAny _ A.in1 (tryCatch (holding [Value.int (num i) t',Value.int (num i) t'] (richCompare .Gt (Value.int (num i) t') (Value.int m t)>>=_)) _>>=_) _ _ _;refine ZU (wpAny_tryCatch (Vz (ZU (show wpAny _ _ (compareOp .Gt (Value.int (num i) t') (Value.int m t)) _ _ _ from gt_int ?_))));refine ZU (Vz (Ws (ZU (wpAny_letGo (Zq ?_)))));by_cases O:m<num i
   ·rw[ZP O];simp only[if_true];refine ZU (wpAny_updateSeq qI Y (ZU (wpAny_letGo ?_)));rw[F0];refine Zq ⟨plainId_quiet Tj _,ih (i+1) _ (by omega) WY (W.frame _ _ _ vU fun b O o e=>(Uu _ _ (fun h:S=b=>kf (by rw[h];exact O))).trans e)
     (.inr ⟨by omega,num i,t',_,Heap.get?_update_self _ qI Y,⟨i,by omega,Y⟩,fun j hj=>?_⟩) fun v' h2 oV tJ si=>?_⟩
    ·by_cases q:j<i
     ·have:=hm j q;omega
     ·rw[show j=i by omega];exact UT _
    ·exact hR v' h2 oV tJ fun b o O vV e=>si b o O vV ((Uu _ _ (Xb vV)).trans (GI b o O e))
   ·rw[ZC O];simp only[Pn,if_false];refine ZU (wpAny_letGo ?_);rw[F0];refine Zq ⟨plainId_quiet Tj _,ih (i+1) _ (by omega) WY vU (.inr ⟨by omega,m,t,c,qI,⟨j0,by omega,dJ⟩,fun j hj=>?_⟩) fun v' h2 oV tJ si=>?_⟩
    ·by_cases q:j<i;·exact hm j q
     ·rw[show j=i by omega];omega
    ·exact hR v' h2 oV tJ fun b o O vV e=>si b o O vV (GI b o O e)
end
section
variable{prog:Program}{w:World}{A:Around}{E:Value->Shared->Prop}{s:Shared}{l:Addr}{Y5:List Value}{ns:List Int}{Q:Value->Shared->Prop}
theorem vT{id:String}{b:Builtin}{args:List Value}{kw:List (Str×Value)}{Q:Value->Shared->Prop}(hk:builtinKind id=none)(hp:plainId id=true)(O:entryFor table id=some b)(ha:argsOk id ⟨args,kw⟩)(hc:wpAny (model prog w) A.in1 (b ⟨args,kw⟩) (fun fin s'=>match fin with
 |.done f=>wants Q E (.ok f) s'
 |.again c'=>c'.quiet=true/\codeAny (model prog w) A c' (wants Q E) s') E s):wpAny (model prog w) A (call (.builtin id) args kw) Q E s:=by
 refine wpAny_call (codeAny_call_builtin hp O ?_);simp only[checkBuiltinCall,hk];cases q:Manifest.signature? id with
 |none=>exact Zq hc
 |some sig=>
  simp only[argsOk,q]at ha;show wpAny _ A.in1 (Bind.checkArgs id sig ⟨args,kw⟩) _ _ s;have e:Bind.checkArgs id sig ⟨args,kw⟩=pure ():=ha;rw[e];exact Zq hc
theorem Bj(a d:Value):argsOk "max" ⟨[a],[(Str.ofString "default",d)]⟩:=by unfold argsOk;kernel_rfl
theorem y4(hh:A.handled=none)(hl:s.heap.IsList l Y5.toArray)(hi:IntsAre Y5 ns)(d:Value)(h:∀h' tk v,(∀b o,s.heap.get? b=some o->h'.get? b=some o)->y6 ns.length (fun j=>ns.getD j 0) d v->Q v {s with heap:=h',toks:=tk}):wpAny (model prog w) A (call (.builtin "max") [.ref l] [(Str.ofString "default",d)]) Q E s:=by
 have F0:(toString "max"++toString ".loop":String)="max.loop":=by decide
 have ll:l<s.heap.objs.size:=by
  obtain⟨_,e,_⟩:=id hl;exact Zo e
 refine vT F.kind_max F.plain_max F.entry_max (Bj _ _) ?_;show wpAny _ A.in1 (Builtin.Builtins.bindParams "max" ["key","default"] 0 ⟨[],[(Str.ofString "default",d)]⟩>>=_) _ _ s;refine ZU (wpAny_of_eq (show Builtin.Builtins.bindParams "max" ["key","default"] 0 ⟨[],[(Str.ofString "default",d)]⟩=pure [none,some d]from rfl) (ZU (Zq (ZU (wpAny_pyIter_list hl (ZU (wpAny_newObj_type ?_)))))));rw[F0];have dI:l≠s.heap.objs.size:=Y7 ll;have hz:Y5.toArray.size=ns.length:=by rw[Y0,hi.length]
 have W:=Walks.list (prog:=prog) (w:=w) (A:=A.in1) hh s.heap.objs.size l dI Y5.toArray;rw[hz]at W;have gW:(s.heap.push {cls:=.type "list_iterator",data:=.fields #[.ref l,.int 0 0]}).objs.size=s.heap.objs.size+1:=W' ..
 have dH:(s.heap.push {cls:=.type "list_iterator",data:=.fields #[.ref l,.int 0 0]}).IsListIter s.heap.objs.size l 0/\(s.heap.push {cls:=.type "list_iterator",data:=.fields #[.ref l,.int 0 0]}).IsList l Y5.toArray:=⟨⟨_,Xa _ rfl,Y,Y⟩,hl.push _⟩;refine Zq ⟨plainId_quiet Tj _,Bk W (fun j=>ns.getD j 0) (fun i v hv=>?_) (s.heap.push {cls:=.type "list_iterator",data:=.fields #[.ref l,.int 0 0]}).objs.size (fun hm=>?_) d _ 0 _ rfl (Zt _) (W.frame _ _ _ dH fun b _ o e=>Yw _ e) (.inl ⟨Y,_,Xa _ rfl⟩) fun v h' tk hv hk=>?_⟩
 ·have hv:Y5[i]?=some v:=by simpa using hv
  have il:i<ns.length:=by rw[<-hi.length];exact(Zy.mp hv).1
  obtain⟨t,ht⟩:=hi.get i (ns.getD i 0) (by rw[ZW,ZT il];rfl);rw[hv]at ht;exact⟨t,Y8 ht⟩
 ·rw[gW]at hm;rcases ZE.mp hm with q|q;·exact absurd q (Nat.succ_ne_self _)
  ·rcases ZE.mp q with q|q
   ·rw[<-q]at ll;exact absurd ll (Nat.not_lt.mpr (Nat.le_succ _))
   ·cases q
 ·refine h h' tk v (fun b o e=>hk b o (fun hm=>?_) ?_ (Yw _ (Yw _ e))) hv
  ·rcases ZE.mp hm with q|q;·exact absurd (q▸Zo e) (We _)
   ·cases q
  ·rw[gW];exact Y7 (XW (Zo e))
end
section
variable{X:Cx}{e e2:Expr}{t tk:TA}{p pos xf:Pos}
def oU(K:W.Frag)(t tk:TA):TE:=fun σ H Q=>t σ H fun vs H1=>tk σ H1 fun zs H2=>∃a ns d,vs=[.ref a]/\zs=[.int d]/\Zw K H2 a (ns.map V.int)/\∀m,((ns=[]/\m=d)\/(m∈ns/\∀y,y∈ns->y<=m))->Q (.int m) H2
theorem vS(hc:X.calm=true)(hg:Gl X "max")(hm:X.mg "max"=none)(he:PA X [e] t)(hd:PK X [⟨some "default",e2,xf⟩] tk)(Kn:(backTo pos (starEach [e] X.env)).any (·.1)=false:=by rfl)(O:backTo pos (starEach [e] X.env)=(false,eval e X.env)::backTo pos (starEach [] X.env):=by rfl):PE X (.Call (.Name "max" p) [e] [⟨some "default",e2,xf⟩] pos) (oU X.K t tk):=by
 intro pins s σ H Q I h;refine UG (Od I hg hm boot_max ?_ (by decide) (by decide));refine PyProof.Rows.callWith_kw (X8 (he pos pins s σ H _ I h) fun us s1 ⟨vs,H1,I1,r,q⟩=>X8 (hd pos pins s1 σ H1 _ I1 q) fun ws s2 ⟨zs,H2,I2,rz,a,ns,d,ev,ez,hs,q2⟩=>?_) O Kn;subst ev ez;rw[Vals.wW r];obtain⟨Y5,rv,hl,_⟩:=I2.list hs;cases rz with
 |cons r1 r2=>
  cases r2;obtain⟨td,rfl⟩:=r1;refine y4 (I2.ok.hd hc) hl.isList rv.ints (.int d td) fun h' tk' v hk hv=>?_;rcases hv with⟨h0,rfl⟩|⟨m,t',rfl,⟨j,hj,e1⟩,h2⟩;·exact⟨.int d,H2,I2.kept hk,⟨_,Y⟩,q2 d (.inl ⟨Xu.mp h0,Y⟩)⟩
  ·refine⟨.int m,H2,I2.kept hk,⟨_,Y⟩,q2 m (.inr ⟨?_,fun y hy=>?_⟩)⟩
   ·have e1:ns.getD j 0=m:=e1;rw[<-e1,ZW,ZT hj];exact WO hj
   ·obtain⟨i,hi,rfl⟩:=XY.mp hy;have:ns.getD i 0<=m:=h2 i hi;rw[ZW,ZT hi]at this;exact this
end
structure Nv(K:W.Frag)(a:Addr)(Zp:List (Int×Value)):Prop where
 ex:∃o es ep,K.lookup a=some o/\o.ExactDict/\o.data=.dict es ep/\(∀e,e∈es->∃k,Value.isInt k e.key=true/\e.hash=hashInt k)/\∀k,findBy Value.isInt es k=Zp.lookup k
 sys:(a==sysModules)=false
def oT(K:W.Frag)(td ty:TE):TE:=fun σ H Q=>td σ H fun x H1=>ty σ H1 fun y H2=>∃a Zp k u v,x=.ref a/\Nv K a Zp/\y=.int k/\Zp.lookup k=some u/\RelV v u/\Q v H2
def ka(K:W.Frag)(ty td:TE):TE:=fun σ H Q=>ty σ H fun y H1=>td σ H1 fun x H2=>∃a Zp k,x=.ref a/\Nv K a Zp/\y=.int k/\Q (.bl (Zp.lookup k).isSome) H2
def r_(X:Cx)(te:TE)(t:TA):TE:=fun σ H Q=>te σ H fun x H1=>∃f fd ps sp k,x=.ref f/\W.keepIn X.K (.ref f)=true/\Binds X.K fd ps []/\Y6 X.prog X.w X.K X.mg X.base XB k f fd ps sp/\Wj k X.A/\t σ H1 fun vs H2=>sp (vs++[]) H2 Q E0
section
variable{X:Cx}{pins:List (Addr×Obj)}{σ:St}{H:Hp}{s:Shared}
theorem Nv.map{a:Addr}{Zp:List (Int×Value)}(h:Nv X.K a Zp)(I:Inv X pins σ H s):s.heap.MapOf (intKind X.prog X.w) a (fun k=>Zp.lookup k):=by
 obtain⟨o,es,ep,J,h2,h3,h4,h5⟩:=h.ex;exact⟨o,es,ep,I.EW a o J,h2,h3,h4,h5⟩
end
section
variable{X:Cx}{o i fe e:Expr}{es:List Expr}{pos:Pos}{td ty te:TE}{t:TA}
theorem HX(ho:PE X o td)(hi:PE X i ty)(hs:sY i):PE X (.Subscript o i pos) (oT X.K td ty):=by
 intro pins s σ H Q I h;refine CZ PySem.F.slot_dict_getitem.lookup hs (X8 (ho pins s σ H _ I h) fun u s1 ⟨x,H1,I1,rx,q1⟩=>X8 (hi pins s1 σ H1 _ I1 q1) fun iv s2 ⟨y,H2,I2,ry,a,Zp,k,uv,v,ex,kd,ey,lk,rv,q2⟩=>?_);subst ex ey;obtain rfl:u=Value.ref a:=rx;obtain⟨tk,rfl⟩:=ry;have m:=kd.map I2;exact⟨m.typeIs,wpAny_getItem_of (knd:=intKind X.prog X.w) (k:=k) (by simp[intKind,Value.isInt]) m lk ⟨v,H2,I2.tok _,rv,q2⟩⟩
theorem r6(hi:PE X i ty)(ho:PE X o td):PC X .In i o (ka X.K ty td):=by
 intro pins s σ H Q I h;refine X8 (hi pins s σ H _ I h) fun iv s1 ⟨y,H1,I1,ry,q1⟩=>X8 (ho pins s1 σ H1 _ I1 q1) fun u s2 ⟨x,H2,I2,rx,a,Zp,k,ex,kd,ey,q2⟩=>?_;subst ex ey;obtain rfl:u=Value.ref a:=rx;obtain⟨tk,rfl⟩:=ry;exact wpAny_in_of (knd:=intKind X.prog X.w) (k:=k) (by simp[intKind,Value.isInt]) kd.sys (kd.map I2) ⟨.bl _,H2,I2.tok _,Y,q2⟩
theorem FZ(hf:PE X fe te)(ha:PA X (e::es) t)
 (dF:eval (.Call fe (e::es) [] pos) X.env=(do callWith pos (<-eval fe X.env) [] (backTo pos (starEach (e::es) X.env)) (backToKw pos (keywordEach [] X.env))):=by rfl)
 (he:starEach (e::es) X.env=(false,eval e X.env)::starEach es X.env:=by rfl)(Kn:(backTo pos (starEach es X.env)).any (·.1)=false:=by rfl):PE X (.Call fe (e::es) [] pos) (r_ X te t):=by
 intro pins s σ H Q I h;refine Call_ (X8 (hf pins s σ H _ I h) fun fv s1 ⟨x,H1,I1,rx,f,fd,ps,sp,k,ex,hk,O,F,hr,q⟩=>?_) dF;subst ex;obtain rfl:fv=Value.ref f:=rx;exact W.callWith_K (h₀:=X.base) I.ok.mod.qz hk (X8 (ha pos pins s1 σ H1 _ I1 q) fun us s2 ⟨vs,H2,I2,r,q2⟩=>⟨I2.EW,EB F hr O .nil Gs I2 r q2⟩) he Kn
end
end L2
namespace Rw
open PySem PySem.Spec PyProof.Rows L2
noncomputable def top(i:Nat):Stmt:=PySem.Challenge.pw_roadrest_s01_answers.main.body.getD i (.Pass ⟨0,0,0,0⟩)
structure Dn(K:W.Frag)(mg:Str->Option Value)(x:Str)(st:Stmt)(ps:List Str)(f:Addr)(fd:FuncData):Prop where
 F:uG K x x st f fd
 b:Binds K fd ps []
 m:mg x=some (.ref f)
structure Cn(K:W.Frag)(mg:Str->Option Value)(x q:Str)(C:Addr)(st:Stmt)(ps:List Str)(f:Addr)(fd:FuncData):Prop where
 cl:EU K C
 oS:Mk K C f
 m:mg x=some (.ref C)
 F:uG K "__init__" q st f fd
 b:Binds K fd ps []
structure Mn(K:W.Frag)(x q:Str)(C:Addr)(st:Stmt)(ps:List Str)(f:Addr)(fd:FuncData):Prop where
 at_:Meth K C x f
 F:uG K x q st f fd
 b:Binds K fd ps []
def Gv(mg:Str->Option Value)(x:Str)(v:V):Prop:=∃u,mg x=some u/\RelV v u
structure Yl where
 S4:Addr
 S3:FuncData
 T1:Addr
 TZ:FuncData
 CA:Addr
 Cz:FuncData
 y3:Addr
 y2:FuncData
 Cy:Addr
 Cw:FuncData
 Cv:Addr
 Cu:FuncData
 Jk:Addr
 Jj:FuncData
 yZ:Addr
 yY:FuncData
 Nu:Addr
 Nt:FuncData
 Qn:Addr
 Qm:FuncData
 Ql:Addr
 Qk:FuncData
 Rh:Addr
 Rg:FuncData
 OW:Addr
 OV:FuncData
 Qj:Addr
 Qi:FuncData
 Ji:Addr
 Jh:FuncData
 FY:Addr
 FX:FuncData
 Lq:Addr
 Lp:FuncData
 Lo:Addr
 Ln:FuncData
 Rf:Addr
 Rc:FuncData
 Lm:Addr
 Ll:FuncData
 RX:Addr
 RW:FuncData
 Ct:Addr
 Cs:FuncData
 Jg:Addr
 Jf:FuncData
 TY:Addr
 TX:FuncData
 S1:Addr
 SY:FuncData
 SX:Addr
 SW:FuncData
 yX:Addr
 yW:FuncData
 Je:Addr
 Jd:FuncData
 Ra:Addr
 Q_:FuncData
 Nr:Addr
 Nq:FuncData
 RV:Addr
 RU:FuncData
 Np:Addr
 Nn:FuncData
 Cr:Addr
 Cq:FuncData
 SV:Addr
 SU:FuncData
 Nm:Addr
 Nl:FuncData
 OU:Addr
 OT:FuncData
 Qh:Addr
 Qg:FuncData
 OS:Addr
 OR:FuncData
 Q9:Addr
 Q8:FuncData
 OQ:Addr
 OP:FuncData
 Nk:Addr
 Nj:FuncData
 RT:Addr
 RS:FuncData
 OO:Addr
 ON:FuncData
 RQ:Addr
 RP:FuncData
 Lk:Addr
 Lj:FuncData
 Li:Addr
 Lh:FuncData
 Lg:Addr
 Lf:FuncData
 SS:Addr
 SR:FuncData
 Ni:Addr
 Nh:FuncData
 Ng:Addr
 Nf:FuncData
 TV:Addr
 Nd:FuncData
 TU:Addr
 Nc:FuncData
 TR:Addr
 Nb:FuncData
 TQ:Addr
 Na:FuncData
 UR:Addr
 OM:FuncData
 UQ:Addr
 OL:FuncData
 TN:Addr
 M':FuncData
 VJ:Addr
 Q7:FuncData
 Vg:Addr
 Qe:FuncData
 QF:Addr
 Jc:FuncData
 TM:Addr
 M_:FuncData
 Sr:Addr
 Le:FuncData
 UP:Addr
 OK:FuncData
 Wo:Addr
 SQ:FuncData
 Cp:Addr
 Co:FuncData
 U7:Addr
 U6:FuncData
 TL:Addr
 M9:FuncData
 Sq:Addr
 Ld:FuncData
 Vf:Addr
 Qc:FuncData
 So:Addr
 Lc:FuncData
 Sn:Addr
 La:FuncData
 UO:Addr
 OJ:FuncData
 FW:Addr
 FV:FuncData
 K':Addr
 K_:FuncData
 Jb:Addr
 N3:FuncData
 VI:Addr
 M8:Addr
 MZ:FuncData
 Sm:Addr
 MY:Addr
 MX:FuncData
 Q6:Addr
 MW:Addr
 MV:FuncData
 OI:Addr
 K9:Addr
 K8:FuncData
 Q5:Addr
 MU:Addr
 MT:FuncData
 V9:Addr
 Qb:Addr
 Qa:FuncData
 K7:Addr
 K6:FuncData
structure Txt(K:W.Frag)(mg:Str->Option Value)(t:Yl):Prop where
 VH:Dn K mg "common_divisor" (top 1) ["a","b"] t.S4 t.S3
 UZ:Dn K mg "common_multiple" (top 2) ["a","b"] t.T1 t.TZ
 ratio:Dn K mg "ratio" (top 3) ["upper","lower"] t.CA t.Cz
 plus:Dn K mg "plus" (top 4) ["first","second"] t.y3 t.y2
 times:Dn K mg "times" (top 5) ["first","second"] t.Cy t.Cw
 minus:Dn K mg "minus" (top 6) ["first","second"] t.Cv t.Cu
 divided:Dn K mg "divided" (top 7) ["first","second"] t.Jk t.Jj
 less:Dn K mg "less" (top 8) ["first","second"] t.yZ t.yY
 QE:Dn K mg "are_units" (top 13) ["number"] t.Nu t.Nt
 MS:Dn K mg "copied_road" (top 14) ["road"] t.Qn t.Qm
 Q4:Dn K mg "copied_land" (top 15) ["land"] t.Ql t.Qk
 Sl:Dn K mg "without_road" (top 16) ["land","number"] t.Rh t.Rg
 K5:Dn K mg "with_units" (top 17) ["land","units"] t.OW t.OV
 MR:Dn K mg "cleared_row" (top 19) ["row","pivot_row","place","before"] t.Qj t.Qi
 cleared:Dn K mg "cleared" (top 20) ["rows"] t.Ji t.Jh
 DW:Dn K mg "traced" (top 25) ["net","arrivals","place"] t.FY t.FX
 FU:Dn K mg "some_way" (top 26) ["net"] t.Lq t.Lp
 FT:Dn K mg "grounded" (top 27) ["rows","source"] t.Lo t.Ln
 OH:Dn K mg "balance_rows" (top 28) ["net","used","spread"] t.Rf t.Rc
 balanced:Dn K mg "balanced" (top 29) ["net","used"] t.Lm t.Ll
 P_:Dn K mg "first_emptied" (top 30) ["load","target"] t.RX t.RW
 moved:Dn K mg "moved" (top 31) ["load","target"] t.Ct t.Cs
 settled:Dn K mg "settled" (top 32) ["net","load","used"] t.Jg t.Jf
 RO:Dn K mg "carried_heights" (top 33) ["net","load"] t.TY t.TX
 Q3:Dn K mg "spread_heights" (top 34) ["net","whole","heights","arrivals"] t.S1 t.SY
 Ul:Dn K mg "cheaper_detour" (top 35) ["net","load"] t.SX t.SW
 rest:Dn K mg "rest" (top 36) ["net"] t.yX t.yW
 HW:Dn K mg "rest_at" (top 38) ["land","costs","slopes"] t.Je t.Jd
 Xm:Dn K mg "resting_flow" (top 39) ["land"] t.Ra t.Q_
 QD:Dn K mg "best_flow" (top 40) ["land"] t.Nr t.Nq
 Tv:Dn K mg "untolled_cost" (top 41) ["road","amount"] t.RV t.RU
 QC:Dn K mg "road_cost" (top 42) ["road","amount"] t.Np t.Nn
 spent:Dn K mg "spent" (top 43) ["land","flow"] t.Cr t.Cq
 Wy:Dn K mg "cheapest_costs" (top 44) ["land","flow"] t.SV t.SU
 SO:Dn K mg "cost_each" (top 45) ["land"] t.Nm t.Nl
 K4:Dn K mg "best_tolls" (top 46) ["land","best"] t.OU t.OT
 MQ:Dn K mg "better_shut" (top 47) ["land","cost"] t.Qh t.Qg
 K3:Dn K mg "first_shut" (top 53) ["land","amounts"] t.OS t.OR
 OG:Dn K mg "first_uneven" (top 54) ["land","amounts"] t.Q9 t.Q8
 K2:Dn K mg "first_dear" (top 55) ["land","amounts"] t.OQ t.OP
 Ja:Dn K mg "judgement" (top 56) ["land","amounts"] t.Nk t.Nj
 P9:Dn K mg "passed_places" (top 64) ["land","row"] t.RT t.RS
 K1:Dn K mg "next_roads" (top 65) ["land","passed"] t.OO t.ON
 Ve:Dn K mg "ways_in_order" (top 66) ["land"] t.RQ t.RP
 FR:Dn K mg "way_cost" (top 67) ["land","flow","way"] t.Lk t.Lj
 FQ:Dn K mg "least_on" (top 68) ["flow","way"] t.Li t.Lh
 FP:Dn K mg "parts_of" (top 69) ["land","flow"] t.Lg t.Lf
 Wx:Dn K mg "fractions_told" (top 72) ["fractions"] t.SS t.SR
 QB:Dn K mg "list_told" (top 73) ["numbers"] t.Ni t.Nh
 QA:Dn K mg "cost_told" (top 74) ["cost"] t.Ng t.Nf
 N2:Dn K mg "tell_land" (top 75) ["land","given"] t.TV t.Nd
 N0:Dn K mg "tell_flow" (top 76) ["land","given"] t.TU t.Nc
 NZ:Dn K mg "tell_time" (top 77) ["land","given"] t.TR t.Nb
 NY:Dn K mg "tell_best" (top 78) ["land","given"] t.TQ t.Na
 PJ:Dn K mg "tell_price" (top 79) ["land","given"] t.UR t.OM
 PH:Dn K mg "tell_tolls" (top 80) ["land","given"] t.UQ t.OL
 NX:Dn K mg "tell_cost" (top 81) ["land","given"] t.TN t.M'
 Sk:Dn K mg "tell_without" (top 82) ["land","given"] t.VJ t.Q7
 Q2:Dn K mg "tell_better" (top 83) ["land","given"] t.Vg t.Qe
 HV:Dn K mg "tell_at" (top 84) ["land","given"] t.QF t.Jc
 NW:Dn K mg "tell_ways" (top 85) ["land","given"] t.TM t.M_
 K0:Dn K mg "tell_way" (top 86) ["land","given"] t.Sr t.Le
 PF:Dn K mg "tell_parts" (top 87) ["land","given"] t.UP t.OK
 Uk:Dn K mg "tell_judgement" (top 88) ["land","given"] t.Wo t.SQ
 asked:Dn K mg "asked" (top 90) ["land","number","given"] t.Cp t.Co
 V4:Dn K mg "are_base_and_slope" (top 100) ["base","slope"] t.U7 t.U6
 NV:Dn K mg "make_land" (top 101) ["office","given"] t.TL t.M9
 KZ:Dn K mg "add_road" (top 102) ["office","given"] t.Sq t.Ld
 Q1:Dn K mg "change_road" (top 103) ["office","given"] t.Vf t.Qc
 KY:Dn K mg "set_toll" (top 104) ["office","given"] t.So t.Lc
 KW:Dn K mg "set_shut" (top 105) ["office","given"] t.Sn t.La
 PB:Dn K mg "set_demand" (top 106) ["office","given"] t.UO t.OJ
 answer:Dn K mg "answer" (top 109) ["office","number","given"] t.FW t.FV
 FO:Dn K mg "call_end" (top 110) ["calls","place"] t.K' t.K_
 answers:Dn K mg "answers" (top 111) ["calls"] t.Jb t.N3
 Road:Cn K mg "Road" "Road.__init__" t.VI (inClass (top 11) 0) ["self","tail","head","base","slope"] t.M8 t.MZ
 Land:Cn K mg "Land" "Land.__init__" t.Sm (inClass (top 12) 0) ["self","places","source","goal","units"] t.MY t.MX
 XQ:Cn K mg "Link" "Link.__init__" t.Q6 (inClass (top 22) 0) ["self","tail","head","cost","slope"] t.MW t.MV
 Net:Cn K mg "Net" "Net.__init__" t.OI (inClass (top 23) 0) ["self","places","source","goal","units","links"] t.K9 t.K8
 Load:Cn K mg "Load" "Load.__init__" t.Q5 (inClass (top 24) 0) ["self","amounts","whole"] t.MU t.MT
 Uj:Cn K mg "Office" "Office.__init__" t.V9 (inClass (top 99) 0) ["self"] t.Qb t.Qa
 OF:Mn K "carrying" "Load.carrying" t.Q5 (inClass (top 24) 1) ["self"] t.K7 t.K6
 X5:YE K t.VI "tail"
 Ys:YE K t.VI "head"
 Ww:YE K t.VI "base"
 Xl:YE K t.VI "slope"
 WX:YE K t.VI "toll"
 XN:YE K t.VI "shut"
 Yo:YE K t.Sm "places"
 Xj:YE K t.Sm "source"
 WW:YE K t.Sm "goal"
 Xk:YE K t.Sm "units"
 ZH:YE K t.Sm "roads"
 YK:YE K t.Q6 "tail"
 YY:YE K t.Q6 "head"
 Wu:YE K t.Q6 "cost"
 VG:YE K t.Q6 "slope"
 Wn:YE K t.OI "places"
 UN:YE K t.OI "source"
 Pz:YE K t.OI "goal"
 MP:YE K t.OI "units"
 XM:YE K t.OI "links"
 YX:YE K t.Q5 "amounts"
 WR:YE K t.Q5 "whole"
 X_:YE K t.V9 "land"
 DV:Gv mg "MOST_UNITS" (.int (1000))
 oR:Gv mg "RESTS" (.int (0))
 HU:Gv mg "ON_SHUT_ROAD" (.int (1))
 yV:Gv mg "NOT_EVEN" (.int (2))
 HS:Gv mg "NOT_CHEAPEST" (.int (3))
 XO:Gv mg "WRONG_NUMBER" (.int (-1))
 Vm:Gv mg "NOT_THERE" (.int (-2))
 DU:Gv mg "WRONG_LIST" (.int (-3))
 Sj:Gv mg "NO_WAY" (.int (-4))
 j_:Gv mg "FULL" (.int (-5))
 vR:Gv mg "NO_LAND" (.int (-8))
 MO:Gv mg "MOST_JUDGED" (.int (1000000000))
 FN:Gv mg "MOST_PLACES" (.int (6))
 DT:Gv mg "MOST_ROADS" (.int (9))
 Bh:Gv mg "MOST_BASE" (.int (1000))
 DS:Gv mg "MOST_SLOPE" (.int (1000))
 OE:Gv mg "MOST_OF_TOLL" (.int (1000000))
 Bg:Gv mg "LAND_CALL" (.int (1))
 DR:Gv mg "JUDGE_CALL" (.int (20))
 Wk:mg "len"=none
 ur:mg "abs"=none
 NU:mg "list"=none
 oQ:mg "min"=none
 oP:mg "max"=none
 yU:mg "sorted"=none
 nodict:mg "dict"=none
 TK:mg "range"=none
 UY:mg "enumerate"=none
 KU:mg "zip"=none
section
variable{X:Cx}
theorem gl{x:Str}{v:V}{pos:Pos}(h:Gv X.mg x v)(hg:Gl X x:=by rfl)(hd:(x==("__debug__":Str))=false:=by decide):PE X (.Name x pos) (tC v):=by
 obtain⟨u,hu,r⟩:=h;exact xu hg hu r hd
theorem cl{x:Str}{st:Stmt}{ps:List Str}{f:Addr}{fd:FuncData}{sp:Sp}{j k:Nat}{e:Expr}{es:List Expr}{t:TA}{p pos:Pos}(D:Dn X.K X.mg x st ps f fd)(G:Y6 X.prog X.w X.K X.mg X.base XB j f fd ps sp)(hr:Wj k X.A)(ha:PA X (e::es) t)(hj:j<=k:=by decide)(hg:Gl X x:=by exact rfl)(EA:(x==("__debug__":Str))=false:=by decide)(he:starEach (e::es) X.env=(false,eval e X.env)::starEach es X.env:=by rfl)(Kn:(backTo pos (starEach es X.env)).any (·.1)=false:=by rfl):PE X (.Call (.Name x p) (e::es) [] pos) (uQ sp [] E0 t):=xh G (hr.mono hj) hg D.m D.F.kp D.b .nil Gs ha EA he Kn
theorem mk{x q:Str}{C:Addr}{st:Stmt}{ps:List Str}{f:Addr}{fd:FuncData}{sp:Sp}{j k:Nat}{e:Expr}{es:List Expr}{t:TA}{p pos:Pos}(D:Cn X.K X.mg x q C st ps f fd)(G:Y6 X.prog X.w X.K X.mg X.base XB j f fd ps sp)(hr:Wj k X.A)(ha:PA X (e::es) t)(hj:j+1<=k:=by decide)(hg:Gl X x:=by exact rfl)(EA:(x==("__debug__":Str))=false:=by decide)(he:starEach (e::es) X.env=(false,eval e X.env)::starEach es X.env:=by rfl)(Kn:(backTo pos (starEach es X.env)).any (·.1)=false:=by rfl):PE X (.Call (.Name x p) (e::es) [] pos) (C_ C sp [] E0 t):=xg D.oS G (hr.mono hj) hg D.m D.b .nil Gs ha EA he Kn
theorem dE{x q:Str}{C:Addr}{st:Stmt}{ps:List Str}{f:Addr}{fd:FuncData}{sp:Sp}{j k:Nat}{p pos:Pos}(D:Cn X.K X.mg x q C st ps f fd)(G:Y6 X.prog X.w X.K X.mg X.base XB j f fd ps sp)(hr:Wj k X.A)(hj:j+1<=k)(hg:Gl X x)(EA:(x==("__debug__":Str))=false:=by decide):PE X (.Call (.Name x p) [] [] pos) (C_ C sp [] E0 BV):=Aq D.oS G (hr.mono hj) hg D.m D.b .nil Gs EA
end
end Rw
namespace L2
open PySem PySem.Spec PyProof.Rows
theorem ZX.Zu{H0 H:Hp}(s:ZX H0 H){a:Addr}(h:H0 a=none)(o:HO):ZX H0 (upd H a o):=fun b u e=>by
 rw[ZV (Zx e h)];exact s b u e
theorem ZX.new{H:Hp}{a:Addr}(h:H a=none)(o:HO):ZX H (upd H a o):=ZX.Zu (ZX.refl H) h o
end L2
namespace Rw
open PySem PySem.Spec PyProof.Rows L2
abbrev St:=L2.St
theorem KS{H:Hp}{a b:Addr}{o u:HO}(O:H b=some u)(h:H a=none):upd H a o b=some u:=by
 rw[ZV (Zx O h)];exact O
theorem Cm{Z_:It}{n:Nat}{g:TG}{tb:TS}{D:Ends}{σ:St}{H:Hp}(Pv:Nat->St->Hp->Prop)(h0:Pv 0 σ H)(j9:∀i σ H,i<n->Pv i σ H->Z_.go i H)(AD:∀σ H,Pv n σ H->Z_.stop n H)(hs:∀i x σ H H',i<n->Pv i σ H->Z_.G0 i H x H'->g x σ H' fun Wc H2=>tb {D with nx:=Pv (i+1),ct:=Pv (i+1),bk:=D.nx} Wc H2)(hd:∀σ H,Pv n σ H->D.nx σ H):∃W:Nat->Nat->St->Hp->Prop,(∃m,W 0 m σ H)/\∀i m σ H,W i m σ H->(Z_.stop i H/\D.nx σ H)\/(Z_.go i H/\∃N:St->Hp->Prop,(∀XC H',N XC H'->∃m',m'<m/\W (i+1) m' XC H')/\∀x H',Z_.G0 i H x H'->g x σ H' fun Wc H2=>tb {D with nx:=N,ct:=N,bk:=D.nx} Wc H2):=by
 refine⟨fun i m σ H=>m=n-i/\i<=n/\Pv i σ H,⟨n,by simp,Zt _,h0⟩,?_⟩;rintro i m σ H ⟨rfl,hi,p⟩;by_cases WY:i<n;·exact .inr ⟨j9 i σ H WY p,Pv (i+1),fun XC H' p'=>⟨n-(i+1),by omega,Y,WY,p'⟩,fun x H' y=>hs i x σ H H' WY p y⟩
 ·have e:i=n:=by omega
  subst e;exact .inl ⟨AD σ H p,hd σ H p⟩
abbrev Bf(K:W.Frag)(i j:Nat):TG:=qg K 2 (AE (JT i) (AE (JT j) qh))
theorem KR{K:W.Frag}{i j:Nat}{T:Addr}{x y:V}{σ:St}{H:Hp}{Q:St->Hp->Prop}(h:U4 K H T [x,y])(q:Q ((σ.set i (some x)).set j (some y)) H):Bf K i j (.ref T) σ H Q:=
 ⟨T,[x,y],Y,h,Y,x,[y],Y,y,[],Y,Y,q⟩
theorem U5{K:PySem.W.Frag}{a:Addr}{xs:List V}{i j:Nat}{tb:TS}{D:Ends}{σ:St}{H:Hp}(Pv:Nat->St->Hp->Prop)(h0:Pv 0 σ H)(hl:∀k σ H,k<=xs.length->Pv k σ H->Zw K H a xs)(hs:∀k x σ H H',xs[k]?=some x->Pv k σ H->ZX H H'->tb {D with nx:=Pv (k+1),ct:=Pv (k+1),bk:=D.nx} ((σ.set i (some (.int k))).set j (some x)) H')(hd:∀σ H,Pv xs.length σ H->D.nx σ H):∃W:Nat->Nat->St->Hp->Prop,(∃m,W 0 m σ H)/\∀i' m σ H,W i' m σ H->((uJ K a).stop i' H/\D.nx σ H)\/((uJ K a).go i' H/\∃N:St->Hp->Prop,(∀XC H',N XC H'->∃m',m'<m/\W (i'+1) m' XC H')/\∀x H',(uJ K a).G0 i' H x H'->Bf K i j x σ H' fun Wc H2=>tb {D with nx:=N,ct:=N,bk:=D.nx} Wc H2):=by
 refine Cm (n:=xs.length) Pv h0 (fun k σ H hk p=>⟨xs,xs[k],hl k σ H (YZ hk) p,by simp[hk]⟩) (fun σ H p=>⟨xs,hl _ σ H (ZK _) p,ZK _⟩) (fun k v σ H H' hk p y=>?_) hd;obtain⟨T,x,rfl,hT,rfl,hx⟩:=y;exact KR (U4.of Z4) (hs k x σ H _ (hx xs (hl k σ H (YZ hk) p)) p (ZX.new hT _))
theorem Mh{K:PySem.W.Frag}{a b:Addr}{xs ys:List V}{i j:Nat}{tb:TS}{D:Ends}{σ:St}{H:Hp}(he:xs.length=ys.length)(Pv:Nat->St->Hp->Prop)(h0:Pv 0 σ H)(hl:∀k σ H,k<=xs.length->Pv k σ H->Zw K H a xs/\Zw K H b ys)(hs:∀k x y σ H H',xs[k]?=some x->ys[k]?=some y->Pv k σ H->ZX H H'->tb {D with nx:=Pv (k+1),ct:=Pv (k+1),bk:=D.nx} ((σ.set i (some x)).set j (some y)) H')(hd:∀σ H,Pv xs.length σ H->D.nx σ H):∃W:Nat->Nat->St->Hp->Prop,(∃m,W 0 m σ H)/\∀i' m σ H,W i' m σ H->((uI K a b).stop i' H/\D.nx σ H)\/((uI K a b).go i' H/\∃N:St->Hp->Prop,(∀XC H',N XC H'->∃m',m'<m/\W (i'+1) m' XC H')/\∀x H',(uI K a b).G0 i' H x H'->Bf K i j x σ H' fun Wc H2=>tb {D with nx:=N,ct:=N,bk:=D.nx} Wc H2):=by
 refine Cm (n:=xs.length) Pv h0 (fun k σ H hk p=>⟨xs,ys,xs[k],ys[k]'(by omega),(hl k σ H (YZ hk) p).1,(hl k σ H (YZ hk) p).2,by simp[hk],by simp⟩) (fun σ H p=>⟨xs,ys,(hl _ σ H (ZK _) p).1,(hl _ σ H (ZK _) p).2,.inl (ZK _)⟩) (fun k v σ H H' hk p y=>?_) hd;obtain⟨T,x,y,rfl,hT,rfl,hx,hy⟩:=y;have q:=hl k σ H (YZ hk) p;exact KR (U4.of Z4) (hs k x y σ H _ (hx xs q.1) (hy ys q.2) p (ZX.new hT _))
theorem yT{Z_:It}{n:Nat}{g:TG}{tt:TT}{te:TE}{vs:List Nat}{σ:St}{H1:Hp}{D:Addr}{Qd:Hp->Prop}(Pv:Nat->Hp->Prop)(h0:Pv 0 (upd H1 D (.lst [])))(j9:∀i H,i<n->Pv i H->Z_.go i H)(AD:∀H,Pv n H->Z_.stop n H)(hs:∀i x H H',i<n->Pv i H->Z_.G0 i H x H'->g x (wipe σ vs) H' fun Wc H2=>wipe Wc vs=wipe σ vs/\tt Wc H2 fun b H3=>if b=true then te Wc H3 fun y H4=>∃acc,H4 D=some (.lst acc)/\acc.length<sizeLine/\Pv (i+1) (upd H4 D (.lst (acc++[y])))else Pv (i+1) H3)(hd:∀H,Pv n H->Qd H):∃W:Nat->Nat->Hp->Prop,(∃m,W 0 m (upd H1 D (.lst [])))/\∀i m H,W i m H->(Z_.stop i H/\Qd H)\/(Z_.go i H/\∃Nx:Hp->Prop,(∀H',Nx H'->∃m',m'<m/\W (i+1) m' H')/\∀x H',Z_.G0 i H x H'->g x (wipe σ vs) H' fun Wc H2=>wipe Wc vs=wipe σ vs/\tt Wc H2 fun b H3=>if b=true then te Wc H3 fun y H4=>∃acc,H4 D=some (.lst acc)/\acc.length<sizeLine/\Nx (upd H4 D (.lst (acc++[y])))else Nx H3):=by
 refine⟨fun i m H=>m=n-i/\i<=n/\Pv i H,⟨n,by simp,Zt _,h0⟩,?_⟩;rintro i m H ⟨rfl,hi,p⟩;by_cases WY:i<n;·exact .inr ⟨j9 i H WY p,Pv (i+1),fun H' p'=>⟨n-(i+1),by omega,Y,WY,p'⟩,fun x H' y=>hs i x H H' WY p y⟩
 ·have e:i=n:=by omega
  subst e;exact .inl ⟨AD H p,hd H p⟩
theorem Mg {K : PySem.W.Frag} {a : Addr} {xs : List V} {i j : Nat} {tt : TT} {te : TE} {vs : List Nat} {σ : St} {H1 : Hp} {D : Addr} {Qd : Hp -> Prop} (Pv : Nat -> Hp -> Prop) (h0 : Pv 0 (upd H1 D (.lst []))) (hl : ∀ k H, k <= xs.length -> Pv k H -> Zw K H a xs)
    (hs : ∀ k x H H', xs[k]? = some x -> Pv k H -> ZX H H' -> wipe (((wipe σ vs).set i (some (.int k))).set j (some x)) vs = wipe σ vs /\ tt (((wipe σ vs).set i (some (.int k))).set j (some x)) H' fun b H3 =>
      if b = true then te (((wipe σ vs).set i (some (.int k))).set j (some x)) H3 fun y H4 => ∃ acc, H4 D = some (.lst acc) /\ acc.length < sizeLine /\ Pv (k + 1) (upd H4 D (.lst (acc ++ [y]))) else Pv (k + 1) H3) (hd : ∀ H, Pv xs.length H -> Qd H) :
    ∃ W : Nat -> Nat -> Hp -> Prop, (∃ m, W 0 m (upd H1 D (.lst []))) /\ ∀ i' m H, W i' m H ->
      ((uJ K a).stop i' H /\ Qd H) \/ ((uJ K a).go i' H /\ ∃ Nx : Hp -> Prop, (∀ H', Nx H' -> ∃ m', m' < m /\ W (i' + 1) m' H') /\ ∀ x H', (uJ K a).G0 i' H x H' -> Bf K i j x (wipe σ vs) H' fun Wc H2 => wipe Wc vs = wipe σ vs /\ tt Wc H2 fun b H3 =>
        if b = true then te Wc H3 fun y H4 => ∃ acc, H4 D = some (.lst acc) /\ acc.length < sizeLine /\ Nx (upd H4 D (.lst (acc ++ [y]))) else Nx H3) := by
  refine yT (n := xs.length) Pv h0 (fun k H hk p => ⟨xs, xs[k], hl k H (YZ hk) p, by simp [hk]⟩) (fun H p => ⟨xs, hl _ H (ZK _) p, ZK _⟩) (fun k v H H' hk p y => ?_) hd
  obtain ⟨T, x, rfl, hT, rfl, hx⟩ := y
  exact KR (U4.of Z4) (hs k x H _ (hx xs (hl k H (YZ hk) p)) p (ZX.new hT _))
theorem DQ {K : PySem.W.Frag} {a b : Addr} {xs ys : List V} {i j : Nat} {tt : TT} {te : TE} {vs : List Nat} {σ : St} {H1 : Hp} {D : Addr} {Qd : Hp -> Prop} (he : xs.length = ys.length) (Pv : Nat -> Hp -> Prop) (h0 : Pv 0 (upd H1 D (.lst []))) (hl : ∀ k H, k <= xs.length -> Pv k H -> Zw K H a xs /\ Zw K H b ys)
    (hs : ∀ k x y H H', xs[k]? = some x -> ys[k]? = some y -> Pv k H -> ZX H H' -> wipe (((wipe σ vs).set i (some x)).set j (some y)) vs = wipe σ vs /\ tt (((wipe σ vs).set i (some x)).set j (some y)) H' fun b H3 =>
      if b = true then te (((wipe σ vs).set i (some x)).set j (some y)) H3 fun y H4 => ∃ acc, H4 D = some (.lst acc) /\ acc.length < sizeLine /\ Pv (k + 1) (upd H4 D (.lst (acc ++ [y]))) else Pv (k + 1) H3) (hd : ∀ H, Pv xs.length H -> Qd H) :
    ∃ W : Nat -> Nat -> Hp -> Prop, (∃ m, W 0 m (upd H1 D (.lst []))) /\ ∀ i' m H, W i' m H ->
      ((uI K a b).stop i' H /\ Qd H) \/ ((uI K a b).go i' H /\ ∃ Nx : Hp -> Prop, (∀ H', Nx H' -> ∃ m', m' < m /\ W (i' + 1) m' H') /\ ∀ x H', (uI K a b).G0 i' H x H' -> Bf K i j x (wipe σ vs) H' fun Wc H2 => wipe Wc vs = wipe σ vs /\ tt Wc H2 fun b H3 =>
        if b = true then te Wc H3 fun y H4 => ∃ acc, H4 D = some (.lst acc) /\ acc.length < sizeLine /\ Nx (upd H4 D (.lst (acc ++ [y]))) else Nx H3) := by
  refine yT (n := xs.length) Pv h0 (fun k H hk p => ⟨xs, ys, xs[k], ys[k]'(by omega), (hl k H (YZ hk) p).1, (hl k H (YZ hk) p).2, by simp [hk], by simp⟩) (fun H p => ⟨xs, ys, (hl _ H (ZK _) p).1, (hl _ H (ZK _) p).2, .inl (ZK _)⟩) (fun k v H H' hk p y => ?_) hd
  obtain ⟨T, x, y, rfl, hT, rfl, hx, hy⟩ := y
  have q := hl k H (YZ hk) p
  exact KR (U4.of Z4) (hs k x y H _ (hx xs q.1) (hy ys q.2) p (ZX.new hT _))
theorem Ui{n:Nat}{g:TG}{tb:TS}{D:Ends}{σ:St}{H:Hp}(Pv:Nat->St->Hp->Prop)(h0:Pv 0 σ H)(hs:∀(i:Nat) σ H,i<n->Pv i σ H->g (.int (i:Int)) σ H fun Wc H2=>tb {D with nx:=Pv (i+1),ct:=Pv (i+1),bk:=D.nx} Wc H2)(hd:∀σ H,Pv n σ H->D.nx σ H):∃W:Nat->Nat->St->Hp->Prop,(∃m,W 0 m σ H)/\∀i m σ H,W i m σ H->((EM 0 n).stop i H/\D.nx σ H)\/((EM 0 n).go i H/\∃N:St->Hp->Prop,(∀XC H',N XC H'->∃m',m'<m/\W (i+1) m' XC H')/\∀x H',(EM 0 n).G0 i H x H'->g x σ H' fun Wc H2=>tb {D with nx:=N,ct:=N,bk:=D.nx} Wc H2):=
 BY Pv h0 (fun i σ H hi p=>by rw[Int.zero_add];exact hs i σ H hi p) hd
theorem Qz {n : Nat} {g : TG} {tt : TT} {te : TE} {vs : List Nat} {σ : St} {H1 : Hp} {D : Addr} {Qd : Hp -> Prop} (Pv : Nat -> Hp -> Prop) (h0 : Pv 0 (upd H1 D (.lst [])))
    (hs : ∀ (i : Nat) H, i < n -> Pv i H -> g (.int (i : Int)) (wipe σ vs) H fun Wc H2 => wipe Wc vs = wipe σ vs /\ tt Wc H2 fun b H3 =>
      if b = true then te Wc H3 fun y H4 => ∃ acc, H4 D = some (.lst acc) /\ acc.length < sizeLine /\ Pv (i + 1) (upd H4 D (.lst (acc ++ [y]))) else Pv (i + 1) H3) (hd : ∀ H, Pv n H -> Qd H) :
    ∃ W : Nat -> Nat -> Hp -> Prop, (∃ m, W 0 m (upd H1 D (.lst []))) /\ ∀ i m H, W i m H ->
      ((EM 0 n).stop i H /\ Qd H) \/ ((EM 0 n).go i H /\ ∃ Nx : Hp -> Prop, (∀ H', Nx H' -> ∃ m', m' < m /\ W (i + 1) m' H') /\ ∀ x H', (EM 0 n).G0 i H x H' -> g x (wipe σ vs) H' fun Wc H2 => wipe Wc vs = wipe σ vs /\ tt Wc H2 fun b H3 =>
        if b = true then te Wc H3 fun y H4 => ∃ acc, H4 D = some (.lst acc) /\ acc.length < sizeLine /\ Nx (upd H4 D (.lst (acc ++ [y]))) else Nx H3) :=
  Ae Pv h0 (fun i H hi p => by rw [Int.zero_add]; exact hs i H hi p) hd
abbrev IL(H:Hp)(a:Addr)(ns:List Int):Prop:=H a=some (.lst (ns.map V.int))
theorem int_at{ns:List Int}{k:Nat}{x:V}(h:(ns.map V.int)[k]?=some x):k<ns.length/\x=.int (ns.getD k 0):=by
 rw[Zb]at h;obtain⟨n,hn,rfl⟩:=Uv.mp h;refine⟨(Zy.mp hn).1,?_⟩;rw[ZW,hn];rfl
theorem Wh{ns:List Int}{k:Nat}(h:k<ns.length):QO (ns.map V.int) (k:Int)=some (.int (ns.getD k 0)):=by
 refine SD ?_;rw[Zb,ZW,ZT h];rfl
theorem Yz{rs:List Addr}{k:Nat}{r:Addr}(h:rs[k]?=some r):QO (rs.map V.ref) (k:Int)=some (.ref r):=by
 refine SD ?_;rw[Zb,h];rfl
theorem Yb{rs:List Addr}{k:Nat}{x:V}(h:(rs.map V.ref)[k]?=some x):∃r,rs[k]?=some r/\x=.ref r:=by
 rw[Zb]at h;obtain⟨r,hr,rfl⟩:=Uv.mp h;exact⟨r,hr,Y⟩
theorem Ck(ns:List Int)(n:Int):ns.map V.int++[.int n]=(ns++[n]).map V.int:=by rw[YV];rfl
theorem UM(rs:List Addr)(r:Addr):rs.map V.ref++[.ref r]=(rs++[r]).map V.ref:=by rw[YV];rfl
theorem UL{α:Type}{l:List α}{x y:α}{j:Nat}(h:(l++[x])[j]?=some y):(j<l.length/\l[j]?=some y)\/(j=l.length/\y=x):=by
 by_cases hj:j<l.length
 ·rw[VT hj]at h;exact .inl ⟨hj,h⟩
 ·rw[Uy (by omega)]at h;by_cases q:j-l.length=0
  ·rw[q]at h;cases h;exact .inr ⟨by omega,Y⟩
  ·rw[YH (by simp;omega)]at h;cases h
theorem qH{A B:Prop}{c:Bool}(hc:c=true)(h:A):if c=true then A else B:=by rw[Z7 hc];exact h
theorem oO{A B:Prop}{c:Bool}(hc:c=false)(h:B):if c=true then A else B:=by rw[Z8 (by rw[hc];simp)];exact h
section
variable{X:Cx}{K:W.Frag}
theorem Py{i j k:Nat}{x y:Str}{px py pos:Pos}(hK:X.K=K)(hc:X.calm=true)(hN:X.N.Nodup)(hi:X.N[i]?=some x)(hj:X.N[j]?=some y)(hx:Loc X.env.scope x)(hy:Loc X.env.scope y)(hf:X.fn x=true\/X.env.scope.names.lookup x=some .local:=by first|exact .inl rfl|exact .inr rfl|assumption)(j8:X.fn y=true\/X.env.scope.names.lookup y=some .local:=by first|exact .inl rfl|exact .inr rfl|assumption):PG X (.Tuple [.Name x px,.Name y py] k pos) (Bf K i j):=by
 subst hK;exact VQ hc (YU (Zz hN hi hx hf) (YU (Zz hN hj hy j8) WH))
theorem UK{e:Expr}{f:Str}{pos:Pos}{ta:TE}(hK:X.K=K)(he:PE X e ta)(O:attributeBase e f X.env (eval e X.env)=eval e X.env):PE X (.Attribute e f pos) (xi K ta f):=by
 subst hK;exact ZY he O
theorem yS(hK:X.K=K):nG X (pU K):=by
 subst hK;exact ZM
end
theorem Uh{X:Cx}:qe X (fun o i H Q=>∃p xs k v,o=.ref p/\i=.int k/\Zw X.K H p xs/\0<=k/\QO xs k=some v/\Q v H):=by
 intro pins s σ H o i ov iv Q I ro ri h;obtain⟨p,xs,k,v,rfl,rfl,hs,h0,ha,q⟩:=h;cases ro;obtain⟨t,rfl⟩:=ri;obtain⟨Y5,r,pl,hz⟩:=I.list hs;obtain⟨j,J,h2,h3,h4,h5⟩:=IG ha;obtain⟨w,ew,BQ⟩:=r.get h2;have hl:=r.length;have hn:=LX;have hj:k.toNat=j:=by
  rw[seqIndex_of h0 h5]at J;exact Y8 J
 exact wpAny_getItem_list pl.isList h0 (by omega) (by rw[hj];simpa using ew) ⟨v,H,I,BQ,q⟩
open RR
def Fr(H:Hp)(a:Addr)(q:Rat):Prop:=H a=some (.tup [.int q.num,.int q.den])
theorem Fr.up{H H':Hp}{a:Addr}{q:Rat}(h:Fr H a q)(s:ZX H H'):Fr H' a q:=s _ _ h
def G9:Nat:=33554432
theorem Cj{n:Nat}{x:Int}(h:Bd n x):Builtin.Int.intBits x<=n:=by
 unfold Builtin.Int.intBits;split;·exact Zt _
 ·rename_i q;have h0:x.natAbs≠0:=fun z=>q (by rw[Int.natAbs_eq_zero.mp z];rfl);have:=(Nat.log2_lt h0).mpr h;omega
theorem XF{x y:Int}(hx:Bd G9 x)(hy:Bd G9 y):IntMulOk x y:=mulOk_of_bits (Cj hx) (Cj hy) (by decide)
theorem yR{q:Rat}(h:0<q):0<q.num:=by
 have J:=Td.mpr (Yy h);have h2:q.num≠0:=fun z=>by
  have:=Rat.num_eq_zero.mp z;rw[this]at h;exact absurd h (by decide)
 omega
def j7:Sp:=fun vs H Q _=>∃a b:Int,vs=[.int a,.int b]/\0<=a/\0<=b/\Q (.int ((Int.gcd a b:Nat):Int)) H
def j6:Sp:=fun vs H Q _=>∃a b:Int,vs=[.int a,.int b]/\0<a/\0<b/\Bd G9 a/\Bd G9 b/\Q (.int ((Int.lcm a b:Nat):Int)) H
def vQ:Sp:=fun vs H Q _=>∃u l:Int,vs=[.int u,.int l]/\0<l/\∀p,H p=none->Q (.ref p) (upd H p (.tup [.int (qr u l).num,.int (qr u l).den]))
def yQ(f:Rat->Rat->Rat):Sp:=fun vs H Q _=>∃a b p q,vs=[.ref a,.ref b]/\Fr H a p/\Fr H b q/\Rb G9 p/\Rb G9 q/\∀H' c,ZX H H'->Fr H' c (f p q)->Q (.ref c) H'
def oN:Sp:=fun vs H Q _=>∃a b p q,vs=[.ref a,.ref b]/\Fr H a p/\Fr H b q/\Rb G9 p/\Rb G9 q/\0<q/\∀H' c,ZX H H'->Fr H' c (p/q)->Q (.ref c) H'
def rZ:Sp:=fun vs H Q _=>∃a b p q,vs=[.ref a,.ref b]/\Fr H a p/\Fr H b q/\Rb G9 p/\Rb G9 q/\Q (.bl (decide (p<q))) H
section
variable{P:Program}{w:World}{K:W.Frag}{mg:Str->Option Value}{base:Heap}{t:Yl}
theorem OD:ZL ["a","b","left"] ["a","b"] (ZZ (top 1)):=YR
theorem VF(T:Txt K mg t):Y6 P w K mg base XB 33 t.S4 t.S3 ["a","b"] j7:=by
 have sc:=OD;refine T.VH.F.ok sc (fun vs H Q E h=>?_) (fun Yp A outer s H vs Q E hr h=>?_)
 ·obtain⟨a,b,rfl,_⟩:=h;rfl
 ·obtain⟨a,b,rfl,ha,O,k⟩:=h;refine⟨_,(Z5 (Vb Zi (ZG NH (Z 1) ZR (Zr _)) (Z5 (ZS (i:=2) sc.nd Y Y4 (Zc tL (Z 0) (Z 1)))
   (Z5 (ZS (i:=0) sc.nd Y Y4 (Z 1))
   (Z0 (ZS (i:=1) sc.nd Y Y4 (Z 2))))))
   (Z0 (ZN (Z 0)))),?_⟩
  refine⟨fun m σ H'=>H'=H/\∃(x y:Int) (l:Option V),σ=[some (.int x),some (.int y),l]/\0<=x/\0<=y/\m=y.toNat/\Int.gcd x y=Int.gcd a b,Z1 Y ⟨a,b,none,Y,ha,O,Y,Y⟩,?_⟩;rintro m σ H' ⟨rfl,x,y,l,rfl,hx,hy,rfl,hg⟩;refine Z1 Y (ZQ Y rfl (Z1 Y (Wb (fun c=>?_) (fun c=>?_))))
  ·have pR:0<y:=ZD c;refine⟨fun XC HR=>∃m',m'<y.toNat/\(HR=H'/\∃(x y:Int) (l:Option V),XC=[some (.int x),some (.int y),l]/\0<=x/\0<=y/\m'=y.toNat/\Int.gcd x y=Int.gcd a b),fun _ _ h=>h,?_⟩;refine Y' Y rfl (ZQ Y rfl ⟨pR,Y' Y rfl ?_⟩);have J:=Int.emod_nonneg x (by omega:y≠0);have h2:=Int.emod_lt_of_pos x pR;exact⟨(x%y).toNat,by omega,Y,y,x%y,Z1 Y ⟨hy,J,Y,by rw[<-hg];exact zw hx pR⟩⟩
  ·have dB:y=0:=by
    have:¬0<y:=fun q=>c (ZP q);omega
   subst dB;refine Z1 Y ?_;have e:x=((Int.gcd a b:Nat):Int):=by
    rw[<-hg,Int.gcd_zero_right];omega
   rw[e];exact k
theorem Px:ZL ["a","b"] ["a","b"] (ZZ (top 2)):=YR
theorem Ug(T:Txt K mg t):Y6 P w K mg base XB 34 t.T1 t.TZ ["a","b"] j6:=by
 have sc:=Px;refine T.UZ.F.ok sc (fun vs H Q E h=>?_) (fun Yp A outer s H vs Q E hr h=>?_)
 ·obtain⟨a,b,rfl,_⟩:=h;rfl
 ·have hd:=hr.div (by decide);obtain⟨a,b,rfl,ha,O,ba,bb,k⟩:=h;refine⟨_,(Z0 (ZN (Zc YQ (Zc (VO hd) (Z 0) (cl T.VH (VF T) hr (Z6 (Z 0) (Z6 (Z 1) Z2)))) (Z 1)))),?_⟩;refine Y' Y rfl (Z1 Y (Xr a b ⟨Y,by omega,by omega,ZQ Y rfl ⟨Jw O,Z1 Y (ZQ Y rfl ⟨XF ba.div bb,?_⟩)⟩⟩));show Q (V.int (a/((Int.gcd a b:Nat):Int)*b)) H;rw[Gf ha O];exact k
theorem yP:ZL ["upper","lower","divisor"] ["upper","lower"] (ZZ (top 3)):=YR
theorem Yg(T:Txt K mg t):Y6 P w K mg base XB 34 t.CA t.Cz ["upper","lower"] vQ:=by
 have sc:=yP;refine T.ratio.F.ok sc (fun vs H Q E h=>?_) (fun Yp A outer s H vs Q E hr h=>?_)
 ·obtain⟨u,l,rfl,_⟩:=h;rfl
 ·have hd:=hr.div (by decide);obtain⟨u,l,rfl,hl,k⟩:=h;refine⟨_,(Z5 (ZS (i:=2) sc.nd Y Y4 (cl T.VH (VF T) hr (Z6 (YN GW (by rfl) T.ur boot_abs (Z6 (Z 0) Z2)) (Z6 (Z 1) Z2))))
   (Z0 (ZN (ED (Z6 (Zc (VO hd) (Z 0) (Z 2)) (Z6 (Zc (VO hd) (Z 1) (Z 2)) Z2)))))),?_⟩
  have hg:=Jw (a:=u) hl;refine Z1 Y ⟨u,Y,Z1 Y (ZQ Y (by split<;>omega) ⟨by omega,?_⟩)⟩;rw[CL];refine Y' Y rfl (ZQ Y rfl ⟨hg,Y' Y rfl (ZQ Y rfl ⟨hg,(by show 2<=sizeLine;decide),fun p hp=>?_⟩)⟩);have:=k p hp;rw[Ik hl Y,LC hl rfl]at this;exact this
theorem vP:ZL ["first","second"] ["first","second"] (ZZ (top 4)):=YR
theorem UJ(T:Txt K mg t):Y6 P w K mg base XB 35 t.y3 t.y2 ["first","second"] (yQ (·+·)):=by
 have sc:=vP;refine T.plus.F.ok sc (fun vs H Q E h=>?_) (fun Yp A outer s H vs Q E hr h=>?_)
 ·obtain⟨a,b,p,q,rfl,_⟩:=h;rfl
 ·obtain⟨a,b,p,q,rfl,hp,hq,bp,bq,k⟩:=h;refine⟨_,(Z0 (ZN (cl T.ratio (Yg T) hr (Z6 (Zc SF (Zc YQ (ZI Yj (Z 0) ZR (fun _ _=>rfl)) (ZI Yj (Z 1) ZR (fun _ _=>rfl))) (Zc YQ (ZI Yj (Z 1) ZR (fun _ _=>rfl)) (ZI Yj (Z 0) ZR (fun _ _=>rfl)))) (Z6 (Zc YQ (ZI Yj (Z 0) ZR (fun _ _=>rfl)) (ZI Yj (Z 1) ZR (fun _ _=>rfl))) Z2))))),?_⟩;refine Z1 Y (ZJ Y rfl (U4.of hp) rfl (Z1 Y (ZJ Y rfl (U4.of hq) rfl (ZQ Y rfl ⟨XF bp.num bq.den,Z1 Y (ZJ Y rfl (U4.of hq) rfl (Z1 Y (ZJ Y rfl (U4.of hp) rfl (ZQ Y rfl ⟨XF bq.num bp.den,ZQ Y rfl (Z1 Y (ZJ Y rfl (U4.of hp) rfl (Z1 Y (ZJ Y rfl (U4.of hq) rfl (ZQ Y rfl ⟨XF bp.den bq.den,ZQ Y (U8 p q) (fun c hc=>?_)⟩)))))⟩))))⟩))));rw[Ij];exact k _ c (ZX.new hc _) Z4
theorem yO:ZL ["first","second"] ["first","second"] (ZZ (top 5)):=YR
theorem KQ(T:Txt K mg t):Y6 P w K mg base XB 35 t.Cy t.Cw ["first","second"] (yQ (·*·)):=by
 have sc:=yO;refine T.times.F.ok sc (fun vs H Q E h=>?_) (fun Yp A outer s H vs Q E hr h=>?_)
 ·obtain⟨a,b,p,q,rfl,_⟩:=h;rfl
 ·obtain⟨a,b,p,q,rfl,hp,hq,bp,bq,k⟩:=h;refine⟨_,(Z0 (ZN (cl T.ratio (Yg T) hr (Z6 (Zc YQ (ZI Yj (Z 0) ZR (fun _ _=>rfl)) (ZI Yj (Z 1) ZR (fun _ _=>rfl))) (Z6 (Zc YQ (ZI Yj (Z 0) ZR (fun _ _=>rfl)) (ZI Yj (Z 1) ZR (fun _ _=>rfl))) Z2))))),?_⟩;refine Z1 Y (ZJ Y rfl (U4.of hp) rfl (Z1 Y (ZJ Y rfl (U4.of hq) rfl (ZQ Y rfl ⟨XF bp.num bq.num,Z1 Y (ZJ Y rfl (U4.of hp) rfl (Z1 Y (ZJ Y rfl (U4.of hq) rfl (ZQ Y rfl ⟨XF bp.den bq.den,ZQ Y (U8 p q) (fun c hc=>?_)⟩))))⟩))));rw[Gg];exact k _ c (ZX.new hc _) Z4
theorem yN:ZL ["first","second"] ["first","second"] (ZZ (top 6)):=YR
theorem FL(T:Txt K mg t):Y6 P w K mg base XB 36 t.Cv t.Cu ["first","second"] (yQ (·-·)):=by
 have sc:=yN;refine T.minus.F.ok sc (fun vs H Q E h=>?_) (fun Yp A outer s H vs Q E hr h=>?_)
 ·obtain⟨a,b,p,q,rfl,_⟩:=h;rfl
 ·obtain⟨a,b,p,q,rfl,hp,hq,bp,bq,k⟩:=h;refine⟨_,(Z0 (ZN (cl T.plus (UJ T) hr (Z6 (Z 0) (Z6 (ED (Z6 (GZ LZ (ZI Yj (Z 1) ZR (fun _ _=>rfl))) (Z6 (ZI Yj (Z 1) ZR (fun _ _=>rfl)) Z2))) Z2))))),?_⟩;refine Y' Y rfl (ZJ Y rfl (U4.of hq) rfl (Y' Y rfl (ZJ Y rfl (U4.of hq) rfl ⟨(by show 2<=sizeLine;decide),fun c hc=>⟨a,c,p,-q,Y,Fr.up hp (ZX.new hc _),?_,bp,bq.neg,fun H' d s f=>?_⟩⟩)))
  ·show upd H c _ c=_;rw[Z4,Rat.neg_num,Rat.neg_den]
  ·have f:Fr H' d (p+-q):=f;rw[<-Rat.sub_eq_add_neg]at f;exact k H' d ((ZX.new hc _).trans s) f
theorem DP:ZL ["first","second"] ["first","second"] (ZZ (top 7)):=YR
theorem DO(T:Txt K mg t):Y6 P w K mg base XB 35 t.Jk t.Jj ["first","second"] oN:=by
 have sc:=DP;refine T.divided.F.ok sc (fun vs H Q E h=>?_) (fun Yp A outer s H vs Q E hr h=>?_)
 ·obtain⟨a,b,p,q,rfl,_⟩:=h;rfl
 ·obtain⟨a,b,p,q,rfl,hp,hq,bp,bq,q0,k⟩:=h;refine⟨_,(Z0 (ZN (cl T.ratio (Yg T) hr (Z6 (Zc YQ (ZI Yj (Z 0) ZR (fun _ _=>rfl)) (ZI Yj (Z 1) ZR (fun _ _=>rfl))) (Z6 (Zc YQ (ZI Yj (Z 0) ZR (fun _ _=>rfl)) (ZI Yj (Z 1) ZR (fun _ _=>rfl))) Z2))))),?_⟩;refine Z1 Y (ZJ Y rfl (U4.of hp) rfl (Z1 Y (ZJ Y rfl (U4.of hq) rfl (ZQ Y rfl ⟨XF bp.num bq.den,Z1 Y (ZJ Y rfl (U4.of hp) rfl (Z1 Y (ZJ Y rfl (U4.of hq) rfl (ZQ Y rfl ⟨XF bp.den bq.num,ZQ Y (US (VM p) (yR q0)) (fun c hc=>?_)⟩))))⟩))));rw[sJ p q q0];exact k _ c (ZX.new hc _) Z4
theorem vO:ZL ["first","second"] ["first","second"] (ZZ (top 8)):=YR
theorem HQ(T:Txt K mg t):Y6 P w K mg base XB 33 t.yZ t.yY ["first","second"] rZ:=by
 have sc:=vO;refine T.less.F.ok sc (fun vs H Q E h=>?_) (fun Yp A outer s H vs Q E hr h=>?_)
 ·obtain⟨a,b,p,q,rfl,_⟩:=h;rfl
 ·obtain⟨a,b,p,q,rfl,hp,hq,bp,bq,k⟩:=h;refine⟨_,(Z0 (ZN (Dc JS (Zc YQ (ZI Yj (Z 0) ZR (fun _ _=>rfl)) (ZI Yj (Z 1) ZR (fun _ _=>rfl))) (Zc YQ (ZI Yj (Z 1) ZR (fun _ _=>rfl)) (ZI Yj (Z 0) ZR (fun _ _=>rfl))) (Zr _)))),?_⟩;refine Z1 Y (ZJ Y rfl (U4.of hp) rfl (Z1 Y (ZJ Y rfl (U4.of hq) rfl (ZQ Y rfl ⟨XF bp.num bq.den,Z1 Y (ZJ Y rfl (U4.of hq) rfl (Z1 Y (ZJ Y rfl (U4.of hp) rfl (ZQ Y rfl ⟨XF bq.num bp.den,ZQ Y rfl ?_⟩))))⟩))));show Q (V.bl (decide (p.num*q.den<q.num*p.den))) H;rw[wj];exact k
end
open RhRoads (Road Land)
theorem yM{K:W.Frag}{H:Hp}{a C dx:Addr}{fs:List (Str×V)}{f:Str}{y:V}{Q:Hp->Prop}(h:H a=some (.ins C dx fs))(c:EU K C)(n:YE K C f)(l:fs.length<1000)(q:Q (upd H a (.ins C dx (SE f y fs)))):∃a' C' qN AK,V.ref a=.ref a'/\H a'=some (.ins C' qN AK)/\EU K C'/\YE K C' f/\AK.length<1000/\Q (upd H a' (.ins C' qN (SE f y AK))):=W9 a C dx fs ⟨Y,h,c,n,l,q⟩
noncomputable def MN(r:Road)(ta:Addr):List (Str×V):=[("tail",.int r.from_),("head",.int r.to_),("base",.int r.base),("slope",.int r.slope),("toll",.ref ta),("shut",.int r.shut.toNat)]
noncomputable def uq(n s g u:Nat)(la:Addr):List (Str×V):=[("places",.int n),("source",.int s),("goal",.int g),("units",.int u),("roads",.ref la)]
structure FK(t:Yl)(H:Hp)(a ta:Addr)(r:Road):Prop where
 obj:∃dx,H a=some (.ins t.VI dx (MN r ta))
 toll:Fr H ta r.toll
def Wt(t:Yl)(H:Hp)(a:Addr)(r:Road):Prop:=∃ta,FK t H a ta r
structure Q0(t:Yl)(H:Hp)(a la:Addr)(rs:List Addr)(l:Land):Prop where
 obj:∃dx,H a=some (.ins t.Sm dx (uq l.places l.source l.goal l.units la))
 lst:H la=some (.lst (rs.map V.ref))
 len:rs.length=l.roads.length
 nd:rs.Nodup
 at_:∀i ra,rs[i]?=some ra->Wt t H ra (rd l i)
def WI(t:Yl)(H:Hp)(a:Addr)(l:Land):Prop:=∃la rs,Q0 t H a la rs l
theorem FK.up{t:Yl}{H H':Hp}{a ta:Addr}{r:Road}(h:FK t H a ta r)(s:ZX H H'):FK t H' a ta r:=⟨let⟨dx,e⟩:=h.obj;⟨dx,s _ _ e⟩,h.toll.up s⟩
theorem Wt.up{t:Yl}{H H':Hp}{a:Addr}{r:Road}(h:Wt t H a r)(s:ZX H H'):Wt t H' a r:=let⟨ta,e⟩:=h;⟨ta,e.up s⟩
theorem Q0.up{t:Yl}{H H':Hp}{a la:Addr}{rs:List Addr}{l:Land}(h:Q0 t H a la rs l)(s:ZX H H'):Q0 t H' a la rs l:=⟨let⟨dx,e⟩:=h.obj;⟨dx,s _ _ e⟩,s _ _ h.lst,h.len,h.nd,fun i ra e=>(h.at_ i ra e).up s⟩
theorem WI.up{t:Yl}{H H':Hp}{a:Addr}{l:Land}(h:WI t H a l)(s:ZX H H'):WI t H' a l:=let⟨la,rs,e⟩:=h;⟨la,rs,e.up s⟩
section
variable{P:Program}{w:World}{K:W.Frag}{mg:Str->Option Value}{base:Heap}{t:Yl}
theorem yL{H:Hp}{a b:Addr}{o:HO}(h:H a=some o)(O:H b=none):b≠a:=fun q=>by rw[q,h]at O;cases O
theorem Be:qr 0 1=0:=by
 rw[Eb];rfl
def vN(t:Yl):Sp:=fun vs H Q _=>∃(p dx:Addr) (u v b s:Nat),vs=[.ref p,.int u,.int v,.int b,.int s]/\H p=some (.ins t.VI dx [])/\
 ∀H' ta,FK t H' p ta ⟨u,v,b,s,0,false⟩->(∀b o,H b=some o->b≠p->H' b=some o)->Q .Xf H'
theorem HP:ZL ["self","tail","head","base","slope"] ["self","tail","head","base","slope"] (ZZ (inClass (top 11) 0)):=YR
theorem OC(T:Txt K mg t):Y6 P w K mg base XB 35 t.M8 t.MZ ["self","tail","head","base","slope"] (vN t):=by
 have sc:=HP;refine T.Road.F.ok sc (fun vs H Q E h=>?_) (fun Yp A outer s H vs Q E hr h=>?_)
 ·obtain⟨p,dx,u,v,b,s,rfl,_⟩:=h;rfl
 ·obtain⟨p,dx,u,v,b,s,rfl,hp,k⟩:=h;refine⟨_,(Z5 (YB (Z 0) (Z 1) rfl)
   (Z5 (YB (Z 0) (Z 2) rfl)
   (Z5 (YB (Z 0) (Z 3) rfl)
   (Z5 (YB (Z 0) (Z 4) rfl)
   (Z5 (YB (Z 0) (cl T.ratio (Yg T) hr (Z6 ZR (Z6 ZR Z2))) rfl)
   (Z0 (YB (Z 0) ZR Y))))))),?_⟩
  refine Y' Y rfl (yM hp T.Road.cl T.X5 (by decide) (Y' Y rfl (yM Z4 T.Road.cl T.Ys (by show 1<1000;decide) (Y' Y rfl (yM Z4 T.Road.cl T.Ww (by show 2<1000;decide) (Y' Y rfl (yM Z4 T.Road.cl T.Xl (by show 3<1000;decide) ⟨0,1,Y,by decide,fun ta mY=>Z1 Y (yM (KS Z4 mY) T.Road.cl T.WX (by show 4<1000;decide) (Z1 Y (yM Z4 T.Road.cl T.XN (by show 5<1000;decide) ?_)))⟩)))))));have n1:ta≠p:=yL Z4 mY;refine k _ ta ⟨⟨dx,Z4⟩,?_⟩ fun b o e O=>?_
  ·show _=some _;rw[ZV n1,ZV n1,Z4,Be]
  ·have h2:b≠ta:=fun q=>by
    subst q;rw[ZV O,ZV O,ZV O,ZV O,e]at mY;cases mY
   rw[ZV O,ZV O,ZV h2,ZV O,ZV O,ZV O,ZV O];exact e
def vM(t:Yl):Sp:=fun vs H Q _=>∃(p dx:Addr) (n s g u:Nat),vs=[.ref p,.int n,.int s,.int g,.int u]/\H p=some (.ins t.Sm dx [])/\
 ∀H' la,H la=none->H' p=some (.ins t.Sm dx (uq n s g u la))->H' la=some (.lst [])->(∀b o,H b=some o->b≠p->H' b=some o)->Q .Xf H'
theorem HN:ZL ["self","places","source","goal","units"] ["self","places","source","goal","units"] (ZZ (inClass (top 12) 0)):=YR
theorem OB(T:Txt K mg t):Y6 P w K mg base XB 33 t.MY t.MX ["self","places","source","goal","units"] (vM t):=by
 have sc:=HN;refine T.Land.F.ok sc (fun vs H Q E h=>?_) (fun Yp A outer s H vs Q E hr h=>?_)
 ·obtain⟨p,dx,n,s,g,u,rfl,_⟩:=h;rfl
 ·obtain⟨p,dx,n,s,g,u,rfl,hp,k⟩:=h;refine⟨_,(Z5 (YB (Z 0) (Z 1) rfl)
   (Z5 (YB (Z 0) (Z 2) rfl)
   (Z5 (YB (Z 0) (Z 3) rfl)
   (Z5 (YB (Z 0) (Z 4) rfl)
   (Z0 (YB (Z 0) (Zv Z2) rfl)))))),?_⟩
  refine Y' Y rfl (yM hp T.Land.cl T.Yo (by decide) (Y' Y rfl (yM Z4 T.Land.cl T.Xj (by show 1<1000;decide) (Y' Y rfl (yM Z4 T.Land.cl T.WW (by show 2<1000;decide) (Y' Y rfl (yM Z4 T.Land.cl T.Xk (by show 3<1000;decide) ⟨Zt _,fun la rY=>Z1 Y (yM (KS Z4 rY) T.Land.cl T.ZH (by show 4<1000;decide) ?_)⟩)))))));have n1:la≠p:=yL Z4 rY;have h0:H la=none:=by
   rw[ZV n1,ZV n1,ZV n1,ZV n1]at rY;exact rY
  refine k _ la h0 Z4 (by rw[ZV n1,Z4]) fun b o e O=>?_;rw[ZV O,ZV (fun q=>by rw[q,h0]at e;cases e),ZV O,ZV O,ZV O,ZV O];exact e
def vL:Sp:=fun vs H Q _=>∃n:Int,vs=[.int n]/\Q (.bl (decide (1<=n/\n<=1000))) H
theorem HM:ZL ["number"] ["number"] (ZZ (top 13)):=YR
theorem Si(T:Txt K mg t):Y6 P w K mg base XB 33 t.Nu t.Nt ["number"] vL:=by
 have sc:=HM;refine T.QE.F.ok sc (fun vs H Q E h=>?_) (fun Yp A outer s H vs Q E hr h=>?_)
 ·obtain⟨n,rfl,_⟩:=h;rfl
 ·obtain⟨n,rfl,k⟩:=h;refine⟨_,(Z0 (ZN (GY RB RB ZR (Z 0) (gl T.DV)))),?_⟩;refine Z1 Y (ZQ Y rfl (Z1 Y (Wb (fun c=>?_) (fun c=>?_))))
  ·have c:=ZD c;refine ZQ Y rfl ?_;have e:decide (1<=n/\n<=1000)=decide (n<=1000):=by by_cases q:n<=1000<;>simp[q,c]
   rw[e]at k;exact k
  ·have c:¬1<=n:=fun q=>c (ZP q);have e:decide (1<=n/\n<=1000)=false:=by simp[c]
   rw[e]at k;exact k
def vK(t:Yl):Sp:=fun vs H Q _=>∃a r,vs=[.ref a]/\Wt t H a r/\∀H' b,H b=none->ZX H H'->Wt t H' b r->Q (.ref b) H'
theorem KP:ZL ["road","twin"] ["road"] (ZZ (top 14)):=YR
theorem KO(T:Txt K mg t):Y6 P w K mg base XB 37 t.Qn t.Qm ["road"] (vK t):=by
 have sc:=KP;refine T.MS.F.ok sc (fun vs H Q E h=>?_) (fun Yp A outer s H vs Q E hr h=>?_)
 ·obtain⟨a,r,rfl,_⟩:=h;rfl
 ·obtain⟨a,r,rfl,⟨ta,hR⟩,k⟩:=h;refine⟨_,(Z5 (ZS (i:=1) sc.nd Y Y4 (mk T.Road (OC T) hr (Z6 (ZY (Z 0) rfl) (Z6 (ZY (Z 0) rfl) (Z6 (ZY (Z 0) rfl) (Z6 (ZY (Z 0) rfl) Z2))))))
   (Z5 (YB (Z 1) (ZY (Z 0) rfl) rfl)
   (Z5 (YB (Z 1) (ZY (Z 0) rfl) rfl)
   (Z0 (ZN (Z 1)))))),?_⟩
  obtain⟨Tu,ea⟩:=hR.obj;refine YJ Y ea T.Road.cl T.X5 Y (YJ Y ea T.Road.cl T.Ys Y (YJ Y ea T.Road.cl T.Ww Y (YJ Y ea T.Road.cl T.Xl Y ?_)));intro x dx nx nd ne;refine XR x dx _ (Xh ⟨Y,Z4,fun H1 tb hB kp=>⟨Y,?_⟩⟩);have s1:ZX H H1:=ZX.made nx nd kp;have du:=hR.up s1;obtain⟨gU,e1⟩:=hB.obj;have dq:a≠x:=Zx ea nx;have G8:=s1 _ _ ea;refine YJ Y G8 T.Road.cl T.WX Y (Z1 Y (ZJ Y e1 T.Road.cl T.WX ⟨(by show 6<1000;decide),YJ Y (by rw[ZV dq];exact G8) T.Road.cl T.XN Y (Z1 Y (ZJ Y Z4 T.Road.cl T.XN ⟨(by show 6<1000;decide),Z1 Y ?_⟩))⟩));refine k _ x nx (fun b o e=>?_) ⟨ta,⟨gU,?_⟩,?_⟩
  ·have O:b≠x:=Zx e nx;rw[ZV O,ZV O];exact s1 _ _ e
  ·rw[Z4];rfl
  ·have O:ta≠x:=Zx hR.toll nx;show _=some _;rw[ZV O,ZV O];exact du.toll
end
theorem Xi{H:Hp}{b D:Addr}{o u:HO}{xs:List V}(h:H b=some o)(hD:H D=some (.lst xs))(n:∀ys,o≠.lst ys):upd H D u b=some o:=by
 rw[ZV (fun q=>by rw[q,hD]at h;exact n _ (Y8 h).symm)];exact h
theorem Sh{H:Hp}{b D C dx:Addr}{o u:HO}{fs:List (Str×V)}(h:H b=some o)(hD:H D=some (.ins C dx fs))(n:∀C dx fs,o≠.ins C dx fs):upd H D u b=some o:=by
 rw[ZV (fun q=>by rw[q,hD]at h;exact n _ _ _ (Y8 h).symm)];exact h
theorem Wt.lst{t:Yl}{H:Hp}{b D:Addr}{u:HO}{xs:List V}{r:Road}(h:Wt t H b r)(hD:H D=some (.lst xs)):Wt t (upd H D u) b r:=by
 obtain⟨ta,⟨dx,e⟩,f⟩:=h;exact⟨ta,⟨dx,Xi e hD fun ys q=>by cases q⟩,Xi f hD fun ys q=>by cases q⟩
theorem Wt.ins{t:Yl}{H:Hp}{b D C dx:Addr}{u:HO}{fs:List (Str×V)}{r:Road}(h:Wt t H b r)(hD:H D=some (.ins C dx fs))(n:b≠D):Wt t (upd H D u) b r:=by
 obtain⟨ta,⟨dx,e⟩,f⟩:=h;exact⟨ta,⟨dx,by rw[ZV n];exact e⟩,Sh f hD fun _ _ _ q=>by cases q⟩
section
variable{P:Program}{w:World}{K:W.Frag}{mg:Str->Option Value}{base:Heap}{t:Yl}
def vJ(t:Yl):Sp:=fun vs H Q _=>∃a l,vs=[.ref a]/\WI t H a l/\l.roads.length<=9/\∀H' b lb rb,H b=none->H lb=none->(∀r,r∈rb->H r=none)->ZX H H'->Q0 t H' b lb rb l->Q (.ref b) H'
theorem KN:ZL ["land","twin","road"] ["land"] (ZZ (top 15)):=YR
theorem QZ(T:Txt K mg t):Y6 P w K mg base XB 38 t.Ql t.Qk ["land"] (vJ t):=by
 have sc:=KN;refine T.Q4.F.ok sc (fun vs H Q E h=>?_) (fun Yp A outer s H vs Q E hr h=>?_)
 ·obtain⟨a,l,rfl,_⟩:=h;rfl
 ·obtain⟨a,l,rfl,⟨la,rs,hL⟩,h9,k⟩:=h;obtain⟨Tu,ea⟩:=hL.obj;refine⟨_,(Z5 (ZS (i:=1) sc.nd Y Y4 (mk T.Land (OB T) hr (Z6 (ZY (Z 0) rfl) (Z6 (ZY (Z 0) rfl) (Z6 (ZY (Z 0) rfl) (Z6 (ZY (Z 0) rfl) Z2))))))
   (Z5 (YB (Z 1) (R5 Y sc.nd (Yq (ZY (Z 0) rfl)) (Yt (own:=[("road",2)]) (show T_ ["land","twin","road"] (ZZ (top 15)) _ _=true by decide+kernel)) (fun _ _ _ _ _=>by exact(Zz (i:=2) sc.nd Y Y4)) (fun _ _ _ _ _=>by exact XE) (fun _ _ _ _ _=>by exact(cl T.MS (KO T) hr (Z6 (Z 2) Z2)))) rfl)
   (Z0 (ZN (Z 1))))),?_⟩
  refine YJ Y ea T.Land.cl T.Yo Y (YJ Y ea T.Land.cl T.Xj Y (YJ Y ea T.Land.cl T.WW Y (YJ Y ea T.Land.cl T.Xk Y ?_)));intro x dx nx nd ne;refine XR x dx _ (Xh ⟨Y,Z4,fun H1 lx hlx e1 e2 kp=>⟨Y,?_⟩⟩);have s1:ZX H H1:=ZX.made nx nd kp;have AN:=hL.up s1;have G8:=s1 _ _ ea;refine YJ Y G8 T.Land.cl T.ZH Y ⟨la,Y,⟨_,Zw.of AN.lst⟩,fun D hD=>?_⟩;refine Vi (K:=K) (a:=la) (xs:=rs.map V.ref) (fun i H'=>ZX H1 H'/\∃bs:List Addr,H' D=some (.lst (bs.map V.ref))/\bs.length=i/\bs.Nodup/\(∀b,b∈bs->H1 b=none)/\∀(j:Nat) b,bs[j]?=some b->Wt t H' b (rd l j))
   ⟨ZX.new hD _,[],Z4,Y,Tq,fun b O=>(by cases O),fun j b O=>(by simp at O)⟩ (fun i H' _ p=>Zw.of (p.1 _ _ AN.lst)) ?_ ?_
  ·rintro i y H' hi ⟨s2,bs,d1,d2,d3,d4,d5⟩;rw[Zb]at hi;obtain⟨ra,Xg,rfl⟩:=Uv.mp hi;refine⟨Y,Z1 Y ⟨ra,rd l i,Y,(AN.at_ i ra Xg).up s2,fun H3 b O s3 hB=>?_⟩⟩;have dn:i<rs.length:=(Zy.mp Xg).1;have dD:=s3 _ _ d1;refine⟨_,dD,by rw[Z3,d2];exact Zl (Zl dn (by rw[hL.len];exact h9)) (by decide),(s2.trans s3).Zu hD _,bs++[b],?_,by rw[ZF,d2];rfl,O6 d3 ?_,?_,?_⟩
   ·rw[Z4,YV];rfl
   ·intro q;obtain⟨j,hj⟩:=List.getElem?_of_mem q;obtain⟨ta,⟨dz,z⟩,_⟩:=d5 j b hj;rw[O]at z;cases z
   ·intro c hc;rcases Zj.mp hc with hc|hc;·exact d4 c hc
    ·rw[Zm]at hc;subst hc;exact s2.free O
   ·intro j c hc;by_cases hj:j<bs.length
    ·rw[VT hj]at hc;exact((d5 j c hc).up s3).lst dD
    ·rw[Uy (by omega)]at hc;have gX:j-bs.length=0:=by
      by_cases q:j-bs.length=0;·exact q
      ·rw[YH (by simp;omega)]at hc;cases hc
     rw[gX]at hc;cases hc;have:j=i:=by omega
     subst this;exact hB.lst dD
  ·rintro H' ⟨s2,bs,d1,d2,d3,d4,d5⟩;rw[Z3]at d2;have Bc:=s2 _ _ e1;have xn:x∉bs:=fun q=>by
    have:=d4 x q;rw[e1]at this;cases this
   refine Z1 Y (ZJ Y Bc T.Land.cl T.ZH ⟨(by show 5<1000;decide),Z1 Y ?_⟩);refine k _ x D bs nx (s1.free hD) (fun r hr=>s1.free (d4 r hr)) (fun b o e=>?_) ⟨⟨dx,?_⟩,?_,?_,d3,fun i ra Xg=>(d5 i ra Xg).ins Bc fun q=>xn (q▸Y3 Xg)⟩
   ·rw[ZV (Zx e nx)];exact s2 _ _ (s1 _ _ e)
   ·rw[Z4];rfl
   ·rw[Sh d1 Bc fun _ _ _ q=>by cases q]
   ·rw[d2];exact hL.len
def Bb(t:Yl):Sp:=fun vs H Q _=>∃a l,∃e:Nat,vs=[.ref a,.int e]/\WI t H a l/\l.roads.length<=9/\e<l.roads.length/\∀H' b,ZX H H'->WI t H' b (RoadSpec.one l e fun r=>{r with shut:=true})->Q (.ref b) H'
theorem yK{l:Land}{e i:Nat}{f:Road->Road}(he:e<l.roads.length):rd (RoadSpec.one l e f) i=if i=e then f (rd l i)else rd l i:=by
 unfold rd RoadSpec.one;show(l.roads.modify e f).getD i Wi=_;rw[ZW,List.getElem?_modify,ZW];by_cases q:i=e
 ·subst q;simp[ZT he]
 ·have q':¬e=i:=fun z=>q z.symm;simp[q,q']
theorem MC:ZL ["land","number","twin","road"] ["land","number"] (ZZ (top 16)):=YR
theorem RN(T:Txt K mg t):Y6 P w K mg base XB 39 t.Rh t.Rg ["land","number"] (Bb t):=by
 have sc:=MC;refine T.Sl.F.ok sc (fun vs H Q E h=>?_) (fun Yp A outer s H vs Q E hr h=>?_)
 ·obtain⟨a,l,e,rfl,_⟩:=h;rfl
 ·obtain⟨a,l,e,rfl,hL,h9,he,k⟩:=h;refine⟨_,(Z5 (ZS (i:=2) sc.nd Y Y4 (cl T.Q4 (QZ T) hr (Z6 (Z 0) Z2)))
   (Z5 (ZS (i:=3) sc.nd Y Y4 (ZI ZM (ZY (Z 2) rfl) (Z 1) (fun _ _=>rfl)))
   (Z5 (YB (Z 3) ZR Y)
   (Z0 (ZN (Z 2)))))),?_⟩
  refine Z1 Y (Xr a l ⟨Y,hL,h9,fun H1 b lb rb n1 n2 n3 s1 hB=>?_⟩);obtain⟨vI,eb⟩:=hB.obj;obtain⟨ra,Xg⟩:∃ra,rb[e]?=some ra:=⟨_,ZT (by rw[hB.len];exact he)⟩;obtain⟨ta,⟨oM,er⟩,fr⟩:=hB.at_ e ra Xg;refine YJ Y eb T.Land.cl T.ZH Y (Z1 Y (ZJ Y rfl (Zw.of hB.lst) (SD (by rw[Zb,Xg];rfl)) (Z1 Y (ZJ Y er T.Road.cl T.XN ⟨(by show 6<1000;decide),Z1 Y ?_⟩))));have dj:H ra=none:=n3 ra (Y3 Xg);refine k _ b (fun c o ec=>?_) ⟨lb,rb,⟨vI,?_⟩,?_,?_,hB.nd,fun i rc KL=>?_⟩
  ·rw[ZV (Zx ec dj)];exact s1 _ _ ec
  ·rw[ZV];·exact eb
   ·intro q;rw[q,er]at eb;have:=Y8 eb;injection this with _ _ z
    cases z
  ·rw[Sh hB.lst er fun _ _ _ q=>by cases q]
  ·rw[hB.len];show _=(l.roads.modify e _).length;rw[List.length_modify]
  ·rw[yK he];by_cases q:i=e
   ·subst q;rw[Xg]at KL;cases KL;rw[Z7 rfl];exact⟨ta,⟨oM,Z4⟩,Sh fr er fun _ _ _ q=>by cases q⟩
   ·rw[Z8 q];exact(hB.at_ i rc KL).ins er fun z=>q (z4 hB.nd KL (by rw[z];exact Xg))
def FJ(t:Yl):Sp:=fun vs H Q _=>∃a l,∃d:Nat,vs=[.ref a,.int d]/\WI t H a l/\l.roads.length<=9/\∀H' b,ZX H H'->WI t H' b {l with units:=d}->Q (.ref b) H'
theorem Kg:ZL ["land","units","twin"] ["land","units"] (ZZ (top 17)):=YR
theorem Kf(T:Txt K mg t):Y6 P w K mg base XB 39 t.OW t.OV ["land","units"] (FJ t):=by
 have sc:=Kg;refine T.K5.F.ok sc (fun vs H Q E h=>?_) (fun Yp A outer s H vs Q E hr h=>?_)
 ·obtain⟨a,l,d,rfl,_⟩:=h;rfl
 ·obtain⟨a,l,d,rfl,hL,h9,k⟩:=h;refine⟨_,(Z5 (ZS (i:=2) sc.nd Y Y4 (cl T.Q4 (QZ T) hr (Z6 (Z 0) Z2)))
   (Z5 (YB (Z 2) (Z 1) rfl)
   (Z0 (ZN (Z 2))))),?_⟩
  refine Z1 Y (Xr a l ⟨Y,hL,h9,fun H1 b lb rb n1 n2 n3 s1 hB=>?_⟩);obtain⟨vI,eb⟩:=hB.obj;refine Y' Y rfl (ZJ Y eb T.Land.cl T.Xk ⟨(by show 5<1000;decide),Z1 Y ?_⟩);refine k _ b (fun c o ec=>?_) ⟨lb,rb,⟨vI,Z4⟩,?_,hB.len,hB.nd,fun i rc KL=>?_⟩
  ·rw[ZV (Zx ec n1)];exact s1 _ _ ec
  ·rw[Sh hB.lst eb fun _ _ _ q=>by cases q]
  ·refine Wt.ins (hB.at_ i rc KL) eb fun q=>?_;obtain⟨ta,⟨oM,er⟩,_⟩:=hB.at_ i rc KL;rw[q,eb]at er;have:=Y8 er;injection this with _ _ z
   cases z
end
end Rw
namespace Rw
open PySem PySem.Spec PyProof.Rows L2 RR
section
variable{P:Program}{w:World}{K:W.Frag}{mg:Str->Option Value}{base:Heap}{t:Yl}
def HL:Sp:=fun vs H Q _=>∃a b,∃p:Nat,∃bf:Int,∃row pr:List Int,vs=[.ref a,.ref b,.int p,.int bf]/\IL H a row/\IL H b pr/\row.length=pr.length/\row.length<=100/\p<row.length/\0<bf/\(∀j,j<row.length->Bd G9 (row.getD j 0)/\Bd G9 (pr.getD j 0))/\
 ∀H' c,H c=none->ZX H H'->IL H' c (Vn p bf pr row)->Q (.ref c) H'
theorem KJ:ZL ["row","pivot_row","place","before","pivot","factor","a","b"] ["row","pivot_row","place","before"] (ZZ (top 19)):=YR
theorem KI(T:Txt K mg t):Y6 P w K mg base XB 33 t.Qj t.Qi ["row","pivot_row","place","before"] HL:=by
 have sc:=KJ;refine T.MR.F.ok sc (fun vs H Q E h=>?_) (fun Yp A outer s H vs Q E hr h=>?_)
 ·obtain⟨a,b,p,bf,row,pr,rfl,_⟩:=h;rfl
 ·have hd:=hr.div (by decide);obtain⟨a,b,p,bf,row,pr,rfl,ha,O,hl,yJ,hp,h0,bd,k⟩:=h;refine⟨_,(Z5 (ZS (i:=4) sc.nd Y (Or.inr Y) (ZI ZM (Z 1) (Z 2) (fun _ _=>rfl)))
   (Z5 (ZS (i:=5) sc.nd Y (Or.inr Y) (ZI ZM (Z 0) (Z 2) (fun _ _=>rfl)))
   (Z0 (ZN (R5 Y sc.nd (PX Y T.KU (Z6 (Z 0) (Z6 (Z 1) Z2))) (Yt (own:=[("a",6),("b",7)]) (show T_ ["row","pivot_row","place","before","pivot","factor","a","b"] (ZZ (top 19)) _ _=true by decide+kernel)) (fun _ _ _ _ _=>by exact(Py (K:=K) (i:=6) (j:=7) rfl rfl sc.nd Y rfl Y4 Y4)) (fun _ _ _ _ _=>by exact XE) (fun _ _ _ _ _=>by exact(Zc (VO hd) (Zc PY (Zc YQ (Z 4) (Z 6)) (Zc YQ (Z 5) (Z 7))) (Z 3)))))))),?_⟩
  refine Y' Y rfl (ZJ Y rfl (Zw.of O) (Wh (by omega)) (Y' Y rfl (ZJ Y rfl (Zw.of ha) (Wh hp) ?_)));refine Y' Y rfl (V7 ⟨Y,Zw.of ha,Zw.of O,fun D hD=>?_⟩);refine DQ (K:=K) (xs:=row.map V.int) (ys:=pr.map V.int) (by simp[hl]) (fun i H'=>ZX H H'/\∃acc:List Int,IL H' D acc/\acc=(Vn p bf pr row).take i)
   ⟨ZX.new hD _,[],Z4,Y⟩ (fun i H' _ q=>⟨Zw.of (q.1 _ _ ha),Zw.of (q.1 _ _ O)⟩) ?_ ?_
  ·rintro i x y H1 H2 hx hy ⟨s1,acc,d1,d2⟩ s2;obtain⟨hi,rfl⟩:=int_at hx;obtain⟨hj,rfl⟩:=int_at hy;have hlen:(Vn p bf pr row).length=row.length:=by
    unfold Vn;rw[List.length_zipWith];omega
   refine⟨Y,Y' Y rfl (ZQ Y rfl ⟨XF (bd p hp).2 (bd i hi).1,Y' Y rfl (ZQ Y rfl ⟨XF (bd p hp).1 (bd i hi).2,ZQ Y rfl (Z1 Y (ZQ Y rfl ⟨h0,?_⟩))⟩)⟩)⟩;refine⟨_,s2 _ _ d1,?_,(s1.trans s2).Zu hD _,acc++[(Vn p bf pr row).getD i 0],?_,?_⟩
   ·rw[Z3,d2,Xt];exact Yx (Nat.min_le_right _ _) (by rw[hlen];exact Yx yJ (by decide))
   ·show upd _ _ _ _=_;rw[Z4,<-Ck];congr 4;unfold Vn;rw[O1 _ rfl hl.symm hi,Int.fdiv_eq_ediv_of_nonneg _ (by omega)]
   ·rw[d2,Xc,ZW,ZT (by rw[hlen];exact hi)];rfl
  ·rintro H' ⟨s1,acc,d1,d2⟩;rw[Z3,Ph (by unfold Vn;rw[List.length_zipWith];omega)]at d2;subst d2;exact k H' D hD s1 d1
def Ue(H:Hp)(a:Addr)(rows:List (List Int)):Prop:=∃rs:List Addr,H a=some (.lst (rs.map V.ref))/\rs.length=rows.length/\∀(i:Nat) r,rs[i]?=some r->IL H r (rows.getD i [])
theorem Ue.up{H H':Hp}{a:Addr}{rows:List (List Int)}(h:Ue H a rows)(s:ZX H H'):Ue H' a rows:=by
 obtain⟨rs,J,h2,h3⟩:=h;exact⟨rs,s _ _ J,h2,fun i r e=>s _ _ (h3 i r e)⟩
def Ba:Sp:=fun vs H Q _=>∃a rows n b,vs=[.ref a]/\Ue H a rows/\0<n/\n<=6/\Rk n (n+1) rows/\Sy n (fun i j=>(ent rows i j:Rat))/\(∀i,i<n->∀j,j<n+1->Bd b (ent rows i j))/\b<=1000/\
 ∀H' c,ZX H H'->Ue H' c (Yc n rows).1->Q (.ref c) H'
theorem DN:ZL ["rows","before","place","pivot_row","number","row"] ["rows"] (ZZ (top 20)):=YR
theorem DM(T:Txt K mg t):Y6 P w K mg base XB 34 t.Ji t.Jh ["rows"] Ba:=by
 have sc:=DN;refine T.cleared.F.ok sc (fun vs H Q E h=>?_) (fun Yp A outer s H vs Q E hr h=>?_)
 ·obtain⟨a,rows,n,b,rfl,_⟩:=h;rfl
 ·have hd:=hr.div (by decide);obtain⟨a,rows,n,b,rfl,⟨rs,e1,e2,e3⟩,n0,n6,R,PD,bd,b1,k⟩:=h;have nl:rs.length=n:=by rw[e2,R.len]
  refine⟨_,(Z5 (ZS (i:=1) sc.nd Y (Or.inr Y) ZR)
   (Z5 (Yu Zi Y (V2 Y T.TK (Z6 (YN Zd (by rfl) T.Wk YM (Z6 (Z 0) Z2)) Z2)) (Zz (i:=2) sc.nd Y (Or.inr Y)) (Z5 (ZS (i:=3) sc.nd Y (Or.inr Y) (ZI ZM (Z 0) (Z 2) (fun _ _=>rfl)))
   (Z5 (Va (i:=0) rfl sc.nd Y rfl (T8 Y rfl rfl rfl) (V8 Y T.UY (Z6 (Z 0) Z2)) (Yt (own:=[("number",4),("row",5)]) (show T_ ["rows","before","place","pivot_row","number","row"] (ZZ (top 20)) _ _=true by decide+kernel)) (fun _ _ _ _ _=>by exact(Py (K:=K) (i:=4) (j:=5) rfl rfl sc.nd Y rfl Y4 Y4)) (fun _ _ _ _ _=>by exact XE) (fun _ _ _ _ _=>by exact(L7 (ZG UW (Z 4) (Z 2) (Zr _)) (Z 3) (cl T.MR (KI T) hr (Z6 (Z 5) (Z6 (Z 3) (Z6 (Z 2) (Z6 (Z 1) Z2))))))))
   (Z0 (ZS (i:=1) sc.nd Y (Or.inr Y) (ZI ZM (Z 3) (Z 2) (fun _ _=>rfl)))))))
   (Z0 (ZN (Z 0))))),?_⟩
  refine Z1 Y (Yd ⟨Y,.inl (Zw.of e1),(rs.length:Int),by rw[Z3],by omega,by omega,?_⟩);subst nl;refine Ui (n:=rs.length) (fun i σ H'=>∃c2 c3 c4 c5 a',σ=[some (.ref a'),some (.int (Yc i rows).2),c2,c3,c4,c5]/\ZX H H'/\Ue H' a' (Yc i rows).1) ⟨none,none,none,none,a,Y,ZX.refl H,rs,e1,e2,e3⟩ ?_ ?_
  ·rintro i σ H1 hi ⟨c2,c3,c4,c5,a',rfl,s1,vW,d1,d2,d3⟩;obtain⟨R1,bp,uo⟩:=Sv R PD n6 bd i (by omega);have l1:vW.length=rs.length:=by rw[d2,R1.len]
   obtain⟨rp,oK⟩:∃rp,vW[i]?=some rp:=⟨_,ZT (by omega)⟩;have big:64*(b+1)<=G9:=by
    show 64*(b+1)<=33554432;omega
   have ln:∀j,j<rs.length->((Yc i rows).1.getD j []).length=rs.length+1:=fun j hj=>R1.at hj;refine Y' Y rfl (V7 ⟨Y,Y,Zw.of d1,Yz oK,Z1 Y (Yd ⟨Y,Zw.of d1,fun D hD=>?_⟩)⟩);refine Mg (K:=K) (xs:=vW.map V.ref) (fun k H2=>ZX H1 H2/\∃bs:List Addr,H2 D=some (.lst (bs.map V.ref))/\bs.length=k/\(∀c,c∈bs->c≠D)/\∀(j:Nat) c,bs[j]?=some c->IL H2 c ((Yc (i+1) rows).1.getD j []))
    ⟨ZX.new hD _,[],Z4,Y,fun c hc=>(by cases hc),fun j c hc=>(by simp at hc)⟩ (fun k H2 _ q=>Zw.of (q.1 _ _ d1)) ?_ ?_
   ·rintro k x H2 H3 hx ⟨s2,bs,g1,g2,g3,g4⟩ s3;obtain⟨r,Gp,rfl⟩:=Yb hx;have hk:k<rs.length:=by rw[<-l1];exact(Zy.mp Gp).1
    have Ci:=s2.trans s3;have row:(Yc (i+1) rows).1.getD k []=if k=i then(Yc i rows).1.getD i []else Vn i (Yc i rows).2 ((Yc i rows).1.getD i []) ((Yc i rows).1.getD k []):=by
     show(Vh i (Yc i rows).2 (Yc i rows).1).getD k []=_;unfold Vh;rw[getD_map _ _ k ([],0) [] (by rw[List.length_zipIdx,R1.len];exact hk),ZW (l:=(Yc i rows).1.zipIdx),List.getElem?_zipIdx,ZT (by rw[R1.len];exact hk)];simp[ZW,ZT (show k<(Yc i rows).1.length by rw[R1.len];exact hk)]
    have fin:∀H4 c,ZX H3 H4->c≠D->IL H4 c ((Yc (i+1) rows).1.getD k [])->∃acc,H4 D=some (.lst acc)/\acc.length<sizeLine/\(ZX H1 (upd H4 D (.lst (acc++[.ref c])))/\∃bs:List Addr,upd H4 D (.lst (acc++[.ref c])) D=some (.lst (bs.map V.ref))/\bs.length=k+1/\(∀c,c∈bs->c≠D)/\∀(j:Nat) c',bs[j]?=some c'->IL (upd H4 D (.lst (acc++[.ref c]))) c' ((Yc (i+1) rows).1.getD j [])):=by
     intro H4 c s4 nc ic;refine⟨_,s4 _ _ (s3 _ _ g1),by rw[Z3,g2];exact Zl hk (by rw[show sizeLine=16777216 from sizeLine_eq];omega),(Ci.trans s4).Zu hD _,bs++[c],by rw[Z4,UM],by rw[ZF,g2];rfl,fun d hd=>?_,fun j d hd=>?_⟩
     ·rcases Zj.mp hd with z|z;·exact g3 d z
      ·rw[Zm]at z;rw[z];exact nc
     ·rcases UL hd with⟨z1,z2⟩|⟨z1,rfl⟩
      ·show upd _ _ _ _=_;rw[ZV (g3 d (Y3 z2))];exact s4 _ _ (s3 _ _ (g4 j d z2))
      ·rw[z1,g2];show upd _ _ _ _=_;rw[ZV nc];exact ic
    refine⟨Y,Y' Y rfl ⟨Y,Z1 Y (Wb (fun c=>Z1 Y ?_) (fun c=>Y' Y rfl (Y' Y rfl ?_)))⟩⟩
    ·have ki:k=i:=by
      have:=ZD c;injection this with z
      omega
     have di:=Ci _ _ (d3 i rp oK);refine fin H3 rp (ZX.refl _) (Zx (d3 i rp oK) hD) ?_;rw[row,Z7 ki];exact di
    ·have ki:k≠i:=fun z=>c (by rw[z];exact ZP Y);refine⟨r,rp,i,(Yc i rows).2,Yd ⟨Y,Ci _ _ (d3 k r Gp),Ci _ _ (d3 i rp oK),by rw[ln k hk,ln i hi],by rw[ln k hk];omega,by rw[ln k hk];omega,bp,fun j hj=>?_,fun H4 c' nc s4 ic=>?_⟩⟩
     ·rw[ln k hk]at hj;exact⟨(uo k hk j hj).mono big,(uo i hi j hj).mono big⟩
     ·refine fin H4 c' s4 (fun z=>by rw[z,s3 _ _ g1]at nc;cases nc) ?_;rw[row,Z8 ki];exact ic
   ·rintro H2 ⟨s2,bs,g1,g2,g3,g4⟩;rw[Z3]at g2;refine Y' Y rfl (V7 ⟨Y,Y,Zw.of (s2 _ _ (d3 i rp oK)),Wh (by rw[ln i hi];omega),V7 ⟨D,Y,s1.trans s2,bs,g1,?_,g4⟩⟩);rw[g2,l1];have:=(Sv R PD n6 bd (i+1) (by omega)).1.len;exact this.symm
  ·rintro σ H1 ⟨c2,c3,c4,c5,a',rfl,s1,hR⟩;exact Z1 Y (k H1 a' s1 hR)
end
abbrev NL(H:Hp)(a:Addr)(us:List Nat):Prop:=H a=some (.lst (us.map fun(k:Nat)=>V.int (k:Int)))
theorem Ud{us:List Nat}{k:Nat}{x:V}(h:(us.map fun(k:Nat)=>V.int (k:Int))[k]?=some x):∃u,us[k]?=some u/\x=.int (u:Nat):=by
 rw[Zb]at h;obtain⟨n,hn,rfl⟩:=Uv.mp h;exact⟨n,hn,Y⟩
theorem Sg(us:List Nat)(u:Nat):(us.map fun(k:Nat)=>V.int (k:Int))++[.int (u:Int)]=(us++[u]).map fun(k:Nat)=>V.int (k:Int):=by rw[YV];rfl
noncomputable def um(l:Jt):List (Str×V):=[("tail",.int l.tail),("head",.int l.head),("cost",.int l.cost),("slope",.int l.slope)]
noncomputable def oJ(n s g:Nat)(u:Int)(la:Addr):List (Str×V):=[("places",.int n),("source",.int s),("goal",.int g),("units",.int u),("links",.ref la)]
def oI(la:Addr)(w:Int):List (Str×V):=[("amounts",.ref la),("whole",.int w)]
def NT(t:Yl)(H:Hp)(a:Addr)(l:Jt):Prop:=∃dx,H a=some (.ins t.Q6 dx (um l))
structure DK(t:Yl)(H:Hp)(a la:Addr)(ks:List Addr)(P:Y2):Prop where
 obj:∃dx,H a=some (.ins t.OI dx (oJ P.n P.s P.t P.units la))
 lst:H la=some (.lst (ks.map V.ref))
 len:ks.length=P.links.length
 at_:∀(i:Nat) k,ks[i]?=some k->NT t H k (P.lk i)
structure Cg(t:Yl)(H:Hp)(a la:Addr)(ys:List Int)(w:Int):Prop where
 obj:∃dx,H a=some (.ins t.Q5 dx (oI la w))
 lst:IL H la ys
def SN(t:Yl)(H:Hp)(a:Addr)(P:Y2):Prop:=∃la ks,DK t H a la ks P
def WQ(t:Yl)(H:Hp)(a:Addr)(ys:List Int)(w:Int):Prop:=∃la,Cg t H a la ys w
theorem NT.up{t:Yl}{H H':Hp}{a:Addr}{l:Jt}(h:NT t H a l)(s:ZX H H'):NT t H' a l:=let⟨dx,e⟩:=h;⟨dx,s _ _ e⟩
theorem DK.up{t:Yl}{H H':Hp}{a la:Addr}{ks:List Addr}{P:Y2}(h:DK t H a la ks P)(s:ZX H H'):DK t H' a la ks P:=⟨let⟨dx,e⟩:=h.obj;⟨dx,s _ _ e⟩,s _ _ h.lst,h.len,fun i k e=>(h.at_ i k e).up s⟩
theorem SN.up{t:Yl}{H H':Hp}{a:Addr}{P:Y2}(h:SN t H a P)(s:ZX H H'):SN t H' a P:=let⟨la,ks,e⟩:=h;⟨la,ks,e.up s⟩
theorem Cg.up{t:Yl}{H H':Hp}{a la:Addr}{ys:List Int}{w:Int}(h:Cg t H a la ys w)(s:ZX H H'):Cg t H' a la ys w:=⟨let⟨dx,e⟩:=h.obj;⟨dx,s _ _ e⟩,s _ _ h.lst⟩
theorem WQ.up{t:Yl}{H H':Hp}{a:Addr}{ys:List Int}{w:Int}(h:WQ t H a ys w)(s:ZX H H'):WQ t H' a ys w:=let⟨la,e⟩:=h;⟨la,e.up s⟩
theorem DK.link{t:Yl}{H:Hp}{a la:Addr}{ks:List Addr}{P:Y2}(h:DK t H a la ks P){e:Nat}(he:e<P.links.length):∃k dx,ks[e]?=some k/\H k=some (.ins t.Q6 dx (um (P.lk e))):=by
 have hl:e<ks.length:=by rw[h.len];exact he
 have hk:ks[e]?=some ks[e]:=ZT hl;obtain⟨dx,q⟩:=h.at_ e _ hk;exact⟨_,dx,hk,q⟩
section
variable{P:Program}{w:World}{K:W.Frag}{mg:Str->Option Value}{base:Heap}{t:Yl}
def vH(t:Yl):Sp:=fun vs H Q _=>∃(p dx:Addr) (u v:Nat) (c b:Int),vs=[.ref p,.int u,.int v,.int c,.int b]/\H p=some (.ins t.Q6 dx [])/\
 ∀H',NT t H' p ⟨u,v,c,b⟩->(∀b o,H b=some o->b≠p->H' b=some o)->Q .Xf H'
theorem HK:ZL ["self","tail","head","cost","slope"] ["self","tail","head","cost","slope"] (ZZ (inClass (top 22) 0)):=YR
theorem HJ(T:Txt K mg t):Y6 P w K mg base XB 33 t.MW t.MV ["self","tail","head","cost","slope"] (vH t):=by
 have sc:=HK;refine T.XQ.F.ok sc (fun vs H Q E h=>?_) (fun Yp A outer s H vs Q E hr h=>?_)
 ·obtain⟨p,dx,u,v,c,b,rfl,_⟩:=h;rfl
 ·obtain⟨p,dx,u,v,c,b,rfl,hp,k⟩:=h;refine⟨_,(Z5 (YB (Z 0) (Z 1) rfl)
   (Z5 (YB (Z 0) (Z 2) rfl)
   (Z5 (YB (Z 0) (Z 3) rfl)
   (Z0 (YB (Z 0) (Z 4) rfl))))),?_⟩
  refine Y' Y rfl (ZJ Y hp T.XQ.cl T.YK ⟨(by show 0<1000;decide),Y' Y rfl (ZJ Y Z4 T.XQ.cl T.YY ⟨(by show 1<1000;decide),Y' Y rfl (ZJ Y Z4 T.XQ.cl T.Wu ⟨(by show 2<1000;decide),Y' Y rfl (ZJ Y Z4 T.XQ.cl T.VG ⟨(by show 3<1000;decide),?_⟩)⟩)⟩)⟩);refine k _ ⟨dx,Z4⟩ fun b o e O=>?_;rw[ZV O,ZV O,ZV O,ZV O];exact e
def rX(t:Yl):Sp:=fun vs H Q _=>∃(p dx:Addr) (n s g:Nat) (u:Int) (la:Addr),vs=[.ref p,.int n,.int s,.int g,.int u,.ref la]/\H p=some (.ins t.OI dx [])/\
 ∀H',H' p=some (.ins t.OI dx (oJ n s g u la))->(∀b o,H b=some o->b≠p->H' b=some o)->Q .Xf H'
theorem FI:ZL ["self","places","source","goal","units","links"] ["self","places","source","goal","units","links"] (ZZ (inClass (top 23) 0)):=YR
theorem FH(T:Txt K mg t):Y6 P w K mg base XB 33 t.K9 t.K8 ["self","places","source","goal","units","links"] (rX t):=by
 have sc:=FI;refine T.Net.F.ok sc (fun vs H Q E h=>?_) (fun Yp A outer s H vs Q E hr h=>?_)
 ·obtain⟨p,dx,n,s,g,u,la,rfl,_⟩:=h;rfl
 ·obtain⟨p,dx,n,s,g,u,la,rfl,hp,k⟩:=h;refine⟨_,(Z5 (YB (Z 0) (Z 1) rfl)
   (Z5 (YB (Z 0) (Z 2) rfl)
   (Z5 (YB (Z 0) (Z 3) rfl)
   (Z5 (YB (Z 0) (Z 4) rfl)
   (Z0 (YB (Z 0) (Z 5) rfl)))))),?_⟩
  refine Y' Y rfl (ZJ Y hp T.Net.cl T.Wn ⟨(by show 0<1000;decide),Y' Y rfl (ZJ Y Z4 T.Net.cl T.UN ⟨(by show 1<1000;decide),Y' Y rfl (ZJ Y Z4 T.Net.cl T.Pz ⟨(by show 2<1000;decide),Y' Y rfl (ZJ Y Z4 T.Net.cl T.MP ⟨(by show 3<1000;decide),Y' Y rfl (ZJ Y Z4 T.Net.cl T.XM ⟨(by show 4<1000;decide),?_⟩)⟩)⟩)⟩)⟩);refine k _ Z4 fun b o e O=>?_;rw[ZV O,ZV O,ZV O,ZV O,ZV O];exact e
def vG(t:Yl):Sp:=fun vs H Q _=>∃(p dx la:Addr) (ys:List Int) (w:Int),vs=[.ref p,.ref la,.int w]/\H p=some (.ins t.Q5 dx [])/\IL H la ys/\ys.length<=100/\0<w/\
 ∀H',WQ t H' p (ys.map fun y=>y/OY w ys) (w/OY w ys)->(∀b o,H b=some o->b≠p->H' b=some o)->Q .Xf H'
theorem yI(a b:Int):Int.gcd a (if b<0 then-b else b)=Int.gcd a b:=by rw[Int.gcd_comm,CL,Int.gcd_comm]
theorem HI:ZL ["self","amounts","whole","divisor","amount"] ["self","amounts","whole"] (ZZ (inClass (top 24) 0)):=YR
theorem OA(T:Txt K mg t):Y6 P w K mg base XB 34 t.MU t.MT ["self","amounts","whole"] (vG t):=by
 have sc:=HI;refine T.Load.F.ok sc (fun vs H Q E h=>?_) (fun Yp A outer s H vs Q E hr h=>?_)
 ·obtain⟨p,dx,la,ys,w,rfl,_⟩:=h;rfl
 ·have hd:=hr.div (by decide);obtain⟨p,dx,la,ys,w,rfl,hp,hy,yJ,w0,k⟩:=h;refine⟨_,(Z5 (ZS (i:=3) sc.nd Y (Or.inr Y) (Z 2))
   (Z5 (Yu Zi Y (Yq (Z 1)) (Zz (i:=4) sc.nd Y Y4) (Z0 (ZS (i:=3) sc.nd Y (Or.inr Y) (cl T.VH (VF T) hr (Z6 (Z 3) (Z6 (YN GW (by rfl) T.ur boot_abs (Z6 (Z 4) Z2)) Z2))))))
   (Z5 (YB (Z 0) (R5 Y sc.nd (Yq (Z 1)) (Yt (own:=[("amount",4)]) (show T_ ["self","amounts","whole","divisor","amount"] (ZZ (inClass (top 24) 0)) _ _=true by decide+kernel)) (fun _ _ _ _ _=>by exact(Zz (i:=4) sc.nd Y Y4)) (fun _ _ _ _ _=>by exact XE) (fun _ _ _ _ _=>by exact(Zc (VO hd) (Z 4) (Z 3)))) rfl)
   (Z0 (YB (Z 0) (Zc (VO hd) (Z 2) (Z 3)) rfl))))),?_⟩
  refine Y' Y rfl ⟨la,Y,⟨_,Zw.of hy⟩,Xo (K:=K) (a:=la) (xs:=ys.map V.int) (fun i σ H'=>H'=H/\∃c4,σ=[some (.ref p),some (.ref la),some (.int w),some (.int (OY w (ys.take i))),c4]) ⟨Y,none,Y⟩ (fun i σ H' _ q=>by rw[q.1];exact Zw.of hy) ?_ ?_⟩
  ·rintro i x σ H' hx ⟨rfl,c4,rfl⟩;obtain⟨hi,rfl⟩:=int_at hx;have g0:=(Mi (ys.take i) w w0).1;refine Y' Y rfl (Z1 Y (ZQ Y (by omega) ⟨by split<;>omega,Y,some (.int (ys.getD i 0)),?_⟩));rw[yI];have e:ys.take (i+1)=ys.take i++[ys.getD i 0]:=by
    rw[Xc,ZW,ZT hi];rfl
   rw[e,Bx];rfl
  ·rintro σ H' ⟨rfl,c4,rfl⟩;rw[Z3,XX];obtain⟨g0,g1,g2⟩:=Mi ys w w0;refine Z1 Y ⟨la,Y,⟨_,Zw.of hy⟩,fun D hD=>?_⟩;refine Vi (K:=K) (a:=la) (xs:=ys.map V.int) (fun i H1=>ZX H' H1/\IL H1 D ((ys.map fun y=>y/OY w ys).take i)) ⟨ZX.new hD _,Z4⟩ (fun i H1 _ q=>Zw.of (q.1 _ _ hy)) ?_ ?_
   ·rintro i x H1 hx ⟨s1,d1⟩;obtain⟨hi,rfl⟩:=int_at hx;refine⟨Y,Y' Y rfl (ZQ Y rfl ⟨g0,_,d1,?_,s1.Zu hD _,?_⟩)⟩
    ·rw[Z3,Xt];exact Yx (Nat.min_le_right _ _) (by rw[Z3];exact Yx yJ (by decide))
    ·show upd _ _ _ _=_;rw[Z4,Ck,Xc,Zb,ZT hi,ZW,ZT hi];rfl
   ·rintro H1 ⟨s1,d1⟩;rw[Z3,Ph (by rw[Z3];exact ZK _)]at d1;have mX:=s1 _ _ hp;refine Z1 Y (ZJ Y mX T.Load.cl T.YX ⟨(by show 0<1000;decide),Y' Y rfl (ZQ Y rfl ⟨g0,Z1 Y (ZJ Y Z4 T.Load.cl T.WR ⟨(by show 1<1000;decide),?_⟩)⟩)⟩);refine k _ ⟨D,⟨dx,Z4⟩,?_⟩ fun b o e O=>?_
    ·show upd _ _ _ _=_;rw[ZV,ZV];·exact d1
     ·exact fun q=>by rw[q]at d1;have d1:=mX.symm.trans d1;cases d1
     ·exact fun q=>by rw[q]at d1;have d1:=mX.symm.trans d1;cases d1
    ·rw[ZV O,ZV O];exact s1 _ _ e
noncomputable def Tt(ys:List Int):List Nat:=(List.range ys.length).filter fun k=>decide (0<ys.getD k 0)
theorem Uc{ys:List Int}{e:Nat}:e∈Tt ys↔e<ys.length/\0<ys.getD e 0:=by
 unfold Tt;rw[XI,YO];simp
theorem Sf(ys:List Int):(Tt ys).Nodup:=Mr _ RI
def vF(t:Yl):Sp:=fun vs H Q _=>∃a ys w,vs=[.ref a]/\WQ t H a ys w/\ys.length<=100/\∀H' c,H c=none->ZX H H'->NL H' c (Tt ys)->Q (.ref c) H'
theorem FG:ZL ["self","number","amount"] ["self"] (ZZ (inClass (top 24) 1)):=YR
theorem QY(T:Txt K mg t):Y6 P w K mg base XB 33 t.K7 t.K6 ["self"] (vF t):=by
 have sc:=FG;refine T.OF.F.ok sc (fun vs H Q E h=>?_) (fun Yp A outer s H vs Q E hr h=>?_)
 ·obtain⟨a,ys,w,rfl,_⟩:=h;rfl
 ·obtain⟨a,ys,w,rfl,⟨la,⟨dx,ea⟩,hy⟩,yJ,k⟩:=h;refine⟨_,(Z0 (ZN (R5 Y sc.nd (V8 Y T.UY (Z6 (ZY (Z 0) rfl) Z2)) (Yt (own:=[("number",1),("amount",2)]) (show T_ ["self","number","amount"] (ZZ (inClass (top 24) 1)) _ _=true by decide+kernel)) (fun _ _ _ _ _=>by exact(Py (K:=K) (i:=1) (j:=2) rfl rfl sc.nd Y rfl Y4 Y4)) (fun _ _ _ _ _=>by exact(C6 (ZG NH (Z 2) ZR (Zr _)))) (fun _ _ _ _ _=>by exact(Z 1))))),?_⟩;refine YJ Y ea T.Load.cl T.YX Y (ZQ Y (Zw.of hy) (fun D hD=>?_));refine Mg (K:=K) (xs:=ys.map V.int) (fun i H1=>ZX H H1/\NL H1 D ((List.range i).filter fun k=>decide (0<ys.getD k 0))) ⟨ZX.new hD _,Z4⟩ (fun i H1 _ q=>Zw.of (q.1 _ _ hy)) ?_ ?_
  ·rintro i x H1 H2 hx ⟨s1,d1⟩ s2;obtain⟨hi,rfl⟩:=int_at hx;refine⟨Y,Z1 Y (ZQ Y rfl (Z1 Y (Wb (fun c=>Z1 Y ?_) (fun c=>⟨s1.trans s2,?_⟩))))⟩
   ·refine⟨_,s2 _ _ d1,?_,(s1.trans s2).Zu hD _,?_⟩
    ·rw[Z3];have:=Wg (fun k=>decide (0<ys.getD k 0)) (List.range i);rw[Y_]at this;exact Yx this (Zl (Zl hi yJ) (by decide))
    ·show upd _ _ _ _=_;rw[Z4,Sg,WD,Vd,YD,Z7 c];rfl
   ·show H2 D=_;rw[WD,Vd,YD,Z8 c];simp only[List.filter_nil,Xw];exact s2 _ _ d1
  ·rintro H1 ⟨s1,d1⟩;rw[Z3]at d1;exact k H1 D hD s1 d1
end
theorem jZ{X:Cx}{x q:Str}{C:Addr}{st:Stmt}{ps:List Str}{f:Addr}{fd:FuncData}{sp:Sp}{j k:Nat}{o:Expr}{ta:TE}{pl:Sem Bool}{apos pos:Pos}(c:EU X.K C)(D:Mn X.K x q C st ps f fd)(G:Y6 X.prog X.w X.K X.mg X.base XB j f fd ps sp)(hr:Wj k X.A)(he:PE X o ta)(hj:j<=k:=by decide)
 (ht:eval (.Call (.Attribute o x apos) [] [] pos) X.env=(do let ov<-eval o X.env;standAt apos.atName;let(f,first)<-holding [ov] (getMethod ov x pl);callWith pos f first (backTo pos (starEach [] X.env)) (backToKw pos (keywordEach [] X.env))):=by rfl):
 PE X (.Call (.Attribute o x apos) [] [] pos) (uP C x sp [] E0 ta BV):=Ar he c D.at_ G (hr.mono hj) D.b .nil Gs ht
def DI(H:Hp)(a:Addr)(n:Nat)(f:Nat->Option V):Prop:=∃Zp:List (Key×V),H a=some (.dK Zp)/\(Zp.map (·.1)).Nodup/\(∀k,k∈Zp.map (·.1)->∃v:Nat,v<n/\k=Sum.inl (v:Int))/\∀v:Nat,Vr Zp (Sum.inl (v:Int))=f v
theorem DI.up{H H':Hp}{a:Addr}{n:Nat}{f:Nat->Option V}(h:DI H a n f)(s:ZX H H'):DI H' a n f:=let⟨Zp,J,h2,h3,h4⟩:=h;⟨Zp,s _ _ J,h2,h3,h4⟩
theorem DI.get{H:Hp}{a:Addr}{n:Nat}{f:Nat->Option V}(h:DI H a n f)(v:Nat):RL H a (.int v) (f v):=by
 obtain⟨Zp,J,h2,h3,h4⟩:=h;have:=RL.k (k:=Sum.inl (v:Int)) J;rw[h4]at this;exact this
theorem DI.FF{H:Hp}{a:Addr}{n:Nat}{f:Nat->Option V}(h:DI H a n f){v:Nat}{x:V}(e:f v=some x):RL H a (.int v) (some x):=by
 rw[<-e];exact h.get v
theorem DI.mW{H:Hp}{a:Addr}{n:Nat}{f:Nat->Option V}(h:DI H a n f):∃Zp,H a=some (.dK Zp):=let⟨Zp,J,_⟩:=h;⟨Zp,J⟩
theorem yH{n:Nat}{ks:List Key}(nd:ks.Nodup)(h:∀k,k∈ks->∃v:Nat,v<n/\k=Sum.inl (v:Int)):ks.length<=n:=by
 have J:(ks.map fun k=>match k with|.inl z=>z.toNat|.inr _=>0).Nodup:=by
  refine Uw.mpr (nd.imp_of_mem fun{a b} ha O QN q=>QN ?_);obtain⟨u,_,rfl⟩:=h a ha;obtain⟨v,_,rfl⟩:=h b O;have q:(u:Int).toNat=(v:Int).toNat:=q;rw[Int.toNat_natCast,Int.toNat_natCast]at q;rw[q]
 have:=W3 n _ J fun v hv=>by
  obtain⟨k,hk,rfl⟩:=Y9.mp hv;obtain⟨u,hu,rfl⟩:=h k hk;show(u:Int).toNat<n;rw[Int.toNat_natCast];exact hu
 rw[Z3]at this;exact this
theorem DI.put{H:Hp}{a:Addr}{n:Nat}{f:Nat->Option V}(h:DI H a n f)(hn:n<=100){v:Nat}(hv:v<n)(x:V):∃o,GF H a (.int v) x (upd H a o)/\(∃Zp,o=.dK Zp)/\∀H2,H2 a=some o->DI H2 a n (fun u=>if u=v then some x else f u):=by
 obtain⟨Zp,J,h2,h3,h4⟩:=h;have hl:=yH h2 h3;rw[Z3]at hl;refine⟨.dK (putK Zp (Sum.inl (v:Int)) x),GF.k (k:=Sum.inl (v:Int)) J (Yx (ZA hl hn) (by decide)),⟨_,Y⟩,fun H2 e=>⟨_,e,?_,?_,fun u=>?_⟩⟩
 ·cases q:Vr Zp (Sum.inl (v:Int))with
  |none=>exact wC x h2 q
  |some y=>
   unfold putK;rw[Z7 (by rw[VP,q];rfl),Yn];have:(Zp.map ((fun x=>x.1)∘fun kv=>if kv.1=Sum.inl (v:Int)then(kv.1,x)else kv))=Zp.map (·.1):=VS fun kv _=>by
    show(if kv.1=Sum.inl (v:Int)then(kv.1,x)else kv).1=kv.1;split<;>rfl
   rw[this];exact h2
 ·intro k hk;cases q:Vr Zp (Sum.inl (v:Int))with
  |none=>
   rw[GG x q,YV,Zj]at hk;rcases hk with hk|hk;·exact h3 k hk
   ·have hk:k∈[(Sum.inl (v:Int):Key)]:=hk;rw[Zm]at hk;exact⟨v,hv,hk⟩
  |some y=>
   unfold putK at hk;rw[Z7 (by rw[VP,q];rfl),Yn]at hk;have:(Zp.map ((fun x=>x.1)∘fun kv=>if kv.1=Sum.inl (v:Int)then(kv.1,x)else kv))=Zp.map (·.1):=VS fun kv _=>by
    show(if kv.1=Sum.inl (v:Int)then(kv.1,x)else kv).1=kv.1;split<;>rfl
   rw[this]at hk;exact h3 k hk
 ·rw[Ad,h4];show _=if u=v then some x else f u
  by_cases q:u=v;·rw[Z7 q,Z7 (by rw[q])]
  ·rw[Z8 q,Z8 (fun z=>q (by injection z with z;omega))]
theorem DI.new{H:Hp}{a:Addr}(n:Nat)(h:H a=some (.dK [])):DI H a n (fun _=>none):=⟨[],h,Tq,fun k hk=>(by cases hk),fun _=>rfl⟩
noncomputable def nv(arr:Nat->Option Nat):Nat->Option V:=fun v=>(arr v).map fun(e:Nat)=>V.int (e:Int)
def iv(Ze:Nat->Option Int):Nat->Option V:=fun v=>(Ze v).map fun(z:Int)=>V.int z
theorem yF(arr:Nat->Option Nat)(v e:Nat):(fun u=>if u=v then some (V.int (e:Int))else nv arr u)=nv (putN arr v e):=by
 funext u;unfold nv putN;by_cases z:u=v;·rw[Z7 z,Z7 z];rfl
 ·rw[Z8 z,Z8 z]
theorem yE(Ze:Nat->Option Int)(v:Nat)(z:Int):(fun u=>if u=v then some (V.int z)else iv Ze u)=iv (Qu Ze v z):=by
 funext u;unfold iv Qu;by_cases z:u=v;·rw[Z7 z,Z7 z];rfl
 ·rw[Z8 z,Z8 z]
theorem A'(arr:Nat->Option Nat)(v:Nat):(nv arr v).isSome=(arr v).isSome:=by
 unfold nv;cases arr v<;>rfl
theorem Vl(arr:Nat->Option Int)(v:Nat):(iv arr v).isSome=(arr v).isSome:=by
 unfold iv;cases arr v<;>rfl
theorem HH{v:Nat}{us:List Nat}:nF (.int (v:Int)) (us.map fun(k:Nat)=>V.int (k:Int))=decide (v∈us):=by
 unfold nF;rw[List.any_map];induction us with
 |nil=>simp
 |cons u us ih=>
  rw[Ts,ih];show((u:Int)==(v:Int)||_)=_;by_cases q:u=v
  ·subst q;simp
  ·have q1:¬((u:Int)=(v:Int)):=by omega
   have q2:¬v=u:=fun z=>q z.symm;have q3:((u:Int)==(v:Int))=false:=by rw[Vu];exact q1
   rw[q3,Bool.false_or];simp[q2]
theorem NS(us:List Nat):(us.map fun(k:Nat)=>V.int (k:Int)).all Pc=true:=by
 rw[List.all_map,VY];intro x _;rfl
section
variable{P:Program}{w:World}{K:W.Frag}{mg:Str->Option Value}{base:Heap}{t:Yl}
def yD(t:Yl):Sp:=fun vs H Q _=>∃a d,∃v:Nat,∃(P:Y2) (arr:Nat->Option Nat) (X7:Nat->Nat),vs=[.ref a,.ref d,.int v]/\SN t H a P/\DI H d P.n (nv arr)/\(∀u e,arr u=some e->e<P.links.length/\X7 (P.lk e).tail<X7 u)/\X7 v<=1000/\
 ∀H' c ks,H c=none->ZX H H'->NL H' c ks->Chain P arr v ks->Q (.ref c) H'
theorem A_:ZL ["net","arrivals","place","numbers"] ["net","arrivals","place"] (ZZ (top 25)):=YR
theorem I_(T:Txt K mg t):Y6 P w K mg base XB 33 t.FY t.FX ["net","arrivals","place"] (yD t):=by
 have sc:=A_;refine T.DW.F.ok sc (fun vs H Q E h=>?_) (fun Yp A outer s H vs Q E hr h=>?_)
 ·obtain⟨a,d,v,P,arr,X7,rfl,_⟩:=h;rfl
 ·have hu:=Qr hr;obtain⟨a,d,v,P,arr,X7,rfl,⟨la,ks,hN⟩,hD,hA,hT,k⟩:=h;obtain⟨Tu,ea⟩:=hN.obj;refine⟨_,(Z5 (ZS (i:=3) sc.nd Y Y4 (Zv Z2))
   (Z5 (Vb Zi (U3 (Er hu (Z 2) (Z 1))) (Z5 (Xe (UU X9 WN WC W8 (Z 3) (Z6 (Wq hu (Z 1) (Z 2) (fun _ _=>rfl)) Z2)))
   (Z0 (ZS (i:=2) sc.nd Y Y4 (ZY (ZI ZM (ZY (Z 0) rfl) (Wq hu (Z 1) (Z 2) (fun _ _=>rfl)) (fun _ _=>rfl)) rfl)))))
   (Z0 (ZN (Z 3))))),?_⟩
  refine⟨Zt _,fun c hc=>?_⟩;refine⟨fun m σ H'=>ZX H H'/\∃(u:Nat) (ns:List Nat),σ=[some (.ref a),some (.ref d),some (.int u),some (.ref c)]/\NL H' c ns/\m=X7 u/\ns.length+X7 u<=X7 v/\∀rest,Chain P arr u rest->Chain P arr v (ns++rest),⟨_,ZX.new hc _,v,[],Y,Z4,Y,by simp,fun rest h=>h⟩,?_⟩;rintro m σ H' ⟨s1,u,ns,rfl,hL,rfl,hl,G_⟩;refine Y' Y rfl ⟨d,Z1 Y ⟨(hD.up s1).get u,Z1 Y ?_⟩⟩;rw[A'];cases q:arr u with
  |none=>
   refine YA (Z1 Y (k H' c ns hc s1 hL ?_));have:=G_ [] q;rw[Xw]at this;exact this
  |some e=>
   obtain⟨he,ht⟩:=hA u e q;have g1:RL H' d (.int u) (some (.int e)):=(hD.up s1).FF (by unfold nv;rw[q];rfl);obtain⟨kk,dk,hk,ek⟩:=(hN.up s1).link he;have s2:ZX H (upd H' c (.lst ((ns.map fun(k:Nat)=>V.int (k:Int))++[.int (e:Int)]))):=s1.Zu hc _;have g2:RL (upd H' c (.lst ((ns.map fun(k:Nat)=>V.int (k:Int))++[.int (e:Int)]))) d (.int u) (some (.int e)):=(hD.up s2).FF (by unfold nv;rw[q];rfl);have gT:=hN.up s2;obtain⟨kk2,dk2,si,jY⟩:=gT.link he;refine YW ⟨fun XC HR=>∃m',m'<X7 u/\(ZX H HR/\∃(u:Nat) (ns:List Nat),XC=[some (.ref a),some (.ref d),some (.int u),some (.ref c)]/\NL HR c ns/\m'=X7 u/\ns.length+X7 u<=X7 v/\∀rest,Chain P arr u rest->Chain P arr v (ns++rest)),fun _ _ h=>h,?_⟩;refine Z1 Y ⟨.inl ⟨Y,_,Zw.of hL⟩,Y' Y rfl ⟨d,Z1 Y ⟨g1,c,ZQ Y rfl ⟨hL,by rw[Z3];exact Zl (show ns.length<1001 by omega) (by decide),?_⟩⟩⟩⟩;refine YJ Y (s2 _ _ ea) T.Net.cl T.XM Y (Y' Y rfl ⟨d,Z1 Y ⟨g2,ZJ Y rfl (Zw.of gT.lst) (Yz si) (S7 jY T.XQ.cl T.YK Y ?_)⟩⟩);refine⟨_,ht,s2,_,ns++[e],Y,?_,Y,?_,fun rest Gp=>?_⟩
   ·show upd _ _ _ _=_;rw[Z4,Sg]
   ·rw[ZF];show ns.length+1+_<=_;omega
   ·rw[VX];exact G_ (e::rest) ⟨q,Gp⟩
end
structure KH(P:Y2)(rl:List Nat)(arr:Nat->Option Nat):Prop where
 src:rl[0]?=some P.s
 nd:rl.Nodup
 lt:∀v,v∈rl->v<P.n
 ar:∀v e,arr v=some e->e<P.links.length/\(P.lk e).head=v/\v∈rl/\(P.lk e).tail∈rl/\rl.idxOf (P.lk e).tail<rl.idxOf v
 all:∀v,v∈rl->v≠P.s->∃e,arr v=some e
 no:arr P.s=none
def ind(rl:List Nat):Nat->Option Rat:=fun v=>if v∈rl then some 0 else none
theorem KH.start{P:Y2}(ok:P.Ok):KH P [P.s] (fun _=>none)where
 src:=rfl
 nd:=by simp
 lt:=fun v hv=>by rw[Zm]at hv;subst hv;exact ok.s
 ar:=fun v e h=>by cases h
 all:=fun v hv hs=>by rw[Zm]at hv;exact absurd hv hs
 no:=rfl
theorem KH.put{P:Y2}(ok:P.Ok){rl:List Nat}{arr:Nat->Option Nat}(C:KH P rl arr){e:Nat}(he:e<P.links.length)(ht:(P.lk e).tail∈rl)(hh:(P.lk e).head∉rl):KH P (rl++[(P.lk e).head]) (putN arr (P.lk e).head e):=by
 have s0:P.s∈rl:=Y3 C.src;have ix:∀u,u∈rl->(rl++[(P.lk e).head]).idxOf u=rl.idxOf u:=fun u hu=>by rw[List.idxOf_append,Z7 hu]
 have dh:(rl++[(P.lk e).head]).idxOf (P.lk e).head=rl.length:=by
  rw[List.idxOf_append,Z8 hh];simp
 have lt:∀u,u∈rl->rl.idxOf u<rl.length:=fun u hu=>List.idxOf_lt_length_of_mem hu;refine⟨?_,O6 C.nd hh,fun v hv=>?_,fun v f hf=>?_,fun v hv hs=>?_,?_⟩
 ·rw[VT (List.length_pos_of_mem s0)];exact C.src
 ·rcases Zj.mp hv with hv|hv;·exact C.lt v hv
  ·rw[Zm]at hv;subst hv;exact ok.lh e he
 ·unfold putN at hf;by_cases q:v=(P.lk e).head
  ·rw[Z7 q]at hf;cases hf;subst q;refine⟨he,Y,by simp,Ym _ ht,?_⟩;rw[ix _ ht,dh];exact lt _ ht
  ·rw[Z8 q]at hf;obtain⟨J,h2,h3,h4,h5⟩:=C.ar v f hf;refine⟨J,h2,Ym _ h3,Ym _ h4,?_⟩;rw[ix _ h3,ix _ h4];exact h5
 ·unfold putN;by_cases q:v=(P.lk e).head;·exact⟨e,Z7 q⟩
  ·rw[Z8 q];rcases Zj.mp hv with hv|hv;·exact C.all v hv hs
   ·rw[Zm]at hv;exact absurd hv q
 ·unfold putN;rw[Z8 (fun q=>hh (by rw[<-q];exact s0))];exact C.no
theorem vE{rl:List Nat}{v:Nat}:ind (rl++[v])=RR.put (ind rl) v (0+0):=by
 funext u;unfold ind RR.put;by_cases q:u=v
 ·rw[Z7 q,Z7 (by simp[q])];congr 1;grind
 ·rw[Z8 q];show _=if u∈rl then some 0 else none
  by_cases z:u∈rl;·rw[Z7 z,Z7 (Ym _ z)]
  ·rw[Z8 z,Z8 (by simp[z,q])]
theorem KH.chain{P:Y2}{rl:List Nat}{arr:Nat->Option Nat}(C:KH P rl arr):∀(ks:List Nat)(v:Nat),v∈rl->Chain P arr v ks->(∀i,i<ks.length->ks.getD i 0<P.links.length/\rl.idxOf (P.lk (ks.getD i 0)).tail<rl.idxOf (P.lk (ks.getD i 0)).head)/\(∀i,i<ks.length->(P.lk (ks.getD i 0)).head=if i=0 then v else(P.lk (ks.getD (i-1) 0)).tail)/\(if ks.length=0 then v else(P.lk (ks.getD (ks.length-1) 0)).tail)=P.s:=by
 intro ks;induction ks with
 |nil=>
  intro v hv hc;refine⟨fun i hi=>absurd hi (by simp),fun i hi=>absurd hi (by simp),?_⟩;show v=P.s;by_cases q:v=P.s;·exact q
  ·obtain⟨e,he⟩:=C.all v hv q;have hc:arr v=none:=hc;rw[hc]at he;cases he
 |cons f ks ih=>
  intro v hv hc;obtain⟨xH,ux⟩:arr v=some f/\Chain P arr (P.lk f).tail ks:=hc;obtain⟨J,h2,h3,h4,h5⟩:=C.ar v f xH;obtain⟨i1,i2,i3⟩:=ih _ h4 ux;refine⟨fun i hi=>?_,fun i hi=>?_,?_⟩
  ·cases i with
   |zero=>
    show f<_/\rl.idxOf (P.lk f).tail<rl.idxOf (P.lk f).head;rw[h2];exact⟨J,h5⟩
   |succ i=>exact i1 i (by simpa using hi)
  ·cases i with
   |zero=>rw [Z7 rfl];exact h2
   |succ i=>
    rw[Z8 (by omega)];have:=i2 i (by simpa using hi);show(P.lk (ks.getD i 0)).head=(P.lk ((f::ks).getD (i+1-1) 0)).tail;rw[this];cases i with
    |zero=>rfl
    |succ i=>rw [Z8 (by omega)];rfl
  ·rw[Z8 (by simp)];cases ks with
   |nil=>exact i3
   |cons g ks=>
    rw[Z8 (by simp)]at i3;exact i3
def uk(P:Y2)(ks:List Nat):Prop:=(ks=[]/\¬P.XS.Reach P.t)\/(ks≠[]/\∃X7,P.XS.Way X7 (fun i=>ks.getD i 0) (ks.length-1))
theorem KH.way{P:Y2}(ok:P.Ok){rl:List Nat}{arr:Nat->Option Nat}(C:KH P rl arr)(B:BF P.XS (fun _=>0) (ind rl) P.n 0){ks:List Nat}(h:Chain P arr P.t ks):uk P ks:=by
 by_cases q:P.t∈rl
 ·obtain⟨i1,i2,i3⟩:=C.chain ks P.t q h;have QN:ks≠[]:=fun z=>by
   subst z;exact ok.st (show P.t=P.s from i3).symm
  have hp:0<ks.length:=List.length_pos_iff.mpr QN;rw[Z8 (by omega)]at i3;refine .inr ⟨QN,rl.idxOf,fun i hi=>(i1 i (by omega)).1,?_,i3,fun i hi=>?_,fun i hi=>(i1 i (by omega)).2⟩
  ·have:=i2 0 hp;rw[Z7 rfl]at this;exact this
  ·have:=i2 (i+1) (by omega);rw[Z8 (by omega)]at this;exact this.symm
 ·refine .inl ⟨?_,fun r=>?_⟩
  ·cases ks with
   |nil=>rfl
   |cons f ks=>
    obtain⟨xH,_⟩:arr P.t=some f/\_:=h;exact absurd (C.ar P.t f xH).2.2.1 q
  ·obtain⟨k,c,hw⟩:=r.walk (fun _=>0);obtain⟨k',c',hk,_,we⟩:=hw.short ok.XS fun _ _ _=>Ye;obtain⟨d,_,hd⟩:=B.comp k' _ c' (by have:k'<P.n:=hk;omega) we;unfold ind at hd;rw[Z8 q]at hd;cases hd
section
variable{P:Program}{w:World}{K:W.Frag}{mg:Str->Option Value}{base:Heap}{t:Yl}
def rW(t:Yl):Sp:=fun vs H Q _=>∃a P,vs=[.ref a]/\SN t H a P/\P.Ok/\P.n<=6/\P.links.length<=9/\∀H' c ks,ZX H H'->NL H' c ks->uk P ks->Q (.ref c) H'
theorem FE:ZL ["net","arrivals","reached","step","number","link"] ["net"] (ZZ (top 26)):=YR
theorem FD(T:Txt K mg t):Y6 P w K mg base XB 34 t.Lq t.Lp ["net"] (rW t):=by
 have sc:=FE;refine T.FU.F.ok sc (fun vs H Q E h=>?_) (fun Yp A outer s H vs Q E hr h=>?_)
 ·obtain⟨a,P,rfl,_⟩:=h;rfl
 ·have hu:=Qr hr;obtain⟨a,P,rfl,⟨la,ks,hN⟩,ok,n6,m9,k⟩:=h;obtain⟨Tu,ea⟩:=hN.obj;refine⟨_,(Z5 (ZS (i:=1) sc.nd Y Y4 GB)
   (Z5 (ZS (i:=2) sc.nd Y Y4 (Zv (Z6 (ZY (Z 0) rfl) Z2)))
   (Z5 (Yu Zi Y (V2 Y T.TK (Z6 (ZY (Z 0) rfl) Z2)) (Zz (i:=3) sc.nd Y Y4) (Z0 (Yu Zi Y (V8 Y T.UY (Z6 (ZY (Z 0) rfl) Z2)) (VQ Y (YU (Zz (i:=4) sc.nd Y Y4) (YU (Zz (i:=5) sc.nd Y Y4) WH))) (Z0 (YT (PW.pt (P7 (ZG BP (ZY (Z 5) rfl) (Z 2) rfl) (QP (ZG Pa (ZY (Z 5) rfl) (Z 2) rfl)))) (Z5 (Xe (UU X9 WN WC W8 (Z 2) (Z6 (ZY (Z 5) rfl) Z2)))
   (Z0 (O9 hu (Z 1) (ZY (Z 5) rfl) (Z 4) rfl))) Zs)))))
   (Z0 (ZN (cl T.DW (I_ T) hr (Z6 (Z 0) (Z6 (Z 1) (Z6 (ZY (Z 0) rfl) Z2))))))))),?_⟩
  refine fun d hd=>YJ Y (KS ea hd) T.Net.cl T.UN Y ⟨(by show 1<=sizeLine;decide),fun c hc=>?_⟩;have s0:ZX H (upd (upd H d (.dK [])) c (.lst [.int P.s])):=(ZX.new hd _).trans (ZX.new hc _);have AS:c≠d:=fun q=>by rw[q,Z4]at hc;cases hc
  have jX:H c=none:=(ZX.new hd (.dK [])).free hc;let Z_:Nat->Nat->Hp->Prop:=fun r i H'=>ZX H H'/\∃rl arr,NL H' c rl/\DI H' d P.n (nv arr)/\KH P rl arr/\BF P.XS (fun _=>0) (ind rl) r i
  have J0:Z_ 0 0 (upd (upd H d (.dK [])) c (.lst [.int P.s])):=by
   refine⟨s0,[P.s],fun _=>none,Z4,DI.new _ (by rw[ZV (fun q=>AS q.symm),Z4]),KH.start ok,?_⟩;have:=BF.start P.XS (fun _=>0);have e:ind [P.s]=RR.start P.XS.s:=by
    funext v;unfold ind RR.start;by_cases q:v=P.s;·rw[Z7 (by simp[q]),Z7 (show v=P.XS.s from q)]
    ·rw[Z8 (by simp[q]),Z8 (show¬v=P.XS.s from q)]
   rw[e];exact this
  refine YJ Y (s0 _ _ ea) T.Net.cl T.Wn Y ⟨(P.n:Int),Y,by omega,by omega,?_⟩;refine Ui (n:=P.n) (fun r σ H'=>(∃c3 c4 c5,σ=[some (.ref a),some (.ref d),some (.ref c),c3,c4,c5])/\Z_ r 0 H') ⟨XR none none none Y,J0⟩ ?_ ?_
  ·rintro r σ H1 qG ⟨⟨c3,c4,c5,rfl⟩,j1⟩;have G8:=j1.1 _ _ ea;refine YJ Y G8 T.Net.cl T.XM Y (ZQ Y (Zw.of (j1.1 _ _ hN.lst)) ?_);refine U5 (K:=K) (xs:=ks.map V.ref) (fun i σ H'=>(∃c3 c4 c5,σ=[some (.ref a),some (.ref d),some (.ref c),c3,c4,c5])/\Z_ r i H') ⟨Xh Y,j1⟩ (fun i σ H' _ q=>Zw.of (q.2.1 _ _ hN.lst)) ?_ ?_
   ·rintro i x σ H2 H3 hx ⟨⟨c3,c4,c5,rfl⟩,s2,rl,arr,g1,g2,C,B⟩ s3;obtain⟨kk,vD,rfl⟩:=Yb hx;have hi:i<P.links.length:=by rw[<-hN.len];exact(Zy.mp vD).1
    have s4:=s2.trans s3;obtain⟨dk,ek⟩:=(hN.at_ i kk vD).up s4;have g1:=s3 _ _ g1;have g2:=g2.up s3;refine YJ Y ek T.XQ.cl T.YK Y (Z1 Y (ZQ Y (.inl (Zw.of g1)) ⟨Y,NS _,Z1 Y ?_⟩));rw[HH];by_cases q1:(P.lk i).tail∈rl
    ·refine qH (ZP q1) (YJ Y ek T.XQ.cl T.YY Y (Z1 Y (ZQ Y (.inl (Zw.of g1)) ⟨Y,NS _,Z1 Y ?_⟩)));rw[HH];by_cases q2:(P.lk i).head∈rl
     ·refine oO (by rw[ZP q2];rfl) ⟨Xh Y,s4,rl,arr,g1,g2,C,?_⟩;exact B.keep (c:=0) (d:=0) (Z7 q1) (Z7 q2) (by grind)
     ·refine qH (by rw[ZC q2];rfl) ?_;have hlen:=W3 P.n rl C.nd C.lt;refine Z1 Y ⟨.inl ⟨Y,_,Zw.of g1⟩,YJ Y ek T.XQ.cl T.YY Y (XR c _ _ ⟨Y,Y,g1,by rw[Z3];exact Yx (ZA hlen n6) (by decide),?_⟩)⟩;obtain⟨o,yB,⟨kv,rfl⟩,oH⟩:=(show DI (upd H3 c (.lst ((rl.map fun(k:Nat)=>V.int (k:Int))++[.int ((P.lk i).head:Int)]))) d P.n (nv arr)from by
       obtain⟨Zp,z1,z2⟩:=g2;exact⟨Zp,Xi z1 g1 (fun ys q=>by cases q),z2⟩).put (by omega) (ok.lh i hi) (.int (i:Int))
      have jY:upd H3 c (.lst ((rl.map fun(k:Nat)=>V.int (k:Int))++[.int ((P.lk i).head:Int)])) kk=_:=Xi ek g1 fun ys q=>by cases q
      refine Y' Y rfl (YJ Y jY T.XQ.cl T.YY Y (Xr d _ ⟨Y,yB,Xh Y,?_,rl++[(P.lk i).head],putN arr (P.lk i).head i,?_,?_,C.put ok hi q1 q2,?_⟩));·exact(s4.Zu jX _).Zu hd _
      ·show upd _ _ _ _=_;rw[ZV AS,Z4,Sg]
      ·rw[<-yF];exact oH _ Z4
      ·rw[vE];exact B.put (c:=0) hi Y (Z7 q1) fun x hx=>by
        have:ind rl (P.XS.to i)=none:=Z8 q2;rw[this]at hx;cases hx
    ·refine oO (ZC q1) (YA ⟨Xh Y,s4,rl,arr,g1,g2,C,B.skip (.inr (Z8 q1))⟩)
   ·rintro σ H2 ⟨⟨c3,c4,c5,rfl⟩,s2,rl,arr,g1,g2,C,B⟩;rw[Z3,hN.len]at B;exact⟨Xh Y,s2,rl,arr,g1,g2,C,B.next⟩
  ·rintro σ H1 ⟨⟨c3,c4,c5,rfl⟩,s2,rl,arr,g1,g2,C,B⟩;refine Y' Y rfl (YJ Y (s2 _ _ ea) T.Net.cl T.Pz Y ⟨a,d,P.t,P,arr,rl.idxOf,Y,⟨la,ks,hN.up s2⟩,g2,fun u e he=>⟨(C.ar u e he).1,(C.ar u e he).2.2.2.2⟩,?_,fun H2 c2 dg n2 s3 hL G_=>k H2 c2 dg (s2.trans s3) hL (C.way ok B G_)⟩);have hlen:=W3 P.n rl C.nd C.lt;have:=List.idxOf_le_length (l:=rl) (a:=P.t);show List.idxOf P.t rl<=1000;omega
end
noncomputable def grow(s v:Nat)(row:List Int):List Int:=(List.range row.length).map fun u=>if v=s\/row.getD v 0=0 then(if u=v then 1 else 0)else if u=s then 0 else row.getD u 0
theorem YL{n j:Nat}{f:Nat->Int}(h:j<n):((List.range n).map f).getD j 0=f j:=by
 rw[ZW,Zb,Xv h];rfl
theorem UI(f:Nat->Int)(j:Nat)(z:Int)(h:f j=z):((List.range j).map f).map V.int++[.int z]=((List.range (j+1)).map f).map V.int:=by
 rw[WD,YV,YV,<-h];rfl
section
variable{P:Program}{w:World}{K:W.Frag}{mg:Str->Option Value}{base:Heap}{t:Yl}
def DJ:Sp:=fun vs H Q _=>∃a,∃s:Nat,∃rows n wd,vs=[.ref a,.int s]/\Ue H a rows/\Rk n wd rows/\n<=wd/\wd<=100/\∀H' c,ZX H H'->Ue H' c ((List.range n).map fun v=>grow s v (rows.getD v []))->Q (.ref c) H'
theorem FC:ZL ["rows","source","answer","number","row","place","entry"] ["rows","source"] (ZZ (top 27)):=YR
theorem Fz(T:Txt K mg t):Y6 P w K mg base XB 33 t.Lo t.Ln ["rows","source"] DJ:=by
 have sc:=FC;refine T.FT.F.ok sc (fun vs H Q E h=>?_) (fun Yp A outer s H vs Q E hr h=>?_)
 ·obtain⟨a,s,rows,n,wd,rfl,_⟩:=h;rfl
 ·obtain⟨a,s,rows,n,wd,rfl,⟨rs,e1,e2,e3⟩,R,nw,A9,k⟩:=h;have nl:rs.length=n:=by rw[e2,R.len]
  refine⟨_,(Z5 (ZS (i:=2) sc.nd Y Y4 (Zv Z2))
   (Z5 (Yu Zi Y (V8 Y T.UY (Z6 (Z 0) Z2)) (VQ Y (YU (Zz (i:=3) sc.nd Y (Or.inr Y)) (YU (Zz (i:=4) sc.nd Y Y4) WH))) (Z0 (YT (PW.pt (UX (ZG UW (Z 3) (Z 1) (Zr _)) (Vt (ZG UW (ZI ZM (Z 4) (Z 3) (fun _ _=>rfl)) ZR (Zr _))))) (Z0 (Xe (UU X9 WN WC W8 (Z 2) (Z6 (R5 Y sc.nd (V2 Y T.TK (Z6 (YN Zd (by rfl) T.Wk YM (Z6 (Z 4) Z2)) Z2)) (Yt (own:=[("place",5)]) (show T_ ["rows","source","answer","number","row","place","entry"] (ZZ (top 27)) _ _=true by decide+kernel)) (fun _ _ _ _ _=>by exact(Zz (i:=5) sc.nd Y Y4)) (fun _ _ _ _ _=>by exact XE) (fun _ _ _ _ _=>by exact(L7 (ZG UW (Z 5) (Z 3) (Zr _)) ZR ZR))) Z2)))) (Z0 (Xe (UU X9 WN WC W8 (Z 2) (Z6 (R5 Y sc.nd (V8 Y T.UY (Z6 (Z 4) Z2)) (Yt (own:=[("place",5),("entry",6)]) (show T_ ["rows","source","answer","number","row","place","entry"] (ZZ (top 27)) _ _=true by decide+kernel)) (fun _ _ _ _ _=>by exact(Py (K:=K) (i:=5) (j:=6) rfl rfl sc.nd Y rfl Y4 Y4)) (fun _ _ _ _ _=>by exact XE) (fun _ _ _ _ _=>by exact(L7 (ZG UW (Z 5) (Z 1) (Zr _)) ZR (Z 6)))) Z2)))))))
   (Z0 (ZN (Z 2))))),?_⟩
  refine⟨Zt _,fun c hc=>?_⟩;have s0:ZX H (upd H c (.lst [])):=ZX.new hc _;refine Z1 Y (ZQ Y (Zw.of (s0 _ _ e1)) ?_);refine U5 (K:=K) (xs:=rs.map V.ref) (fun i σ H'=>(∃c3 c4 c5 c6,σ=[some (.ref a),some (.int s),some (.ref c),c3,c4,c5,c6])/\ZX H H'/\∃bs:List Addr,H' c=some (.lst (bs.map V.ref))/\bs.length=i/\(∀b,b∈bs->b≠c)/\∀(j:Nat) b,bs[j]?=some b->IL H' b (grow s j (rows.getD j [])))
   ⟨W9 none none none none Y,s0,[],Z4,Y,fun b O=>(by cases O),fun j b O=>(by simp at O)⟩ (fun i σ H' _ q=>Zw.of (q.2.1 _ _ e1)) ?_ ?_
  ·rintro i x σ H1 H2 hx ⟨⟨c3,c4,c5,c6,rfl⟩,s1,bs,g1,g2,g3,g4⟩ s2;obtain⟨r,Gp,rfl⟩:=Yb hx;have hi:i<n:=by rw[<-nl];exact(Zy.mp Gp).1
   have s3:=s1.trans s2;have er:=s3 _ _ (e3 i r Gp);have ln:(rows.getD i []).length=wd:=R.at hi;have g1:=s2 _ _ g1;have fin:∀H3 D,H2 D=none->ZX H2 H3->IL H3 D (grow s i (rows.getD i []))->∀c3 c4 c5 c6,(∃d3 d4 d5 d6,[some (V.ref a),some (.int (s:Int)),some (.ref c),c3,c4,c5,c6]=[some (V.ref a),some (.int (s:Int)),some (.ref c),d3,d4,d5,d6])/\ZX H (upd H3 c (.lst (bs.map V.ref++[.ref D])))/\∃xF:List Addr,upd H3 c (.lst (bs.map V.ref++[.ref D])) c=some (.lst (xF.map V.ref))/\xF.length=i+1/\(∀b,b∈xF->b≠c)/\∀(j:Nat) b,xF[j]?=some b->IL (upd H3 c (.lst (bs.map V.ref++[.ref D]))) b (grow s j (rows.getD j [])):=by
    intro H3 D hD s4 hI c3 c4 c5 c6;have nD:D≠c:=fun q=>by rw[q,g1]at hD;cases hD
    refine⟨V7 Y,(s3.trans s4).Zu hc _,bs++[D],by rw[Z4,UM],by rw[ZF,g2];rfl,fun b O=>?_,fun j b O=>?_⟩
    ·rcases Zj.mp O with z|z;·exact g3 b z
     ·rw[Zm]at z;rw[z];exact nD
    ·rcases UL O with⟨z1,z2⟩|⟨z1,rfl⟩
     ·show upd _ _ _ _=_;rw[ZV (g3 b (Y3 z2))];exact s4 _ _ (s2 _ _ (g4 j b z2))
     ·rw[z1,g2];show upd _ _ _ _=_;rw[ZV nD];exact hI
   have lb:(bs.map V.ref).length<sizeLine:=by rw[Z3,g2];exact Zl hi (ZA (ZA nw A9) (by decide))
   have rV:(i=s\/(rows.getD i []).getD i 0=0)->grow s i (rows.getD i [])=(List.range wd).map fun u=>if u=i then 1 else 0:=fun q=>by
    unfold grow;rw[ln];exact VS fun u _=>by rw[Z7 q]
   have vC:¬(i=s\/(rows.getD i []).getD i 0=0)->grow s i (rows.getD i [])=(List.range wd).map fun u=>if u=s then 0 else(rows.getD i []).getD u 0:=fun q=>by
    unfold grow;rw[ln];exact VS fun u _=>by rw[Z8 q]
   have uj:(i=s\/(rows.getD i []).getD i 0=0)->∀(D:Addr),H2 D=none->∀H3,(ZX H2 H3/\IL H3 D ((List.range wd).map fun u=>if u=i then(1:Int)else 0))->(∃l xs y,V.ref c=.ref l/\[V.ref D]=[y]/\H3 l=some (.lst xs)/\xs.length<sizeLine/\((∃d3 d4 d5 d6,[some (V.ref a),some (.int (s:Int)),some (.ref c),some (.int (i:Int)),some (.ref r),c5,c6]=[some (V.ref a),some (.int (s:Int)),some (.ref c),d3,d4,d5,d6])/\ZX H (upd H3 l (.lst (xs++[y])))/\∃xF:List Addr,upd H3 l (.lst (xs++[y])) c=some (.lst (xF.map V.ref))/\xF.length=i+1/\(∀b,b∈xF->b≠c)/\∀(j:Nat) b,xF[j]?=some b->IL (upd H3 l (.lst (xs++[y]))) b (grow s j (rows.getD j [])))):=fun q D hD H3 ⟨s4,hI⟩=>
    XR c _ _ ⟨Y,Y,s4 _ _ g1,lb,fin H3 D hD s4 (by rw[rV q];exact hI) _ _ _ _⟩
   refine Y' Y rfl ⟨Y,Z1 Y (Wb (fun c1=>?_) (fun c1=>?_))⟩
   ·have q:i=s:=by
     have:=ZD c1;injection this with z
     omega
    refine YW (Z1 Y ⟨.inl ⟨Y,_,Zw.of g1⟩,Z1 Y (ZQ Y (.inl (Zw.of er)) ⟨(wd:Int),by rw[Z3,ln],by omega,by omega,fun D hD=>?_⟩)⟩);refine Qz (n:=wd) (fun j H3=>ZX H2 H3/\IL H3 D ((List.range j).map fun u=>if u=i then(1:Int)else 0)) ⟨ZX.new hD _,Z4⟩ ?_ (uj (.inl q) D hD);rintro j H3 hj ⟨s4,d4⟩;refine⟨Y,Y' Y rfl ⟨Y,Z1 Y (Wb (fun c2=>?_) (fun c2=>?_))⟩⟩
    ·have z:j=i:=by
      have:=ZD c2;injection this with z
      omega
     refine⟨_,d4,by rw[Z3,Z3,Y_];exact Zl hj (ZA A9 (by decide)),s4.Zu hD _,?_⟩;show upd _ _ _ _=_;rw[Z4,UI _ _ _ (Z7 z)]
    ·have z:j≠i:=fun z=>c2 (by rw[z];exact ZP Y);refine⟨_,d4,by rw[Z3,Z3,Y_];exact Zl hj (ZA A9 (by decide)),s4.Zu hD _,?_⟩;show upd _ _ _ _=_;rw[Z4,UI _ _ _ (Z8 z)]
   ·have q1:i≠s:=fun z=>c1 (by rw[z];exact ZP Y);refine Y' Y rfl (ZJ Y rfl (Zw.of er) (Wh (by rw[ln];omega)) ⟨Y,Z1 Y (Wb (fun c2=>?_) (fun c2=>?_))⟩)
    ·have q:(rows.getD i []).getD i 0=0:=by
      have:=ZD c2;injection this with z
     refine Z1 Y ⟨.inl ⟨Y,_,Zw.of g1⟩,Z1 Y (ZQ Y (.inl (Zw.of er)) ⟨(wd:Int),by rw[Z3,ln],by omega,by omega,fun D hD=>?_⟩)⟩;refine Qz (n:=wd) (fun j H3=>ZX H2 H3/\IL H3 D ((List.range j).map fun u=>if u=i then(1:Int)else 0)) ⟨ZX.new hD _,Z4⟩ ?_ (uj (.inr q) D hD);rintro j H3 hj ⟨s4,d4⟩;refine⟨Y,Y' Y rfl ⟨Y,Z1 Y (Wb (fun c2=>?_) (fun c2=>?_))⟩⟩
     ·have z:j=i:=by
       have:=ZD c2;injection this with z
       omega
      refine⟨_,d4,by rw[Z3,Z3,Y_];exact Zl hj (ZA A9 (by decide)),s4.Zu hD _,?_⟩;show upd _ _ _ _=_;rw[Z4,UI _ _ _ (Z7 z)]
     ·have z:j≠i:=fun z=>c2 (by rw[z];exact ZP Y);refine⟨_,d4,by rw[Z3,Z3,Y_];exact Zl hj (ZA A9 (by decide)),s4.Zu hD _,?_⟩;show upd _ _ _ _=_;rw[Z4,UI _ _ _ (Z8 z)]
    ·have q:¬(i=s\/(rows.getD i []).getD i 0=0):=fun z=>by
      rcases z with z|z;·exact q1 z
      ·exact c2 (by rw[z];exact ZP Y)
     refine Z1 Y ⟨.inl ⟨Y,_,Zw.of g1⟩,Z1 Y (ZQ Y (Zw.of er) (fun D hD=>?_))⟩;refine Mg (K:=K) (xs:=(rows.getD i []).map V.int) (fun j H3=>ZX H2 H3/\IL H3 D ((List.range j).map fun u=>if u=s then 0 else(rows.getD i []).getD u 0)) ⟨ZX.new hD _,Z4⟩ (fun j H3 _ z=>Zw.of (z.1 _ _ er)) ?_ ?_
     ·rintro j x H3 H4 hx ⟨s4,d4⟩ s5;obtain⟨hj,rfl⟩:=int_at hx;have d4:=s5 _ _ d4;have lj:(((List.range j).map fun u=>if u=s then 0 else(rows.getD i []).getD u 0).map V.int).length<sizeLine:=by
       rw[Z3,Z3,Y_];rw[ln]at hj;exact Zl hj (ZA A9 (by decide))
      refine⟨Y,Y' Y rfl ⟨Y,Z1 Y (Wb (fun c3=>?_) (fun c3=>Z1 Y ?_))⟩⟩
      ·have z:j=s:=by
        have:=ZD c3;injection this with z
        omega
       refine⟨_,d4,lj,(s4.trans s5).Zu hD _,?_⟩;show upd _ _ _ _=_;rw[Z4,UI _ _ _ (Z7 z)]
      ·have z:j≠s:=fun z=>c3 (by rw[z];exact ZP Y);refine⟨_,d4,lj,(s4.trans s5).Zu hD _,?_⟩;show upd _ _ _ _=_;rw[Z4,UI _ _ _ (Z8 z)]
     ·rintro H3 ⟨s4,d4⟩;rw[Z3,ln]at d4;exact XR c _ _ ⟨Y,Y,s4 _ _ g1,lb,fin H3 D hD s4 (by rw[vC q];exact d4) _ _ _ _⟩
  ·rintro σ H1 ⟨⟨c3,c4,c5,c6,rfl⟩,s1,bs,g1,g2,g3,g4⟩;rw[Z3,nl]at g2;refine Z1 Y (k H1 c s1 ⟨bs,g1,by rw[g2,Z3,Y_],fun j b O=>?_⟩);have hj:j<n:=by rw[<-g2];exact(Zy.mp O).1
   have e:(((List.range n).map fun v=>grow s v (rows.getD v [])).getD j [])=grow s j (rows.getD j []):=by
    rw[ZW,Zb,Xv hj];rfl
   rw[e];exact g4 j b O
end
structure MM(H:Hp)(D:Addr)(ra:List Addr)(n:Nat)(M:Nat->Nat->Int):Prop where
 lst:H D=some (.lst (ra.map V.ref))
 len:ra.length=n
 nd:ra.Nodup
 row:∀(v:Nat) r,ra[v]?=some r->IL H r ((List.range (n+1)).map (M v))
theorem MM.at_{H:Hp}{D:Addr}{ra:List Addr}{n:Nat}{M:Nat->Nat->Int}(h:MM H D ra n M){v:Nat}(hv:v<n):∃r,ra[v]?=some r/\IL H r ((List.range (n+1)).map (M v)):=by
 have hl:v<ra.length:=by rw[h.len];exact hv
 exact⟨ra[v],ZT hl,h.row v _ (ZT hl)⟩
theorem TJ(xs:List Int)(j:Nat)(z:Int):(xs.map V.int).set j (.int z)=(xs.set j z).map V.int:=by rw[List.map_set]
theorem set_range{n j:Nat}{f:Nat->Int}{z:Int}(hj:j<n):((List.range n).map f).set j z=(List.range n).map fun b=>if b=j then z else f b:=by
 refine List.ext_getElem (by simp) fun i J h2=>?_;rw[List.getElem_set];simp only[List.getElem_map,List.getElem_range];by_cases q:j=i;·rw[Z7 q,Z7 q.symm]
 ·rw[Z8 q,Z8 (fun z=>q z.symm)]
theorem MM.set{H:Hp}{D:Addr}{ra:List Addr}{n:Nat}{M:Nat->Nat->Int}(h:MM H D ra n M){v j:Nat}{r:Addr}(hr:ra[v]?=some r)(hD:D∉ra)(hj:j<n+1)(z:Int):MM (upd H r (.lst ((((List.range (n+1)).map (M v)).map V.int).set j (.int z)))) D ra n (setM M v j z):=by
 have jW:r∈ra:=Y3 hr;refine⟨by rw[ZV (fun q=>hD (by rw[q];exact jW))];exact h.lst,h.len,h.nd,fun u c hc=>?_⟩;by_cases q:u=v
 ·subst q;rw[hr]at hc;cases hc;show upd _ _ _ _=_;rw[Z4,TJ,set_range hj];congr 4;funext b;unfold setM;by_cases zz:b=j;·rw[Z7 zz,Z7 ⟨Y,zz⟩]
  ·rw[Z8 zz,Z8 (fun w=>zz w.2)]
 ·have QN:c≠r:=fun z=>q (z4 h.nd hc (by rw[z];exact hr));show upd _ _ _ _=_;rw[ZV QN];have:=h.row u c hc;have e:setM M v j z u=M u:=by
   funext b;unfold setM;rw[Z8 (fun w=>q w.1)]
  rw[e];exact this
theorem Oz{n j:Nat}(h:j<n):BR n (j:Int)=some j:=by
 unfold BR;rw[Z7 (by omega),Z7 (by omega)];simp
theorem Fy{n j:Nat}{f:Nat->Int}(h:j<n):QO (((List.range n).map f).map V.int) (j:Int)=some (.int (f j)):=by
 have:=Wh (ns:=(List.range n).map f) (k:=j) (by simp[h]);rw[YL h]at this;exact this
theorem Pw{K:W.Frag}{H:Hp}{D:Addr}{ra:List Addr}{n:Nat}{M:Nat->Nat->Int}(h:MM H D ra n M){v j:Nat}{r:Addr}(hr:ra[v]?=some r)(hj:j<n+1):Zw K H r (((List.range (n+1)).map (M v)).map V.int)/\(0:Int)<=(j:Int)/\QO (((List.range (n+1)).map (M v)).map V.int) (j:Int)=some (.int (M v j))/\H r=some (.lst (((List.range (n+1)).map (M v)).map V.int))/\BR (((List.range (n+1)).map (M v)).map V.int).length (j:Int)=some j:=
 ⟨Zw.of (h.row v r hr),by omega,Fy hj,h.row v r hr,by rw[Z3,Z3,Y_];exact Oz hj⟩
section
variable{P:Program}{w:World}{K:W.Frag}{mg:Str->Option Value}{base:Heap}{t:Yl}
structure Oy(P:Y2)(U:List Nat)(S:Int)(rows:List (List Int)):Prop where
 Im:Rk P.n (P.n+1) rows
 ent:∀v,v<P.n->∀u,u<P.n+1->RR.ent rows v u=if v=P.s\/P.raw U S v v=0 then(if u=v then 1 else 0)else if u=P.s then 0 else P.raw U S v u
def rT(t:Yl):Sp:=fun vs H Q _=>∃a b P U S,vs=[.ref a,.ref b,.int S]/\SN t H a P/\NL H b U/\P.Ok/\P.Sz/\(∀e,e∈U->e<P.links.length)/\U.length<=9/\Bd 100 S/\∀H' c rows,ZX H H'->Ue H' c rows->Oy P U S rows->Q (.ref c) H'
theorem MB:ZL ["net","used","spread","last","rows","place","number","link","weight"] ["net","used","spread"] (ZZ (top 28)):=YR
theorem MA(T:Txt K mg t):Y6 P w K mg base XB 34 t.Rf t.Rc ["net","used","spread"] (rT t):=by
 have sc:=MB;refine T.OH.F.ok sc (fun vs H Q E h=>?_) (fun Yp A outer s H vs Q E hr h=>?_)
 ·obtain⟨a,b,P,U,S,rfl,_⟩:=h;rfl
 ·have hd:=hr.div (by decide);obtain⟨a,b,P,U,S,rfl,⟨la,ks,hN⟩,hU,ok,Z',lt,l9,bS,k⟩:=h;obtain⟨Tu,ea⟩:=hN.obj;have n6:=Z'.n6;refine⟨_,(Z5 (ZS (i:=3) sc.nd Y (Or.inr Y) (ZY (Z 0) rfl))
   (Z5 (Va (i:=4) rfl sc.nd Y rfl (T8 Y rfl rfl rfl) (V2 Y T.TK (Z6 (Z 3) Z2)) (Yt (own:=[("place",5)]) (show T_ ["net","used","spread","last","rows","place","number","link","weight"] (ZZ (top 28)) _ _=true by decide+kernel)) (fun _ _ _ _ _=>by exact(Zz (i:=5) sc.nd Y Y4)) (fun _ _ _ _ _=>by exact XE) (fun _ _ _ _ _=>by exact(Zc Eu (Zv (Z6 ZR Z2)) (Zc SF (Z 3) ZR))))
   (Z5 (Yu Zi Y (Yq (Z 1)) (Zz (i:=6) sc.nd Y Y4) (Z5 (ZS (i:=7) sc.nd Y Y4 (ZI ZM (ZY (Z 0) rfl) (Z 6) (fun _ _=>rfl)))
   (Z5 (ZS (i:=8) sc.nd Y Y4 (Zc (VO hd) (Z 2) (ZY (Z 7) rfl)))
   (Z5 (SG (ZI ZM (Z 4) (ZY (Z 7) rfl) (fun _ _=>rfl)) (ZY (Z 7) rfl) Uh (Z 8) L5 set_list)
   (Z5 (SG (ZI ZM (Z 4) (ZY (Z 7) rfl) (fun _ _=>rfl)) (ZY (Z 7) rfl) Uh (Z 8) L5 set_list)
   (Z5 (SG (ZI ZM (Z 4) (ZY (Z 7) rfl) (fun _ _=>rfl)) (ZY (Z 7) rfl) Uh (Z 8) EN set_list)
   (Z5 (SG (ZI ZM (Z 4) (ZY (Z 7) rfl) (fun _ _=>rfl)) (ZY (Z 7) rfl) Uh (Z 8) EN set_list)
   (Z5 (SG (ZI ZM (Z 4) (ZY (Z 7) rfl) (fun _ _=>rfl)) (Z 3) Uh (Zc YQ (Z 8) (ZY (Z 7) rfl)) EN set_list)
   (Z0 (SG (ZI ZM (Z 4) (ZY (Z 7) rfl) (fun _ _=>rfl)) (Z 3) Uh (Zc YQ (Z 8) (ZY (Z 7) rfl)) L5 set_list))))))))))
   (Z5 (SG (ZI ZM (Z 4) (ZY (Z 0) rfl) (fun _ _=>rfl)) (Z 3) Uh (Zc YQ (Z 2) (ZY (Z 0) rfl)) L5 set_list)
   (Z0 (ZN (cl T.FT (Fz T) hr (Z6 (Z 4) (Z6 (ZY (Z 0) rfl) Z2))))))))),?_⟩
  refine YJ Y ea T.Net.cl T.Wn Y (Z1 Y ⟨(P.n:Int),Y,by omega,by omega,fun D hD=>?_⟩);refine Qz (n:=P.n) (fun i H'=>ZX H H'/\∃bs:List Addr,H' D=some (.lst (bs.map V.ref))/\bs.length=i/\bs.Nodup/\(∀r,r∈bs->H r=none/\r≠D)/\∀(j:Nat) r,bs[j]?=some r->IL H' r ((List.range (P.n+1)).map fun _=>(0:Int)))
   ⟨ZX.new hD _,[],Z4,Y,Tq,fun r hr=>(by cases hr),fun j r hr=>(by simp at hr)⟩ ?_ ?_
  ·rintro i H1 hi ⟨s1,bs,g1,g2,g3,g4,g5⟩;refine⟨Y,(by show 1<=sizeLine;decide),fun p hp=>?_⟩;refine Z1 Y (ZQ Y rfl ⟨p,(P.n+1:Int),Z1 Y ⟨Y,Z4,by omega,by omega,?_,fun r hr=>?_⟩⟩)
   ·show 1*_<=_;exact ZA (show 1*((P.n+1:Int)).toNat<=7 by omega) (by decide)
   ·have qG:H1 r=none:=by
     by_cases q:r=p;·rw[q];exact hp
     ·rw[ZV q]at hr;exact hr
    have sA:ZX H1 (upd (upd H1 p (.lst [.int 0])) r (.lst (List.replicate ((P.n+1:Int)).toNat [V.int 0]).flatten)):=(ZX.new hp _).trans (ZX.new hr _);have gS:r≠D:=fun q=>by rw[q,g1]at qG;cases qG
    have er:(List.replicate ((P.n+1:Int)).toNat [V.int 0]).flatten=((List.range (P.n+1)).map fun _=>(0:Int)).map V.int:=by
     rw[show((P.n+1:Int)).toNat=P.n+1 by omega,Yn];refine UA fun j=>?_;rw[List.flatten_replicate_singleton,Pk,Zb];by_cases hj:j<P.n+1;·rw[Z7 hj,Xv hj];rfl
     ·rw[Z8 hj,YH (by simp;omega)];rfl
    refine⟨_,sA _ _ g1,by rw[Z3,g2];exact Zl (show i<7 by omega) (by decide),(s1.trans sA).Zu hD _,bs++[r],by rw[Z4,UM],by rw[ZF,g2];rfl,O6 g3 ?_,fun c hc=>?_,fun j c hc=>?_⟩
    ·intro q;obtain⟨j,hj⟩:=List.getElem?_of_mem q;have:=g5 j r hj;have this:H1 r=_:=this;rw[qG]at this;cases this
    ·rcases Zj.mp hc with z|z;·exact g4 c z
     ·rw[Zm]at z;subst z;exact⟨s1.free qG,gS⟩
    ·rcases UL hc with⟨z1,z2⟩|⟨z1,rfl⟩
     ·show upd _ _ _ _=_;rw[ZV (g4 c (Y3 z2)).2];exact sA _ _ (g5 j c z2)
     ·show upd _ _ _ _=_;rw[ZV gS,Z4,er]
  ·rintro H1 ⟨s1,ra,g1,g2,g3,g4,g5⟩;have rS:D∉ra:=fun q=>(g4 D q).2 rfl;have M0:MM H1 D ra P.n (P.Um [] S):=⟨g1,g2,g3,fun v r e=>g5 v r e⟩;refine Z1 Y ⟨b,Y,⟨_,Zw.of (s1 _ _ hU)⟩,?_⟩;refine Xo (K:=K) (a:=b) (xs:=U.map fun(k:Nat)=>V.int (k:Int)) (fun i σ H'=>(∃c6 c7 c8,σ=[some (.ref a),some (.ref b),some (.int S),some (.int P.n),some (.ref D),none,c6,c7,c8])/\ZX H H'/\MM H' D ra P.n (P.Um (U.take i) S)) ⟨⟨none,none,none,Y⟩,s1,M0⟩ (fun i σ H' _ q=>Zw.of (q.2.1 _ _ hU)) ?_ ?_
   ·rintro i x σ H2 hx ⟨⟨c6,c7,c8,rfl⟩,s2,M⟩;obtain⟨e,he,rfl⟩:=Ud hx;have jV:e∈U:=Y3 he;have WY:=lt e jV;obtain⟨kk,dk,hk,ek⟩:=hN.link WY;have nk:H kk≠none:=by rw[ek];simp
    have bp:=ok.b e WY;obtain⟨rt,xE,-⟩:=M.at_ (ok.lt e WY);obtain⟨rh,xD,-⟩:=M.at_ (ok.lh e WY);have fresh:∀r,r∈ra->H r=none:=fun r hr=>(g4 r hr).1;have jU:=fresh rt (Y3 xE);have jT:=fresh rh (Y3 xD);have tl:(P.lk e).tail<P.n+1:=XW (ok.lt e WY);have hl:(P.lk e).head<P.n+1:=XW (ok.lh e WY);have nn:P.n<P.n+1:=VR _;refine YJ Y (s2 _ _ ea) T.Net.cl T.XM Y (Z1 Y (ZJ Y rfl (Zw.of (s2 _ _ hN.lst)) (Yz hk) (Y' Y rfl (S7 (s2 _ _ ek) T.XQ.cl T.VG Y (ZQ Y rfl ⟨bp,?_⟩)))));obtain⟨p1,p2,p3,p4,p5⟩:=Pw (K:=K) M xE tl;refine Y' Y rfl (S7 (s2 _ _ ek) T.XQ.cl T.YK Y (ZJ Y rfl (Zw.of M.lst) (Yz xE) (YJ Y (s2 _ _ ek) T.XQ.cl T.YK Y (ZJ Y rfl p1 p2 ⟨p3,Z1 Y (ZQ Y rfl (ZJ Y rfl p4 p5 ?_))⟩))));have M1:=M.set xE rS tl (P.Um (U.take i) S (P.lk e).tail (P.lk e).tail+S/(P.lk e).slope);have t1:=s2.Zu jU (.lst ((((List.range (P.n+1)).map (P.Um (U.take i) S (P.lk e).tail)).map V.int).set (P.lk e).tail (.int (P.Um (U.take i) S (P.lk e).tail (P.lk e).tail+S/(P.lk e).slope))));obtain⟨p1,p2,p3,p4,p5⟩:=Pw (K:=K) M1 xD hl;refine Y' Y rfl (S7 (t1 _ _ ek) T.XQ.cl T.YY Y (ZJ Y rfl (Zw.of M1.lst) (Yz xD) (YJ Y (t1 _ _ ek) T.XQ.cl T.YY Y (ZJ Y rfl p1 p2 ⟨p3,Z1 Y (ZQ Y rfl (ZJ Y rfl p4 p5 ?_))⟩))));have M2:=M1.set xD rS hl (setM (P.Um (U.take i) S) (P.lk e).tail (P.lk e).tail (P.Um (U.take i) S (P.lk e).tail (P.lk e).tail+S/(P.lk e).slope) (P.lk e).head (P.lk e).head+S/(P.lk e).slope);have t2:=fun o=>t1.Zu jT o;generalize J:setM (P.Um (U.take i) S) (P.lk e).tail (P.lk e).tail (P.Um (U.take i) S (P.lk e).tail (P.lk e).tail+S/(P.lk e).slope)=Ma at*;generalize h2:setM Ma (P.lk e).head (P.lk e).head (Ma (P.lk e).head (P.lk e).head+S/(P.lk e).slope)=Mb at*;obtain⟨p1,p2,p3,p4,p5⟩:=Pw (K:=K) M2 xE hl;refine Y' Y rfl (S7 (t2 _ _ _ ek) T.XQ.cl T.YK Y (ZJ Y rfl (Zw.of M2.lst) (Yz xE) (YJ Y (t2 _ _ _ ek) T.XQ.cl T.YY Y (ZJ Y rfl p1 p2 ⟨p3,Z1 Y (ZQ Y rfl (ZJ Y rfl p4 p5 ?_))⟩))));have M3:=M2.set xE rS hl (Mb (P.lk e).tail (P.lk e).head-S/(P.lk e).slope);have t3:=fun o o'=>(t2 o).Zu jU o';generalize h3:setM Mb (P.lk e).tail (P.lk e).head (Mb (P.lk e).tail (P.lk e).head-S/(P.lk e).slope)=Mc at*;obtain⟨p1,p2,p3,p4,p5⟩:=Pw (K:=K) M3 xD tl;refine Y' Y rfl (S7 (t3 _ _ _ _ ek) T.XQ.cl T.YY Y (ZJ Y rfl (Zw.of M3.lst) (Yz xD) (YJ Y (t3 _ _ _ _ ek) T.XQ.cl T.YK Y (ZJ Y rfl p1 p2 ⟨p3,Z1 Y (ZQ Y rfl (ZJ Y rfl p4 p5 ?_))⟩))));have M4:=M3.set xD rS tl (Mc (P.lk e).head (P.lk e).tail-S/(P.lk e).slope);have t4:=fun o o' de=>(t3 o o').Zu jT de;generalize h4:setM Mc (P.lk e).head (P.lk e).tail (Mc (P.lk e).head (P.lk e).tail-S/(P.lk e).slope)=Md at*;obtain⟨p1,p2,p3,p4,p5⟩:=Pw (K:=K) M4 xE nn;have mo:IntMulOk (S/(P.lk e).slope) (P.lk e).cost:=XF (bS.div.mono (by decide)) ((Z'.c e WY).mono (by decide));refine Y' Y rfl (S7 (t4 _ _ _ _ _ ek) T.XQ.cl T.YK Y (ZJ Y rfl (Zw.of M4.lst) (Yz xE) (Z1 Y (ZJ Y rfl p1 p2 ⟨p3,Y' Y rfl (S7 (t4 _ _ _ _ _ ek) T.XQ.cl T.Wu Y (ZQ Y rfl ⟨mo,ZQ Y rfl (ZJ Y rfl p4 p5 ?_)⟩))⟩))));have M5:=M4.set xE rS nn (Md (P.lk e).tail P.n-S/(P.lk e).slope*(P.lk e).cost);have t5:=fun o1 o2 o3 o4=>(t4 o1 o2 o3).Zu jU o4;generalize h5:setM Md (P.lk e).tail P.n (Md (P.lk e).tail P.n-S/(P.lk e).slope*(P.lk e).cost)=Me at*;obtain⟨p1,p2,p3,p4,p5⟩:=Pw (K:=K) M5 xD nn;refine Y' Y rfl (S7 (t5 _ _ _ _ _ _ ek) T.XQ.cl T.YY Y (ZJ Y rfl (Zw.of M5.lst) (Yz xD) (Z1 Y (ZJ Y rfl p1 p2 ⟨p3,Y' Y rfl (S7 (t5 _ _ _ _ _ _ ek) T.XQ.cl T.Wu Y (ZQ Y rfl ⟨mo,ZQ Y rfl (ZJ Y rfl p4 p5 ?_)⟩))⟩))));have M6:=M5.set xD rS nn (Me (P.lk e).head P.n+S/(P.lk e).slope*(P.lk e).cost);generalize h6:setM Me (P.lk e).head P.n (Me (P.lk e).head P.n+S/(P.lk e).slope*(P.lk e).cost)=Mf at*;refine⟨Xh Y,(t5 _ _ _ _).Zu jT _,?_⟩;have key:=kq ok WY S (P.Um (U.take i) S) Ma Mb Mc Md Me Mf J.symm h2.symm h3.symm h4.symm h5.symm h6.symm;have e2:P.Um (U.take (i+1)) S=Mf:=by
     funext v u;rw[key v u,<-Bv];congr 1;rw[Xc,he];rfl
    rw[e2];exact M6
   ·rintro σ H2 ⟨⟨c6,c7,c8,rfl⟩,s2,M⟩;rw[Z3,XX]at M;obtain⟨rg,mV,-⟩:=M.at_ ok.t;have c_:=(g4 rg (Y3 mV)).1;obtain⟨p1,p2,p3,p4,p5⟩:=Pw (K:=K) M mV (VR P.n);refine Y' Y rfl (S7 (s2 _ _ ea) T.Net.cl T.Pz Y (ZJ Y rfl (Zw.of M.lst) (Yz mV) (Z1 Y (ZJ Y rfl p1 p2 ⟨p3,Y' Y rfl (S7 (s2 _ _ ea) T.Net.cl T.MP Y (ZQ Y rfl ⟨XF (bS.mono (by decide)) (Z'.u.mono (by decide)),ZQ Y rfl (ZJ Y rfl p4 p5 ?_)⟩))⟩))));have M7:=M.set mV rS (VR P.n) (P.Um U S P.t P.n+S*P.units);have t7:=s2.Zu c_ (.lst ((((List.range (P.n+1)).map (P.Um U S P.t)).map V.int).set P.n (.int (P.Um U S P.t P.n+S*P.units))));have e7:∀v u,setM (P.Um U S) P.t P.n (P.Um U S P.t P.n+S*P.units) v u=P.raw U S v u:=fun v u=>by
     rw[zj];unfold setM;by_cases q:v=P.t/\u=P.n
     ·rw[Z7 q,Z7 ⟨q.2,q.1⟩,q.1,q.2];omega
     ·rw[Z8 q,Z8 (fun z=>q ⟨z.2,z.1⟩)];omega
    refine Y' Y rfl (S7 (t7 _ _ ea) T.Net.cl T.UN Y ⟨D,P.s,(List.range P.n).map fun v=>(List.range (P.n+1)).map (P.raw U S v),P.n,P.n+1,Y,⟨ra,M7.lst,by rw[g2,Z3,Y_],fun v r hr=>?_⟩,?_,by omega,by omega,fun H3 c s3 hR=>?_⟩)
    ·have hv:v<P.n:=by rw[<-g2];exact(Zy.mp hr).1
     have:=M7.row v r hr;rw[ZW,Zb,Xv hv];have e:setM (P.Um U S) P.t P.n (P.Um U S P.t P.n+S*P.units) v=P.raw U S v:=funext fun u=>e7 v u;rw[e]at this;exact this
    ·refine⟨by simp,fun r hr=>?_⟩;obtain⟨v,_,rfl⟩:=Y9.mp hr;simp
    ·refine k H3 c _ (t7.trans s3) hR ⟨⟨by simp,fun r hr=>?_⟩,fun v hv u hu=>?_⟩
     ·obtain⟨v,hv,rfl⟩:=Y9.mp hr;have hv:=YO.mp hv;unfold grow;rw[Z3,Y_,ZW,Zb,Xv hv];simp
     ·have er:((List.range P.n).map fun v=>(List.range (P.n+1)).map (P.raw U S v)).getD v []=(List.range (P.n+1)).map (P.raw U S v):=by
       rw[ZW,Zb,Xv hv];rfl
      unfold RR.ent;rw[ZW (l:=(List.range P.n).map _),Zb,Xv hv];show(grow P.s v (((List.range P.n).map fun v=>(List.range (P.n+1)).map (P.raw U S v)).getD v [])).getD u 0=_;rw[er];unfold grow;rw[Z3,Y_,YL hu,YL (show v<P.n+1 by omega),YL hu]
end
theorem Oy.pd{P:Y2}{U:List Nat}{S:Int}{rows:List (List Int)}(B:Oy P U S rows)(ok:P.Ok)(hU:∀e,e∈U->e<P.links.length)(T:P.XS.O5 U)(hS:0<S)(hd:∀e,e∈U->(P.lk e).slope∣S):Sy P.n (fun i j=>(RR.ent rows i j:Rat)):=by
 intro x hx;have q:=Net.CM ok.XS hU T (intCast_pos hS) x hx;have e:sm P.n (fun i=>x i*sm P.n (fun j=>(RR.ent rows i j:Rat)*x j))=sm P.XS.n (fun i=>x i*sm P.XS.n (fun j=>P.XS.rowsOf U (S:Rat) i j*x j)):=by
  refine ZO fun i hi=>?_;congr 1;refine ZO fun j hj=>?_;rw[B.ent i hi j (by omega),Y2.CJ ok hU hS hd hi (by omega)]
 rw[e];exact q
theorem Oy.bd{P:Y2}{U:List Nat}{S:Int}{rows:List (List Int)}(B:Oy P U S rows)(Z':P.Sz)(hU:∀e,e∈U->e<P.links.length)(h9:U.length<=9)(bS:Bd 100 S):∀i,i<P.n->∀j,j<P.n+1->Bd 410 (RR.ent rows i j):=fun i hi j hj=>by
 rw[B.ent i hi j hj];split
 ·split;·exact Bd.one (by omega)
  ·exact Bd.zero _
 ·split;·exact Bd.zero _
  ·exact sE Z' hU h9 bS i j
theorem Ue.row{H:Hp}{a:Addr}{rows:List (List Int)}(h:Ue H a rows){i:Nat}(hi:i<rows.length):∃(rs:List Addr) (r:Addr),H a=some (.lst (rs.map V.ref))/\rs[i]?=some r/\IL H r (rows.getD i []):=by
 obtain⟨rs,J,h2,h3⟩:=h;have hl:i<rs.length:=by rw[h2];exact hi
 exact⟨rs,rs[i],J,ZT hl,h3 i _ (ZT hl)⟩
section
variable{P:Program}{w:World}{K:W.Frag}{mg:Str->Option Value}{base:Heap}{t:Yl}
structure Cf(P:Y2)(U:List Nat)(ys:List Int)(w:Int)(h:Nat->Rat):Prop where
 len:ys.length=P.links.length
 pos:0<w
 Ro:P.XS.U9 U (ld ys w) h
 ET:∀e,Bd 30000 (ys.getD e 0)
 bw:Bd 30000 w
def oG(t:Yl):Sp:=fun vs H Q _=>∃a b P U,vs=[.ref a,.ref b]/\SN t H a P/\NL H b U/\P.Ok/\P.Sz/\(∀e,e∈U->e<P.links.length)/\U.Nodup/\P.XS.O5 U/\P.XS.Yk U P.t/\∀H' c ys w h,ZX H H'->WQ t H' c ys w->Cf P U ys w h->Q (.ref c) H'
theorem Fx:ZL ["net","used","spread","number","rows","lower","amounts","link","climb"] ["net","used"] (ZZ (top 29)):=YR
theorem QX(T:Txt K mg t):Y6 P w K mg base XB 36 t.Lm t.Ll ["net","used"] (oG t):=by
 have sc:=Fx;refine T.balanced.F.ok sc (fun vs H Q E h=>?_) (fun Yp A outer s H vs Q E hr h=>?_)
 ·obtain⟨a,b,P,U,rfl,_⟩:=h;rfl
 ·have hd:=hr.div (by decide);obtain⟨a,b,P,U,rfl,⟨la,ks,hN⟩,hU,ok,Z',lt,nd,Kj,Rm,k⟩:=h;obtain⟨Tu,ea⟩:=hN.obj;have n6:=Z'.n6;have m9:=Z'.m9;have l9:U.length<=9:=ZA (W3 _ U nd lt) m9;refine⟨_,(Z5 (ZS (i:=2) sc.nd Y Y4 ZR)
   (Z5 (Yu Zi Y (Yq (Z 1)) (Zz (i:=3) sc.nd Y Y4) (Z0 (ZS (i:=2) sc.nd Y Y4 (cl T.UZ (Ug T) hr (Z6 (Z 2) (Z6 (ZY (ZI ZM (ZY (Z 0) rfl) (Z 3) (fun _ _=>rfl)) rfl) Z2))))))
   (Z5 (ZS (i:=4) sc.nd Y Y4 (cl T.cleared (DM T) hr (Z6 (cl T.OH (MA T) hr (Z6 (Z 0) (Z6 (Z 1) (Z6 (Z 2) Z2)))) Z2)))
   (Z5 (ZS (i:=5) sc.nd Y Y4 (ZI ZM (ZI ZM (Z 4) ZR (fun _ _=>rfl)) ZR (fun _ _=>rfl)))
   (Z5 (ZS (i:=6) sc.nd Y Y4 (Zc Eu (Zv (Z6 ZR Z2)) (YN Zd (by rfl) T.Wk YM (Z6 (ZY (Z 0) rfl) Z2))))
   (Z5 (Yu Zi Y (Yq (Z 1)) (Zz (i:=3) sc.nd Y Y4) (Z5 (ZS (i:=7) sc.nd Y Y4 (ZI ZM (ZY (Z 0) rfl) (Z 3) (fun _ _=>rfl)))
   (Z5 (ZS (i:=8) sc.nd Y Y4 (Zc PY (Zc PY (ZI ZM (ZI ZM (Z 4) (ZY (Z 7) rfl) (fun _ _=>rfl)) (ZY (Z 0) rfl) (fun _ _=>rfl)) (ZI ZM (ZI ZM (Z 4) (ZY (Z 7) rfl) (fun _ _=>rfl)) (ZY (Z 0) rfl) (fun _ _=>rfl))) (Zc YQ (ZY (Z 7) rfl) (Z 5))))
   (Z0 (P5 (Zc YQ (Z 8) (Zc (VO hd) (Z 2) (ZY (Z 7) rfl))) (P6 (Z 6) (Z 3) set_list))))))
   (Z0 (ZN (mk T.Load (OA T) hr (Z6 (Z 6) (Z6 (Zc YQ (Z 2) (Z 5)) Z2))))))))))),?_⟩
  refine Z1 Y ⟨b,Y,⟨_,Zw.of hU⟩,?_⟩;refine Xo (K:=K) (a:=b) (xs:=U.map fun(k:Nat)=>V.int (k:Int)) (fun i σ H'=>H'=H/\∃c3,σ=[some (.ref a),some (.ref b),some (.int (Ie P (U.take i))),c3,none,none,none,none,none]) ⟨Y,none,Y⟩ (fun i σ H' _ q=>by rw[q.1];exact Zw.of hU) ?_ ?_
  ·rintro i x σ H1 hx ⟨rfl,c3,rfl⟩;obtain⟨e,he,rfl⟩:=Ud hx;have WY:=lt e (Y3 he);obtain⟨kk,dk,hk,ek⟩:=hN.link WY;have ti:∀e,e∈U.take i->e<P.links.length:=fun e he=>lt e (List.mem_of_mem_take he);obtain⟨z1,z2,z3⟩:=CH ok Z' (U.take i) ti;have hl:(U.take i).length<=9:=by rw[Xt];omega
   refine Y' Y rfl (S7 ea T.Net.cl T.XM Y (Z1 Y (V7 ⟨Y,Y,Zw.of hN.lst,Yz hk,S7 ek T.XQ.cl T.VG Y (Yd ⟨Y,z1,ok.b e WY,z3.mono (by show 1+11*(U.take i).length<=33554432;omega),(Z'.b e WY).mono (by decide),Y,some (.int e),?_⟩)⟩)));have:U.take (i+1)=U.take i++[e]:=by rw[Xc,he];rfl
   rw[this,Jp];rfl
  ·rintro σ H1 ⟨rfl,c3,rfl⟩;rw[Z3,XX];obtain⟨S0,Sd,Sb⟩:=CH ok Z' U lt;have Sb:Bd 100 (Ie P U):=Sb.mono (by omega);generalize Ie P U=S at*;refine Y' Y rfl (Z1 Y ⟨a,b,P,U,S,Y,⟨la,ks,hN⟩,hU,ok,Z',lt,l9,Sb,fun H2 c1 rows s1 hR B=>?_⟩);have PD:=B.pd ok lt Kj S0 Sd;have bd:=B.bd Z' lt l9 Sb;have n0:0<P.n:=by have:=ok.s;omega
   refine⟨c1,rows,P.n,410,Y,hR,n0,n6,B.Im,PD,bd,by decide,fun H3 c2 s2 jS=>?_⟩;have Qy:=s1.trans s2;obtain⟨R1,bp,uo⟩:=Sv B.Im PD n6 bd P.n (ZK _);have rl:∀v,v<P.n->v<(Yc P.n rows).1.length:=fun v hv=>by rw[R1.len];exact hv
   obtain⟨rs0,r0,q1,q2,q3⟩:=jS.row (rl 0 n0);refine Z1 Y (V7 ⟨Y,Y,Zw.of q1,Yz (k:=0) q2,V7 ⟨Y,Y,Zw.of q3,Wh (k:=0) (by rw[R1.at n0];omega),?_⟩⟩);have low:((Yc P.n rows).1.getD 0 []).getD 0 0=RR.ent (Yc P.n rows).1 0 0:=rfl;rw[low];generalize vB:RR.ent (Yc P.n rows).1 0 0=lower at*;have yy:Bd 26304 lower:=by rw[<-vB];exact(uo 0 n0 0 (by omega)).mono (by omega)
   refine⟨(by show 1<=sizeLine;decide),fun p hp=>?_⟩;have s3:=Qy.trans (ZX.new hp (.lst [.int 0]));refine YJ Y (s3 _ _ ea) T.Net.cl T.XM Y (Yd ⟨Y,.inl (Zw.of (s3 _ _ hN.lst)),p,Yd ⟨Y,Y,Z4,by rw[Z3,hN.len];omega,by rw[Z3,hN.len];omega,?_,fun am mT=>?_⟩⟩)
   ·rw[Z3,hN.len];show 1*_<=_;exact ZA (show 1*((P.links.length:Int)).toNat<=9 by omega) (by decide)
   have er:(List.replicate (((ks.map V.ref).length:Int)).toNat [V.int 0]).flatten=((List.range P.links.length).map fun _=>(0:Int)).map V.int:=by
    rw[Z3,hN.len,show((P.links.length:Int)).toNat=P.links.length by omega,Yn];refine UA fun j=>?_;rw[List.flatten_replicate_singleton,Pk,Zb];by_cases hj:j<P.links.length;·rw[Z7 hj,Xv hj];rfl
    ·rw[Z8 hj,YH (by simp;omega)];rfl
   have c9:H1 am=none:=s3.free mT;have s4:=s3.trans (ZX.new mT (.lst (List.replicate (((ks.map V.ref).length:Int)).toNat [V.int 0]).flatten));let Av:Nat->Int:=fun e=>(RR.ent (Yc P.n rows).1 (P.lk e).head P.n-RR.ent (Yc P.n rows).1 (P.lk e).tail P.n-(P.lk e).cost*lower)*(S/(P.lk e).slope)
   have oF:ZX H3 (upd (upd H3 p (.lst [.int 0])) am (.lst (List.replicate (((ks.map V.ref).length:Int)).toNat [V.int 0]).flatten)):=(ZX.new hp _).trans (ZX.new mT _);have cZ:H3 am=none:=(ZX.new hp (.lst [.int 0])).free mT;refine Z1 Y ⟨b,Y,⟨_,Zw.of (s4 _ _ hU)⟩,?_⟩;refine Xo (K:=K) (a:=b) (xs:=U.map fun(k:Nat)=>V.int (k:Int)) (fun i σ H'=>(∃c3 c7 c8,σ=[some (.ref a),some (.ref b),some (.int S),c3,some (.ref c2),some (.int lower),some (.ref am),c7,c8])/\ZX H3 H'/\IL H' am ((List.range P.links.length).map fun e=>if e∈U.take i then Av e else 0))
    ⟨⟨_,none,none,Y⟩,oF,?_⟩ (fun i σ H' _ q=>Zw.of (q.2.1 _ _ (Qy _ _ hU))) ?_ ?_
   ·show upd _ _ _ _=_;rw[Z4,er];simp
   ·rintro i x σ H4 hx ⟨⟨c3,c7,c8,rfl⟩,s5,hI⟩;obtain⟨e,he,rfl⟩:=Ud hx;have WY:=lt e (Y3 he);obtain⟨kk,dk,hk,ek⟩:=hN.link WY;have s6:=Qy.trans s5;have qF:=s6 _ _ ek;have jR:=s6 _ _ ea;obtain⟨rs1,r1,a1,a2,a3⟩:=(jS.up s5).row (rl _ (ok.lh e WY));obtain⟨rs2,r2,b1,b2,b3⟩:=(jS.up s5).row (rl _ (ok.lt e WY));have bo:=ok.b e WY;have bh:Bd 26304 (RR.ent (Yc P.n rows).1 (P.lk e).head P.n):=(uo _ (ok.lh e WY) P.n (by omega)).mono (by omega);have bt:Bd 26304 (RR.ent (Yc P.n rows).1 (P.lk e).tail P.n):=(uo _ (ok.lt e WY) P.n (by omega)).mono (by omega);have bc:Bd 26604 ((P.lk e).cost*lower):=(Z'.c e WY).mul yy;have jQ:Bd 26606 (RR.ent (Yc P.n rows).1 (P.lk e).head P.n-RR.ent (Yc P.n rows).1 (P.lk e).tail P.n-(P.lk e).cost*lower):=(((bh.sub bt).mono (by omega:26304+1<=26605)).sub (bc.mono (by omega))).mono (by omega);refine YJ Y jR T.Net.cl T.XM Y (Z1 Y (V7 ⟨Y,Y,Zw.of (s6 _ _ hN.lst),Yz hk,?_⟩));refine Y' Y rfl (S7 qF T.XQ.cl T.YY Y (V7 ⟨Y,Y,Zw.of a1,Yz a2,YJ Y jR T.Net.cl T.Wn Y (V7 ⟨Y,Y,Zw.of a3,Wh (by rw[R1.at (ok.lh e WY)];omega),Y' Y rfl (S7 qF T.XQ.cl T.YK Y (V7 ⟨Y,Y,Zw.of b1,Yz b2,YJ Y jR T.Net.cl T.Wn Y (V7 ⟨Y,Y,Zw.of b3,Wh (by rw[R1.at (ok.lt e WY)];omega),Yd ⟨Y,Y,YJ Y qF T.XQ.cl T.Wu Y (Z1 Y (Yd ⟨Y,Y,XF ((Z'.c e WY).mono (by decide)) (yy.mono (by decide)),Yd ⟨Y,Y,?_⟩⟩))⟩⟩)⟩))⟩)⟩));refine Y' Y rfl (YJ Y qF T.XQ.cl T.VG Y (Yd ⟨Y,Y,bo,Yd ⟨Y,Y,XF (jQ.mono (by decide)) (Sb.div.mono (by decide)),Y' Y rfl ⟨am,Yd ⟨e,Y,Y,hI,by rw[Z3,Z3,Y_];exact Oz WY,Xh Y,s5.Zu cZ _,?_⟩⟩⟩⟩));show upd _ _ _ _=_;rw[Z4,TJ,set_range WY];congr 4;funext c;have tk:U.take (i+1)=U.take i++[e]:=by rw[Xc,he];rfl
    rw[tk];by_cases q:c=e
    ·subst q;rw[Z7 Y,Z7 (by simp)];rfl
    ·rw[Z8 q];by_cases z:c∈U.take i;·rw[Z7 z,Z7 (Ym _ z)]
     ·rw[Z8 z,Z8 (by simp[z,q])]
   ·rintro σ H4 ⟨⟨c3,c7,c8,rfl⟩,s5,hI⟩;rw[Z3,XX]at hI;have lp:0<lower:=by
     obtain⟨_,_,lp,_⟩:=LD n0 B.Im PD;rw[vB]at lp;exact lp
    have rR:((List.range P.links.length).map fun e=>if e∈U then Av e else 0).length=P.links.length:=by simp
    refine Y' Y rfl (Z1 Y (Yd ⟨Y,Y,XF (Sb.mono (by decide)) (yy.mono (by decide)),?_⟩));intro x dx nx vA ne;have s6:ZX H4 (upd (upd H4 dx (.own x)) x (.ins t.Q5 dx [])):=(ZX.new vA _).trans (ZX.new (by rw[ZV (fun q=>ne q.symm)];exact nx) _);refine⟨x,dx,am,_,S*lower,Y,Z4,s6 _ _ hI,by rw[rR];omega,US S0 lp,fun H5 hL kp=>⟨Y,?_⟩⟩;have s7:ZX H4 H5:=ZX.made nx vA kp;generalize cY:((List.range P.links.length).map fun e=>if e∈U then Av e else 0)=ys at*;have yv:∀e,e<P.links.length->ys.getD e 0=if e∈U then Av e else 0:=fun e he=>by rw[<-cY,YL he]
    obtain⟨g0,g1,g2⟩:=Mi ys (S*lower) (US S0 lp);obtain⟨_,h,Ro⟩:=Y2.balanced ok lt nd Kj Rm S0 Sd B.Im B.ent rR (fun e he=>by rw[yv e (lt e he),Z7 he,vB]) (fun e he hn=>by rw[yv e he,Z8 hn]);rw[vB]at Ro;have same:ld (ys.map fun y=>y/OY (S*lower) ys) (S*lower/OY (S*lower) ys)=ld ys (S*lower):=funext fun e=>zq g0 (US S0 lp) g1 g2 e;have cX:∀e,Bd 30000 (ys.getD e 0):=fun e=>by
     by_cases he:e<P.links.length
     ·rw[yv e he];by_cases hm:e∈U
      ·rw[Z7 hm];have bh:Bd 26304 (RR.ent (Yc P.n rows).1 (P.lk e).head P.n):=(uo _ (ok.lh e he) P.n (by omega)).mono (by omega);have bt:Bd 26304 (RR.ent (Yc P.n rows).1 (P.lk e).tail P.n):=(uo _ (ok.lt e he) P.n (by omega)).mono (by omega);have bc:Bd 26604 ((P.lk e).cost*lower):=(Z'.c e he).mul yy;have jQ:=(((bh.sub bt).mono (by omega:26304+1<=26605)).sub (bc.mono (by omega:26604<=26605)));exact(jQ.mul Sb.div).mono (by omega)
      ·rw[Z8 hm];exact Bd.zero _
     ·rw[ZW,YH (by omega)];exact Bd.zero _
    refine k H5 x _ _ h (Qy.trans (s5.trans s7)) hL ⟨by rw[Z3,rR],Ny (US S0 lp) g0 g1,by rw[same];exact Ro,fun e=>?_,?_⟩
    ·rw[N7 (fun y=>y/OY (S*lower) ys) (by simp)];exact(cX e).div
    ·exact((Sb.mul yy).mono (by omega)).div
end
theorem ui{xs ys:List Int}{wx wy:Int}(hx:0<wx)(hy:0<wy){k e:Nat}(q:xs.getD k 0*(-ys.getD e 0)<=xs.getD e 0*(-ys.getD k 0)):ld xs wx k*(-ld ys wy e)<=ld xs wx e*(-ld ys wy k):=by
 have q:((xs.getD k 0*(-ys.getD e 0):Int):Rat)<=((xs.getD e 0*(-ys.getD k 0):Int):Rat):=QR.mpr q;rw[Zn,Zn,Rat.intCast_neg,Rat.intCast_neg,<-Uo (ys:=xs) hx k,<-Uo (ys:=xs) hx e,<-Uo (ys:=ys) hy e,<-Uo (ys:=ys) hy k]at q;have p3:=VN (intCast_pos hx) (intCast_pos hy);generalize ld xs wx k=q1 at*;generalize ld ys wy e=q2 at*;generalize ld xs wx e=q3 at*;generalize ld ys wy k=q4 at*;generalize(wx:Rat)=a at*;generalize(wy:Rat)=b at*;clear hx hy;by_cases g:q1*(-q2)<=q3*(-q4);·exact g
 ·have:0<(q1*(-q2)-q3*(-q4))*(a*b):=VN (by grind) p3;grind
section
variable{P:Program}{w:World}{K:W.Frag}{mg:Str->Option Value}{base:Heap}{t:Yl}
structure gR(t:Yl)(H:Hp)(a b:Addr)(xs ys:List Int)(wx wy:Int)(m:Nat):Prop where
 la:WQ t H a xs wx
 lb:WQ t H b ys wy
 xl:xs.length=m
 yl:ys.length=m
 m9:m<=9
 neg:∃e,e<m/\ys.getD e 0<0
 bx:∀e,Bd 1000000 (xs.getD e 0)
 ET:∀e,Bd 30000 (ys.getD e 0)
def rQ(t:Yl):Sp:=fun vs H Q _=>∃a b xs ys wx wy m,vs=[.ref a,.ref b]/\gR t H a b xs ys wx wy m/\∀H',∀k:Nat,ZX H H'->D7 xs ys k m->Q (.int k) H'
theorem NR:ZL ["load","target","chosen","number","wanted"] ["load","target"] (ZZ (top 30)):=YR
theorem NQ(T:Txt K mg t):Y6 P w K mg base XB 33 t.RX t.RW ["load","target"] (rQ t):=by
 have sc:=NR;refine T.P_.F.ok sc (fun vs H Q E h=>?_) (fun Yp A outer s H vs Q E hr h=>?_)
 ·obtain⟨a,b,xs,ys,wx,wy,m,rfl,_⟩:=h;rfl
 ·obtain⟨a,b,xs,ys,wx,wy,m,rfl,W,k⟩:=h;obtain⟨la,⟨Tu,ea⟩,ia⟩:=W.la;obtain⟨lb,⟨vI,eb⟩,ib⟩:=W.lb;refine⟨_,(Z5 (ZS (i:=2) sc.nd Y Y4 (GZ LZ ZR))
   (Z5 (Yu Zi Y (V8 Y T.UY (Z6 (ZY (Z 1) rfl) Z2)) (VQ Y (YU (Zz (i:=3) sc.nd Y Y4) (YU (Zz (i:=4) sc.nd Y Y4) WH))) (Z5 (YT (ZG R6 (Z 4) ZR (Zr _)) (Z0 V3) Zs)
   (Z0 (YT (PW.pt (UX (ZG JS (Z 2) ZR (Zr _)) (Vt (ZG NH (Zc YQ (ZI ZM (ZY (Z 0) rfl) (Z 3) (fun _ _=>rfl)) (ZI ZM (ZY (Z 1) rfl) (Z 2) (fun _ _=>rfl))) (Zc YQ (ZI ZM (ZY (Z 0) rfl) (Z 2) (fun _ _=>rfl)) (Z 4)) (Zr _))))) (Z0 (ZS (i:=2) sc.nd Y Y4 (Z 3))) Zs))))
   (Z0 (ZN (Z 2))))),?_⟩
  refine Y' Y rfl (S7 eb T.Load.cl T.YX Y (Yd ⟨Y,Zw.of ib,?_⟩));refine U5 (K:=K) (xs:=ys.map V.int) (fun i σ H'=>ZX H H'/\∃c3 c4 z,σ=[some (.ref a),some (.ref b),some (.int z),c3,c4]/\((z=-1/\∀e,e<i->¬ys.getD e 0<0)\/∃j:Nat,z=j/\D7 xs ys j i)) ⟨ZX.refl H,none,none,-1,Y,.inl ⟨Y,fun e he=>by omega⟩⟩ (fun i σ H' _ q=>Zw.of (q.1 _ _ ib)) ?_ ?_
  ·rintro i x σ H1 H2 hx ⟨s1,c3,c4,z,rfl,hz⟩ s2;obtain⟨hi,rfl⟩:=int_at hx;have s3:=s1.trans s2;refine Z1 Y (Yd ⟨Y,Y,Z1 Y (Wb (fun c=>?_) (fun c=>?_))⟩)
   ·have c:0<=ys.getD i 0:=ZD c;refine⟨s3,Yd ⟨z,Y,?_⟩⟩;rcases hz with⟨rfl,hz⟩|⟨j,rfl,hz⟩
    ·refine .inl ⟨Y,fun e he=>?_⟩;by_cases q:e<i;·exact hz e q
     ·have:e=i:=by omega
      subst this;omega
    ·exact .inr ⟨j,Y,hz.skip (by omega)⟩
   ·have c:ys.getD i 0<0:=by
     have:¬0<=ys.getD i 0:=fun q=>c (ZP q);omega
    refine Z1 Y (Yd ⟨Y,Y,Z1 Y ?_⟩);rcases hz with⟨rfl,hz⟩|⟨j,rfl,hz⟩;·refine qH (by decide) (YW (Z1 Y ⟨s3,Yd ⟨(i:Int),Y,.inr ⟨i,Y,D7.first hz c⟩⟩⟩))
    ·refine oO (ZC (by omega)) ?_;have jl:=hz.lt;have cW:i<xs.length:=by rw[W.xl,<-W.yl];exact hi
     refine YJ Y (s3 _ _ ea) T.Load.cl T.YX Y (Z1 Y (V7 ⟨Y,Y,Zw.of (s3 _ _ ia),Wh cW,YJ Y (s3 _ _ eb) T.Load.cl T.YX Y (Z1 Y (V7 ⟨Y,Y,Zw.of (s3 _ _ ib),Wh (by omega),Yd ⟨Y,Y,XF ((W.bx i).mono (by decide)) ((W.ET j).mono (by decide)),YJ Y (s3 _ _ ea) T.Load.cl T.YX Y (Z1 Y (V7 ⟨Y,Y,Zw.of (s3 _ _ ia),Wh (by omega),Z1 Y (Yd ⟨Y,Y,XF ((W.bx j).mono (by decide)) ((W.ET i).mono (by decide)),Yd ⟨Y,Y,Z1 Y (Wb (fun d=>?_) (fun d=>?_))⟩⟩)⟩))⟩⟩))⟩));·exact Z1 Y ⟨s3,Yd ⟨(i:Int),Y,.inr ⟨i,Y,hz.take c (ZD d)⟩⟩⟩
     ·exact⟨s3,Yd ⟨(j:Int),Y,.inr ⟨j,Y,hz.keep fun q=>d (ZP q)⟩⟩⟩
  ·rintro σ H1 ⟨s1,c3,c4,z,rfl,hz⟩;rw[Z3,W.yl]at hz;refine Z1 Y ?_;rcases hz with⟨rfl,hz⟩|⟨j,rfl,hz⟩
   ·obtain⟨e,he,hn⟩:=W.neg;exact absurd hn (hz e he)
   ·exact k H1 j s1 hz
structure rP(xs ys zs:List Int)(wx wy w:Int)(k m b:Nat):Prop where
 emp:D7 xs ys k m
 len:zs.length=m
 pos:0<w
 ld:∀e,e<m->RR.ld zs w e=(RR.ld xs wx e*(-RR.ld ys wy k)+RR.ld xs wx k*RR.ld ys wy e)/(RR.ld xs wx k-RR.ld ys wy k)
 bz:∀e,Bd b (zs.getD e 0)
 bw:Bd b w
def vz(t:Yl):Sp:=fun vs H Q _=>∃a b xs ys wx wy m bx,vs=[.ref a,.ref b]/\gR t H a b xs ys wx wy m/\0<wx/\0<wy/\(∀e,0<=xs.getD e 0)/\(∀e,Bd bx (xs.getD e 0))/\Bd bx wx/\Bd 30000 wy/\bx<=1000000/\
 ∀H' c zs w k,ZX H H'->WQ t H' c zs w->rP xs ys zs wx wy w k m (bx+30002)->Q (.ref c) H'
theorem yx:ZL ["load","target","number","held","wanted","amounts","here","there"] ["load","target"] (ZZ (top 31)):=YR
theorem yw(T:Txt K mg t):Y6 P w K mg base XB 36 t.Ct t.Cs ["load","target"] (vz t):=by
 have sc:=yx;refine T.moved.F.ok sc (fun vs H Q E h=>?_) (fun Yp A outer s H vs Q E hr h=>?_)
 ·obtain⟨a,b,xs,ys,wx,wy,m,bx,rfl,_⟩:=h;rfl
 ·obtain⟨a,b,xs,ys,wx,wy,m,bx,rfl,W,rO,gQ,xn,vy,mS,gP,bl,k⟩:=h;refine⟨_,(Z5 (ZS (i:=2) sc.nd Y Y4 (cl T.P_ (NQ T) hr (Z6 (Z 0) (Z6 (Z 1) Z2))))
   (Z5 (ZS (i:=3) sc.nd Y (Or.inr Y) (ZI ZM (ZY (Z 0) rfl) (Z 2) (fun _ _=>rfl)))
   (Z5 (ZS (i:=4) sc.nd Y (Or.inr Y) (ZI ZM (ZY (Z 1) rfl) (Z 2) (fun _ _=>rfl)))
   (Z5 (Va (i:=5) rfl sc.nd Y rfl (T8 Y rfl rfl rfl) (PX Y T.KU (Z6 (ZY (Z 0) rfl) (Z6 (ZY (Z 1) rfl) Z2))) (Yt (own:=[("here",6),("there",7)]) (show T_ ["load","target","number","held","wanted","amounts","here","there"] (ZZ (top 31)) _ _=true by decide+kernel)) (fun _ _ _ _ _=>by exact(Py (K:=K) (i:=6) (j:=7) rfl rfl sc.nd Y rfl Y4 Y4)) (fun _ _ _ _ _=>by exact XE) (fun _ _ _ _ _=>by exact(Zc PY (Zc YQ (Z 7) (Z 3)) (Zc YQ (Z 6) (Z 4)))))
   (Z0 (ZN (mk T.Load (OA T) hr (Z6 (Z 5) (Z6 (Zc PY (Zc YQ (Z 3) (ZY (Z 1) rfl)) (Zc YQ (Z 4) (ZY (Z 0) rfl))) Z2))))))))),?_⟩
  refine Y' Y rfl (Ua a b xs ys wx (Xr wy m ⟨Y,W,fun H1 j s1 E1=>?_⟩));obtain⟨la,⟨Tu,ea⟩,ia⟩:=W.la;obtain⟨lb,⟨vI,eb⟩,ib⟩:=W.lb;have G8:=s1 _ _ ea;have qE:=s1 _ _ eb;have jP:=s1 _ _ ia;have jO:=s1 _ _ ib;have jl:=E1.lt;have big:bx<=G9:=by show bx<=33554432;omega
  refine YJ Y G8 T.Load.cl T.YX Y (Z1 Y (ZJ Y rfl (Zw.of jP) (Wh (by rw[W.xl];exact jl)) (YJ Y qE T.Load.cl T.YX Y (Z1 Y (ZJ Y rfl (Zw.of jO) (Wh (by rw[W.yl];exact jl)) ?_)))));refine YJ Y G8 T.Load.cl T.YX Y (YJ Y qE T.Load.cl T.YX Y (V7 ⟨Y,Zw.of jP,Zw.of jO,fun D hD=>?_⟩));refine DQ (K:=K) (xs:=xs.map V.int) (ys:=ys.map V.int) (by rw[Z3,Z3,W.xl,W.yl]) (fun i H2=>ZX H1 H2/\IL H2 D ((List.range i).map fun e=>ys.getD e 0*xs.getD j 0-xs.getD e 0*ys.getD j 0)) ⟨ZX.new hD _,Z4⟩ (fun i H2 _ q=>⟨Zw.of (q.1 _ _ jP),Zw.of (q.1 _ _ jO)⟩) ?_ ?_
  ·rintro i x y H2 H3 hx hy ⟨s2,d2⟩ s3;obtain⟨hi,rfl⟩:=int_at hx;obtain⟨hi2,rfl⟩:=int_at hy;have m9:=W.m9;rw[W.xl]at hi;refine⟨Y,Y' Y rfl (ZQ Y rfl ⟨XF ((W.ET i).mono (by decide)) ((vy j).mono big),Y' Y rfl (ZQ Y rfl ⟨XF ((vy i).mono big) ((W.ET j).mono (by decide)),ZQ Y rfl ⟨_,s3 _ _ d2,by rw[Z3,Z3,Y_];exact Zl (show i<9 by omega) (by decide),(s2.trans s3).Zu hD _,?_⟩⟩)⟩)⟩;show upd _ _ _ _=_;rw[Z4,UI _ _ _ rfl]
  ·rintro H2 ⟨s2,d2⟩;rw[Z3,W.xl]at d2;have mR:=s2 _ _ G8;have cV:=s2 _ _ qE;have m9:=W.m9;refine Y' Y rfl (YJ Y cV T.Load.cl T.WR Y (ZQ Y rfl ⟨XF ((vy j).mono big) (gP.mono (by decide)),Y' Y rfl (S7 mR T.Load.cl T.WR Y (ZQ Y rfl ⟨XF ((W.ET j).mono (by decide)) (mS.mono big),ZQ Y rfl ?_⟩))⟩));intro x dx nx vA ne;have s6:ZX H2 (upd (upd H2 dx (.own x)) x (.ins t.Q5 dx [])):=(ZX.new vA _).trans (ZX.new (by rw[ZV (fun q=>ne q.symm)];exact nx) _);generalize gO:((List.range m).map fun e=>ys.getD e 0*xs.getD j 0-xs.getD e 0*ys.getD j 0)=zs at*;have zl:zs.length=m:=by rw[<-gO];simp
   have zv:∀e,e<m->zs.getD e 0=ys.getD e 0*xs.getD j 0-xs.getD e 0*ys.getD j 0:=fun e he=>by rw[<-gO,YL he]
   have F_:=(F' (zs:=zs) rO gQ (xn j) E1.neg (e:=j) (zv j jl)).1;refine Ua x dx D zs _ ⟨Y,Z4,s6 _ _ d2,by omega,F_,fun H3 hL kp=>⟨Y,?_⟩⟩;have s7:ZX H2 H3:=ZX.made nx vA kp;generalize hw:xs.getD j 0*wy-ys.getD j 0*wx=w at*;obtain⟨g0,g1,g2⟩:=Mi zs w F_;have cU:∀e,Bd (bx+30002) (zs.getD e 0):=fun e=>by
    by_cases he:e<m
    ·rw[zv e he];have J:=(W.ET e).mul (vy j);have h2:=(vy e).mul (W.ET j);exact((J.mono (by omega:30000+bx<=bx+30001)).sub (h2.mono (by omega))).mono (by omega)
    ·rw[ZW,YH (by omega)];exact Bd.zero _
   have cT:Bd (bx+30002) w:=by
    rw[<-hw];have J:=(vy j).mul gP;have h2:=(W.ET j).mul mS;exact((J.mono (by omega:bx+30000<=bx+30001)).sub (h2.mono (by omega))).mono (by omega)
   refine k H3 x _ _ j (s1.trans (s2.trans s7)) hL ⟨E1,by rw[Z3,zl],Ny F_ g0 g1,fun e he=>?_,fun e=>?_,cT.div⟩
   ·rw[zq g0 F_ g1 g2];have:=(F' (zs:=zs) rO gQ (xn j) E1.neg (zv e he)).2;rw[hw]at this;exact this
   ·rw[N7 (fun y=>y/OY w zs) (by simp)];exact(cU e).div
structure VE(P:Y2)(ys:List Int)(w:Int)(h:Nat->Rat):Prop where
 len:ys.length=P.links.length
 pos:0<w
 good:P.XS.Good (ld ys w) h
 ET:∀e,Bd 30000 (ys.getD e 0)
 bw:Bd 30000 w
theorem VE.nn{P:Y2}{ys:List Int}{w:Int}{h:Nat->Rat}(G:VE P ys w h)(e:Nat):0<=ys.getD e 0:=by
 by_cases he:e<P.links.length;·exact(Js G.pos e).mp (G.good.Vo.nn e he)
 ·rw[ZW,YH (by rw[G.len];omega)];exact UT _
def A8(t:Yl):Sp:=fun vs H Q _=>∃a b c P xs wx h0 U p,vs=[.ref a,.ref b,.ref c]/\SN t H a P/\WQ t H b xs wx/\NL H c U/\P.Ok/\P.Sz/\VE P xs wx h0/\(∀e,e∈U->e<P.links.length)/\U.Nodup/\P.XS.O5 U/\P.XS.Yk U P.t/\(∀y h',P.XS.U9 U y h'->Ki P.XS p (ld xs wx) U (ld xs wx) y h')/\
 ∀H' d ys w h,ZX H H'->WQ t H' d ys w->VE P ys w h->P.XS.Po (ld ys w)<P.XS.Po (ld xs wx)->Q (.ref d) H'
theorem DG:ZL ["net","load","used","target"] ["net","load","used"] (ZZ (top 32)):=YR
theorem DF(T:Txt K mg t):Y6 P w K mg base XB 37 t.Jg t.Jf ["net","load","used"] (A8 t):=by
 have sc:=DG;refine T.settled.F.ok sc (fun vs H Q E h=>?_) (fun Yp A outer s H vs Q E hr h=>?_)
 ·obtain⟨a,b,c,P,xs,wx,h0,U,p,rfl,_⟩:=h;rfl
 ·obtain⟨a,b,c,P,xs,wx,h0,U,p,rfl,hN,hX,hU,ok,Z',GX,lt,nd,Kj,Rm,st,k⟩:=h;have m9:=Z'.m9;have nk:=ok.XS;refine⟨_,(Z5 (ZS (i:=3) sc.nd Y Y4 (cl T.balanced (QX T) hr (Z6 (Z 0) (Z6 (Z 2) Z2))))
   (Z5 (Vb Zi (ZG JS (YN (tq Y) (by rfl) T.oQ boot_min (Z6 (ZY (Z 3) rfl) Z2)) ZR (Zr _)) (Z5 (ZS (i:=1) sc.nd Y Y4 (cl T.moved (yw T) hr (Z6 (Z 1) (Z6 (Z 3) Z2))))
   (Z0 (ZS (i:=3) sc.nd Y Y4 (cl T.balanced (QX T) hr (Z6 (Z 0) (Z6 (jZ T.Load.cl T.OF (QY T) hr (Z 1)) Z2)))))))
   (Z0 (ZN (Z 3))))),?_⟩
  refine Y' Y rfl ⟨a,c,P,U,Y,hN,hU,ok,Z',lt,nd,Kj,Rm,fun H1 d ys wy hy s1 hY B=>?_⟩;let Wv:Nat->List (Option V)->Hp->Prop:=fun m σ H'=>ZX H H'/\∃cl ct xC uh Pu xB U' h',σ=[some (.ref a),some (.ref cl),some (.ref c),some (.ref ct)]/\WQ t H' cl xC uh/\WQ t H' ct Pu xB/\Cf P U' Pu xB h'/\Ki P.XS p (ld xs wx) U' (ld xC uh) (ld Pu xB) h'/\xC.length=P.links.length/\0<uh/\(∀e,Bd (30002*(10-U'.length)) (xC.getD e 0))/\Bd (30002*(10-U'.length)) uh/\P.XS.Yk U' P.t/\m=U'.length
  have l9:U.length<=9:=ZA (W3 _ U nd lt) m9;refine⟨Wv,⟨_,s1,b,d,xs,wx,ys,wy,U,hy,Y,hX.up s1,hY,B,st _ _ B.Ro,GX.len,GX.pos,fun e=>(GX.ET e).mono (by omega),GX.bw.mono (by omega),Rm,Y⟩,?_⟩;rintro m σ H2 ⟨s2,cl,ct,xC,uh,Pu,xB,U',h',rfl,cS,mQ,B',S',xl,rO,vy,mS,rN,rfl⟩;obtain⟨lt',⟨gN,et⟩,it⟩:=mQ;have yl:=B'.len;have jN:0<P.links.length:=by
   obtain⟨e,he,_⟩:=rN;have:=S'.lt e he;have this:e<P.links.length:=this;omega
  refine YJ Y et T.Load.cl T.YX Y (ZQ Y (Zw.of it) ⟨by rw[yl];exact jN,fun mn cR hle=>?_⟩);refine ZQ Y rfl (Z1 Y (Wb (fun cc=>?_) (fun cc=>?_)))
  ·have cc:mn<0:=ZD cc;have neg:∃e,e<P.links.length/\Pu.getD e 0<0:=by
    obtain⟨e,he,q⟩:=XY.mp cR;refine⟨e,by rw[<-yl];exact he,?_⟩;rw[ZW,ZT he];show Pu[e]<0;rw[q];exact cc
   have xn:∀e,0<=xC.getD e 0:=fun e=>by
    by_cases he:e<P.links.length;·exact(Js rO e).mp (S'.Vo.nn e he)
    ·rw[ZW,YH (by omega)];exact UT _
   have gM:30002*(10-U'.length)<=1000000:=by omega
   refine⟨fun XC HR=>∃m',m'<U'.length/\Wv m' XC HR,fun _ _ h=>h,?_⟩;refine Y' Y rfl ⟨cl,ct,xC,Pu,uh,xB,P.links.length,Z1 Y ⟨⟨cS,⟨lt',⟨gN,et⟩,it⟩,xl,yl,m9,neg,fun e=>(vy e).mono gM,B'.ET⟩,rO,B'.pos,xn,vy,mS,B'.bw,gM,fun H3 cz zs wz j s3 hZ M=>?_⟩⟩;have kl:=M.emp.lt;have mv:=Net.moved nk S'.Vo S'.Ro S'.off S'.zz (show j<P.XS.m from kl) ((Lx B'.pos j).mpr M.emp.neg) (fun e he hn=>?_) (x':=ld zs wz) (fun e he=>M.ld e he)
   ·obtain⟨J,h2,h3,h4,h5,h6⟩:=mv;have cQ:∀e,e∈Tt zs↔e<P.XS.m/\ld zs wz e≠0:=fun e=>by
     rw[Uc,M.len];constructor
     ·rintro⟨q1,q2⟩;exact⟨q1,fun q=>by rw[(T4 M.pos e).mp q]at q2;omega⟩
     ·rintro⟨q1,q2⟩;have n1:=(Js M.pos e).mp (h2.nn e q1);have n2:zs.getD e 0≠0:=fun q=>q2 ((T4 M.pos e).mpr q);exact⟨q1,by omega⟩
    have cP:∀e,e<P.XS.m->ld Pu xB e<0->ld xC uh j*(-ld Pu xB e)<=ld xC uh e*(-ld Pu xB j):=fun e he hn=>ui rO B'.pos (M.emp.mn e he ((Lx B'.pos e).mp hn));obtain⟨m1,m2,m3,m4,m5,m6⟩:=S'.move nk (show j<P.XS.m from kl) ((Lx B'.pos j).mpr M.emp.neg) cP (x':=ld zs wz) (fun e he=>M.ld e he) cQ (Sf zs);obtain⟨lz,⟨gL,ez⟩,iz⟩:=hZ;have mP:=s2.trans s3;refine Y' Y rfl ⟨cz,ZQ Y ez ⟨Y,cz,zs,wz,Y,⟨lz,⟨gL,ez⟩,iz⟩,by rw[M.len];omega,fun H4 cO gK s4 hC=>?_⟩⟩;have rM:=mP.trans s4;refine⟨a,cO,P,Tt zs,Y,hN.up rM,hC,ok,Z',fun e he=>by have:=(Uc.mp he).1;rw[M.len]at this;exact this,Sf zs,m3,m4,fun H5 dt cN cM cK s5 cJ B2=>?_⟩;have gJ:30002*(10-U'.length)+30002<=30002*(10-(Tt zs).length):=by
     have:U'.length<=9:=ZA (W3 _ U' S'.nd S'.lt) m9;have m5:(Tt zs).length<U'.length:=m5;omega
    exact⟨(Tt zs).length,m5,rM.trans s5,cz,dt,zs,wz,cN,cM,Tt zs,cK,Y,WQ.up ⟨lz,⟨gL,ez⟩,iz⟩ (s4.trans s5),cJ,B2,m6 _ _ B2.Ro,M.len,M.pos,fun e=>(M.bz e).mono gJ,M.bw.mono gJ,m4,Y⟩
   ·exact ui rO B'.pos (M.emp.mn e he ((Lx B'.pos e).mp hn))
  ·have cc:¬mn<0:=fun q=>cc (ZP q);have nn:∀e,e<P.XS.m->0<=ld Pu xB e:=fun e he=>by
    refine(Js B'.pos e).mpr ?_;have he:e<Pu.length:=by rw[yl];exact he
    have:=hle (Pu.getD e 0) (by rw[ZW,ZT he];exact WO he);omega
   obtain⟨G,ph⟩:=S'.done nk nn;exact Z1 Y (k H2 ct Pu xB h' s2 ⟨lt',⟨gN,et⟩,it⟩ ⟨B'.len,B'.pos,G,B'.ET,B'.bw⟩ ph)
end
theorem DE{X:Cx}:NI X (.type "dict") (fun xs H Q=>∃a Zp,xs=[.ref a]/\H a=some (.dK Zp)/\∀p,H p=none->Q (.ref p) (upd H p (.dK Zp))):=by
 intro pins s σ H xs us Q I r h;obtain⟨a,Zp,rfl,hd,q⟩:=h;rw[Vals.wW r];exact Aa I (Rd.of hd) fun p s' hp I'=>⟨.ref p,_,I',Y,q p hp⟩
def Off(d:Addr)(H H':Hp):Prop:=∀b o,H b=some o->b≠d->H' b=some o
theorem Off.refl(d:Addr)(H:Hp):Off d H H:=fun _ _ e _=>e
theorem Off.trans{d:Addr}{H H1 H2:Hp}(a:Off d H H1)(b:Off d H1 H2):Off d H H2:=fun c o e n=>b c o (a c o e n) n
theorem Off.same{d:Addr}{H H1:Hp}(s:ZX H H1):Off d H H1:=fun c o e _=>s c o e
theorem Off.upd{d:Addr}{H H1:Hp}(s:Off d H H1)(o:HO):Off d H (upd H1 d o):=fun c u e n=>by rw[ZV n];exact s c u e n
theorem Off.none{d:Addr}{H H1:Hp}(s:Off d H H1)(h:H d=none):ZX H H1:=fun c o e=>s c o e (Zx e h)
theorem Off.at{d:Addr}{H H1:Hp}(s:Off d H H1){b:Addr}{o:HO}{Zp:List (Key×V)}(hd:H d=some (.dK Zp))(h:H b=some o)(n:∀Zp,o≠.dK Zp):H1 b=some o:=s b o h fun q=>by rw[q,hd]at h;exact n _ (Y8 h).symm
theorem DI.lt{H:Hp}{a:Addr}{n:Nat}{f:Nat->Option V}(h:DI H a n f){v:Nat}{x:V}(e:f v=some x):v<n:=by
 obtain⟨Zp,J,h2,h3,h4⟩:=h;rw[<-h4]at e;obtain⟨u,hu,q⟩:=h3 _ (wD e);injection q with q
 omega
theorem DI.mk'{H H':Hp}{a b:Addr}{n:Nat}{f:Nat->Option V}(h:DI H a n f):∃Zp,H a=some (.dK Zp)/\∀H2 b,H2 b=some (.dK Zp)->DI H2 b n f:=by
 obtain⟨Zp,J,h2,h3,h4⟩:=h;exact⟨Zp,J,fun H2 b e=>⟨Zp,e,h2,h3,h4⟩⟩
theorem Se{Ze:Nat->Option Int}{v:Nat}{z:Int}(h:Ze v=some z):iv Ze v=some (.int z):=by unfold iv;rw[h];rfl
section
variable{P:Program}{w:World}{K:W.Frag}{mg:Str->Option Value}{base:Heap}{t:Yl}
def rL(t:Yl):Sp:=fun vs H Q _=>∃a b P ys w h,vs=[.ref a,.ref b]/\SN t H a P/\WQ t H b ys w/\P.Ok/\P.Sz/\VE P ys w h/\∀H' c hg,ZX H H'->DI H' c P.n (iv hg)->m7 P (ld ys w) h w hg->Q (.ref c) H'
theorem Pt:ZL ["net","load","heights","step","number","link"] ["net","load"] (ZZ (top 33)):=YR
theorem Pr(T:Txt K mg t):Y6 P w K mg base XB 34 t.TY t.TX ["net","load"] (rL t):=by
 have sc:=Pt;refine T.RO.F.ok sc (fun vs H Q E h=>?_) (fun Yp A outer s H vs Q E hr h=>?_)
 ·obtain⟨a,b,P,ys,w,h,rfl,_⟩:=h;rfl
 ·have hu:=Qr hr;obtain⟨a,b,P,ys,w,h,rfl,⟨la,ks,hN⟩,⟨ly,⟨vI,eb⟩,iy⟩,ok,Z',G,k⟩:=h;obtain⟨Tu,ea⟩:=hN.obj;have n6:=Z'.n6;have m9:=Z'.m9;refine⟨_,(Z5 (ZS (i:=2) sc.nd Y Y4 (CW (GA (ZY (Z 0) rfl) ZR CY) rfl rfl (by simp) (by decide)))
   (Z5 (Yu Zi Y (V2 Y T.TK (Z6 (ZY (Z 0) rfl) Z2)) (Zz (i:=3) sc.nd Y Y4) (Z0 (Yu Zi Y (Yq (jZ T.Load.cl T.OF (QY T) hr (Z 1))) (Zz (i:=4) sc.nd Y Y4) (Z5 (ZS (i:=5) sc.nd Y Y4 (ZI ZM (ZY (Z 0) rfl) (Z 4) (fun _ _=>rfl)))
   (Z0 (YT (PW.pt (P7 (U3 (Er hu (ZY (Z 5) rfl) (Z 2))) (QP (U3 (V1 hu (ZY (Z 5) rfl) (Z 2)))))) (Z0 (O9 hu (Z 2) (ZY (Z 5) rfl) (Zc SF (Zc SF (Wq hu (Z 2) (ZY (Z 5) rfl) (fun _ _=>rfl)) (Zc YQ (ZY (Z 5) rfl) (ZY (Z 1) rfl))) (Zc YQ (ZY (Z 5) rfl) (ZI ZM (ZY (Z 1) rfl) (Z 4) (fun _ _=>rfl)))) rfl)) Zs))))))
   (Z0 (ZN (Z 2))))),?_⟩
  refine fun d hd=>YJ Y (KS ea hd) T.Net.cl T.UN Y ⟨Z4,[(Sum.inl (P.s:Int),.int 0)],Y,(by decide:1<=15),?_⟩;have s0:ZX H (upd (upd H d (.dK [])) d (.dK (Rr [] [(Sum.inl (P.s:Int),.int 0)]))):=(ZX.new hd _).Zu hd _;have D0:DI (upd (upd H d (.dK [])) d (.dK (Rr [] [(Sum.inl (P.s:Int),.int 0)]))) d P.n (iv fun v=>if v=P.s then some 0 else none):=by
   refine⟨[(Sum.inl (P.s:Int),.int 0)],by rw[Z4];rfl,by simp,fun kk hk=>?_,fun v=>?_⟩
   ·have hk:kk∈[(Sum.inl (P.s:Int):Key)]:=hk;rw[Zm]at hk;exact⟨P.s,ok.s,hk⟩
   ·show _=Option.map _ (if v=P.s then some 0 else none);by_cases q:v=P.s;·rw[Z7 q,W7 (by rw[q])];rfl
    ·rw[Z8 q,W6 (fun z=>q (by injection z with z;omega))];rfl
  refine YJ Y (s0 _ _ ea) T.Net.cl T.Wn Y ⟨(P.n:Int),Y,by omega,by omega,?_⟩;refine Ui (n:=P.n) (fun r σ H'=>(∃c3 c4 c5,σ=[some (.ref a),some (.ref b),some (.ref d),c3,c4,c5])/\ZX H H'/\∃hg,DI H' d P.n (iv hg)/\Carry P (ld ys w) h w hg r []) ⟨XR none none none Y,s0,_,D0,Carry.start G.good⟩ ?_ ?_
  ·rintro r σ H1 qG ⟨⟨c3,c4,c5,rfl⟩,s1,hg,jM,C1⟩;have qE:=s1 _ _ eb;refine Z1 Y (XR b _ _ ⟨Y,qE,Y,XR b ys w ⟨Y,⟨ly,⟨vI,qE⟩,s1 _ _ iy⟩,by rw[G.len];omega,fun H2 cc gK s2 hC=>?_⟩⟩);have gI:=jM.up s2;obtain⟨jL,cI⟩:=gI.mW;refine⟨cc,Y,⟨_,Zw.of hC⟩,?_⟩;refine Xo (K:=K) (a:=cc) (xs:=(Tt ys).map fun(k:Nat)=>V.int (k:Int)) (fun i σ H'=>(∃c3 c4 c5,σ=[some (.ref a),some (.ref b),some (.ref d),c3,c4,c5])/\Off d H2 H'/\∃hg,DI H' d P.n (iv hg)/\Carry P (ld ys w) h w hg r ((Tt ys).take i)) ⟨Xh Y,Off.refl _ _,hg,gI,C1⟩ (fun i σ H' _ q=>Zw.of (q.2.1.at cI hC fun kv z=>by cases z)) ?_ ?_
   ·rintro i x σ H3 hx ⟨⟨c3,c4,c5,rfl⟩,o3,rK,ug,C3⟩;obtain⟨e,he,rfl⟩:=Ud hx;obtain⟨hl,hp⟩:=Uc.mp (Y3 he);have WY:e<P.links.length:=by rw[<-G.len];exact hl
    have s3:ZX H H3:=(Off.trans (Off.same (s1.trans s2)) o3).none hd;obtain⟨kk,dk,hk,ek⟩:=(hN.up s3).link WY;have uf:=s3 _ _ ea;have gH:=s3 _ _ eb;have tk:(Tt ys).take (i+1)=(Tt ys).take i++[e]:=by rw[Xc,he];rfl
    refine YJ Y uf T.Net.cl T.XM Y (Z1 Y (ZJ Y rfl (Zw.of (hN.up s3).lst) (Yz hk) ?_));refine YJ Y ek T.XQ.cl T.YK Y (Z1 Y (Xr d _ ⟨Y,ug.get _,Z1 Y ?_⟩));rw[Vl];cases q1:rK (P.lk e).tail with
    |none=>
     refine YA (YA ⟨Xh Y,o3,rK,ug,?_⟩);rw[tk];exact C3.keep (.inl q1)
    |some z=>
     refine YW (YJ Y ek T.XQ.cl T.YY Y (Z1 Y (Xr d _ ⟨Y,ug.get _,Z1 Y ?_⟩)));rw[Vl];cases q2:rK (P.lk e).head with
     |some y=>
      refine YA ⟨Xh Y,o3,rK,ug,?_⟩;rw[tk];exact C3.keep (.inr ⟨y,q2⟩)
     |none=>
      obtain⟨o,yB,⟨kv,rfl⟩,oH⟩:=ug.put (by omega) (ok.lh e WY) (.int (z+(P.lk e).cost*w+(P.lk e).slope*ys.getD e 0));refine YW (Y' Y rfl (S7 ek T.XQ.cl T.YK Y (Xr d _ ⟨Y,ug.FF (Se q1),YJ Y ek T.XQ.cl T.Wu Y (YJ Y gH T.Load.cl T.WR Y (ZQ Y rfl ⟨XF ((Z'.c e WY).mono (by decide)) (G.bw.mono (by decide)),ZQ Y rfl (YJ Y ek T.XQ.cl T.VG Y (YJ Y gH T.Load.cl T.YX Y (Z1 Y (ZJ Y rfl (Zw.of (s3 _ _ iy)) (Wh hl) (ZQ Y rfl ⟨XF ((Z'.b e WY).mono (by decide)) ((G.ET e).mono (by decide)),ZQ Y rfl (Y' Y rfl (S7 ek T.XQ.cl T.YY Y (Xr d _ ⟨Y,yB,Xh Y,o3.upd _,Qu rK (P.lk e).head (z+(P.lk e).cost*w+(P.lk e).slope*ys.getD e 0),?_,?_⟩)))⟩)))))⟩))⟩)))
      ·rw[<-yE];exact oH _ Z4
      ·rw[tk];exact C3.put ok G.pos G.good WY (by omega) q1 q2
   ·rintro σ H3 ⟨⟨c3,c4,c5,rfl⟩,o3,rK,ug,C3⟩;rw[Z3,XX]at C3;refine⟨Xh Y,(Off.trans (Off.same (s1.trans s2)) o3).none hd,rK,ug,C3.next fun e he hx=>?_⟩;have n1:=G.nn e;have n2:ys.getD e 0≠0:=fun q=>hx ((T4 G.pos e).mpr q);exact Uc.mpr ⟨by rw[G.len];exact he,by omega⟩
  ·rintro σ H1 ⟨⟨c3,c4,c5,rfl⟩,s1,hg,jM,C1⟩;exact Z1 Y (k H1 d hg s1 jM (C1.done ok G.good))
def yu(t:Yl):Sp:=fun vs H Q _=>∃a c d P w hg,vs=[.ref a,.int w,.ref c,.ref d]/\SN t H a P/\DI H c P.n (iv hg)/\H d=some (.dK [])/\c≠d/\P.Ok/\P.Sz/\0<w/\Bd 30000 w/\
 ∀H' l Ze arr X7 T,Off d H H'->DI H' l P.n (iv Ze)->DI H' d P.n (nv arr)->Ga P w hg Ze arr X7 T->D8 P w hg Ze P.links.length->T<=1000->Q (.ref l) H'
theorem Ox:ZL ["net","whole","heights","arrivals","labels","changed","number","link","reach"] ["net","whole","heights","arrivals"] (ZZ (top 34)):=YR
theorem Ow(T:Txt K mg t):Y6 P w K mg base XB 33 t.S1 t.SY ["net","whole","heights","arrivals"] (yu t):=by
 have sc:=Ox;refine T.Q3.F.ok sc (fun vs H Q E h=>?_) (fun Yp A outer s H vs Q E hr h=>?_)
 ·obtain⟨a,c,d,P,w,hg,rfl,_⟩:=h;rfl
 ·have hu:=Qr hr;obtain⟨a,c,d,P,w,hg,rfl,⟨la,ks,hN⟩,hD,ed,mO,ok,Z',w0,bw,k⟩:=h;obtain⟨Tu,ea⟩:=hN.obj;have n6:=Z'.n6;have m9:=Z'.m9;obtain⟨C,_,hC⟩:=D5 P.n hg;have Z9:RR.Tb P w C hg:=⟨w0,fun v z hz=>hD.lt (Se hz),fun v z hz=>hC v (hD.lt (Se hz)) z hz⟩;obtain⟨kv,ec,oS⟩:=hD.mk' (H':=H) (b:=c);refine⟨_,(Z5 (ZS (i:=4) sc.nd Y Y4 (Vs DE (by rfl) T.nodict boot_dict (Z6 (Z 2) Z2)))
   (Z5 (ZS (i:=5) sc.nd Y Y4 JU)
   (Z5 (Vb Zi (TF (Z 5)) (Z5 (ZS (i:=5) sc.nd Y Y4 JU)
   (Z0 (Yu Zi Y (V8 Y T.UY (Z6 (ZY (Z 0) rfl) Z2)) (VQ Y (YU (Zz (i:=6) sc.nd Y Y4) (YU (Zz (i:=7) sc.nd Y Y4) WH))) (Z5 (YT (PW.pt (UX (U3 (V1 hu (ZY (Z 7) rfl) (Z 4))) (Vt (U3 (Er hu (ZY (Z 7) rfl) (Z 2)))))) (Z0 V3) Zs)
   (Z5 (ZS (i:=8) sc.nd Y Y4 (Zc SF (Wq hu (Z 4) (ZY (Z 7) rfl) (fun _ _=>rfl)) (Zc YQ (ZY (Z 7) rfl) (Z 1))))
   (Z0 (YT (PW.pt (UX (U3 (V1 hu (ZY (Z 7) rfl) (Z 4))) (Vt (ZG JS (Z 8) (Wq hu (Z 4) (ZY (Z 7) rfl) (fun _ _=>rfl)) (Zr _))))) (Z5 (O9 hu (Z 4) (ZY (Z 7) rfl) (Z 8) rfl)
   (Z5 (O9 hu (Z 3) (ZY (Z 7) rfl) (Z 6) rfl)
   (Z0 (ZS (i:=5) sc.nd Y Y4 JU)))) Zs))))))))
   (Z0 (ZN (Z 4)))))),?_⟩
  refine Z1 Y ⟨c,kv,Y,ec,fun l hl=>?_⟩;have nlc:c≠l:=Zx ec hl;have jK:d≠l:=Zx ed hl;let Z_:Nat->Nat->Bool->Hp->Prop:=fun r i chg H'=>Off d H H'/\∃Ze arr X7 T,DI H' l P.n (iv Ze)/\DI H' d P.n (nv arr)/\Ga P w hg Ze arr X7 T/\BF (P.YC w C hg) (P.YC w C hg).c (VL P.n C Ze) r i/\T<=9*r+i/\(chg=false->D8 P w hg Ze i)/\(chg=true->r<=P.n)
  have jJ:∀{H'},Off d H H'->DI H' c P.n (iv hg):=fun{H'} o=>oS H' c (o c _ ec mO);have vx:∀{H'},Off d H H'->DK t H' a la ks P:=fun{H'} o=>⟨⟨Tu,o.at ed ea fun kv z=>by cases z⟩,o.at ed hN.lst fun kv z=>(by cases z),hN.len,fun i kk hk=>by
   obtain⟨dk,ek⟩:=hN.at_ i kk hk;exact⟨dk,o.at ed ek fun kv z=>by cases z⟩⟩
  have o0:Off d H (upd H l (.dK kv)):=Off.same (ZX.new hl _);refine⟨fun m σ H'=>(∃chg c6 c7 c8 r,σ=[some (.ref a),some (.int w),some (.ref c),some (.ref d),some (.ref l),some (.bl chg),c6,c7,c8]/\m=(if chg=true then P.n+2-r else 0)/\(chg=true->r<=P.n+1)/\r<=8/\Off d H H'/\∃Ze arr X7 T,DI H' l P.n (iv Ze)/\DI H' d P.n (nv arr)/\Ga P w hg Ze arr X7 T/\BF (P.YC w C hg) (P.YC w C hg).c (VL P.n C Ze) r 0/\T<=9*r/\(chg=false->D8 P w hg Ze P.links.length)),⟨_,true,none,none,none,0,Y,Y,fun _=>Zt _,Zt _,o0,hg,fun _=>none,fun _=>0,0,oS _ _ Z4,DI.new _ (by rw[ZV jK];exact ed),Ga.start,sy Z9,Zt _,fun z=>by cases z⟩,?_⟩;rintro m σ H1 ⟨chg,c6,c7,c8,r,rfl,rfl,KL,r8,o1,Ze,arr,X7,TT,DL,DA,S,B,hT,hc⟩;cases chg with
  |false=>
   exact Z1 Y ⟨false,Y,YA (Z1 Y (k H1 l Ze arr X7 TT o1 DL DA S (hc Y) (by omega)))⟩
  |true=>
   refine Z1 Y ⟨true,Y,YW ?_⟩;refine⟨fun XC HR=>∃m',m'<(if true=true then P.n+2-r else 0)/\(∃chg c6 c7 c8 r,XC=[some (.ref a),some (.int w),some (.ref c),some (.ref d),some (.ref l),some (.bl chg),c6,c7,c8]/\m'=(if chg=true then P.n+2-r else 0)/\(chg=true->r<=P.n+1)/\r<=8/\Off d H HR/\∃Ze arr X7 T,DI HR l P.n (iv Ze)/\DI HR d P.n (nv arr)/\Ga P w hg Ze arr X7 T/\BF (P.YC w C hg) (P.YC w C hg).c (VL P.n C Ze) r 0/\T<=9*r/\(chg=false->D8 P w hg Ze P.links.length)),fun _ _ h=>h,?_⟩;have cH:=KL rfl;have N1:=vx o1;obtain⟨gU,G8⟩:=N1.obj;refine YJ Y G8 T.Net.cl T.XM Y (ZQ Y (Zw.of N1.lst) ?_);refine U5 (K:=K) (xs:=ks.map V.ref) (fun i σ H'=>(∃chg c6 c7 c8,σ=[some (.ref a),some (.int w),some (.ref c),some (.ref d),some (.ref l),some (.bl chg),c6,c7,c8]/\Z_ r i chg H')) ⟨false,Xh ⟨Y,o1,Ze,arr,X7,TT,DL,DA,S,B,by omega,fun _=>fun e he=>by omega,fun z=>by cases z⟩⟩ (fun i σ H' _ q=>by
    obtain⟨_,_,_,_,_,o,_⟩:=q;exact Zw.of (vx o).lst) ?_ ?_
   ·rintro i x σ H2 H3 hx ⟨chg,c6,c7,c8,rfl,o2,Ze,arr,X7,TT,DL,DA,S,B,hT,hc,hn⟩ s3;obtain⟨kk,vD,rfl⟩:=Yb hx;have hi:i<P.links.length:=by rw[<-hN.len];exact(Zy.mp vD).1
    have o3:Off d H H3:=o2.trans (Off.same s3);have DL:=DL.up s3;have DA:=DA.up s3;obtain⟨dk,ek⟩:=(vx o3).at_ i kk vD;have DH:=jJ o3;refine YJ Y ek T.XQ.cl T.YK Y (Z1 Y ⟨l,Z1 Y ⟨DL.get _,Z1 Y ?_⟩⟩);rw[Vl];cases q1:Ze (P.lk i).tail with
    |none=>
     refine YW (YW ⟨chg,Xh ⟨Y,o3,Ze,arr,X7,TT,DL,DA,S,uu ok hi B (.inl q1),by omega,fun z e he hl hh a ha=>?_,hn⟩⟩);by_cases q:e<i;·exact hc z e q hl hh a ha
     ·have:e=i:=by omega
      subst this;rw[q1]at ha;cases ha
    |some za=>
     refine YA (YJ Y ek T.XQ.cl T.YY Y (Z1 Y ⟨c,Z1 Y ⟨DH.get _,Z1 Y ?_⟩⟩));rw[Vl];cases q2:hg (P.lk i).head with
     |some zh=>
      refine YW ⟨chg,Xh ⟨Y,o3,Ze,arr,X7,TT,DL,DA,S,uu ok hi B (.inr ⟨zh,q2⟩),by omega,fun z e he hl hh a ha=>?_,hn⟩⟩;by_cases q:e<i;·exact hc z e q hl hh a ha
      ·have:e=i:=by omega
       subst this;rw[q2]at hh;cases hh
     |none=>
      refine YA (Y' Y rfl (S7 ek T.XQ.cl T.YK Y ⟨l,Z1 Y ⟨DL.FF (Se q1),YJ Y ek T.XQ.cl T.Wu Y (Z1 Y (ZQ Y rfl ⟨XF ((Z'.c i hi).mono (by decide)) (bw.mono (by decide)),ZQ Y rfl ?_⟩))⟩⟩));refine YJ Y ek T.XQ.cl T.YY Y (Z1 Y ⟨l,Z1 Y ⟨DL.get _,Z1 Y ?_⟩⟩);rw[Vl];have yt:(∀b,Ze (P.lk i).head=some b->za+(P.lk i).cost*w<b)->∀oE:Bool,Ac (G2 4) (xi K (G2 7) "head") (G2 8) {nx:=fun cG H4=>Ac (G2 3) (xi K (G2 7) "head") (G2 6) {nx:=fun cF H5=>∃chg c6 c7 c8,cF.set 5 (some (V.bl true))=[some (.ref a),some (.int w),some (.ref c),some (.ref d),some (.ref l),some (.bl chg),c6,c7,c8]/\Z_ r (i+1) chg H5,rt:=fun _ _=>True} cG H4,rt:=fun _ _=>True} [some (.ref a),some (.int w),some (.ref c),some (.ref d),some (.ref l),some (.bl oE),some (.int (i:Int)),some (.ref kk),some (.int (za+(P.lk i).cost*w))] H3:=by
       intro hm oE;obtain⟨o,yB,⟨mN,rfl⟩,oH⟩:=DL.put (by omega) (ok.lh i hi) (.int (za+(P.lk i).cost*w));have o4:Off d H (upd H3 l (.dK mN)):=fun b u e n=>by
        rw[ZV (Zx e hl)];exact o3 b u e n
       obtain⟨dk4,qF⟩:=(vx o4).at_ i kk vD;obtain⟨kva,cE,cD⟩:=DA.mk' (H':=H) (b:=c);have cC:DI (upd H3 l (.dK mN)) d P.n (nv arr):=cD _ _ (by rw[ZV jK];exact cE);obtain⟨o',oC,⟨jL,rfl⟩,jI⟩:=cC.put (by omega) (ok.lh i hi) (.int (i:Int));have rn:r<=P.n:=by
        by_cases q:r<=P.n;·exact q
        ·obtain⟨b,O,hle⟩:=oY ok Z9 hi B (by omega) q1 q2;have:=hm b O;omega
       have cB:DI (upd (upd H3 l (.dK mN)) d (.dK jL)) l P.n (iv (Qu Ze (P.lk i).head (za+(P.lk i).cost*w))):=by
        rw[<-yE];exact oH _ (by rw[ZV (fun q=>jK q.symm),Z4])
       have cA:DI (upd (upd H3 l (.dK mN)) d (.dK jL)) d P.n (nv (putN arr (P.lk i).head i)):=by
        rw[<-yF];exact jI _ Z4
       exact Y' Y rfl (YJ Y ek T.XQ.cl T.YY Y ⟨l,Z1 Y ⟨yB,Y' Y rfl (YJ Y qF T.XQ.cl T.YY Y ⟨d,Z1 Y ⟨oC,true,Xh ⟨Y,o4.upd _,Xh ⟨TT+1,cB,cA,S.put ok hi q1 q2 hm,kh ok hi B q1 q2 hm,by omega,fun z=>(by cases z),fun _=>rn⟩⟩⟩⟩)⟩⟩)
      cases q3:Ze (P.lk i).head with
      |none=>
       refine YW (YW ?_);obtain⟨v1,e1,jH,Bc,v2,e2,aa,C1,rJ,jG,jF,f1,f2,f3,f4,f5,a3,H4,g1,g2,g3⟩:=yt (fun b O=>by rw[q3]at O;cases O) chg;exact⟨v1,e1,jH,Bc,v2,e2,aa,C1,rJ,jG,jF,f1,f2,f3,f4,f5,a3,H4,g1,g2,g3⟩
      |some zb=>
       refine YA (Y' Y rfl (YJ Y ek T.XQ.cl T.YY Y ⟨l,Z1 Y ⟨DL.FF (Se q3),ZQ Y rfl (Z1 Y (Wb (fun cc=>?_) (fun cc=>?_)))⟩⟩))
       ·have cc:za+(P.lk i).cost*w<zb:=ZD cc;obtain⟨v1,e1,jH,Bc,v2,e2,aa,C1,rJ,jG,jF,f1,f2,f3,f4,f5,a3,H4,g1,g2,g3⟩:=yt (fun b O=>by rw[q3]at O;cases O;exact cc) chg;exact⟨v1,e1,jH,Bc,v2,e2,aa,C1,rJ,jG,jF,f1,f2,f3,f4,f5,a3,H4,g1,g2,g3⟩
       ·have cc:¬za+(P.lk i).cost*w<zb:=fun q=>cc (ZP q);refine⟨chg,Xh ⟨Y,o3,Ze,arr,X7,TT,DL,DA,S,oZ ok hi B q1 q3 (by omega),by omega,fun z e he mj hh a ha=>?_,hn⟩⟩;by_cases q:e<i;·exact hc z e q mj hh a ha
        ·have:e=i:=by omega
         subst this;rw[q1]at ha;cases ha;exact⟨zb,q3,by omega⟩
   ·rintro σ H2 ⟨chg,c6,c7,c8,rfl,o2,Ze,arr,X7,TT,DL,DA,S,B,hT,hc,hn⟩;rw[Z3,hN.len]at B hT hc;refine⟨_,?_,chg,Xh ⟨r+1,Y,Y,fun z=>by have:=hn z;omega,?_,o2,Ze,arr,X7,TT,DL,DA,S,sx (fun v z hz=>(S.fix v z hz).1) Z9 B,by omega,hc⟩⟩
    ·rw[Z7 rfl];cases chg with
     |true=>rw [Z7 rfl];have:=hn rfl;omega
     |false=>rw [Z8 (by simp)];omega
    ·omega
end
theorem Ce{K:W.Frag}{H:Hp}:∀us:List Nat,ND K H (us.map fun(k:Nat)=>V.int (k:Int)) (us.map fun(k:Nat)=>PyData.int (k:Int))
 |[]=>.nil
 |_::us=>.cons (.int _) (Ce us)
theorem KG:∀us:List Nat,PyData.canLayAll0 (us.map fun(k:Nat)=>PyData.int (k:Int))=true
 |[]=>rfl
 |_::us=>by
  show(true&&PyData.canLayAll0 (us.map fun(k:Nat)=>PyData.int (k:Int)))=true;rw[KG us];rfl
theorem KD:∀us:List Nat,PyData.depthAll (us.map fun(k:Nat)=>PyData.int (k:Int))=0
 |[]=>by simp[PyData.depthAll]
 |_::us=>by
  rw[Y1];simp only[PyData.depthAll,PyData.depth,KD us];rfl
theorem ML(us:List Nat):SeqAt.shaped (.list (us.map fun(k:Nat)=>PyData.int (k:Int)))=true:=by
 unfold SeqAt.shaped;have J:PyData.canLay0 (.list (us.map fun(k:Nat)=>PyData.int (k:Int)))=true:=by
  simp only[PyData.canLay0];exact KG us
 have h2:PyData.depth (.list (us.map fun(k:Nat)=>PyData.int (k:Int)))=1:=by simp only[PyData.depth,KD us]
 rw[J,h2];rfl
theorem Cd(us:List Nat):PyData.eqv (.list (us.map fun(k:Nat)=>PyData.int (k:Int))) (.list [])=us.isEmpty:=by
 cases us with
 |nil=>simp [PyData.eqv,PyData.eqvAll]
 |cons u us=>simp [PyData.eqv,PyData.eqvAll]
theorem yr{K:W.Frag}{H:Hp}{a:Addr}{us:List Nat}(h:NL H a us):Dp K H (.ref a) (.list (us.map fun(k:Nat)=>PyData.int (k:Int))):=.lst (Zw.of h) (Ce us)
theorem DD{K:W.Frag}{H:Hp}{a:Addr}(h:H a=some (.lst [])):Dp K H (.ref a) (.list []):=.lst (Zw.of h) .nil
section
variable{P:Program}{w:World}{K:W.Frag}{mg:Str->Option Value}{base:Heap}{t:Yl}
def ue(P:Y2)(ys:List Int)(w:Int)(h:Nat->Rat)(ks:List Nat):Prop:=(ks=[]/\P.XS.Wl (ld ys w))\/(ks≠[]/\∃lb X7 T,P.XS.V6 (ld ys w) h (P.XS.Gb (ld ys w)) lb X7 T (fun i=>ks.getD i 0) (ks.length-1))
def oB(t:Yl):Sp:=fun vs H Q _=>∃a b P ys w h,vs=[.ref a,.ref b]/\SN t H a P/\WQ t H b ys w/\P.Ok/\P.Sz/\VE P ys w h/\∀H' c ks,H c=none->ZX H H'->NL H' c ks->ks.length<=1001->ue P ys w h ks->Q (.ref c) H'
theorem I0{P:Y2}{arr:Nat->Option Nat}{X7:Nat->Nat}(hA:∀u e,arr u=some e->X7 (P.lk e).tail<X7 u):∀(ks:List Nat)(v:Nat),Chain P arr v ks->ks.length<=X7 v
 |[],v,_=>Zt _
 |e::ks,v,h=>by
  obtain⟨J,h2⟩:arr v=some e/\Chain P arr (P.lk e).tail ks:=h;have:=I0 hA ks _ h2;have:=hA v e J;rw[Zg];omega
theorem Ga.arr{P:Y2}{w:Int}{hg Ze:Nat->Option Int}{arr:Nat->Option Nat}{X7:Nat->Nat}{T:Nat}(S:Ga P w hg Ze arr X7 T)(C:D8 P w hg Ze P.links.length):∀u e,arr u=some e->e<P.links.length/\X7 (P.lk e).tail<X7 u:=fun u e he=>by
 cases hl:Ze u with
 |none=>rw [S.Xf u hl]at he;cases he
 |some b=>
  cases hh:hg u with
  |some z=>rw [(S.fix u z hh).2.1]at he;cases he
  |none=>
   obtain⟨f,a,J,h2,h3,h4,h5,h6⟩:=S.qL u b hh hl;rw[he]at J;cases J;obtain⟨b',g1,g2⟩:=C e h2 h2 (by rw[h3];exact hh) a h4;rw[h3,hl]at g1;cases g1;exact⟨h2,h6 (by omega)⟩
theorem Ov:ZL ["net","load","heights","arrivals","labels","number","link"] ["net","load"] (ZZ (top 35)):=YR
theorem TH(T:Txt K mg t):Y6 P w K mg base XB 35 t.SX t.SW ["net","load"] (oB t):=by
 have sc:=Ov;refine T.Ul.F.ok sc (fun vs H Q E h=>?_) (fun Yp A outer s H vs Q E hr h=>?_)
 ·obtain⟨a,b,P,ys,w,h,rfl,_⟩:=h;rfl
 ·have hu:=Qr hr;obtain⟨a,b,P,ys,w,h,rfl,⟨la,ks,hN⟩,⟨ly,⟨vI,eb⟩,iy⟩,ok,Z',G,k⟩:=h;obtain⟨Tu,ea⟩:=hN.obj;have n6:=Z'.n6;have m9:=Z'.m9;refine⟨_,(Z5 (ZS (i:=2) sc.nd Y Y4 (cl T.RO (Pr T) hr (Z6 (Z 0) (Z6 (Z 1) Z2))))
   (Z5 (ZS (i:=3) sc.nd Y Y4 GB)
   (Z5 (ZS (i:=4) sc.nd Y Y4 (cl T.Q3 (Ow T) hr (Z6 (Z 0) (Z6 (ZY (Z 1) rfl) (Z6 (Z 2) (Z6 (Z 3) Z2))))))
   (Z5 (Yu Zi Y (V8 Y T.UY (Z6 (ZY (Z 0) rfl) Z2)) (VQ Y (YU (Zz (i:=5) sc.nd Y Y4) (YU (Zz (i:=6) sc.nd Y Y4) WH))) (Z5 (YT (PW.pt (UX (ZG NH (ZI ZM (ZY (Z 1) rfl) (Z 5) (fun _ _=>rfl)) ZR (Zr _)) (UX (U3 (V1 hu (ZY (Z 6) rfl) (Z 4))) (Vt (U3 (V1 hu (ZY (Z 6) rfl) (Z 2))))))) (Z0 V3) Zs)
   (Z0 (YT (ZG JS (Zc SF (Wq hu (Z 4) (ZY (Z 6) rfl) (fun _ _=>rfl)) (Zc YQ (ZY (Z 6) rfl) (ZY (Z 1) rfl))) (Wq hu (Z 2) (ZY (Z 6) rfl) (fun _ _=>rfl)) (Zr _)) (Z0 (ZN (Zc Ut (Zv (Z6 (Z 5) Z2)) (cl T.DW (I_ T) hr (Z6 (Z 0) (Z6 (Z 3) (Z6 (ZY (Z 6) rfl) Z2))))))) Zs))))
   (Z0 (ZN (Zv Z2))))))),?_⟩
  refine Y' Y rfl ⟨a,b,P,ys,w,h,Y,⟨la,ks,hN⟩,⟨ly,⟨vI,eb⟩,iy⟩,ok,Z',G,fun H1 ch hg s1 DH Hg=>?_⟩;refine fun d hd=>?_;have vw:H d=none:=s1.free hd;have sd:=ZX.new hd (.dK []);have mO:ch≠d:=by
   obtain⟨kv,e⟩:=DH.mW;exact Zx e hd
  refine Y' Y rfl (S7 (sd _ _ (s1 _ _ eb)) T.Load.cl T.WR Y (Y' Y rfl (XR a ch d (XR P w hg ⟨Y,⟨la,ks,(hN.up s1).up sd⟩,DH.up sd,Z4,mO,ok,Z',G.pos,G.bw,fun H2 l Ze arr X7 TT off DL DA S C hT=>?_⟩))));have s2:ZX H H2:=fun c o e=>off c o (sd _ _ (s1 _ _ e)) (Zx e vw);obtain⟨kvh,cy,cx⟩:=(DH.up sd).mk' (H':=H) (b:=ch);have cw:DI H2 ch P.n (iv hg):=cx H2 ch (off ch _ cy mO);refine YJ Y (s2 _ _ ea) T.Net.cl T.XM Y (ZQ Y (Zw.of (s2 _ _ hN.lst)) ?_);refine U5 (K:=K) (xs:=ks.map V.ref) (fun i σ H'=>(∃c5 c6,σ=[some (.ref a),some (.ref b),some (.ref ch),some (.ref d),some (.ref l),c5,c6])/\ZX H2 H'/\∀e,e<i->¬0<ys.getD e 0->∀a z,Ze (P.lk e).tail=some a->hg (P.lk e).head=some z->z<=a+(P.lk e).cost*w) ⟨Xr none none Y,ZX.refl _,fun e he=>by omega⟩ (fun i σ H' _ q=>Zw.of (q.2.1 _ _ (s2 _ _ hN.lst))) ?_ ?_
  ·rintro i x σ H3 H4 hx ⟨⟨c5,c6,rfl⟩,s3,mM⟩ s4;obtain⟨kk,vD,rfl⟩:=Yb hx;have hi:i<P.links.length:=by rw[<-hN.len];exact(Zy.mp vD).1
   have vv:=s3.trans s4;have sH:=s2.trans vv;obtain⟨dk,ek⟩:=(hN.at_ i kk vD).up sH;have gF:=sH _ _ eb;have gE:=DL.up vv;have gD:=cw.up vv;have go:∀c5 c6,(0<ys.getD i 0\/Ze (P.lk i).tail=none\/hg (P.lk i).head=none\/∀a z,Ze (P.lk i).tail=some a->hg (P.lk i).head=some z->z<=a+(P.lk i).cost*w)->(∃d5 d6,[some (V.ref a),some (.ref b),some (.ref ch),some (.ref d),some (.ref l),c5,c6]=[some (V.ref a),some (.ref b),some (.ref ch),some (.ref d),some (.ref l),d5,d6])/\ZX H2 H4/\∀e,e<i+1->¬0<ys.getD e 0->∀a z,Ze (P.lk e).tail=some a->hg (P.lk e).head=some z->z<=a+(P.lk e).cost*w:=fun c5 c6 hz=>⟨Yd Y,vv,fun e he hp a' z' J h2=>by
    by_cases q:e<i;·exact mM e q hp a' z' J h2
    ·have:e=i:=by omega
     subst this;rcases hz with hz|hz|hz|hz;·exact absurd hz hp
     ·rw[hz]at J;cases J
     ·rw[hz]at h2;cases h2
     ·exact hz a' z' J h2⟩
   refine YJ Y gF T.Load.cl T.YX Y (Z1 Y (ZJ Y rfl (Zw.of (sH _ _ iy)) (Wh (by rw[G.len];exact hi)) (ZQ Y rfl (Z1 Y (Wb (fun cc=>?_) (fun cc=>?_))))));·exact YW (go _ _ (.inl (ZD cc)))
   ·have cc:¬0<ys.getD i 0:=fun q=>cc (ZP q);refine YJ Y ek T.XQ.cl T.YK Y (Z1 Y (Xr l _ ⟨Y,gE.get _,Z1 Y ?_⟩));rw[Vl];cases q1:Ze (P.lk i).tail with
    |none=>exact YW (YW (go _ _ (.inr (.inl q1))))
    |some za=>
     refine YA (YJ Y ek T.XQ.cl T.YY Y (Z1 Y (Xr ch _ ⟨Y,gD.get _,Z1 Y ?_⟩)));rw[Vl];cases q2:hg (P.lk i).head with
     |none=>exact YW (go _ _ (.inr (.inr (.inl q2))))
     |some zh=>
      refine YA (Y' Y rfl (S7 ek T.XQ.cl T.YK Y (Xr l _ ⟨Y,gE.FF (Se q1),YJ Y ek T.XQ.cl T.Wu Y (YJ Y gF T.Load.cl T.WR Y (ZQ Y rfl ⟨XF ((Z'.c i hi).mono (by decide)) (G.bw.mono (by decide)),ZQ Y rfl (Y' Y rfl (S7 ek T.XQ.cl T.YY Y (Xr ch _ ⟨Y,gD.FF (Se q2),ZQ Y rfl (Z1 Y (Wb (fun c2=>?_) (fun c2=>?_)))⟩)))⟩))⟩)))
      ·have c2:za+(P.lk i).cost*w<zh:=ZD c2;refine Z1 Y ⟨(by show 1<=sizeLine;decide),fun p hp=>?_⟩;have s5:=ZX.new hp (.lst [.int (i:Int)]);have vq:=sH.trans s5;have oA:=Rw.Ga.arr S C;refine Y' Y rfl (YJ Y (s5 _ _ ek) T.XQ.cl T.YK Y ⟨a,d,(P.lk i).tail,XR P arr X7 ⟨Y,⟨la,ks,hN.up vq⟩,DA.up (vv.trans s5),oA,ZA (S.tT _) hT,fun H6 c' xG nc s6 hL G_=>?_⟩⟩);have kl:=I0 (fun u e he=>(oA u e he).2) xG _ G_;have kl2:=S.tT (P.lk i).tail;refine W9 p c' _ _ ⟨Y,Y,s6 _ _ Z4,hL,?_,fun r Gp=>?_⟩
       ·rw[Z3];show 1+xG.length<=sizeLine;exact ZA (show 1+xG.length<=1001 by omega) (by decide)
       ·refine k _ r (i::xG) ((vq.trans s6).free Gp) ((vq.trans s6).trans (ZX.new Gp _)) (by show upd _ _ _ _=_;rw[Z4];rfl) (by rw[Zg];omega) (.inr ⟨by simp,?_⟩);obtain⟨lb,Dt⟩:=S.sF C ok G.pos G.good Hg hi cc q1 q2 c2 G_;exact⟨lb,X7,TT,Dt⟩
      ·have c2:¬za+(P.lk i).cost*w<zh:=fun q=>c2 (ZP q);refine go _ _ (.inr (.inr (.inr fun a z J h2=>?_)));rw[q1]at J;rw[q2]at h2;cases J;cases h2;omega
  ·rintro σ H3 ⟨⟨c5,c6,rfl⟩,s3,mM⟩;rw[Z3,hN.len]at mM;refine⟨Zt _,fun c hc=>?_⟩;exact k _ c [] ((s2.trans s3).free hc) ((s2.trans s3).trans (ZX.new hc _)) Z4 (by simp) (.inl ⟨Y,S.rests C ok G.pos G.good Hg mM⟩)
def rH(t:Yl):Sp:=fun vs H Q _=>∃a P,vs=[.ref a]/\SN t H a P/\P.Ok/\P.Sz/\(∀H',ZX H H'->¬P.XS.Reach P.t->Q .Xf H')/\∀H' c ys w h,ZX H H'->WQ t H' c ys w->VE P ys w h->P.XS.Wl (ld ys w)->Q (.ref c) H'
theorem vp:ZL ["net","way","load","detour"] ["net"] (ZZ (top 36)):=YR
theorem vo(T:Txt K mg t):Y6 P w K mg base XB 38 t.yX t.yW ["net"] (rH t):=by
 have sc:=vp;refine T.rest.F.ok sc (fun vs H Q E h=>?_) (fun Yp A outer s H vs Q E hr h=>?_)
 ·obtain⟨a,P,rfl,_⟩:=h;rfl
 ·have HG:=hr.units;obtain⟨a,P,rfl,hN,ok,Z',kn,k⟩:=h;have n6:=Z'.n6;have m9:=Z'.m9;have nk:=ok.XS;refine⟨_,(Z5 (ZS (i:=1) sc.nd Y Y4 (cl T.FU (FD T) hr (Z6 (Z 0) Z2)))
   (Z5 (YT (ZG (tm HG) (Z 1) (Zv Z2) (Zr _)) (Z0 (ZN XH)) Zs)
   (Z5 (ZS (i:=2) sc.nd Y Y4 (cl T.balanced (QX T) hr (Z6 (Z 0) (Z6 (Z 1) Z2))))
   (Z5 (ZS (i:=3) sc.nd Y Y4 (cl T.Ul (TH T) hr (Z6 (Z 0) (Z6 (Z 2) Z2))))
   (Z5 (Vb Zi (ZG (IE HG) (Z 3) (Zv Z2) (Zr _)) (Z5 (ZS (i:=2) sc.nd Y Y4 (cl T.settled (DF T) hr (Z6 (Z 0) (Z6 (Z 2) (Z6 (Zc Ut (jZ T.Load.cl T.OF (QY T) hr (Z 2)) (Z 3)) Z2)))))
   (Z0 (ZS (i:=3) sc.nd Y Y4 (cl T.Ul (TH T) hr (Z6 (Z 0) (Z6 (Z 2) Z2)))))))
   (Z0 (ZN (Z 2)))))))),?_⟩
  refine Z1 Y ⟨a,P,Y,hN,ok,n6,m9,fun H1 c1 ks s1 hL hW=>?_⟩;refine Z1 Y ⟨Zt _,fun p hp=>?_⟩;have s2:=s1.trans (ZX.new hp (.lst []));have ud:=ZX.new hp (.lst []) _ _ hL;refine ZQ (yr ud) (DD Z4) ⟨ML ks,(by decide+kernel),Z1 Y ?_⟩;rw[Cd];rcases hW with⟨rfl,mL⟩|⟨QN,X7,W⟩;·exact YW (kn _ s2 mL)
  ·have hf:ks.isEmpty=false:=by cases ks with|nil=>exact absurd rfl QN|cons _ _=>rfl
   refine oO hf ?_;have mX:0<ks.length:=List.length_pos_iff.mpr QN;have hU:∀e,e∈ks↔∃i,i<=ks.length-1/\e=ks.getD i 0:=fun e=>by
    constructor
    ·intro he;obtain⟨i,hi,q⟩:=XY.mp he;exact⟨i,by omega,by rw[ZW,ZT hi,<-q];rfl⟩
    ·rintro⟨i,hi,rfl⟩;have hi:i<ks.length:=by omega
     rw[ZW,ZT hi];exact WO hi
   have lt:∀e,e∈ks->e<P.links.length:=fun e he=>by
    obtain⟨i,hi,rfl⟩:=(hU e).mp he;exact W.lt i hi
   have nd:ks.Nodup:=by
    rw[List.nodup_iff_pairwise_ne,Pj];intro i j hi hj JD q;have:=W.inj (i:=i) (j:=j) (by omega) (by omega) (by
     show ks.getD i 0=ks.getD j 0;rw[ZW,ZW,ZT hi,ZT hj,q])
    omega
   have Rm:P.XS.Yk ks P.t:=⟨ks.getD 0 0,(hU _).mpr ⟨0,Zt _,Y⟩,.inr W.goal⟩;refine Y' Y rfl ⟨a,c1,P,ks,Y,hN.up s2,ud,ok,Z',lt,nd,W.Kj hU,Rm,fun H2 cl ys w h s3 hY B=>?_⟩;have mP:=s2.trans s3;have G:VE P ys w h:=⟨B.len,B.pos,W.good nk hU B.Ro,B.ET,B.bw⟩;refine Y' Y rfl ⟨a,cl,P,ys,w,h,Y,hN.up mP,hY,ok,Z',G,fun H3 cd ds _ s4 hD dl hI=>?_⟩;let Wv:Nat->List (Option V)->Hp->Prop:=fun m σ H'=>ZX H H'/\∃c1 cl cd ys w h ds,σ=[some (.ref a),c1,some (.ref cl),some (.ref cd)]/\WQ t H' cl ys w/\VE P ys w h/\NL H' cd ds/\ds.length<=1001/\ue P ys w h ds/\m=P.XS.cnt (P.XS.Po (ld ys w))
   refine⟨Wv,⟨_,mP.trans s4,_,cl,cd,ys,w,h,ds,Y,hY.up s4,G,hD,dl,hI,Y⟩,?_⟩;rintro m σ H4 ⟨s5,c1',Fw,cv,Pu,w',h',Fv,rfl,mQ,G',gC,dl',cu,rfl⟩;refine Z1 Y ⟨Zt _,fun q hq=>?_⟩;have sq:=ZX.new hq (.lst []);refine ZQ (yr (sq _ _ gC)) (DD Z4) ⟨ML Fv,(by decide+kernel),Z1 Y ?_⟩;rw[Cd];have s6:=s5.trans sq;rcases cu with⟨rfl,hR⟩|⟨gB,lb,cq,T',Dt⟩;·exact YA (Z1 Y (k _ Fw Pu w' h' s6 (mQ.up sq) G' hR))
   ·have df:Fv.isEmpty=false:=by cases Fv with|nil=>exact absurd rfl gB|cons _ _=>rfl
    refine qH (by rw[df];rfl) ⟨fun XC HR=>∃m',m'<P.XS.cnt (P.XS.Po (ld Pu w'))/\Wv m' XC HR,fun _ _ h=>h,?_⟩;have dp1:0<Fv.length:=List.length_pos_iff.mpr gB;obtain⟨ly,⟨jE,el⟩,iy⟩:=mQ.up sq;refine Y' Y rfl (Z1 Y ⟨Fw,ZQ Y el ⟨Y,Fw,Pu,w',Y,⟨ly,⟨jE,el⟩,iy⟩,by rw[G'.len];omega,fun H5 cc gK s7 hC=>?_⟩⟩);have cp:=s7 _ _ (sq _ _ gC);have cl9:(Tt Pu).length<=9:=by
     have:=W3 P.links.length (Tt Pu) (Sf Pu) fun e he=>by rw[<-G'.len];exact(Uc.mp he).1
     omega
    refine Z1 Y ⟨cc,cv,ZQ Y rfl ⟨hC,cp,by rw[Z3,Z3];exact ZA (show(Tt Pu).length+Fv.length<=1010 by omega) (by decide),fun r Gp=>?_⟩⟩;have s8:=ZX.new Gp (.lst (((Tt Pu).map fun(k:Nat)=>V.int (k:Int))++Fv.map fun(k:Nat)=>V.int (k:Int)));have jD:=s6.trans (s7.trans s8);have dv:∀i,i<Fv.length->Fv.getD i 0<P.links.length/\ld Pu w' (Fv.getD i 0)=0:=fun i hi=>Dt.emp i (by omega);have hU:∀e,e∈Tt Pu++Fv↔e<P.XS.m/\(ld Pu w' e≠0\/∃i,i<=Fv.length-1/\e=Fv.getD i 0):=fun e=>by
     rw[Zj,Uc,G'.len];constructor
     ·rintro(⟨q1,q2⟩|q);·exact⟨q1,.inl fun z=>by rw[(T4 G'.pos e).mp z]at q2;omega⟩
      ·obtain⟨i,hi,z⟩:=XY.mp q;have e1:e=Fv.getD i 0:=by rw[ZW,ZT hi,<-z];rfl
       exact⟨by rw[e1];exact(dv i hi).1,.inr ⟨i,by omega,e1⟩⟩
     ·rintro⟨q1,q2|⟨i,hi,rfl⟩⟩
      ·have n1:=G'.nn e;have n2:Pu.getD e 0≠0:=fun z=>q2 ((T4 G'.pos e).mpr z);exact .inl ⟨q1,by omega⟩
      ·have hi:i<Fv.length:=by omega
       rw[ZW,ZT hi];exact .inr (WO hi)
    have m_:(Tt Pu++Fv).Nodup:=by
     refine List.nodup_append.mpr ⟨Sf Pu,Dt.nodup (by omega) fun i hi=>rfl,fun u hu v hv q=>?_⟩;subst q;obtain⟨i,hi,z⟩:=XY.mp hv;have e1:u=Fv.getD i 0:=by rw[ZW,ZT hi,<-z];rfl
     have J:=(dv i hi).2;rw[<-e1]at J;have h2:=(Uc.mp hu).2;rw[(T4 G'.pos u).mp J]at h2;omega
    obtain⟨Kj,Rm,p,st⟩:=Ki.start nk G'.good Dt hU m_;refine⟨a,Fw,r,P,Pu,w',h',Tt Pu++Fv,p,Y,hN.up jD,WQ.up ⟨ly,⟨jE,el⟩,iy⟩ (s7.trans s8),by show upd _ _ _ _=_;rw[Z4,YV],ok,Z',G',fun e he=>((hU e).mp he).1,m_,Kj,Rm,st,fun H6 c6 gA w6 h6 s9 gz G6 ph=>?_⟩;refine Y' Y rfl ⟨a,c6,P,gA,w6,h6,Y,hN.up (jD.trans s9),gz,ok,Z',G6,fun H7 c7 d7 _ s_ cg cf b_=>?_⟩;exact⟨_,Net.sM nk G6.good ph,(jD.trans s9).trans s_,_,c6,c7,gA,w6,h6,d7,Y,gz.up s_,G6,cg,cf,b_,Y⟩
end
open RhRoads (Road Land Flow settled on)
def SJ(H:Hp)(D:Addr)(f:Nat->Rat)(i:Nat):Prop:=∃bs:List Addr,H D=some (.lst (bs.map V.ref))/\bs.length=i/\∀(j:Nat) b,bs[j]?=some b->Fr H b (f j)
def A7(H:Hp)(D:Addr)(qs:List Rat):Prop:=SJ H D (fun j=>qs.getD j 0) qs.length
theorem SJ.up{H H':Hp}{D:Addr}{f:Nat->Rat}{i:Nat}(h:SJ H D f i)(s:ZX H H'):SJ H' D f i:=let⟨bs,J,h2,h3⟩:=h;⟨bs,s _ _ J,h2,fun j b e=>(h3 j b e).up s⟩
theorem A7.up{H H':Hp}{D:Addr}{qs:List Rat}(h:A7 H D qs)(s:ZX H H'):A7 H' D qs:=SJ.up h s
theorem SJ.nil{H:Hp}{D:Addr}(f:Nat->Rat)(h:H D=some (.lst [])):SJ H D f 0:=⟨[],h,Y,fun j b e=>(by simp at e)⟩
theorem SJ.snoc{H:Hp}{D c:Addr}{f:Nat->Rat}{i:Nat}(h:SJ H D f i)(hc:Fr H c (f i))(hi:i<=1000):∃acc,H D=some (.lst acc)/\acc.length<sizeLine/\SJ (upd H D (.lst (acc++[.ref c]))) D f (i+1):=by
 obtain⟨bs,J,h2,h3⟩:=h;refine⟨_,J,by rw[Z3,h2];exact Yx hi (by decide),bs++[c],by rw[Z4,UM],by rw[ZF,h2];rfl,fun j b O=>?_⟩;rcases UL O with⟨z1,z2⟩|⟨z1,rfl⟩;·exact Xi (h3 j b z2) J fun ys q=>by cases q
 ·rw[z1,h2];exact Xi hc J fun ys q=>by cases q
theorem SJ.at_{H:Hp}{D:Addr}{f:Nat->Rat}{i:Nat}(h:SJ H D f i){j:Nat}(hj:j<i):∃(bs:List Addr) (b:Addr),H D=some (.lst (bs.map V.ref))/\bs.length=i/\bs[j]?=some b/\Fr H b (f j):=by
 obtain⟨bs,J,h2,h3⟩:=h;have hl:j<bs.length:=by omega
 exact⟨bs,bs[j],J,h2,ZT hl,h3 j _ (ZT hl)⟩
theorem SJ.congr{H:Hp}{D:Addr}{f g:Nat->Rat}{i:Nat}(h:SJ H D f i)(e:∀j,j<i->f j=g j):SJ H D g i:=by
 obtain⟨bs,J,h2,h3⟩:=h;refine⟨bs,J,h2,fun j b O=>?_⟩;have hj:j<i:=by rw[<-h2];exact(Zy.mp O).1
 rw[<-e j hj];exact h3 j b O
theorem WV{n j:Nat}{f:Nat->Rat}(h:j<n):((List.range n).map f).getD j 0=f j:=by
 rw[ZW,Zb,Xv h];rfl
theorem SJ.list{H:Hp}{D:Addr}{f:Nat->Rat}{n:Nat}(h:SJ H D f n):A7 H D ((List.range n).map f):=by
 have:((List.range n).map f).length=n:=by simp
 unfold A7;rw[this];exact h.congr fun j hj=>(WV hj).symm
theorem SJ.set{H:Hp}{D c:Addr}{f:Nat->Rat}{n e:Nat}{q:Rat}(h:SJ H D f n)(hc:Fr H c q)(he:e<n):∃xs,H D=some (.lst xs)/\BR xs.length (e:Int)=some e/\SJ (upd H D (.lst (xs.set e (.ref c)))) D (fun j=>if j=e then q else f j) n:=by
 obtain⟨bs,J,h2,h3⟩:=h;refine⟨_,J,by rw[Z3,h2];exact Oz he,bs.set e c,by rw[Z4,List.map_set],by rw[List.length_set,h2],fun j b O=>?_⟩;rw[List.getElem?_set]at O;by_cases z:e=j
 ·rw[Z7 z,Z7 (by omega)]at O;cases O;show Fr _ _ (if j=e then q else f j);rw[Z7 z.symm];exact Xi hc J fun ys q=>by cases q
 ·rw[Z8 z]at O;show Fr _ _ (if j=e then q else f j);rw[Z8 (fun w=>z w.symm)];exact Xi (h3 j b O) J fun ys q=>by cases q
theorem Fu(r:Road):decide (V.int (r.shut.toNat:Int)=V.int 0)=!r.shut:=by cases r.shut<;>rfl
theorem IZ(r:Road):decide (V.int (r.shut.toNat:Int)=V.int 1)=r.shut:=by cases r.shut<;>rfl
section
variable{P:Program}{w:World}{K:W.Frag}{mg:Str->Option Value}{base:Heap}{t:Yl}
def QW(H:Hp)(l:Land)(all:Bool)(Q:VK):Prop:=(∀H',ZX H H'->settled l all=none->¬(Za l all).Reach l.goal->Q .Xf H')/\∀H' c f,ZX H H'->A7 H' c f->settled l all=some f->(∀e,Rb 31000 (on f e))->Q (.ref c) H'
def yq(t:Yl):Sp:=fun vs H Q _=>∃a b c l all qs bs,vs=[.ref a,.ref b,.ref c]/\WI t H a l/\Zh l/\A7 H b qs/\IL H c bs/\Ss l all qs bs/\QW H l all Q
theorem DC:ZL ["land","costs","slopes","scale","cost","numbers","number","road","links","load","flow","amount"] ["land","costs","slopes"] (ZZ (top 38)):=YR
theorem KC(T:Txt K mg t):Y6 P w K mg base XB 39 t.Je t.Jd ["land","costs","slopes"] (yq t):=by
 have sc:=DC;refine T.HW.F.ok sc (fun vs H Q E h=>?_) (fun Yp A outer s H vs Q E hr h=>?_)
 ·obtain⟨a,b,c,l,all,qs,bs,rfl,_⟩:=h;rfl
 ·have hd:=hr.div (by decide);obtain⟨a,b,c,l,all,qs,bs,rfl,⟨la,rs,hL⟩,ok,⟨cs,jC,jB,oz⟩,hc,A1,kn,k⟩:=h;obtain⟨Tu,ea⟩:=hL.obj;have r9:=ok.r9;have rl:rs.length=l.roads.length:=hL.len;have oy:∀q,q∈qs->Bd 20 q.den:=fun q hq=>by
   obtain⟨e,he,z⟩:=XY.mp hq;have:=A1.bd e (by rw[<-A1.ql];exact he);rw[ZW,ZT he]at this;rw[<-z];exact this
  refine⟨_,(Z5 (ZS (i:=3) sc.nd Y Y4 ZR)
   (Z5 (Yu Zi Y (Yq (Z 1)) (Zz (i:=4) sc.nd Y Y4) (Z0 (ZS (i:=3) sc.nd Y Y4 (cl T.UZ (Ug T) hr (Z6 (Z 3) (Z6 (ZI Yj (Z 4) ZR (fun _ _=>rfl)) Z2))))))
   (Z5 (Va (i:=5) rfl sc.nd Y rfl (T8 Y rfl rfl rfl) (V8 Y T.UY (Z6 (ZY (Z 0) rfl) Z2)) (Yt (own:=[("number",6),("road",7)]) (show T_ ["land","costs","slopes","scale","cost","numbers","number","road","links","load","flow","amount"] (ZZ (top 38)) _ _=true by decide+kernel)) (fun _ _ _ _ _=>by exact(Py (K:=K) (i:=6) (j:=7) rfl rfl sc.nd Y rfl Y4 Y4)) (fun _ _ _ _ _=>by exact(C6 (ZG UW (UK (K:=K) rfl (Z 7) rfl) ZR (Zr _)))) (fun _ _ _ _ _=>by exact(Z 6)))
   (Z5 (ZS (i:=8) sc.nd Y Y4 (Zv Z2))
   (Z5 (Yu Zi Y (Yq (Z 5)) (Zz (i:=6) sc.nd Y Y4) (Z5 (ZS (i:=7) sc.nd Y Y4 (ZI ZM (ZY (Z 0) rfl) (Z 6) (fun _ _=>rfl)))
   (Z5 (ZS (i:=4) sc.nd Y Y4 (ZI ZM (Z 1) (Z 6) (fun _ _=>rfl)))
   (Z0 (Xe (UU X9 WN WC W8 (Z 8) (Z6 (mk T.XQ (HJ T) hr (Z6 (ZY (Z 7) rfl) (Z6 (ZY (Z 7) rfl) (Z6 (Zc YQ (ZI Yj (Z 4) ZR (fun _ _=>rfl)) (Zc (VO hd) (Z 3) (ZI Yj (Z 4) ZR (fun _ _=>rfl)))) (Z6 (ZI ZM (Z 2) (Z 6) (fun _ _=>rfl)) Z2))))) Z2)))))))
   (Z5 (ZS (i:=9) sc.nd Y Y4 (cl T.rest (vo T) hr (Z6 (mk T.Net (FH T) hr (Z6 (ZY (Z 0) rfl) (Z6 (ZY (Z 0) rfl) (Z6 (ZY (Z 0) rfl) (Z6 (Zc YQ (ZY (Z 0) rfl) (Z 3)) (Z6 (Z 8) Z2)))))) Z2)))
   (Z5 (YT (ZG U2 (Z 9) XH (Zr _)) (Z0 (ZN XH)) Zs)
   (Z5 (Va (i:=10) rfl sc.nd Y rfl (T8 Y rfl rfl rfl) (Yq (ZY (Z 0) rfl)) (Yt (own:=[("road",7)]) (show T_ ["land","costs","slopes","scale","cost","numbers","number","road","links","load","flow","amount"] (ZZ (top 38)) _ _=true by decide+kernel)) (fun _ _ _ _ _=>by exact(Zz (i:=7) sc.nd Y Y4)) (fun _ _ _ _ _=>by exact XE) (fun _ _ _ _ _=>by exact(cl T.ratio (Yg T) hr (Z6 ZR (Z6 ZR Z2)))))
   (Z5 (Yu Zi Y (PX Y T.KU (Z6 (Z 5) (Z6 (ZY (Z 9) rfl) Z2))) (VQ Y (YU (Zz (i:=6) sc.nd Y Y4) (YU (Zz (i:=11) sc.nd Y Y4) WH))) (Z0 (P5 (cl T.ratio (Yg T) hr (Z6 (Z 11) (Z6 (Zc YQ (ZY (Z 9) rfl) (Z 3)) Z2))) (P6 (Z 10) (Z 6) set_list))))
   (Z0 (ZN (Z 10)))))))))))),?_⟩
  refine Z1 Y ⟨b,Y,⟨_,Zw.of jC⟩,?_⟩;refine Xo (K:=K) (a:=b) (xs:=cs.map V.ref) (fun i σ H'=>H'=H/\∃c4,σ=[some (.ref a),some (.ref b),some (.ref c),some (.int (Ib (qs.take i))),c4,none,none,none,none,none,none,none]) ⟨Y,none,Y⟩ (fun i σ H' _ q=>by rw[q.1];exact Zw.of jC) ?_ ?_
  ·rintro i x σ H1 hx ⟨rfl,c4,rfl⟩;obtain⟨q,hq,rfl⟩:=Yb hx;have hi:i<qs.length:=by rw[<-jB];exact(Zy.mp hq).1
   have fq:=oz i q hq;obtain⟨d1,d2,d3⟩:=CG _ (qs.take i) rfl fun q hq=>oy q (List.mem_of_mem_take hq);have hl9:(qs.take i).length<=9:=by rw[Xt,A1.ql];omega
   refine Y' Y rfl (ZJ Y rfl (U4.of fq) rfl (ZQ Y d1 ⟨VM _,d3.mono (by show 1+20*(qs.take i).length<=33554432;omega),(A1.bd i (by rw[<-A1.ql];exact hi)).mono (by decide),Y,some (.ref q),?_⟩));have:qs.take (i+1)=qs.take i++[qs.getD i 0]:=by
    rw[Xc,ZW,ZT hi];rfl
   rw[this,Jo];rfl
  ·rintro σ H1 ⟨rfl,c4,rfl⟩;rw[Z3,jB,XX];obtain⟨g0,gd,gb⟩:=CG _ qs Y oy;have gb:Bd 181 (Ib qs):=gb.mono (by rw[A1.ql];omega);generalize Ib qs=g at*;have PO:=Bt ok A1 g0;have PZ:=Bs ok A1 gb;refine YJ Y ea T.Land.cl T.ZH Y (ZQ Y (Zw.of hL.lst) (fun D hD=>?_));refine Mg (K:=K) (xs:=rs.map V.ref) (fun i H'=>ZX H1 H'/\NL H' D ((List.range i).filter fun e=>!(rd l e).shut)) ⟨ZX.new hD _,Z4⟩ (fun i H' _ q=>Zw.of (q.1 _ _ hL.lst)) ?_ ?_
   ·rintro i x H2 H3 hx ⟨s2,d2⟩ s3;obtain⟨ra,Xg,rfl⟩:=Yb hx;have hi:i<rs.length:=(Zy.mp Xg).1;obtain⟨ta,⟨dr,er⟩,_⟩:=(hL.at_ i ra Xg).up (s2.trans s3);refine⟨Y,YJ Y er T.Road.cl T.XN Y ⟨Y,Z1 Y ?_⟩⟩;rw[Fu];cases hs:(rd l i).shut with
    |true=>
     refine YA ⟨s2.trans s3,?_⟩;show H3 D=_;rw[WD,Vd,YD,Z8 (by rw[hs];simp)];simp only[List.filter_nil,Xw];exact s3 _ _ d2
    |false=>
     refine YW (Z1 Y ⟨_,s3 _ _ d2,?_,(s2.trans s3).Zu hD _,?_⟩)
     ·rw[Z3];have:=Wg (fun e=>!(rd l e).shut) (List.range i);rw[Y_]at this;exact Yx this (Zl (show i<10 by omega) (by decide))
     ·show upd _ _ _ _=_;rw[Z4,Sg,WD,Vd,YD,Z7 (by rw[hs];rfl)];rfl
   ·rintro H2 ⟨s2,d2⟩;rw[Z3,rl]at d2;have d2:NL H2 D (opens l):=d2;have o9:=Jn ok;refine⟨Zt _,fun D2 AM=>?_⟩;have s3:=s2.trans (ZX.new AM (.lst []));have nDD:D2≠D:=fun q=>by rw[q]at AM;have z:H2 D=some _:=d2;rw[AM]at z;cases z
    refine Z1 Y ⟨D,Y,⟨_,Zw.of (ZX.new AM _ _ _ d2)⟩,?_⟩;refine Xo (K:=K) (a:=D) (xs:=(opens l).map fun(k:Nat)=>V.int (k:Int)) (fun i σ H'=>(∃c4 c6 c7,σ=[some (.ref a),some (.ref b),some (.ref c),some (.int g),c4,some (.ref D),c6,c7,some (.ref D2),none,none,none])/\ZX H2 H'/\∃kb:List Addr,H' D2=some (.lst (kb.map V.ref))/\kb.length=i/\∀(j:Nat) kk,kb[j]?=some kk->NT t H' kk (Ia l qs bs g ((opens l).getD j 0)))
     ⟨XR _ none none Y,ZX.new AM _,[],Z4,Y,fun j kk h=>(by simp at h)⟩ (fun i σ H' _ q=>Zw.of (q.2.1 _ _ d2)) ?_ ?_
    ·rintro i x σ H3 hx ⟨⟨c4,c6,c7,rfl⟩,s4,kb,k1,k2,k3⟩;obtain⟨e,he,rfl⟩:=Ud hx;have hi:i<(opens l).length:=(Zy.mp he).1;have eg:(opens l).getD i 0=e:=by rw[ZW,he];rfl
     have WY:e<l.roads.length:=(UC.mp (Y3 he)).1;have sH:=s2.trans s4;have uf:=sH _ _ ea;obtain⟨ra,Xg⟩:∃ra,rs[e]?=some ra:=⟨_,ZT (by omega)⟩;obtain⟨ta,⟨dr,er⟩,_⟩:=(hL.at_ e ra Xg).up sH;obtain⟨qa,gy⟩:∃qa,cs[e]?=some qa:=⟨_,ZT (by rw[jB,A1.ql];exact WY)⟩;have fq:=(oz e qa gy).up sH;refine YJ Y uf T.Land.cl T.ZH Y (Z1 Y (ZJ Y rfl (Zw.of (sH _ _ hL.lst)) (Yz Xg) (Y' Y rfl (ZJ Y rfl (Zw.of (sH _ _ jC)) (Yz gy) ?_))));refine Z1 Y ⟨.inl ⟨Y,_,Zw.of k1⟩,YJ Y er T.Road.cl T.X5 Y (YJ Y er T.Road.cl T.Ys Y (Z1 Y (ZJ Y rfl (U4.of fq) rfl (Y' Y rfl (ZJ Y rfl (U4.of fq) rfl (ZQ Y rfl ⟨VM _,ZQ Y rfl ⟨XF ((A1.bn e WY).mono (by decide)) (gb.div.mono (by decide)),Y' Y rfl (ZJ Y rfl (Zw.of (sH _ _ hc)) (Wh (by rw[A1.bl];exact WY)) ?_)⟩⟩))))))⟩;intro x dx nx vA ne;refine XR x dx _ (Xh ⟨Y,Z4,fun H4 hK kp=>⟨Y,?_⟩⟩);have s5:ZX H3 H4:=ZX.made nx vA kp;have jA:=s5 _ _ k1;refine XR D2 _ _ ⟨Y,Y,jA,by rw[Z3,k2];exact Zl (show i<10 by omega) (by decide),Xh Y,fun u o eu=>?_,kb++[x],by rw[Z4,UM],by rw[ZF,k2];rfl,fun j kk hk=>?_⟩
     ·rw[ZV (Zx eu AM)];exact s5 _ _ (s4 _ _ eu)
     ·rcases UL hk with⟨z1,z2⟩|⟨z1,rfl⟩
      ·obtain⟨dk,ek⟩:=(k3 j kk z2).up s5;exact⟨dk,Xi ek jA fun ys q=>by cases q⟩
      ·rw[z1,k2,eg];obtain⟨dk,ek⟩:=hK;exact⟨dk,Xi ek jA fun ys q=>by cases q⟩
    ·rintro σ H3 ⟨⟨c4,c6,c7,rfl⟩,s4,kb,k1,k2,k3⟩;rw[Z3]at k2;have sH:=s2.trans s4;have uf:=sH _ _ ea;refine YJ Y uf T.Land.cl T.Yo Y (YJ Y uf T.Land.cl T.Xj Y (YJ Y uf T.Land.cl T.WW Y (YJ Y uf T.Land.cl T.Xk Y (Z1 Y (ZQ Y rfl ⟨XF (show Bd G9 (l.units:Int)from ?_) (gb.mono (by decide)),Z1 Y ?_⟩)))))
     ·unfold Bd;have:=ok.u2;refine Yx (show(l.units:Int).natAbs<=1000 by omega) ?_;exact Zl (show 1000<2^10 by decide) (Tn (by decide) (by decide))
     intro x dx nx vA ne;refine Ua x dx _ _ _ (ZQ Y Z4 (fun H4 eN kp=>⟨Y,?_⟩));have s5:ZX H3 H4:=ZX.made nx vA kp;have gx:=sH.trans s5;have jz:SN t H4 x (XG l qs bs g):=⟨D2,kb,⟨dx,eN⟩,s5 _ _ k1,by rw[k2,Yh],fun j kk hk=>by
      have hj:j<(opens l).length:=by rw[<-k2];exact(Zy.mp hk).1
      rw[Xx hj];exact(k3 j kk hk).up s5⟩
     refine⟨x,XG l qs bs g,Y,jz,PO,PZ,fun H5 s6 mL=>?_,fun H5 cl ys w h s6 hY G R=>?_⟩;·exact Z1 Y ⟨Y,Z1 Y (YW (kn H5 (gx.trans s6) (HZ ok A1 g0 gd mL) fun q=>mL ((PL ok A1 g0 gd).reach.mpr q)))⟩
     ·refine Z1 Y ⟨Y,Z1 Y (YA ?_)⟩;have vq:=gx.trans s6;have mK:=vq _ _ ea;obtain⟨ly,⟨jE,el⟩,iy⟩:=hY;have yl:ys.length=(opens l).length:=by rw[G.len,Yh]
      refine YJ Y mK T.Land.cl T.ZH Y ⟨la,Y,⟨_,Zw.of (vq _ _ hL.lst)⟩,fun D3 jy=>?_⟩;refine Vi (K:=K) (a:=la) (xs:=rs.map V.ref) (fun i H'=>ZX H5 H'/\SJ H' D3 (fun _=>0) i) ⟨ZX.new jy _,SJ.nil _ Z4⟩ (fun i H' _ q=>Zw.of (q.1 _ _ (vq _ _ hL.lst))) ?_ ?_
      ·rintro i x H6 hx ⟨s7,f7⟩;obtain⟨ra,Xg,rfl⟩:=Yb hx;have hi:i<rs.length:=(Zy.mp Xg).1;refine⟨Y,0,1,Y,by decide,fun p hp=>?_⟩;rw[Be];have s8:=ZX.new hp (.tup [.int (0:Rat).num,.int (0:Rat).den]);obtain⟨acc,a1,a2,a3⟩:=(f7.up s8).snoc (c:=p) (by show upd _ _ _ _=_;rw[Z4]) (by omega);exact⟨acc,a1,a2,(s7.trans s8).Zu jy _,a3⟩
      ·rintro H6 ⟨s7,f7⟩;rw[Z3,rl]at f7;have jx:=vq.trans s7;have b9:=s7 _ _ el;have wg:0<w*g:=US G.pos g0;have b8:Bd 30181 (w*g):=G.bw.mul gb;have b7:NL H6 D (opens l):=s7 _ _ (s6 _ _ (s5 _ _ (s4 _ _ d2)));refine Y' Y rfl (S7 b9 T.Load.cl T.YX Y (V7 ⟨Y,Zw.of b7,Zw.of (s7 _ _ iy),?_⟩));refine Mh (K:=K) (xs:=(opens l).map fun(k:Nat)=>V.int (k:Int)) (ys:=ys.map V.int) (by rw[Z3,Z3,yl]) (fun i σ H'=>(∃c4 c6 c7 jw,σ=[some (.ref a),some (.ref b),some (.ref c),some (.int g),c4,some (.ref D),c6,c7,some (.ref D2),some (.ref cl),some (.ref D3),jw])/\(∀u o,H5 u=some o->H' u=some o)/\SJ H' D3 (Ri l ys w g i) l.roads.length)
        ⟨W9 _ _ _ none Y,s7,f7.congr fun j hj=>(by unfold Ri;simp)⟩ (fun i σ H' _ q=>⟨Zw.of (q.2.1 _ _ (s6 _ _ (s5 _ _ (s4 _ _ d2)))),Zw.of (q.2.1 _ _ iy)⟩) ?_ ?_
       ·rintro i x y σ H7 H8 hx hy ⟨⟨c4,c6,c7,jw,rfl⟩,s9,f9⟩ s_;obtain⟨e,he,rfl⟩:=Ud hx;obtain⟨hi,rfl⟩:=int_at hy;have WY:e<l.roads.length:=(UC.mp (Y3 he)).1;have bZ:=s_ _ _ (s9 _ _ el);refine Y' Y rfl (S7 bZ T.Load.cl T.WR Y (Z1 Y (ZQ Y rfl ⟨XF (G.bw.mono (by decide)) (gb.mono (by decide)),ZQ Y wg (fun p hp=>?_)⟩)));have kZ:=ZX.new hp (.tup [.int (qr (ys.getD i 0) (w*g)).num,.int (qr (ys.getD i 0) (w*g)).den]);obtain⟨xs,x1,x2,x3⟩:=((f9.up s_).up kZ).set (c:=p) (q:=qr (ys.getD i 0) (w*g)) (by show upd _ _ _ _=_;rw[Z4]) WY;refine Y' Y rfl (W9 D3 xs _ e ⟨Y,Y,x1,x2,V7 Y,fun u o eu=>?_,x3.congr fun j hj=>?_⟩)
        ·rw[ZV (Zx eu jy)];exact kZ _ _ (s_ _ _ (s9 _ _ eu))
        ·have tk:(opens l).take (i+1)=(opens l).take i++[e]:=by rw[Xc,he];rfl
         have bY:i<(opens l).length:=(Zy.mp he).1;have ix:(opens l).idxOf e=i:=by
          have:(opens l)[i]=e:=(Zy.mp he).2;rw[<-this];exact(T3 l).idxOf_getElem i bY
         unfold Ri;rw[tk];by_cases q:j=e
         ·subst q;rw[Z7 Y,Z7 (by simp),ix]
         ·rw[Z8 q];by_cases z:j∈(opens l).take i;·rw[Z7 z,Z7 (Ym _ z)]
          ·rw[Z8 z,Z8 (by simp[z,q])]
       ·rintro σ H7 ⟨⟨c4,c6,c7,jw,rfl⟩,s9,f9⟩;rw[Z3]at f9;refine Z1 Y (k H7 D3 _ (vq.trans s9) f9.list (H_ ok A1 g0 gd G.pos R) fun e=>?_);unfold on;by_cases he:e<l.roads.length
        ·rw[WV he];unfold Ri;split;·exact Rb.qr wg ((G.ET _).mono (by omega)) (b8.mono (by omega))
         ·exact Rb.ofInt (x:=0) (Bd.zero _) (by omega)
        ·rw[ZW,YH (by simp;omega)];exact Rb.ofInt (x:=0) (Bd.zero _) (by omega)
end
end Rw
namespace Rw
open PySem PySem.Spec PyProof.Rows L2 RR
open RhRoads (Road Land settled on total)
theorem HF{n k:Nat}(h:n<2^k):Bd k (n:Int):=by
 unfold Bd;rw[Int.natAbs_natCast];exact h
theorem yp{n k:Nat}(h:n<2^k)(k1:1<=k):Rb k (n:Rat):=by
 rw[<-Xy];exact Rb.ofInt (HF h) k1
theorem Ou{n:Nat}{r:Road}(h:Us n r):Rb 20 r.toll:=by
 have J:=Td.mpr h.tn;have h2:=h.ng;have h3:=h.td;refine⟨?_,HF (Yx h3 (by decide))⟩;unfold Bd;have:(2:Nat)^20=1048576:=by decide
 omega
theorem Ot{n:Nat}{r:Road}(h:Us n r):Rb 10 (r.base:Rat):=yp (Yx h.base (by decide)) (by decide)
theorem Oq{n:Nat}{r:Road}(h:Us n r):Rb 10 (r.slope:Rat):=yp (Yx h.s2 (by decide)) (by decide)
theorem Oo(n:Nat):qr (n:Int) 1=(n:Rat):=by rw[Eb,Xy]
theorem Cc(n:Nat):(((n:Rat)).den:Int)=1:=by rw[<-Xy,Rat.den_intCast];rfl
theorem HE{l:Land}(ok:Zh l):Ss l false ((List.range l.roads.length).map fun e=>(rd l e).first false) ((List.range l.roads.length).map fun e=>((rd l e).slope:Int))where
 ql:=by simp
 bl:=by simp
 q:=fun e he=>WV he
 b:=fun e he=>by
  rw[YL he,Xy];rfl
 b0:=fun e he=>by
  rw[YL he];have:=(ok.rd he).s1;omega
 bn:=fun e he=>by
  rw[WV he];show Bd 31 (((rd l e).base:Rat)+(rd l e).toll).num;exact((Ot (ok.rd he)).add (Ou (ok.rd he))).num
 bd:=fun e he=>by
  rw[WV he];show Bd 20 ((((rd l e).base:Rat)+(rd l e).toll).den:Int);rw[<-Ij,LC (U8 _ _) rfl,Cc,Int.one_mul];exact(Ou (ok.rd he)).den.div
 bb:=fun e he=>by
  rw[YL he];exact HF (Yx (ok.rd he).s2 (by decide))
theorem Ft{l:Land}(ok:Zh l):Ss l true ((List.range l.roads.length).map fun e=>((rd l e).base:Rat)) ((List.range l.roads.length).map fun e=>2*((rd l e).slope:Int))where
 ql:=by simp
 bl:=by simp
 q:=fun e he=>WV he
 b:=fun e he=>by
  rw[YL he,Zn,Xy];rfl
 b0:=fun e he=>by
  rw[YL he];have:=(ok.rd he).s1;omega
 bn:=fun e he=>by
  rw[WV he];exact(Ot (ok.rd he)).num.mono (by decide)
 bd:=fun e he=>by
  rw[WV he,Cc];exact Bd.one (by decide)
 bb:=fun e he=>by
  rw[YL he];have:=(ok.rd he).s2;unfold Bd;have:(2:Nat)^11=2048:=by decide
  omega
section
variable{P:Program}{w:World}{K:W.Frag}{mg:Str->Option Value}{base:Heap}{t:Yl}
def yo(t:Yl)(all:Bool):Sp:=fun vs H Q _=>∃a l,vs=[.ref a]/\WI t H a l/\Zh l/\QW H l all Q
theorem QW.up{H H1:Hp}{l:Land}{all:Bool}{Q:VK}(h:QW H l all Q)(s:ZX H H1):QW H1 l all Q:=⟨fun H' s' e r=>h.1 H' (s.trans s') e r,fun H' c f s' hf e O=>h.2 H' c f (s.trans s') hf e O⟩
theorem Mz:ZL ["land","costs","road"] ["land"] (ZZ (top 39)):=YR
theorem XZ(T:Txt K mg t):Y6 P w K mg base XB 40 t.Ra t.Q_ ["land"] (yo t false):=by
 have sc:=Mz;refine T.Xm.F.ok sc (fun vs H Q E h=>?_) (fun Yp A outer s H vs Q E hr h=>?_)
 ·obtain⟨a,l,rfl,_⟩:=h;rfl
 ·obtain⟨a,l,rfl,⟨la,rs,hL⟩,ok,k⟩:=h;obtain⟨Tu,ea⟩:=hL.obj;have r9:=ok.r9;have rl:rs.length=l.roads.length:=hL.len;refine⟨_,(Z5 (Va (i:=1) rfl sc.nd Y rfl (T8 Y rfl rfl rfl) (Yq (ZY (Z 0) rfl)) (Yt (own:=[("road",2)]) (show T_ ["land","costs","road"] (ZZ (top 39)) _ _=true by decide+kernel)) (fun _ _ _ _ _=>by exact(Zz (i:=2) sc.nd Y Y4)) (fun _ _ _ _ _=>by exact XE) (fun _ _ _ _ _=>by exact(cl T.plus (UJ T) hr (Z6 (cl T.ratio (Yg T) hr (Z6 (UK (K:=K) rfl (Z 2) rfl) (Z6 ZR Z2))) (Z6 (UK (K:=K) rfl (Z 2) rfl) Z2)))))
   (Z0 (ZN (cl T.HW (KC T) hr (Z6 (Z 0) (Z6 (Z 1) (Z6 (R5 Y sc.nd (Yq (ZY (Z 0) rfl)) (Yt (own:=[("road",2)]) (show T_ ["land","costs","road"] (ZZ (top 39)) _ _=true by decide+kernel)) (fun _ _ _ _ _=>by exact(Zz (i:=2) sc.nd Y Y4)) (fun _ _ _ _ _=>by exact XE) (fun _ _ _ _ _=>by exact(UK (K:=K) rfl (Z 2) rfl))) Z2))))))),?_⟩
  refine YJ Y ea T.Land.cl T.ZH Y ⟨la,Y,⟨_,Zw.of hL.lst⟩,fun D hD=>?_⟩;refine Vi (K:=K) (a:=la) (xs:=rs.map V.ref) (fun i H'=>ZX H H'/\SJ H' D (fun e=>(rd l e).first false) i) ⟨ZX.new hD _,SJ.nil _ Z4⟩ (fun i H' _ q=>Zw.of (q.1 _ _ hL.lst)) ?_ ?_
  ·rintro i x H1 hx ⟨s1,f1⟩;obtain⟨ra,Xg,rfl⟩:=Yb hx;have hi:i<rs.length:=(Zy.mp Xg).1;have ro:=ok.rd (e:=i) (by omega);obtain⟨ta,⟨dr,er⟩,ft⟩:=(hL.at_ i ra Xg).up s1;refine⟨Y,YJ Y er T.Road.cl T.Ww Y (ZQ Y (by decide) (fun p hp=>?_))⟩;rw[Oo];have s2:=ZX.new hp (.tup [.int ((rd l i).base:Rat).num,.int ((rd l i).base:Rat).den]);refine YJ Y (s2 _ _ er) T.Road.cl T.WX Y (W9 p ta _ _ ⟨Y,Z4,ft.up s2,(Ot ro).mono (by decide),(Ou ro).mono (by decide),fun H2 q s3 fq=>?_⟩);obtain⟨acc,a1,a2,a3⟩:=(f1.up (s2.trans s3)).snoc fq (by omega);exact⟨acc,a1,a2,(s1.trans (s2.trans s3)).Zu hD _,a3⟩
  ·rintro H1 ⟨s1,f1⟩;rw[Z3,rl]at f1;have G8:=s1 _ _ ea;refine Y' Y rfl (YJ Y G8 T.Land.cl T.ZH Y ⟨la,Y,⟨_,Zw.of (s1 _ _ hL.lst)⟩,fun D2 AM=>?_⟩);refine Vi (K:=K) (a:=la) (xs:=rs.map V.ref) (fun i H'=>ZX H1 H'/\IL H' D2 ((List.range i).map fun e=>((rd l e).slope:Int))) ⟨ZX.new AM _,Z4⟩ (fun i H' _ q=>Zw.of (q.1 _ _ (s1 _ _ hL.lst))) ?_ ?_
   ·rintro i x H2 hx ⟨s2,f2⟩;obtain⟨ra,Xg,rfl⟩:=Yb hx;have hi:i<rs.length:=(Zy.mp Xg).1;obtain⟨ta,⟨dr,er⟩,ft⟩:=(hL.at_ i ra Xg).up (s1.trans s2);refine⟨Y,YJ Y er T.Road.cl T.Xl Y ⟨_,f2,by rw[Z3,Z3,Y_];exact Zl (show i<10 by omega) (by decide),s2.Zu AM _,?_⟩⟩;show upd _ _ _ _=_;rw[Z4,UI _ _ _ rfl]
   ·rintro H2 ⟨s2,f2⟩;rw[Z3,rl]at f2;have Qy:=s1.trans s2;exact Ua a D D2 l false (ZQ Y ⟨la,rs,hL.up Qy⟩ ⟨ok,f1.list.up s2,f2,HE ok,k.up Qy⟩)
theorem HD:ZL ["land","costs","road"] ["land"] (ZZ (top 40)):=YR
theorem Sa(T:Txt K mg t):Y6 P w K mg base XB 40 t.Nr t.Nq ["land"] (yo t true):=by
 have sc:=HD;refine T.QD.F.ok sc (fun vs H Q E h=>?_) (fun Yp A outer s H vs Q E hr h=>?_)
 ·obtain⟨a,l,rfl,_⟩:=h;rfl
 ·obtain⟨a,l,rfl,⟨la,rs,hL⟩,ok,k⟩:=h;obtain⟨Tu,ea⟩:=hL.obj;have r9:=ok.r9;have rl:rs.length=l.roads.length:=hL.len;refine⟨_,(Z5 (Va (i:=1) rfl sc.nd Y rfl (T8 Y rfl rfl rfl) (Yq (ZY (Z 0) rfl)) (Yt (own:=[("road",2)]) (show T_ ["land","costs","road"] (ZZ (top 40)) _ _=true by decide+kernel)) (fun _ _ _ _ _=>by exact(Zz (i:=2) sc.nd Y Y4)) (fun _ _ _ _ _=>by exact XE) (fun _ _ _ _ _=>by exact(cl T.ratio (Yg T) hr (Z6 (UK (K:=K) rfl (Z 2) rfl) (Z6 ZR Z2)))))
   (Z0 (ZN (cl T.HW (KC T) hr (Z6 (Z 0) (Z6 (Z 1) (Z6 (R5 Y sc.nd (Yq (ZY (Z 0) rfl)) (Yt (own:=[("road",2)]) (show T_ ["land","costs","road"] (ZZ (top 40)) _ _=true by decide+kernel)) (fun _ _ _ _ _=>by exact(Zz (i:=2) sc.nd Y Y4)) (fun _ _ _ _ _=>by exact XE) (fun _ _ _ _ _=>by exact(Zc YQ ZR (UK (K:=K) rfl (Z 2) rfl)))) Z2))))))),?_⟩
  refine YJ Y ea T.Land.cl T.ZH Y ⟨la,Y,⟨_,Zw.of hL.lst⟩,fun D hD=>?_⟩;refine Vi (K:=K) (a:=la) (xs:=rs.map V.ref) (fun i H'=>ZX H H'/\SJ H' D (fun e=>((rd l e).base:Rat)) i) ⟨ZX.new hD _,SJ.nil _ Z4⟩ (fun i H' _ q=>Zw.of (q.1 _ _ hL.lst)) ?_ ?_
  ·rintro i x H1 hx ⟨s1,f1⟩;obtain⟨ra,Xg,rfl⟩:=Yb hx;have hi:i<rs.length:=(Zy.mp Xg).1;obtain⟨ta,⟨dr,er⟩,ft⟩:=(hL.at_ i ra Xg).up s1;refine⟨Y,YJ Y er T.Road.cl T.Ww Y (ZQ Y (by decide) (fun p hp=>?_))⟩;rw[Oo];have s2:=ZX.new hp (.tup [.int ((rd l i).base:Rat).num,.int ((rd l i).base:Rat).den]);obtain⟨acc,a1,a2,a3⟩:=(f1.up s2).snoc (c:=p) (by show upd _ _ _ _=_;rw[Z4]) (by omega);exact⟨acc,a1,a2,(s1.trans s2).Zu hD _,a3⟩
  ·rintro H1 ⟨s1,f1⟩;rw[Z3,rl]at f1;have G8:=s1 _ _ ea;refine Y' Y rfl (YJ Y G8 T.Land.cl T.ZH Y ⟨la,Y,⟨_,Zw.of (s1 _ _ hL.lst)⟩,fun D2 AM=>?_⟩);refine Vi (K:=K) (a:=la) (xs:=rs.map V.ref) (fun i H'=>ZX H1 H'/\IL H' D2 ((List.range i).map fun e=>2*((rd l e).slope:Int))) ⟨ZX.new AM _,Z4⟩ (fun i H' _ q=>Zw.of (q.1 _ _ (s1 _ _ hL.lst))) ?_ ?_
   ·rintro i x H2 hx ⟨s2,f2⟩;obtain⟨ra,Xg,rfl⟩:=Yb hx;have hi:i<rs.length:=(Zy.mp Xg).1;have ro:=ok.rd (e:=i) (by omega);obtain⟨ta,⟨dr,er⟩,ft⟩:=(hL.at_ i ra Xg).up (s1.trans s2);refine⟨Y,YJ Y er T.Road.cl T.Xl Y (ZQ Y rfl ⟨XF (by show(2:Nat)<2^G9;exact Zl (show 2<2^2 by decide) (Tn (by decide) (by decide))) ((HF (Yx ro.s2 (show 1000<2^10 by decide))).mono (by decide)),_,f2,by rw[Z3,Z3,Y_];exact Zl (show i<10 by omega) (by decide),s2.Zu AM _,?_⟩)⟩;show upd _ _ _ _=_;rw[Z4,UI _ _ _ rfl]
   ·rintro H2 ⟨s2,f2⟩;rw[Z3,rl]at f2;have Qy:=s1.trans s2;exact Ua a D D2 l true (ZQ Y ⟨la,rs,hL.up Qy⟩ ⟨ok,f1.list.up s2,f2,Ft ok,k.up Qy⟩)
def Cb(t:Yl)(g:Road->Rat->Rat):Sp:=fun vs H Q _=>∃a b r x n,vs=[.ref a,.ref b]/\Wt t H a r/\Us n r/\Fr H b x/\Rb 40000 x/\∀H' c,ZX H H'->Fr H' c (g r x)->Q (.ref c) H'
def vn(r:Road)(x:Rat):Rat:=(r.base:Rat)+(r.slope:Rat)*x
theorem DB{n B:Nat}{r:Road}{x:Rat}(h:Us n r)(hx:Rb B x):Rb (B+21) (vn r x):=((Ot h).add ((Oq h).mul hx)).mono (by omega)
theorem KA{n B:Nat}{r:Road}{x:Rat}(h:Us n r)(hx:Rb B x):Rb (B+42) (vn r x+r.toll):=((DB h hx).add (Ou h)).mono (by omega)
theorem Qx(r:Road)(x:Rat):vn r x+r.toll=r.price false x:=by
 unfold vn Road.price Road.first Road.each;simp only[Pn,if_false];grind
theorem NP:ZL ["road","amount"] ["road","amount"] (ZZ (top 41)):=YR
theorem SM(T:Txt K mg t):Y6 P w K mg base XB 36 t.RV t.RU ["road","amount"] (Cb t vn):=by
 have sc:=NP;refine T.Tv.F.ok sc (fun vs H Q E h=>?_) (fun Yp A outer s H vs Q E hr h=>?_)
 ·obtain⟨a,b,r,x,n,rfl,_⟩:=h;rfl
 ·obtain⟨a,b,r,x,n,rfl,⟨ta,⟨dr,er⟩,ft⟩,ro,fx,bx,k⟩:=h;refine⟨_,(Z0 (ZN (cl T.plus (UJ T) hr (Z6 (cl T.ratio (Yg T) hr (Z6 (ZY (Z 0) rfl) (Z6 ZR Z2))) (Z6 (cl T.times (KQ T) hr (Z6 (cl T.ratio (Yg T) hr (Z6 (ZY (Z 0) rfl) (Z6 ZR Z2))) (Z6 (Z 1) Z2))) Z2))))),?_⟩;refine YJ Y er T.Road.cl T.Ww Y (ZQ Y (by decide) (fun p hp=>?_));rw[Oo];have s1:=ZX.new hp (.tup [.int (r.base:Rat).num,.int (r.base:Rat).den]);refine YJ Y (s1 _ _ er) T.Road.cl T.Xl Y (ZQ Y (by decide) (fun q hq=>?_));rw[Oo];have s2:=ZX.new hq (.tup [.int (r.slope:Rat).num,.int (r.slope:Rat).den]);refine Z1 Y (W9 q b _ _ ⟨Y,Z4,(fx.up s1).up s2,(Oq ro).mono (by decide),bx.mono (by decide),fun H1 c s3 fc=>?_⟩);exact W9 p c _ _ ⟨Y,Fr.up (Fr.up (show Fr _ p (r.base:Rat)from Z4) s2) s3,fc,(Ot ro).mono (by decide),((Oq ro).mul bx).mono (by decide),fun H2 d s4 fd=>k H2 d (s1.trans (s2.trans (s3.trans s4))) fd⟩
theorem HC:ZL ["road","amount"] ["road","amount"] (ZZ (top 42)):=YR
theorem R_(T:Txt K mg t):Y6 P w K mg base XB 37 t.Np t.Nn ["road","amount"] (Cb t (fun r x=>r.price false x)):=by
 have sc:=HC;refine T.QC.F.ok sc (fun vs H Q E h=>?_) (fun Yp A outer s H vs Q E hr h=>?_)
 ·obtain⟨a,b,r,x,n,rfl,_⟩:=h;rfl
 ·obtain⟨a,b,r,x,n,rfl,hR,ro,fx,bx,k⟩:=h;refine⟨_,(Z0 (ZN (cl T.plus (UJ T) hr (Z6 (cl T.Tv (SM T) hr (Z6 (Z 0) (Z6 (Z 1) Z2))) (Z6 (ZY (Z 0) rfl) Z2))))),?_⟩;refine Y' Y rfl (Ua a b r x n ⟨Y,hR,ro,fx,bx,fun H1 c s1 fc=>?_⟩);obtain⟨ta,⟨dr,er⟩,ft⟩:=hR.up s1;refine YJ Y er T.Road.cl T.WX Y (W9 c ta _ _ ⟨Y,fc,ft,(DB ro bx).mono (by decide),(Ou ro).mono (by decide),fun H2 d s2 fd=>k H2 d (s1.trans s2) ?_⟩);have fd:Fr H2 d (vn r x+r.toll):=fd;rw[Qx]at fd;exact fd
structure VB(t:Yl)(H:Hp)(a c:Addr)(l:Land)(f:RhRoads.Flow):Prop where
 land:WI t H a l
 ok:Zh l
 fr:A7 H c f
 len:f.length=l.roads.length
 bd:∀e,Rb 31000 (on f e)
theorem VB.up{t:Yl}{H H':Hp}{a c:Addr}{l:Land}{f:RhRoads.Flow}(h:VB t H a c l f)(s:ZX H H'):VB t H' a c l f:=⟨h.land.up s,h.ok,h.fr.up s,h.len,h.bd⟩
def vm(t:Yl):Sp:=fun vs H Q _=>∃a c l f,vs=[.ref a,.ref c]/\VB t H a c l f/\∀H' d,ZX H H'->Fr H' d (total l f)->Rb 600000 (total l f)->Q (.ref d) H'
theorem ym:ZL ["land","flow","total","road","amount"] ["land","flow"] (ZZ (top 43)):=YR
theorem Om(T:Txt K mg t):Y6 P w K mg base XB 37 t.Cr t.Cq ["land","flow"] (vm t):=by
 have sc:=ym;refine T.spent.F.ok sc (fun vs H Q E h=>?_) (fun Yp A outer s H vs Q E hr h=>?_)
 ·obtain⟨a,c,l,f,rfl,_⟩:=h;rfl
 ·obtain⟨a,c,l,f,rfl,FA,k⟩:=h;obtain⟨la,rs,hL⟩:=FA.land;obtain⟨Tu,ea⟩:=hL.obj;have ok:=FA.ok;have r9:=ok.r9;have rl:rs.length=l.roads.length:=hL.len;obtain⟨cs,J,h2,h3⟩:=FA.fr;have Fw:cs.length=l.roads.length:=by rw[h2];exact FA.len
  refine⟨_,(Z5 (ZS (i:=2) sc.nd Y Y4 (cl T.ratio (Yg T) hr (Z6 ZR (Z6 ZR Z2))))
   (Z5 (Yu Zi Y (PX Y T.KU (Z6 (ZY (Z 0) rfl) (Z6 (Z 1) Z2))) (VQ Y (YU (Zz (i:=3) sc.nd Y Y4) (YU (Zz (i:=4) sc.nd Y Y4) WH))) (Z0 (ZS (i:=2) sc.nd Y Y4 (cl T.plus (UJ T) hr (Z6 (Z 2) (Z6 (cl T.times (KQ T) hr (Z6 (Z 4) (Z6 (cl T.Tv (SM T) hr (Z6 (Z 3) (Z6 (Z 4) Z2))) Z2))) Z2))))))
   (Z0 (ZN (Z 2))))),?_⟩
  refine⟨0,1,Y,by decide,fun p hp=>?_⟩;rw[Be];have s0:=ZX.new hp (.tup [.int (0:Rat).num,.int (0:Rat).den]);refine YJ Y (s0 _ _ ea) T.Land.cl T.ZH Y (Z1 Y (V7 ⟨Y,Zw.of (s0 _ _ hL.lst),Zw.of (s0 _ _ J),?_⟩));refine Mh (K:=K) (xs:=rs.map V.ref) (ys:=cs.map V.ref) (by rw[Z3,Z3,rl,Fw]) (fun i σ H'=>ZX H H'/\∃c3 c4 d,σ=[some (.ref a),some (.ref c),some (.ref d),c3,c4]/\Fr H' d (sm i (fun e=>on f e*vn (rd l e) (on f e)))/\Rb (62022*i+1) (sm i (fun e=>on f e*vn (rd l e) (on f e))))
   ⟨s0,none,none,p,Y,Z4,Rb.ofInt (x:=0) (Bd.zero _) (by omega)⟩ (fun i σ H' _ q=>⟨Zw.of (q.1 _ _ hL.lst),Zw.of (q.1 _ _ J)⟩) ?_ ?_
  ·rintro i x y σ H1 H2 hx hy ⟨s1,c3,c4,d,rfl,fd,bd⟩ s2;obtain⟨ra,Xg,rfl⟩:=Yb hx;obtain⟨xa,IY,rfl⟩:=Yb hy;have hi:i<l.roads.length:=by rw[<-rl];exact(Zy.mp Xg).1
   have s3:=s1.trans s2;have ro:=ok.rd hi;have fx:=(h3 i xa IY).up s3;have bx:Rb 31000 (f.getD i 0):=FA.bd i;refine Y' Y rfl (Y' Y rfl ⟨ra,xa,rd l i,Yd ⟨Y,(hL.at_ i ra Xg).up s3,ro,fx,bx.mono (by decide),fun H3 e s4 fe=>?_⟩⟩);have bu:=DB ro bx;refine⟨xa,e,Yd ⟨Y,fx.up s4,fe,bx.mono (by decide),bu.mono (by decide),fun H4 g s5 fg=>?_⟩⟩;have bm:=bx.mul bu;refine⟨d,g,Yd ⟨Y,(fd.up s2).up (s4.trans s5),fg,bd.mono (by show 62022*i+1<=33554432;omega),bm.mono (by decide),fun H5 z s6 fz=>?_⟩⟩;exact⟨s3.trans (s4.trans (s5.trans s6)),Yd ⟨z,Y,fz,(bd.add bm).mono (by omega)⟩⟩
  ·rintro σ H1 ⟨s1,c3,c4,d,rfl,fd,bd⟩;rw[Z3,rl]at fd bd;have e:total l f=sm l.roads.length (fun e=>on f e*vn (rd l e) (on f e)):=F5 l f;rw[<-e]at fd bd;exact Z1 Y (k H1 d s1 fd (bd.mono (by omega)))
end
end Rw
namespace Rw
open PySem PySem.Spec PyProof.Rows L2 RR
open RhRoads (Road Land settled on total costTo)
open RoadSpec (timeOf)
structure CF(H:Hp)(d:Addr)(n:Nat)(Ze:Nat->Option Rat)(B:Nat):Prop where
 ex:∃g,DI H d n g/\(∀v,Ze v=none->g v=none)/\∀v q,Ze v=some q->∃b,g v=some (.ref b)/\Fr H b q
 bd:∀v q,Ze v=some q->Rb B q
theorem CF.up{H H':Hp}{d:Addr}{n:Nat}{Ze:Nat->Option Rat}{B:Nat}(h:CF H d n Ze B)(s:ZX H H'):CF H' d n Ze B:=by
 obtain⟨g,J,h2,h3⟩:=h.ex;exact⟨⟨g,J.up s,h2,fun v q e=>by
  obtain⟨b,b1,b2⟩:=h3 v q e;exact⟨b,b1,b2.up s⟩⟩,h.bd⟩
theorem CF.mono{H:Hp}{d:Addr}{n:Nat}{Ze:Nat->Option Rat}{B C:Nat}(h:CF H d n Ze B)(k:B<=C):CF H d n Ze C:=⟨h.ex,fun v q e=>(h.bd v q e).mono k⟩
theorem CF.has{H:Hp}{d:Addr}{n:Nat}{Ze:Nat->Option Rat}{B:Nat}(h:CF H d n Ze B)(v:Nat):∃o,RL H d (.int v) o/\o.isSome=(Ze v).isSome:=by
 obtain⟨g,J,h2,h3⟩:=h.ex;refine⟨g v,J.get v,?_⟩;cases q:Ze v with
 |none=>
  rw[h2 v q];rfl
 |some c=>
  obtain⟨b,b1,_⟩:=h3 v c q;rw[b1];rfl
theorem CF.get{H:Hp}{d:Addr}{n:Nat}{Ze:Nat->Option Rat}{B:Nat}(h:CF H d n Ze B){v:Nat}{q:Rat}(e:Ze v=some q):∃b,RL H d (.int v) (some (.ref b))/\Fr H b q:=by
 obtain⟨g,J,h2,h3⟩:=h.ex;obtain⟨b,b1,b2⟩:=h3 v q e;exact⟨b,J.FF b1,b2⟩
theorem Ca{H:Hp}{b D:Addr}{o u:HO}{Zp:List (Key×V)}(h:H b=some o)(hD:H D=some (.dK Zp))(n:∀Zp,o≠.dK Zp):upd H D u b=some o:=by
 rw[ZV (fun q=>by rw[q,hD]at h;exact n _ (Y8 h).symm)];exact h
theorem CF.put{H:Hp}{d b:Addr}{n:Nat}{Ze:Nat->Option Rat}{B:Nat}{q:Rat}(h:CF H d n Ze B)(hn:n<=100){v:Nat}(hv:v<n)(fb:Fr H b q)(bq:Rb B q):∃o,GF H d (.int v) (.ref b) (upd H d o)/\CF (upd H d o) d n (RR.put Ze v q) B:=by
 obtain⟨g,J,h2,h3⟩:=h.ex;obtain⟨Zp,ed⟩:=J.mW;obtain⟨o,p1,p2,p3⟩:=J.put hn hv (.ref b);refine⟨o,p1,⟨_,p3 _ Z4,fun u e=>?_,fun u c e=>?_⟩,fun u c e=>?_⟩
 ·unfold RR.put at e;by_cases z:u=v;·rw[Z7 z]at e;cases e
  ·rw[Z8 z]at e;show(if u=v then _ else g u)=none;rw[Z8 z];exact h2 u e
 ·unfold RR.put at e;show∃b',(if u=v then some (V.ref b)else g u)=some (.ref b')/\_;by_cases z:u=v
  ·rw[Z7 z]at e⊢;cases e;exact⟨b,Y,Ca fb ed fun kv w=>by cases w⟩
  ·rw[Z8 z]at e⊢;obtain⟨b',b1,b2⟩:=h3 u c e;exact⟨b',b1,Ca b2 ed fun kv w=>by cases w⟩
 ·unfold RR.put at e;by_cases z:u=v
  ·rw[Z7 z]at e;cases e;exact bq
  ·rw[Z8 z]at e;exact h.bd u c e
section
variable{P:Program}{w:World}{K:W.Frag}{mg:Str->Option Value}{base:Heap}{t:Yl}
def vk(t:Yl):Sp:=fun vs H Q _=>∃a c l f,vs=[.ref a,.ref c]/\VB t H a c l f/\(∀e,e<l.roads.length->0<=on f e)/\∀H' d,ZX H H'->CF H' d l.places (costTo l false f) 3000000->Q (.ref d) H'
theorem Ol:ZL ["land","flow","costs","changed","road","amount","reach"] ["land","flow"] (ZZ (top 44)):=YR
theorem WG(T:Txt K mg t):Y6 P w K mg base XB 38 t.SV t.SU ["land","flow"] (vk t):=by
 have sc:=Ol;refine T.Wy.F.ok sc (fun vs H Q E h=>?_) (fun Yp A outer s H vs Q E hr h=>?_)
 ·obtain⟨a,c,l,f,rfl,_⟩:=h;rfl
 ·have hu:=Qr hr;obtain⟨a,c,l,f,rfl,FA,nn,k⟩:=h;obtain⟨la,rs,hL⟩:=FA.land;obtain⟨Tu,ea⟩:=hL.obj;have ok:=FA.ok;have r9:=ok.r9;have p6:=ok.p6;have nk:=U_ ok false;have rl:rs.length=l.roads.length:=hL.len;obtain⟨cs,J,h2,h3⟩:=FA.fr;have Fw:cs.length=l.roads.length:=by rw[h2];exact FA.len
  refine⟨_,(Z5 (ZS (i:=2) sc.nd Y Y4 (CW (GA (ZY (Z 0) rfl) (cl T.ratio (Yg T) hr (Z6 ZR (Z6 ZR Z2))) CY) rfl rfl (by simp) (by decide)))
   (Z5 (ZS (i:=3) sc.nd Y Y4 JU)
   (Z5 (Vb Zi (TF (Z 3)) (Z5 (ZS (i:=3) sc.nd Y Y4 JU)
   (Z0 (Yu Zi Y (PX Y T.KU (Z6 (ZY (Z 0) rfl) (Z6 (Z 1) Z2))) (VQ Y (YU (Zz (i:=4) sc.nd Y Y4) (YU (Zz (i:=5) sc.nd Y Y4) WH))) (Z5 (YT (PW.pt (UX (ZG UW (ZY (Z 4) rfl) ZR (Zr _)) (Vt (U3 (V1 hu (ZY (Z 4) rfl) (Z 2)))))) (Z0 V3) Zs)
   (Z5 (ZS (i:=6) sc.nd Y Y4 (cl T.plus (UJ T) hr (Z6 (Wq hu (Z 2) (ZY (Z 4) rfl) (fun _ _=>rfl)) (Z6 (cl T.QC (R_ T) hr (Z6 (Z 4) (Z6 (Z 5) Z2))) Z2))))
   (Z0 (YT (PW.pt (UX (U3 (V1 hu (ZY (Z 4) rfl) (Z 2))) (Vt (TF (cl T.less (HQ T) hr (Z6 (Z 6) (Z6 (Wq hu (Z 2) (ZY (Z 4) rfl) (fun _ _=>rfl)) Z2))))))) (Z5 (O9 hu (Z 2) (ZY (Z 4) rfl) (Z 6) rfl)
   (Z0 (ZS (i:=3) sc.nd Y Y4 JU))) Zs))))))))
   (Z0 (ZN (Z 2)))))),?_⟩
  refine fun d hd=>YJ Y (KS ea hd) T.Land.cl T.Xj Y ⟨0,1,Y,by decide,fun p hp=>?_⟩;rw[Be];have gw:p≠d:=fun q=>by rw[q,Z4]at hp;cases hp
  have jv:H p=none:=(ZX.new hd (.dK [])).free hp;refine⟨by rw[ZV (fun q=>gw q.symm),Z4],[(Sum.inl (l.source:Int),.ref p)],Y,(by decide:1<=15),?_⟩;generalize ju:upd (upd (upd H d (.dK [])) p (.tup [.int (0:Rat).num,.int (0:Rat).den])) d (.dK (Rr [] [(Sum.inl (l.source:Int),.ref p)]))=H0 at*;have s0:ZX H H0:=by
   rw[<-ju];exact((ZX.new hd _).Zu jv _).Zu hd _
  have C0:CF H0 d l.places (RR.start l.source) 1:=by
   refine⟨⟨fun v=>if v=l.source then some (.ref p)else none,⟨[(Sum.inl (l.source:Int),.ref p)],by rw[<-ju,Z4];rfl,by simp,fun kk hk=>?_,fun v=>?_⟩,fun v e=>?_,fun v q e=>?_⟩,fun v q e=>?_⟩
   ·have hk:kk∈[(Sum.inl (l.source:Int):Key)]:=hk;rw[Zm]at hk;exact⟨l.source,ok.s,hk⟩
   ·show _=if v=l.source then some (V.ref p)else none
    by_cases q:v=l.source;·rw[Z7 q,W7 (by rw[q])]
    ·rw[Z8 q,W6 (fun z=>q (by injection z with z;omega))];rfl
   ·unfold RR.start at e;by_cases q:v=l.source;·rw[Z7 q]at e;cases e
    ·exact Z8 q
   ·unfold RR.start at e;by_cases z:v=l.source
    ·rw[Z7 z]at e;cases e;refine⟨p,Z7 z,?_⟩;show H0 p=_;rw[<-ju,ZV gw,Z4]
    ·rw[Z8 z]at e;cases e
   ·unfold RR.start at e;by_cases z:v=l.source
    ·rw[Z7 z]at e;cases e;exact Rb.ofInt (x:=0) (Bd.zero _) (by omega)
    ·rw[Z8 z]at e;cases e
  have bX:∀e,e<(Za l false).m->(Za l false).op e=true->0<=(Za l false).price (on f) e:=LI ok false nn;let N:=Za l false
  let wt:=N.price (on f)
  let Z_:Nat->Nat->Bool->Hp->Prop:=fun r i chg H'=>ZX H H'/\∃Ze,CF H' d l.places Ze (31043*(9*r+i)+1)/\BF N wt Ze r i/\(chg=false->BC N wt Ze i)/\(chg=true->r<l.places)
  refine⟨fun m σ H'=>(∃chg c4 c5 c6 r,σ=[some (.ref a),some (.ref c),some (.ref d),some (.bl chg),c4,c5,c6]/\m=(if chg=true then l.places+1-r else 0)/\(chg=true->r<=l.places)/\r<=7/\ZX H H'/\∃Ze,CF H' d l.places Ze (31043*(9*r)+1)/\BF N wt Ze r 0/\(chg=false->BC N wt Ze N.m)),⟨_,true,none,none,none,0,Y,Y,fun _=>Zt _,Zt _,s0,_,C0,BF.start N wt,fun z=>by cases z⟩,?_⟩;rintro m σ H1 ⟨chg,c4,c5,c6,r,rfl,rfl,KL,r7,s1,Ze,C1,B,hc⟩;cases chg with
  |false=>
   refine Z1 Y ⟨false,Y,YA (Z1 Y (k H1 d s1 ?_))⟩;have e:Ze=costTo l false f:=by
    funext v;have key:∀c,Ze v=some c↔costTo l false f v=some c:=fun c=>(B.dist (hc Y) v c).trans (T6 ok false nn).symm;cases q:Ze v with
    |some x=>exact ((key x).mp q).symm
    |none=>
     cases q2:costTo l false f v with
     |none=>rfl
     |some x=>rw [(key x).mpr q2]at q;cases q
   rw[<-e];exact C1.mono (by omega)
  |true=>
   refine Z1 Y ⟨true,Y,YW ?_⟩;have cH:=KL rfl;refine⟨fun XC HR=>∃m',m'<(if true=true then l.places+1-r else 0)/\(∃chg c4 c5 c6 r,XC=[some (.ref a),some (.ref c),some (.ref d),some (.bl chg),c4,c5,c6]/\m'=(if chg=true then l.places+1-r else 0)/\(chg=true->r<=l.places)/\r<=7/\ZX H HR/\∃Ze,CF HR d l.places Ze (31043*(9*r)+1)/\BF N wt Ze r 0/\(chg=false->BC N wt Ze N.m)),fun _ _ h=>h,?_⟩;refine YJ Y (s1 _ _ ea) T.Land.cl T.ZH Y (Z1 Y (V7 ⟨Y,Zw.of (s1 _ _ hL.lst),Zw.of (s1 _ _ J),?_⟩));refine Mh (K:=K) (xs:=rs.map V.ref) (ys:=cs.map V.ref) (by rw[Z3,Z3,rl,Fw]) (fun i σ H'=>(∃chg c4 c5 c6,σ=[some (.ref a),some (.ref c),some (.ref d),some (.bl chg),c4,c5,c6]/\Z_ r i chg H')) ⟨false,Xh ⟨Y,s1,Ze,C1,B,fun _=>BC.zero,fun z=>by cases z⟩⟩ (fun i σ H' _ q=>by
    obtain⟨_,_,_,_,_,o,_⟩:=q;exact⟨Zw.of (o _ _ hL.lst),Zw.of (o _ _ J)⟩) ?_ ?_
   ·rintro i x y σ H2 H3 hx hy ⟨chg,c4,c5,c6,rfl,s2,Ze,C2,B,hc,hn⟩ s3;obtain⟨ra,Xg,rfl⟩:=Yb hx;obtain⟨xa,IY,rfl⟩:=Yb hy;have hi:i<l.roads.length:=by rw[<-rl];exact(Zy.mp Xg).1
    have s4:=s2.trans s3;have C3:=C2.up s3;have ro:=ok.rd hi;have hR:=(hL.at_ i ra Xg).up s4;obtain⟨ta,⟨dr,er⟩,ft⟩:=hR;have fx:=(h3 i xa IY).up s4;have bx:Rb 31000 (f.getD i 0):=FA.bd i;have Bi:31043*(9*r+i)+1<=31043*(9*r+(i+1))+1:=by omega
    refine YJ Y er T.Road.cl T.XN Y ⟨Y,Z1 Y ?_⟩;rw[IZ];cases hs:(rd l i).shut with
    |true=>
     have ho:N.op i=false:=by show(!(rd l i).shut)=false;rw[hs];rfl
     exact YW (YW ⟨chg,Xh ⟨Y,s4,Ze,C3.mono Bi,B.skip (.inl ho),fun z=>(hc z).skip (.inl ho),hn⟩⟩)
    |false=>
     have ho:N.op i=true:=by show(!(rd l i).shut)=true;rw[hs];rfl
     obtain⟨o1,g1,g2⟩:=C3.has (rd l i).from_;refine YA (YJ Y er T.Road.cl T.X5 Y (Z1 Y ⟨d,Z1 Y ⟨g1,Z1 Y ?_⟩⟩));rw[g2];cases q1:Ze (rd l i).from_ with
     |none=>exact YW ⟨chg,Xh ⟨Y,s4,Ze,C3.mono Bi,B.skip (.inr q1),fun z=>(hc z).skip (.inr q1),hn⟩⟩
     |some ca=>
      obtain⟨ba,jt,jq⟩:=C3.get q1;have mJ:=C3.bd _ _ q1;have big:31043*(9*r+i)+1<=G9:=by show 31043*(9*r+i)+1<=33554432;omega
      refine YA (Y' Y rfl (S7 er T.Road.cl T.X5 Y ⟨d,Z1 Y ⟨jt,Y' Y rfl ⟨ra,xa,rd l i,ZQ Y ⟨ta,⟨dr,er⟩,ft⟩ ⟨ro,fx,bx.mono (by decide),fun H4 pb s5 fp=>?_⟩⟩⟩⟩));have bp:Rb 31042 ((rd l i).price false (f.getD i 0)):=by
       rw[<-Qx];exact KA ro bx
      refine⟨ba,pb,ZQ Y (jq.up s5) ⟨fp,mJ.mono big,bp.mono (by decide),fun H5 rb s6 fr=>?_⟩⟩;have A6:=s5.trans s6;have fr:Fr H5 rb (ca+wt i):=fr;have br:Rb (31043*(9*r+(i+1))+1) (ca+wt i):=(mJ.add bp).mono (by omega);have C5:=(C3.up A6).mono Bi;have mI:=s4.trans A6;have mH:=A6 _ _ er;obtain⟨o2,g3,g4⟩:=C5.has (rd l i).to_;refine YJ Y mH T.Road.cl T.Ys Y (Z1 Y ⟨d,Z1 Y ⟨g3,Z1 Y ?_⟩⟩);rw[g4];have hv:(rd l i).to_<l.places:=ro.t;have yt:(∀x,Ze (rd l i).to_=some x->ca+wt i<x)->∃o,GF H5 d (.int (rd l i).to_) (.ref rb) (upd H5 d o)/\Z_ r (i+1) true (upd H5 d o):=by
       intro hm;obtain⟨o,p1,p2⟩:=C5.put (by omega) hv fr br;refine⟨o,p1,mI.Zu hd _,_,p2,B.put (show i<N.m from hi) ho q1 hm,fun z=>(by cases z),fun _=>?_⟩;by_cases q:r<l.places;·exact q
       ·obtain⟨x,x1,x2⟩:=B.done nk bX (show l.places<=r by omega) (show i<N.m from hi) ho q1;have:=hm x x1;have x2:x<=ca+wt i:=x2;exact absurd this (Rat.not_lt.mpr x2)
      cases q2:Ze (rd l i).to_ with
      |none=>
       obtain⟨o,p1,p2⟩:=yt fun x hx=>by rw[q2]at hx;cases hx
       exact YW (YW (Y' Y rfl (YJ Y mH T.Road.cl T.Ys Y ⟨d,Z1 Y ⟨p1,true,Xh ⟨Y,p2⟩⟩⟩)))
      |some cb=>
       obtain⟨bb,jo,jn⟩:=C5.get q2;have bW:=C5.bd _ _ q2;refine YA (Y' Y rfl (YJ Y mH T.Road.cl T.Ys Y ⟨d,Z1 Y ⟨jo,rb,bb,ZQ Y fr ⟨jn,br.mono (by show 31043*(9*r+(i+1))+1<=33554432;omega),bW.mono (by show 31043*(9*r+(i+1))+1<=33554432;omega),Z1 Y (Wb (fun cc=>?_) (fun cc=>?_))⟩⟩⟩))
       ·obtain⟨o,p1,p2⟩:=yt fun x hx=>by rw[q2]at hx;cases hx;exact ZD cc
        exact Y' Y rfl (YJ Y mH T.Road.cl T.Ys Y ⟨d,Z1 Y ⟨p1,true,Xh ⟨Y,p2⟩⟩⟩)
       ·have cc:¬ca+wt i<cb:=fun q=>cc (ZP q);have le:cb<=ca+wt i:=Rat.not_lt.mp cc;exact⟨chg,Xh ⟨Y,mI,Ze,C5,B.keep q1 q2 le,fun z=>(hc z).keep q1 q2 le,hn⟩⟩
   ·rintro σ H2 ⟨chg,c4,c5,c6,rfl,s2,Ze,C2,B,hc,hn⟩;rw[Z3,rl]at C2 B hc;refine⟨_,?_,chg,Xh ⟨r+1,Y,Y,fun z=>by have:=hn z;omega,?_,s2,Ze,C2.mono (by omega),BF.next (N:=N) B,hc⟩⟩
    ·rw[Z7 rfl];cases chg with
     |true=>rw [Z7 rfl];have:=hn rfl;omega
     |false=>rw [Z8 (by simp)];omega
    ·omega
def yj(H:Hp)(l:Land)(Q:VK):Prop:=(∀H',ZX H H'->timeOf l=none->Q .Xf H')/\∀H' c q,ZX H H'->Fr H' c q->timeOf l=some q->Rb 3000000 q->Q (.ref c) H'
def Dz(t:Yl):Sp:=fun vs H Q _=>∃a l,vs=[.ref a]/\WI t H a l/\Zh l/\yj H l Q
theorem Oj{l:Land}(ok:Zh l){all:Bool}{f:RhRoads.Flow}(h:settled l all=some f):∀e,e<l.roads.length->0<=on f e:=fun e he=>(YS ok h).2.1.nn e he
theorem Qw{l:Land}(ok:Zh l){f:RhRoads.Flow}(h:settled l false=some f):∃q,costTo l false f l.goal=some q/\timeOf l=some q:=by
 obtain⟨q,hq⟩:=WA ok false (Oj ok h) ((YS ok h).2.reach (U_ ok false));refine⟨q,hq,?_⟩;unfold timeOf;rw[h];exact hq
theorem HB:ZL ["land","flow"] ["land"] (ZZ (top 45)):=YR
theorem UH(T:Txt K mg t):Y6 P w K mg base XB 41 t.Nm t.Nl ["land"] (Dz t):=by
 have sc:=HB;refine T.SO.F.ok sc (fun vs H Q E h=>?_) (fun Yp A outer s H vs Q E hr h=>?_)
 ·obtain⟨a,l,rfl,_⟩:=h;rfl
 ·have hu:=Qr hr;obtain⟨a,l,rfl,hL,ok,kn,k⟩:=h;refine⟨_,(Z5 (ZS (i:=1) sc.nd Y Y4 (cl T.Xm (XZ T) hr (Z6 (Z 0) Z2)))
   (Z5 (YT (ZG U2 (Z 1) XH (Zr _)) (Z0 (ZN XH)) Zs)
   (Z0 (ZN (Wq hu (cl T.Wy (WG T) hr (Z6 (Z 0) (Z6 (Z 1) Z2))) (ZY (Z 0) rfl) (fun _ _=>rfl)))))),?_⟩
  refine Z1 Y (Xr a l ⟨Y,hL,ok,fun H1 s1 e _=>?_,fun H1 c f s1 hf e bf=>?_⟩)
  ·refine Z1 Y ⟨Y,Z1 Y (YW (kn H1 s1 ?_))⟩;unfold timeOf;rw[e];rfl
  ·refine Z1 Y ⟨Y,Z1 Y (YA ?_)⟩;have FA:VB t H1 a c l f:=⟨hL.up s1,ok,hf,(YS ok e).1,bf⟩;refine Y' Y rfl (W9 a c l f ⟨Y,FA,Oj ok e,fun H2 d s2 C=>?_⟩);obtain⟨la,rs,ES⟩:=hL.up (s1.trans s2);obtain⟨Tu,ea⟩:=ES.obj;obtain⟨q,hq,ht⟩:=Qw ok e;obtain⟨b,b1,b2⟩:=C.get hq;exact YJ Y ea T.Land.cl T.WW Y (Xr d _ ⟨Y,b1,k H2 b q (s1.trans s2) b2 ht (C.bd _ _ hq)⟩)
def Fs(t:Yl):Sp:=fun vs H Q _=>∃a c l f,vs=[.ref a,.ref c]/\VB t H a c l f/\∀H' d,ZX H H'->A7 H' d ((List.range l.roads.length).map fun e=>((rd l e).slope:Rat)*on f e)->Q (.ref d) H'
theorem Ke:ZL ["land","best","road","amount"] ["land","best"] (ZZ (top 46)):=YR
theorem Kd(T:Txt K mg t):Y6 P w K mg base XB 36 t.OU t.OT ["land","best"] (Fs t):=by
 have sc:=Ke;refine T.K4.F.ok sc (fun vs H Q E h=>?_) (fun Yp A outer s H vs Q E hr h=>?_)
 ·obtain⟨a,c,l,f,rfl,_⟩:=h;rfl
 ·obtain⟨a,c,l,f,rfl,FA,k⟩:=h;obtain⟨la,rs,hL⟩:=FA.land;obtain⟨Tu,ea⟩:=hL.obj;have ok:=FA.ok;have r9:=ok.r9;have rl:rs.length=l.roads.length:=hL.len;obtain⟨cs,J,h2,h3⟩:=FA.fr;have Fw:cs.length=l.roads.length:=by rw[h2];exact FA.len
  refine⟨_,(Z0 (ZN (R5 Y sc.nd (PX Y T.KU (Z6 (ZY (Z 0) rfl) (Z6 (Z 1) Z2))) (Yt (own:=[("road",2),("amount",3)]) (show T_ ["land","best","road","amount"] (ZZ (top 46)) _ _=true by decide+kernel)) (fun _ _ _ _ _=>by exact(Py (K:=K) (i:=2) (j:=3) rfl rfl sc.nd Y rfl Y4 Y4)) (fun _ _ _ _ _=>by exact XE) (fun _ _ _ _ _=>by exact(cl T.times (KQ T) hr (Z6 (cl T.ratio (Yg T) hr (Z6 (UK (K:=K) rfl (Z 2) rfl) (Z6 ZR Z2))) (Z6 (Z 3) Z2))))))),?_⟩;refine YJ Y ea T.Land.cl T.ZH Y (Z1 Y (V7 ⟨Y,Zw.of hL.lst,Zw.of J,fun D hD=>?_⟩));refine DQ (K:=K) (xs:=rs.map V.ref) (ys:=cs.map V.ref) (by rw[Z3,Z3,rl,Fw]) (fun i H'=>ZX H H'/\SJ H' D (fun e=>((rd l e).slope:Rat)*on f e) i) ⟨ZX.new hD _,SJ.nil _ Z4⟩ (fun i H' _ q=>⟨Zw.of (q.1 _ _ hL.lst),Zw.of (q.1 _ _ J)⟩) ?_ ?_
  ·rintro i x y H1 H2 hx hy ⟨s1,f1⟩ s2;obtain⟨ra,Xg,rfl⟩:=Yb hx;obtain⟨xa,IY,rfl⟩:=Yb hy;have hi:i<l.roads.length:=by rw[<-rl];exact(Zy.mp Xg).1
   have s3:=s1.trans s2;have ro:=ok.rd hi;obtain⟨ta,⟨dr,er⟩,ft⟩:=(hL.at_ i ra Xg).up s3;have fx:=(h3 i xa IY).up s3;have bx:Rb 31000 (f.getD i 0):=FA.bd i;refine⟨Y,YJ Y er T.Road.cl T.Xl Y (ZQ Y (by decide) (fun p hp=>?_))⟩;rw[Oo];have s4:=ZX.new hp (.tup [.int ((rd l i).slope:Rat).num,.int ((rd l i).slope:Rat).den]);refine Z1 Y (W9 p xa _ _ ⟨Y,Z4,fx.up s4,(Oq ro).mono (by decide),bx.mono (by decide),fun H3 q s5 fq=>?_⟩);obtain⟨acc,a1,a2,a3⟩:=((f1.up s2).up (s4.trans s5)).snoc fq (by omega);exact⟨acc,a1,a2,(s3.trans (s4.trans s5)).Zu hD _,a3⟩
  ·rintro H1 ⟨s1,f1⟩;rw[Z3,rl]at f1;exact k H1 D s1 f1.list
def isBetter(l:Land)(c:Rat)(e:Nat):Bool:=match timeOf (RoadSpec.one l e fun(x:Road)=>{x with shut:=true})with
 |some y=>decide (y<c)
 |none=>false
def yi(t:Yl):Sp:=fun vs H Q _=>∃a b l c,vs=[.ref a,.ref b]/\WI t H a l/\Zh l/\Fr H b c/\Rb 3000000 c/\∀H' d,ZX H H'->NL H' d ((List.range l.roads.length).filter (isBetter l c))->Q (.ref d) H'
theorem Kz:ZL ["land","cost","numbers","number","other"] ["land","cost"] (ZZ (top 47)):=YR
theorem Ky(T:Txt K mg t):Y6 P w K mg base XB 42 t.Qh t.Qg ["land","cost"] (yi t):=by
 have sc:=Kz;refine T.MQ.F.ok sc (fun vs H Q E h=>?_) (fun Yp A outer s H vs Q E hr h=>?_)
 ·obtain⟨a,b,l,c,rfl,_⟩:=h;rfl
 ·obtain⟨a,b,l,c,rfl,⟨la,rs,hL⟩,ok,fc,bc,k⟩:=h;obtain⟨Tu,ea⟩:=hL.obj;have r9:=ok.r9;have rl:rs.length=l.roads.length:=hL.len;refine⟨_,(Z5 (ZS (i:=2) sc.nd Y Y4 (Zv Z2))
   (Z5 (Yu Zi Y (V2 Y T.TK (Z6 (YN Zd (by rfl) T.Wk YM (Z6 (ZY (Z 0) rfl) Z2)) Z2)) (Zz (i:=3) sc.nd Y Y4) (Z5 (ZS (i:=4) sc.nd Y Y4 (cl T.SO (UH T) hr (Z6 (cl T.Sl (RN T) hr (Z6 (Z 0) (Z6 (Z 3) Z2))) Z2)))
   (Z0 (YT (PW.pt (P7 (ZG Mp (Z 4) XH (Zr _)) (QP (TF (cl T.less (HQ T) hr (Z6 (Z 4) (Z6 (Z 1) Z2))))))) (Z0 (Xe (UU X9 WN WC W8 (Z 2) (Z6 (Z 3) Z2)))) Zs))))
   (Z0 (ZN (Z 2))))),?_⟩
  refine⟨Zt _,fun D hD=>?_⟩;have s0:=ZX.new hD (.lst []);refine YJ Y (s0 _ _ ea) T.Land.cl T.ZH Y (ZQ Y (.inl (Zw.of (s0 _ _ hL.lst))) ⟨(l.roads.length:Int),by rw[Z3,rl],by omega,by omega,?_⟩);refine Ui (n:=l.roads.length) (fun i σ H'=>(∃c3 c4,σ=[some (.ref a),some (.ref b),some (.ref D),c3,c4])/\ZX H H'/\NL H' D ((List.range i).filter (isBetter l c))) ⟨Xr none none Y,s0,Z4⟩ ?_ ?_
  ·rintro i σ H1 hi ⟨⟨c3,c4,rfl⟩,s1,d1⟩;refine Y' Y rfl (XR a l i ⟨Y,⟨la,rs,hL.up s1⟩,r9,hi,fun H2 b2 s2 ud=>?_⟩);have bV:=CI ok i;have gv:isBetter l c i=false->∀H3,ZX H2 H3->NL H3 D ((List.range (i+1)).filter (isBetter l c)):=fun q H3 s3=>by
    show H3 D=_;rw[WD,Vd,YD,Z8 (by rw[q];simp)];simp only[List.filter_nil,Xw];exact s3 _ _ (s2 _ _ d1)
   refine Xr b2 _ ⟨Y,ud,bV,fun H3 s3 e=>?_,fun H3 bU q s3 fq e bq=>?_⟩
   ·refine Z1 Y ⟨Y,Z1 Y (YA (YA ⟨Yd Y,s1.trans (s2.trans s3),gv ?_ H3 s3⟩))⟩;unfold isBetter;rw[e]
   ·refine Z1 Y ⟨Y,Z1 Y (YW ?_)⟩;have rF:=s1.trans (s2.trans s3);refine Y' Y rfl (W9 bU b q c ⟨Y,fq,fc.up rF,bq.mono (by decide),bc.mono (by decide),Z1 Y (Wb (fun cc=>?_) (fun cc=>?_))⟩)
    ·have yes:isBetter l c i=true:=by
      unfold isBetter;rw[e];exact cc
     have d3:=s3 _ _ (s2 _ _ d1);refine Z1 Y ⟨.inl ⟨Y,_,Zw.of d3⟩,Z1 Y (XR D _ _ ⟨Y,Y,d3,?_,Yd Y,rF.Zu hD _,?_⟩)⟩
     ·rw[Z3];have:=Wg (isBetter l c) (List.range i);rw[Y_]at this;exact Yx this (Zl (show i<10 by omega) (by decide))
     ·show upd _ _ _ _=_;rw[Z4,Sg,WD,Vd,YD,Z7 yes];rfl
    ·refine⟨Yd Y,rF,gv ?_ H3 s3⟩;unfold isBetter;rw[e];exact ZC fun z=>cc (ZP z)
  ·rintro σ H1 ⟨⟨c3,c4,rfl⟩,s1,d1⟩;exact Z1 Y (k H1 D s1 d1)
end
end Rw
namespace Rw
open PySem PySem.Spec PyProof.Rows L2 RR
open RhRoads (Road Land settled on total costTo wrong sumAt due)
def rE:Option Nat->V
 |some i=>.int (i:Nat)
 |none=>.Xf
theorem B_{K:W.Frag}{H:Hp}{a:Addr}{q:Rat}(h:Fr H a q):Dp K H (.ref a) (.tuple [.int q.num,.int q.den]):=.tup (U4.of h) (.cons (.int _) (.cons (.int _) .nil))
theorem yh(p q:Rat):PyData.eqv (.tuple [.int p.num,.int p.den]) (.tuple [.int q.num,.int q.den])=decide (p=q):=by
 have e:(p=q)↔p.num=q.num/\(p.den:Int)=q.den:=by
  constructor
  ·rintro rfl;exact⟨Y,Y⟩
  ·rintro⟨J,h2⟩;exact Rat.ext J (by omega)
 simp only[PyData.eqv,PyData.eqvAll];by_cases h:p=q
 ·obtain⟨J,h2⟩:=e.mp h;simp[h,J,h2]
 ·rw[ZC h];have:=fun z=>h (e.mpr z);by_cases J:p.num=q.num
  ·have h2:¬(p.den:Int)=q.den:=fun z=>this ⟨J,z⟩;simp[J,h2]
  ·simp[J]
theorem MK{q:Rat}(h:0<=q):0<q.num↔q≠0:=by
 constructor
 ·rintro J rfl;exact absurd J (by decide)
 ·intro J;have h2:=Td.mpr h;have h3:q.num≠0:=fun z=>J (Rat.num_eq_zero.mp z);omega
section
variable{P:Program}{w:World}{K:W.Frag}{mg:Str->Option Value}{base:Heap}{t:Yl}
structure QV(t:Yl)(H:Hp)(a c:Addr)(l:Land)(f:RhRoads.Flow):Prop where
 fa:VB t H a c l f
 nn:∀e,e<l.roads.length->0<=on f e
 xA:∀e,Rb 40 (on f e)
theorem QV.up{t:Yl}{H H':Hp}{a c:Addr}{l:Land}{f:RhRoads.Flow}(h:QV t H a c l f)(s:ZX H H'):QV t H' a c l f:=⟨h.fa.up s,h.nn,h.xA⟩
def yg(t:Yl):Sp:=fun vs H Q _=>∃a c l f,vs=[.ref a,.ref c]/\QV t H a c l f/\∀H',ZX H H'->Q (rE ((List.range l.roads.length).find? (ME l f))) H'
theorem Kc:ZL ["land","amounts","number","road"] ["land","amounts"] (ZZ (top 53)):=YR
theorem Kb(T:Txt K mg t):Y6 P w K mg base XB 33 t.OS t.OR ["land","amounts"] (yg t):=by
 have sc:=Kc;refine T.K3.F.ok sc (fun vs H Q E h=>?_) (fun Yp A outer s H vs Q E hr h=>?_)
 ·obtain⟨a,c,l,f,rfl,_⟩:=h;rfl
 ·obtain⟨a,c,l,f,rfl,⟨FA,nn,xA⟩,k⟩:=h;obtain⟨la,rs,hL⟩:=FA.land;obtain⟨Tu,ea⟩:=hL.obj;have ok:=FA.ok;have rl:rs.length=l.roads.length:=hL.len;obtain⟨cs,J,h2,h3⟩:=FA.fr;have Fw:cs.length=l.roads.length:=by rw[h2];exact FA.len
  refine⟨_,(Z5 (Yu Zi Y (V8 Y T.UY (Z6 (ZY (Z 0) rfl) Z2)) (VQ Y (YU (Zz (i:=2) sc.nd Y Y4) (YU (Zz (i:=3) sc.nd Y Y4) WH))) (Z0 (YT (PW.pt (P7 (ZG UW (ZY (Z 3) rfl) ZR (Zr _)) (QP (ZG NH (ZI Yj (ZI ZM (Z 1) (Z 2) (fun _ _=>rfl)) ZR (fun _ _=>rfl)) ZR (Zr _))))) (Z0 (ZN (Z 2))) Zs)))
   (Z0 (ZN XH))),?_⟩
  refine YJ Y ea T.Land.cl T.ZH Y (ZQ Y (Zw.of hL.lst) ?_);refine U5 (K:=K) (xs:=rs.map V.ref) (fun i σ H'=>(∃c2 c3,σ=[some (.ref a),some (.ref c),c2,c3])/\ZX H H'/\∀j,j<i->ME l f j=false) ⟨Xr none none Y,ZX.refl H,fun j hj=>by omega⟩ (fun i σ H' _ q=>Zw.of (q.2.1 _ _ hL.lst)) ?_ ?_
  ·rintro i x σ H1 H2 hx ⟨⟨c2,c3,rfl⟩,s1,O⟩ s2;obtain⟨ra,Xg,rfl⟩:=Yb hx;have hi:i<l.roads.length:=by rw[<-rl];exact(Zy.mp Xg).1
   have s3:=s1.trans s2;obtain⟨ta,⟨dr,er⟩,ft⟩:=(hL.at_ i ra Xg).up s3;have ci:i<cs.length:=by omega
   obtain⟨xa,IY⟩:∃xa,cs[i]?=some xa:=⟨cs[i],ZT ci⟩;have fx:Fr H2 xa (on f i):=(h3 i xa IY).up s3;have n0:decide (on f i<0)=false:=ZC (Rat.not_lt.mpr (nn i hi));refine YJ Y er T.Road.cl T.XN Y ⟨Y,Z1 Y ?_⟩;rw[IZ];have nx:ME l f i=false->(∃c2 c3,[some (V.ref a),some (.ref c),some (.int (i:Int)),some (.ref ra)]=[some (.ref a),some (.ref c),c2,c3])/\ZX H H2/\∀j,j<i+1->ME l f j=false:=fun q=>⟨Yd Y,s3,fun j hj=>by
    by_cases z:j=i;·rw[z];exact q
    ·exact O j (by omega)⟩
   cases hs:(rd l i).shut with
   |false=>
    refine YA (YA (nx ?_));unfold ME;rw[n0,hs];rfl
   |true=>
    refine YW (Y' Y rfl (ZJ Y rfl (Zw.of (s3 _ _ J)) (Yz IY) (ZJ Y rfl (U4.of fx) rfl (ZQ Y rfl (Z1 Y (Wb (fun d=>?_) (fun d=>?_)))))))
    ·have d:=(MK (nn i hi)).mp (ZD d);refine Z1 Y ?_;have e:=PM (p:=ME l f) hi (by unfold ME;rw[n0,hs];simpa using d) O;have:=k H2 s3;rw[e]at this;exact this
    ·have d:on f i=0:=by
      by_cases z:on f i=0;·exact z
      ·exact absurd (ZP ((MK (nn i hi)).mpr z)) d
     refine nx ?_;unfold ME;rw[n0,hs,d];rfl
  ·rintro σ H1 ⟨⟨c2,c3,rfl⟩,s1,O⟩;rw[Z3,rl]at O;have:=k H1 s1;rw[U0 O]at this;exact this
def yf(t:Yl):Sp:=fun vs H Q _=>∃a c l f,vs=[.ref a,.ref c]/\QV t H a c l f/\∀H',ZX H H'->Q (rE ((List.range l.places).find? (Kh l f))) H'
def My(l:Land)(f:RhRoads.Flow)(i v:Nat):Rat:=sm i (fun e=>(Za l false).inc v e*on f e)
theorem IX(l:Land)(f:RhRoads.Flow)(i v:Nat)(h:(rd l i).from_≠(rd l i).to_):My l f (i+1) v=if v=(rd l i).to_ then My l f i (rd l i).to_+on f i else if v=(rd l i).from_ then My l f i (rd l i).from_-on f i else My l f i v:=by
 have e:My l f (i+1) v=My l f i v+(if(rd l i).to_=v then(1:Rat)else if(rd l i).from_=v then-1 else 0)*on f i:=rfl;rw[e];by_cases q:v=(rd l i).to_
 ·rw[Z7 q,Z7 q.symm,q];grind
 ·rw[Z8 q,Z8 (fun z=>q z.symm)];by_cases q2:v=(rd l i).from_
  ·rw[Z7 q2,Z7 q2.symm,q2];grind
  ·rw[Z8 q2,Z8 (fun z=>q2 z.symm)];grind
def wants(l:Land)(v:Nat):Int:=if v=l.goal then(l.units:Int)else if v=l.source then-(l.units:Int)else 0
theorem A5(l:Land)(v:Nat):((wants l v:Int):Rat)=due l v:=by
 unfold wants due;split;·rw[Xy]
 ·split;·rw[Rat.intCast_neg,Xy]
  ·rfl
theorem Mx:ZL ["land","amounts","gains","place","road","amount","wanted"] ["land","amounts"] (ZZ (top 54)):=YR
theorem Mw(T:Txt K mg t):Y6 P w K mg base XB 37 t.Q9 t.Q8 ["land","amounts"] (yf t):=by
 have sc:=Mx;refine T.OG.F.ok sc (fun vs H Q E h=>?_) (fun Yp A outer s H vs Q E hr h=>?_)
 ·obtain⟨a,c,l,f,rfl,_⟩:=h;rfl
 ·have HG:=hr.units;obtain⟨a,c,l,f,rfl,⟨FA,nn,xA⟩,k⟩:=h;obtain⟨la,rs,hL⟩:=FA.land;obtain⟨Tu,ea⟩:=hL.obj;have ok:=FA.ok;have r9:=ok.r9;have p6:=ok.p6;have rl:rs.length=l.roads.length:=hL.len;obtain⟨cs,J,h2,h3⟩:=FA.fr;have Fw:cs.length=l.roads.length:=by rw[h2];exact FA.len
  refine⟨_,(Z5 (Va (i:=2) rfl sc.nd Y rfl (T8 Y rfl rfl rfl) (V2 Y T.TK (Z6 (ZY (Z 0) rfl) Z2)) (Yt (own:=[("place",3)]) (show T_ ["land","amounts","gains","place","road","amount","wanted"] (ZZ (top 54)) _ _=true by decide+kernel)) (fun _ _ _ _ _=>by exact(Zz (i:=3) sc.nd Y Y4)) (fun _ _ _ _ _=>by exact XE) (fun _ _ _ _ _=>by exact(cl T.ratio (Yg T) hr (Z6 ZR (Z6 ZR Z2)))))
   (Z5 (Yu Zi Y (PX Y T.KU (Z6 (ZY (Z 0) rfl) (Z6 (Z 1) Z2))) (VQ Y (YU (Zz (i:=4) sc.nd Y Y4) (YU (Zz (i:=5) sc.nd Y Y4) WH))) (Z5 (P5 (cl T.minus (FL T) hr (Z6 (ZI ZM (Z 2) (ZY (Z 4) rfl) (fun _ _=>rfl)) (Z6 (Z 5) Z2))) (P6 (Z 2) (ZY (Z 4) rfl) set_list))
   (Z0 (P5 (cl T.plus (UJ T) hr (Z6 (ZI ZM (Z 2) (ZY (Z 4) rfl) (fun _ _=>rfl)) (Z6 (Z 5) Z2))) (P6 (Z 2) (ZY (Z 4) rfl) set_list)))))
   (Z5 (ZS (i:=6) sc.nd Y Y4 (Zc Eu (Zv (Z6 ZR Z2)) (ZY (Z 0) rfl)))
   (Z5 (P5 (GZ LZ (ZY (Z 0) rfl)) (P6 (Z 6) (ZY (Z 0) rfl) set_list))
   (Z5 (P5 (ZY (Z 0) rfl) (P6 (Z 6) (ZY (Z 0) rfl) set_list))
   (Z5 (Yu Zi Y (V2 Y T.TK (Z6 (ZY (Z 0) rfl) Z2)) (Zz (i:=3) sc.nd Y Y4) (Z0 (YT (ZG (IE HG) (ZI ZM (Z 2) (Z 3) (fun _ _=>rfl)) (cl T.ratio (Yg T) hr (Z6 (ZI ZM (Z 6) (Z 3) (fun _ _=>rfl)) (Z6 ZR Z2))) (Zr _)) (Z0 (ZN (Z 3))) Zs)))
   (Z0 (ZN XH)))))))),?_⟩
  refine YJ Y ea T.Land.cl T.Yo Y ⟨(l.places:Int),Y,by omega,by omega,fun D hD=>?_⟩;refine Qz (n:=l.places) (fun i H'=>ZX H H'/\SJ H' D (fun v=>My l f 0 v) i) ⟨ZX.new hD _,SJ.nil _ Z4⟩ ?_ ?_
  ·rintro i H1 hi ⟨s1,f1⟩;refine⟨Y,0,1,Y,by decide,fun p hp=>?_⟩;rw[Be];have s2:=ZX.new hp (.tup [.int (0:Rat).num,.int (0:Rat).den]);obtain⟨acc,a1,a2,a3⟩:=(f1.up s2).snoc (c:=p) (by show upd _ _ _ _=_;rw[Z4];rfl) (by omega);exact⟨acc,a1,a2,(s1.trans s2).Zu hD _,a3⟩
  ·rintro H1 ⟨s1,f1⟩;refine YJ Y (s1 _ _ ea) T.Land.cl T.ZH Y (Z1 Y (V7 ⟨Y,Zw.of (s1 _ _ hL.lst),Zw.of (s1 _ _ J),?_⟩));refine Mh (K:=K) (xs:=rs.map V.ref) (ys:=cs.map V.ref) (by rw[Z3,Z3,rl,Fw]) (fun i σ H'=>(∃c3 c4 c5 c6,σ=[some (.ref a),some (.ref c),some (.ref D),c3,c4,c5,c6])/\ZX H H'/\SJ H' D (fun v=>My l f i v) l.places/\∀v,Rb (41*i+1) (My l f i v))
    ⟨V7 Y,s1,f1,fun v=>Rb.ofInt (x:=0) (Bd.zero _) (by omega)⟩ (fun i σ H' _ q=>⟨Zw.of (q.2.1 _ _ hL.lst),Zw.of (q.2.1 _ _ J)⟩) ?_ ?_
   ·rintro i x y σ H2 H3 hx hy ⟨⟨c3,c4,c5,c6,rfl⟩,s2,f2,b2⟩ s3;obtain⟨ra,Xg,rfl⟩:=Yb hx;obtain⟨xa,IY,rfl⟩:=Yb hy;have hi:i<l.roads.length:=by rw[<-rl];exact(Zy.mp Xg).1
    have s4:=s2.trans s3;have ro:=ok.rd hi;obtain⟨ta,⟨dr,er⟩,ft⟩:=(hL.at_ i ra Xg).up s4;have fx:Fr H3 xa (on f i):=(h3 i xa IY).up s4;have bx:Rb 40 (on f i):=xA i;obtain⟨bs,b,e1,e2,e3,e4⟩:=(f2.up s3).at_ ro.f;have g1:=b2 (rd l i).from_;refine Y' Y rfl (S7 er T.Road.cl T.X5 Y (V7 ⟨Y,Y,Zw.of e1,Yz e3,Z1 Y ⟨b,xa,Yd ⟨Y,e4,fx,g1.mono (by show 41*i+1<=33554432;omega),bx.mono (by decide),fun H4 m s5 fm=>?_⟩⟩⟩));obtain⟨xs,x1,x2,x3⟩:=((f2.up s3).up s5).set fm ro.f;have mI:=s4.trans s5;refine Y' Y rfl (S7 (s5 _ _ er) T.Road.cl T.X5 Y ⟨D,Xh ⟨Y,Y,x1,x2,?_⟩⟩);have iC:H D=none:=hD;have s6:ZX H (upd H4 D (.lst (xs.set (rd l i).from_ (.ref m)))):=mI.Zu hD _;obtain⟨ta',⟨dr',gu⟩,ft'⟩:=(hL.at_ i ra Xg).up s6;have bT:Fr _ xa (on f i):=(h3 i xa IY).up s6;obtain⟨xF,b',Bc,e2',bR,gr⟩:=x3.at_ ro.t;have ne:(rd l i).to_≠(rd l i).from_:=fun z=>ro.ne z.symm;rw[Z8 ne]at gr;refine Y' Y rfl (S7 gu T.Road.cl T.Ys Y (V7 ⟨Y,Y,Zw.of Bc,Yz bR,Z1 Y ⟨b',xa,Yd ⟨Y,gr,bT,(b2 _).mono (by show 41*i+1<=33554432;omega),bx.mono (by decide),fun H5 m' s7 bQ=>?_⟩⟩⟩));obtain⟨xC,bP,bO,bN⟩:=(x3.up s7).set bQ ro.t;refine Y' Y rfl (S7 (s7 _ _ gu) T.Road.cl T.Ys Y ⟨D,Xh ⟨Y,Y,bP,bO,V7 Y,(s6.trans s7).Zu hD _,bN.congr fun v hv=>?_,fun v=>?_⟩⟩);·exact(IX l f i v ro.ne).symm
    ·rw[IX l f i v ro.ne];split;·exact((b2 _).add bx).mono (by omega)
     ·split;·exact((b2 _).sub bx).mono (by omega)
      ·exact(b2 v).mono (by omega)
   ·rintro σ H2 ⟨⟨c3,c4,c5,c6,rfl⟩,s2,f2,b2⟩;rw[Z3,rl]at f2 b2;refine⟨(by show 1<=sizeLine;decide),fun p hp=>?_⟩;have s3:=s2.trans (ZX.new hp (.lst [.int 0]));refine YJ Y (s3 _ _ ea) T.Land.cl T.Yo Y ⟨p,Yd ⟨Y,Y,Z4,by omega,by omega,?_,fun wl wF=>?_⟩⟩
    ·show 1*_<=_;exact ZA (show 1*((l.places:Int)).toNat<=9 by omega) (by decide)
    have er:(List.replicate ((l.places:Int)).toNat [V.int 0]).flatten=((List.range l.places).map fun _=>(0:Int)).map V.int:=by
     rw[show((l.places:Int)).toNat=l.places by omega,Yn];refine UA fun j=>?_;rw[List.flatten_replicate_singleton,Pk,Zb];by_cases hj:j<l.places;·rw[Z7 hj,Xv hj];rfl
     ·rw[Z8 hj,YH (by simp;omega)];rfl
    have ox:H2 wl=none:=(ZX.new hp (.lst [.int 0])).free wF;have s4:=s3.trans (ZX.new wF (.lst (List.replicate ((l.places:Int)).toNat [V.int 0]).flatten));have rM:ZX H2 (upd (upd H2 p (.lst [.int 0])) wl (.lst (List.replicate ((l.places:Int)).toNat [V.int 0]).flatten)):=(ZX.new hp _).trans (ZX.new wF _);refine YJ Y (s4 _ _ ea) T.Land.cl T.Xk Y (Y' Y rfl (YJ Y (s4 _ _ ea) T.Land.cl T.Xj Y ⟨wl,Yd ⟨l.source,Y,Y,Z4,?_,?_⟩⟩))
    ·rw[er,Z3,Z3,Y_];exact Oz ok.s
    rw[er,TJ,set_range ok.s];have oF:=rM.Zu ox (.lst (((List.range l.places).map fun b=>if b=l.source then-(l.units:Int)else 0).map V.int));rw[er]at oF;have mK:=oF _ _ (s2 _ _ ea);refine YJ Y mK T.Land.cl T.Xk Y (Y' Y rfl (S7 mK T.Land.cl T.WW Y ⟨wl,Yd ⟨l.goal,Y,Y,Z4,?_,?_⟩⟩))
    ·rw[Z3,Z3,Y_];exact Oz ok.t
    rw[TJ,set_range ok.t];have gq:=oF.Zu ox (.lst (((List.range l.places).map fun b=>if b=l.goal then(l.units:Int)else if b=l.source then-(l.units:Int)else 0).map V.int));have bM:=gq _ _ (s2 _ _ ea);refine YJ Y bM T.Land.cl T.Yo Y ⟨(l.places:Int),Y,by omega,by omega,?_⟩;refine Ui (n:=l.places) (fun i σ H'=>(∃c3 c4 c5,σ=[some (.ref a),some (.ref c),some (.ref D),c3,c4,c5,some (.ref wl)])/\ZX H2 H'/\IL H' wl ((List.range l.places).map (wants l))/\∀j,j<i->Kh l f j=false) ⟨Xh Y,gq,Z4,fun j hj=>by omega⟩ ?_ ?_
    ·rintro i σ H3 hi ⟨⟨c3,c4,c5,rfl⟩,s5,hW,O⟩;obtain⟨bs,b,e1,e2,e3,e4⟩:=(f2.up s5).at_ hi;refine Y' Y rfl (V7 ⟨Y,Y,Zw.of e1,Yz e3,Y' Y rfl (V7 ⟨Y,Y,Zw.of hW,Fy hi,Yd ⟨Y,by decide,fun q hq=>?_⟩⟩)⟩);rw[Eb,A5];have s6:=ZX.new hq (.tup [.int (due l i).num,.int (due l i).den]);refine Yd ⟨B_ (e4.up s6),B_ (q:=due l i) Z4,Y,Y,Z1 Y ?_⟩;rw[yh];have eb:Kh l f i=!decide (My l f l.roads.length i=due l i):=by
      unfold Kh;rw[LJ l false];show(My l f l.roads.length i !=due l i)=_;by_cases z:My l f l.roads.length i=due l i;·rw[z];simp
      ·simp[z]
     rw[<-eb];have A6:=s5.trans s6;cases hq:Kh l f i with
     |true=>
      refine YW (Z1 Y ?_);have:=k _ (s2.trans A6);rw[PM hi hq O]at this;exact this
     |false=>
      refine YA ⟨Xh Y,A6,s6 _ _ hW,fun j hj=>?_⟩;by_cases z:j=i;·rw[z];exact hq
      ·exact O j (by omega)
    ·rintro σ H3 ⟨⟨c3,c4,c5,rfl⟩,s5,hW,O⟩;have:=k H3 (s2.trans s5);rw[U0 O]at this;exact this
def ye(t:Yl):Sp:=fun vs H Q _=>∃a c l f,vs=[.ref a,.ref c]/\QV t H a c l f/\(∀e,e<l.roads.length->(rd l e).shut=true->on f e=0)/\∀H',ZX H H'->Q (rE ((List.range l.roads.length).find? (N6 l false f))) H'
theorem Ka:ZL ["land","amounts","costs","number","road","amount"] ["land","amounts"] (ZZ (top 55)):=YR
theorem J'(T:Txt K mg t):Y6 P w K mg base XB 39 t.OQ t.OP ["land","amounts"] (ye t):=by
 have sc:=Ka;refine T.K2.F.ok sc (fun vs H Q E h=>?_) (fun Yp A outer s H vs Q E hr h=>?_)
 ·obtain⟨a,c,l,f,rfl,_⟩:=h;rfl
 ·have HG:=hr.units;have hu:=Qr hr;obtain⟨a,c,l,f,rfl,⟨FA,nn,xA⟩,jk,k⟩:=h;have ok:=FA.ok;obtain⟨la,rs,hL⟩:=FA.land;have rl:rs.length=l.roads.length:=hL.len;obtain⟨cs,J,h2,h3⟩:=FA.fr;have Fw:cs.length=l.roads.length:=by rw[h2];exact FA.len
  refine⟨_,(Z5 (ZS (i:=2) sc.nd Y Y4 (cl T.Wy (WG T) hr (Z6 (Z 0) (Z6 (Z 1) Z2))))
   (Z5 (Yu Zi Y (V8 Y T.UY (Z6 (ZY (Z 0) rfl) Z2)) (VQ Y (YU (Zz (i:=3) sc.nd Y Y4) (YU (Zz (i:=4) sc.nd Y Y4) WH))) (Z5 (ZS (i:=5) sc.nd Y Y4 (ZI ZM (Z 1) (Z 3) (fun _ _=>rfl)))
   (Z5 (YT (ZG UW (ZI Yj (Z 5) ZR (fun _ _=>rfl)) ZR (Zr _)) (Z0 V3) Zs)
   (Z0 (YT (PW.pt (UX (U3 (V1 hu (ZY (Z 4) rfl) (Z 2))) (Vt (ZG (IE HG) (cl T.plus (UJ T) hr (Z6 (Wq hu (Z 2) (ZY (Z 4) rfl) (fun _ _=>rfl)) (Z6 (cl T.QC (R_ T) hr (Z6 (Z 4) (Z6 (Z 5) Z2))) Z2))) (Wq hu (Z 2) (ZY (Z 4) rfl) (fun _ _=>rfl)) (Zr _))))) (Z0 (ZN (Z 3))) Zs)))))
   (Z0 (ZN XH)))),?_⟩
  refine Y' Y rfl ⟨a,c,l,f,Y,FA,nn,fun H1 d s1 C=>?_⟩;obtain⟨Tu,ea⟩:=(hL.up s1).obj;refine YJ Y ea T.Land.cl T.ZH Y (ZQ Y (Zw.of (s1 _ _ hL.lst)) ?_);refine U5 (K:=K) (xs:=rs.map V.ref) (fun i σ H'=>(∃c3 c4 c5,σ=[some (.ref a),some (.ref c),some (.ref d),c3,c4,c5])/\ZX H1 H'/\∀j,j<i->N6 l false f j=false) ⟨⟨none,none,none,Y⟩,ZX.refl H1,fun j hj=>by omega⟩ (fun i σ H' _ q=>Zw.of (q.2.1 _ _ (s1 _ _ hL.lst))) ?_ ?_
  ·rintro i x σ H2 H3 hx ⟨⟨c3,c4,c5,rfl⟩,s2,O⟩ s3;obtain⟨ra,Xg,rfl⟩:=Yb hx;have hi:i<l.roads.length:=by rw[<-rl];exact(Zy.mp Xg).1
   have ro:=ok.rd hi;have s4:=s2.trans s3;have mG:=s1.trans s4;have hR:=(hL.at_ i ra Xg).up mG;have bL:=hR;obtain⟨ta,⟨dr,er⟩,ft⟩:=hR;have ci:i<cs.length:=by omega
   obtain⟨xa,IY⟩:∃xa,cs[i]?=some xa:=⟨cs[i],ZT ci⟩;have fx:Fr H3 xa (on f i):=(h3 i xa IY).up mG;have C3:=C.up s4;refine Y' Y rfl (ZJ Y rfl (Zw.of (mG _ _ J)) (Yz IY) ?_);have no:N6 l false f i=false->∀H4,ZX H3 H4->(∃c3 c4 c5,[some (V.ref a),some (.ref c),some (.ref d),some (.int (i:Int)),some (.ref ra),some (.ref xa)]=[some (.ref a),some (.ref c),some (.ref d),c3,c4,c5])/\ZX H1 H4/\∀j,j<i+1->N6 l false f j=false:=fun q H4 s5=>⟨Xh Y,s4.trans s5,fun j hj=>by
    by_cases z:j=i;·rw[z];exact q
    ·exact O j (by omega)⟩
   have yes:N6 l false f i=true->∀H4,ZX H3 H4->Q (.int (i:Nat)) H4:=fun q H4 s5=>by
    have:=k H4 (mG.trans s5);rw[PM hi q O]at this;exact this
   refine Z1 Y (ZJ Y rfl (U4.of fx) rfl ⟨Y,Z1 Y (Wb (fun z=>?_) (fun z=>?_))⟩)
   ·have z:=ZD z;injection z with z
    have z:on f i=0:=Rat.num_eq_zero.mp z;refine no ?_ H3 (ZX.refl H3);unfold N6;rw[z];rfl
   ·have z:on f i≠0:=fun q=>z (ZP (by rw[q];rfl));have nz:(on f i !=0)=true:=by simpa using z
    have kg:(rd l i).shut=false:=by
     cases q:(rd l i).shut with
     |false=>rfl
     |true=>exact absurd (jk i hi q) z
    obtain⟨o1,g1,g2⟩:=C3.has (rd l i).from_;refine YJ Y er T.Road.cl T.X5 Y (Z1 Y ⟨d,Z1 Y ⟨g1,Z1 Y ?_⟩⟩);rw[g2];cases q1:costTo l false f (rd l i).from_ with
    |none=>
     refine YW (YW (Z1 Y (yes ?_ H3 (ZX.refl H3))));unfold N6;rw[nz,q1];rfl
    |some ca=>
     obtain⟨ba,jt,jq⟩:=C3.get q1;have mJ:=C3.bd _ _ q1;obtain⟨cb,q2⟩:=WA ok false nn (Net.Reach.go i (show i<(Za l false).m from hi) (by show(!(rd l i).shut)=true;rw[kg];rfl) (O4 false q1));have q2:costTo l false f (rd l i).to_=some cb:=q2;refine YA (Y' Y rfl (S7 er T.Road.cl T.X5 Y ⟨d,Z1 Y ⟨jt,Y' Y rfl ⟨ra,xa,rd l i,ZQ Y bL ⟨ro,fx,(xA i).mono (by decide),fun H4 pb s5 fp=>?_⟩⟩⟩⟩));have bp:Rb 82 ((rd l i).price false (on f i)):=by
      rw[<-Qx];exact KA ro (xA i)
     refine⟨ba,pb,ZQ Y (jq.up s5) ⟨fp,mJ.mono (by decide),bp.mono (by decide),fun H5 rb s6 fr=>?_⟩⟩;have A6:=s5.trans s6;obtain⟨bb,jo,jn⟩:=(C3.up A6).get q2;refine Y' Y rfl (S7 (A6 _ _ er) T.Road.cl T.Ys Y ⟨d,Z1 Y ⟨jo,ZQ (B_ fr) (B_ jn) ⟨Y,Y,Z1 Y ?_⟩⟩⟩);rw[yh];have eb:N6 l false f i=!decide (ca+(rd l i).price false (on f i)=cb):=by
      unfold N6;rw[nz,q1,q2];show(true&&(ca+(rd l i).price false (on f i)!=cb))=_;by_cases zz:ca+(rd l i).price false (on f i)=cb;·rw[zz];simp
      ·simp[zz]
     rw[<-eb];cases hq:N6 l false f i with
     |true=>exact YW (Z1 Y (yes hq H5 A6))
     |false=>exact YA (no hq H5 A6)
  ·rintro σ H2 ⟨⟨c3,c4,c5,rfl⟩,s2,O⟩;rw[Z3,rl]at O;have:=k H2 (s1.trans s2);rw[U0 O]at this;exact this
noncomputable def verdict(l:Land)(f:RhRoads.Flow):List Int:=match wrong l false f with
 |none=>[0]
 |some (n,x)=>[(n:Int),(x:Int)]
def vj(t:Yl):Sp:=fun vs H Q _=>∃a c l f,vs=[.ref a,.ref c]/\QV t H a c l f/\∀H' d,H d=none->ZX H H'->IL H' d (verdict l f)->Q (.ref d) H'
theorem HA:ZL ["land","amounts","number","place"] ["land","amounts"] (ZZ (top 56)):=YR
theorem Hz(T:Txt K mg t):Y6 P w K mg base XB 40 t.Nk t.Nj ["land","amounts"] (vj t):=by
 have sc:=HA;refine T.Ja.F.ok sc (fun vs H Q E h=>?_) (fun Yp A outer s H vs Q E hr h=>?_)
 ·obtain⟨a,c,l,f,rfl,_⟩:=h;rfl
 ·obtain⟨a,c,l,f,rfl,Z_,k⟩:=h;have vd:verdict l f=match wrong l false f with
   |none=>[0]
   |some (n,x)=>[(n:Int),(x:Int)]:=rfl
  rw[zp]at vd;refine⟨_,(Z5 (ZS (i:=2) sc.nd Y Y4 (cl T.K3 (Kb T) hr (Z6 (Z 0) (Z6 (Z 1) Z2))))
   (Z5 (YT (ZG Mp (Z 2) XH (Zr _)) (Z0 (ZN (Zv (Z6 (gl T.HU) (Z6 (Z 2) Z2))))) Zs)
   (Z5 (ZS (i:=3) sc.nd Y Y4 (cl T.OG (Mw T) hr (Z6 (Z 0) (Z6 (Z 1) Z2))))
   (Z5 (YT (ZG Mp (Z 3) XH (Zr _)) (Z0 (ZN (Zv (Z6 (gl T.yV) (Z6 (Z 3) Z2))))) Zs)
   (Z5 (ZS (i:=2) sc.nd Y Y4 (cl T.K2 (J' T) hr (Z6 (Z 0) (Z6 (Z 1) Z2))))
   (Z5 (YT (ZG Mp (Z 2) XH (Zr _)) (Z0 (ZN (Zv (Z6 (gl T.HS) (Z6 (Z 2) Z2))))) Zs)
   (Z0 (ZN (Zv (Z6 (gl T.oR) Z2)))))))))),?_⟩
  refine Y' Y rfl (W9 a c l f ⟨Y,Z_,fun H1 s1=>?_⟩);cases q1:(List.range l.roads.length).find? (ME l f)with
  |some e=>
   rw[q1]at vd;refine Z1 Y ⟨Y,Z1 Y (YW (Z1 Y ⟨(by show 2<=sizeLine;decide),fun p hp=>k _ p (s1.free hp) (s1.trans (ZX.new hp _)) ?_⟩))⟩;rw[vd];exact Z4
  |none=>
   rw[q1]at vd;refine Z1 Y ⟨Y,Z1 Y (YA (Y' Y rfl (W9 a c l f ⟨Y,Z_.up s1,fun H2 s2=>?_⟩)))⟩;have Qy:=s1.trans s2;cases q2:(List.range l.places).find? (Kh l f)with
   |some e=>
    rw[q2]at vd;refine Z1 Y ⟨Y,Z1 Y (YW (Z1 Y ⟨(by show 2<=sizeLine;decide),fun p hp=>k _ p (Qy.free hp) (Qy.trans (ZX.new hp _)) ?_⟩))⟩;rw[vd];exact Z4
   |none=>
    rw[q2]at vd;have jk:∀e,e<l.roads.length->(rd l e).shut=true->on f e=0:=fun e he hs=>by
     have:=VW.mp q1 e (YO.mpr he);unfold ME at this;rw[hs]at this;simp at this;exact this.2
    refine Z1 Y ⟨Y,Z1 Y (YA (Y' Y rfl (W9 a c l f ⟨Y,Z_.up Qy,jk,fun H3 s3=>?_⟩)))⟩;have Ci:=Qy.trans s3;cases q3:(List.range l.roads.length).find? (N6 l false f)with
    |some e=>
     rw[q3]at vd;refine Z1 Y ⟨Y,Z1 Y (YW (Z1 Y ⟨(by show 2<=sizeLine;decide),fun p hp=>k _ p (Ci.free hp) (Ci.trans (ZX.new hp _)) ?_⟩))⟩;rw[vd];exact Z4
    |none=>
     rw[q3]at vd;refine Z1 Y ⟨Y,Z1 Y (YA ⟨(by show 1<=sizeLine;decide),fun p hp=>k _ p (Ci.free hp) (Ci.trans (ZX.new hp _)) ?_⟩)⟩;rw[vd];exact Z4
end
end Rw
namespace Rw
open PySem PySem.Spec PyProof.Rows L2 RR
open RhRoads (Road Land settled on total costTo ways)
noncomputable def Dy(l:Land)(r:List Nat):List Nat:=l.source::r.map fun e=>(rd l e).to_
theorem Hy(l:Land)(r:List Nat):Dy l r=(rowAt l r).1.reverse++[(rowAt l r).2]:=by
 have:∀(r:List Nat)(p:List Nat×Nat),p.1.reverse++p.2::r.map (fun e=>(rd l e).to_)=(r.foldl (fun p e=>(p.2::p.1,(rd l e).to_)) p).1.reverse++[(r.foldl (fun p e=>(p.2::p.1,(rd l e).to_)) p).2]:=by
  intro r;induction r with
  |nil=>intro p;rfl
  |cons e r ih=>
   intro p;rw[RJ,<-ih];simp
 have:=this r ([],l.source);unfold rowAt Dy;exact this
theorem SK{us:List Nat}{i:Nat}{u:Nat}(h:us[i]?=some u):us.take (i+1)=us.take i++[u]:=by rw[Xc,h];rfl
section
variable{P:Program}{w:World}{K:W.Frag}{mg:Str->Option Value}{base:Heap}{t:Yl}
def yd(t:Yl):Sp:=fun vs H Q _=>∃a b l r,vs=[.ref a,.ref b]/\WI t H a l/\NL H b r/\(∀e,e∈r->e<l.roads.length)/\r.length<=10/\∀H' c,H c=none->ZX H H'->NL H' c (Dy l r)->Q (.ref c) H'
theorem NO:ZL ["land","row","number"] ["land","row"] (ZZ (top 64)):=YR
theorem NN(T:Txt K mg t):Y6 P w K mg base XB 33 t.RT t.RS ["land","row"] (yd t):=by
 have sc:=NO;refine T.P9.F.ok sc (fun vs H Q E h=>?_) (fun Yp A outer s H vs Q E hr h=>?_)
 ·obtain⟨a,b,l,r,rfl,_⟩:=h;rfl
 ·obtain⟨a,b,l,r,rfl,⟨la,rs,hL⟩,O,WY,iw,k⟩:=h;obtain⟨Tu,ea⟩:=hL.obj;have rl:rs.length=l.roads.length:=hL.len;refine⟨_,(Z0 (ZN (Zc Ut (Zv (Z6 (ZY (Z 0) rfl) Z2)) (R5 Y sc.nd (Yq (Z 1)) (Yt (own:=[("number",2)]) (show T_ ["land","row","number"] (ZZ (top 64)) _ _=true by decide+kernel)) (fun _ _ _ _ _=>by exact(Zz (i:=2) sc.nd Y Y4)) (fun _ _ _ _ _=>by exact XE) (fun _ _ _ _ _=>by exact(UK (K:=K) rfl (ZI (yS (K:=K) rfl) (UK (K:=K) rfl (Z 0) rfl) (Z 2) (fun _ _=>rfl)) rfl)))))),?_⟩;refine YJ Y ea T.Land.cl T.Xj Y ⟨(by show 1<=sizeLine;decide),fun p hp=>?_⟩;have s1:=ZX.new hp (.lst [.int (l.source:Int)]);refine Z1 Y ⟨b,Y,⟨_,Zw.of (s1 _ _ O)⟩,fun D hD=>?_⟩;have hD0:H D=none:=s1.free hD;refine Vi (K:=K) (a:=b) (xs:=r.map fun(k:Nat)=>V.int (k:Int)) (fun i H'=>ZX (upd H p (.lst [.int (l.source:Int)])) H'/\NL H' D ((r.take i).map fun e=>(rd l e).to_)) ⟨ZX.new hD _,Z4⟩ (fun i H' _ q=>Zw.of (q.1 _ _ (s1 _ _ O))) ?_ ?_
  ·rintro i x H1 hx ⟨s2,f2⟩;obtain⟨e,he,rfl⟩:=Ud hx;have el:=WY e (Y3 he);have il:i<r.length:=(Zy.mp he).1;have s3:=s1.trans s2;obtain⟨ra,Xg⟩:∃ra,rs[e]?=some ra:=⟨rs[e]'(by omega),ZT (by omega)⟩;obtain⟨ta,⟨dr,er⟩,ft⟩:=(hL.at_ e ra Xg).up s3;refine⟨Y,YJ Y (s3 _ _ ea) T.Land.cl T.ZH Y (Z1 Y (ZJ Y rfl (Zw.of (s3 _ _ hL.lst)) (Yz Xg) (S7 er T.Road.cl T.Ys Y ⟨_,f2,?_,s2.Zu hD _,?_⟩)))⟩
   ·rw[Z3,Z3,Xt];exact Yx (show min i r.length<=10 by omega) (by decide)
   ·show upd _ _ _ _=_;rw[Z4,SK he,YV,YV];rfl
  ·rintro H1 ⟨s2,f2⟩;rw[Z3,XX]at f2;have s3:=s1.trans s2;refine W9 p D _ _ ⟨Y,Y,s2 _ _ Z4,f2,?_,fun c hc=>k _ c (s3.free hc) (s3.trans (ZX.new hc _)) ?_⟩
   ·rw[Z3,Z3];exact ZA (show 1+r.length<=11 by omega) (by decide)
   ·show upd _ _ _ _=_;rw[Z4];rfl
def vi(t:Yl):Sp:=fun vs H Q _=>∃a b l W4 v,vs=[.ref a,.ref b]/\WI t H a l/\Zh l/\NL H b (List.reverse W4++[v])/\∀H' c,H c=none->ZX H H'->NL H' c (X6 l W4 v)->Q (.ref c) H'
noncomputable def Oi(l:Land)(W4:List Nat)(v e:Nat):Bool:=!(rd l e).shut&&((rd l e).from_==v&&!(W4.contains (rd l e).to_||(rd l e).to_==v))
theorem J_:ZL ["land","passed","numbers","number","road"] ["land","passed"] (ZZ (top 65)):=YR
theorem J9(T:Txt K mg t):Y6 P w K mg base XB 33 t.OO t.ON ["land","passed"] (vi t):=by
 have sc:=J_;refine T.K1.F.ok sc (fun vs H Q E h=>?_) (fun Yp A outer s H vs Q E hr h=>?_)
 ·obtain⟨a,b,l,W4,v,rfl,_⟩:=h;rfl
 ·obtain⟨a,b,l,W4,v,rfl,⟨la,rs,hL⟩,ok,O,k⟩:=h;obtain⟨Tu,ea⟩:=hL.obj;have r9:=ok.r9;have rl:rs.length=l.roads.length:=hL.len;refine⟨_,(Z5 (ZS (i:=2) sc.nd Y Y4 (Zv Z2))
   (Z5 (Yu Zi Y (V8 Y T.UY (Z6 (ZY (Z 0) rfl) Z2)) (VQ Y (YU (Zz (i:=3) sc.nd Y Y4) (YU (Zz (i:=4) sc.nd Y Y4) WH))) (Z0 (YT (PW.pt (P7 (ZG UW (ZY (Z 4) rfl) ZR (Zr _)) (P7 (ZG UW (ZY (Z 4) rfl) (ZI ZM (Z 1) (GZ LZ ZR) (fun _ _=>rfl)) (Zr _)) (QP (ZG Pa (ZY (Z 4) rfl) (Z 1) rfl))))) (Z0 (Xe (UU X9 WN WC W8 (Z 2) (Z6 (Z 3) Z2)))) Zs)))
   (Z0 (ZN (Z 2))))),?_⟩
  refine⟨Zt _,fun D hD=>?_⟩;have s0:=ZX.new hD (.lst []);refine YJ Y (s0 _ _ ea) T.Land.cl T.ZH Y (ZQ Y (Zw.of (s0 _ _ hL.lst)) ?_);refine U5 (K:=K) (xs:=rs.map V.ref) (fun i σ H'=>(∃c3 c4,σ=[some (.ref a),some (.ref b),some (.ref D),c3,c4])/\ZX H H'/\NL H' D ((List.range i).filter (Oi l W4 v))) ⟨Xr none none Y,s0,Z4⟩ (fun i σ H' _ q=>Zw.of (q.2.1 _ _ hL.lst)) ?_ ?_
  ·rintro i x σ H1 H2 hx ⟨⟨c3,c4,rfl⟩,s1,d1⟩ s2;obtain⟨ra,Xg,rfl⟩:=Yb hx;have hi:i<l.roads.length:=by rw[<-rl];exact(Zy.mp Xg).1
   have s3:=s1.trans s2;obtain⟨ta,⟨dr,er⟩,ft⟩:=(hL.at_ i ra Xg).up s3;have d2:=s2 _ _ d1;have oz:=s3 _ _ O;have no:Oi l W4 v i=false->(∃c3 c4,[some (V.ref a),some (.ref b),some (.ref D),some (.int (i:Int)),some (.ref ra)]=[some (.ref a),some (.ref b),some (.ref D),c3,c4])/\ZX H H2/\NL H2 D ((List.range (i+1)).filter (Oi l W4 v)):=fun q=>⟨Yd Y,s3,by
    show H2 D=_;rw[WD,Vd,YD,Z8 (by rw[q];simp)];simp only[List.filter_nil,Xw];exact d2⟩
   refine YJ Y er T.Road.cl T.XN Y ⟨Y,Z1 Y ?_⟩;rw[Fu];cases hs:(rd l i).shut with
   |true=>
    refine YA (YA (no ?_));unfold Oi;rw[hs];rfl
   |false=>
    refine YW (YJ Y er T.Road.cl T.X5 Y (Y' Y rfl (ZJ Y rfl (Zw.of oz) (by rw[YV];exact GP _ _) ⟨Y,Z1 Y (Wb (fun c1=>?_) (fun c1=>?_))⟩)))
    ·have c1:(rd l i).from_=v:=by
      have:=ZD c1;injection this with this
      omega
     refine YJ Y er T.Road.cl T.Ys Y (Z1 Y (ZQ Y (.inl (Zw.of oz)) ⟨Y,NS _,Z1 Y ?_⟩));rw[HH];have e:Oi l W4 v i=!decide ((rd l i).to_∈W4.reverse++[v]):=by
      unfold Oi;rw[hs,c1];by_cases z:(rd l i).to_=v<;>simp[z]
     cases q:Oi l W4 v i with
     |true=>
      refine qH (by rw[q]at e;exact e.symm) (Z1 Y ⟨.inl ⟨Y,_,Zw.of d2⟩,Z1 Y (XR D _ _ ⟨Y,Y,d2,?_,Yd Y,s3.Zu hD _,?_⟩)⟩)
      ·rw[Z3];have:=Wg (Oi l W4 v) (List.range i);rw[Y_]at this;exact Yx this (Zl (show i<10 by omega) (by decide))
      ·show upd _ _ _ _=_;rw[Z4,Sg,WD,Vd,YD,Z7 q];rfl
     |false=>exact oO (by rw[q]at e;exact e.symm) (no q)
    ·refine YA (no ?_);have c1:¬(rd l i).from_=v:=fun q=>c1 (ZP (by rw[q]));unfold Oi;simp[c1]
  ·rintro σ H1 ⟨⟨c3,c4,rfl⟩,s1,d1⟩;rw[Z3,rl]at d1;exact Z1 Y (k H1 D hD s1 d1)
end
def IW:Nat->Nat
 |0=>1
 |k+1=>1+9*IW k
theorem yc{α:Type}(g:α->Nat)(B:Nat):∀L:List α,(∀x,x∈L->g x<=B)->(L.map g).sum<=L.length*B
 |[],_=>by simp
 |x::L,h=>by
  rw[Y1,To,Zg,Nat.succ_mul];have:=yc g B L fun y hy=>h y (Zf _ hy);have:=h x (YG ..);omega
theorem Fq{l:Land}(ok:Zh l):∀(k:Nat)(W4:List Nat)(v:Nat),below l k W4 v<=IW k
 |0,_,_=>ZK _
 |k+1,W4,v=>by
  show 1+((X6 l W4 v).map fun e=>below l k (v::W4) (rd l e).to_).sum<=1+9*IW k;have J:=yc (fun e=>below l k (v::W4) (rd l e).to_) (IW k) (X6 l W4 v) fun e _=>Fq ok k _ _;have h2:(X6 l W4 v).length<=9:=by
   unfold X6;refine ZA (Wg ..) ?_;rw[Y_];exact ok.r9
  have h3:=Nat.mul_le_mul_right (IW k) h2;omega
theorem vh{l:Land}(ok:Zh l):WS l []<=5380840:=by
 unfold WS;have h:=Fq ok (l.places+1-0) (rowAt l []).1 (rowAt l []).2;have p6:=ok.p6;have key:∀n,n<=6->IW (n+1-0)<=5380840:=by decide
 exact ZA h (key _ p6)
theorem Fp{l:Land}:∀L:List (List Nat),L.length<=(L.map (WS l)).sum
 |[]=>Zt _
 |r::L=>by
  rw[Y1,To,Zg];have:=LB l r;have:=Fp (l:=l) L;omega
structure L'(H:Hp)(D:Addr)(ra:List Addr)(rows:List (List Nat)):Prop where
 lst:H D=some (.lst (ra.map V.ref))
 len:ra.length=rows.length
 row:∀(i:Nat) r,ra[i]?=some r->NL H r (rows.getD i [])
theorem L'.up{H H':Hp}{D:Addr}{ra:List Addr}{rows:List (List Nat)}(h:L' H D ra rows)(s:ZX H H'):L' H' D ra rows:=⟨s _ _ h.lst,h.len,fun i r e=>s _ _ (h.row i r e)⟩
theorem getD_snoc{α:Type}{L:List α}{x d:α}{i:Nat}:(L++[x]).getD i d=if i<L.length then L.getD i d else if i=L.length then x else d:=by
 rw[ZW,ZW];by_cases h:i<L.length;·rw[Z7 h,VT h]
 ·rw[Z8 h,Uy (by omega)];by_cases q:i=L.length
  ·rw[Z7 q,q];simp
  ·rw[Z8 q,YH (by simp;omega)];rfl
theorem L'.off{H:Hp}{D X:Addr}{o:HO}{ra:List Addr}{rows:List (List Nat)}(h:L' H D ra rows)(n:D≠X)(nx:X∉ra):L' (upd H X o) D ra rows:=⟨by rw[ZV n];exact h.lst,h.len,fun i r e=>by
 show upd _ _ _ _=_;rw[ZV (fun q=>nx (by rw[<-q];exact Y3 e))];exact h.row i r e⟩
theorem L'.snoc{H:Hp}{D r:Addr}{ra:List Addr}{rows:List (List Nat)}{row:List Nat}(h:L' H D ra rows)(nd:D∉ra)(hr:NL H r row)(nr:r≠D):L' (upd H D (.lst (ra.map V.ref++[.ref r]))) D (ra++[r]) (rows++[row])where
 lst:=by rw[Z4,UM]
 len:=by rw[ZF,ZF,h.len];rfl
 row:=fun i x e=>by
  show upd _ _ _ _=_;rcases UL e with⟨z1,z2⟩|⟨z1,rfl⟩
  ·rw[ZV (fun q=>nd (by rw[<-q];exact Y3 z2)),getD_snoc,Z7 (by rw[<-h.len];exact z1)];exact h.row i x z2
  ·rw[ZV nr,getD_snoc,Z8 (by rw[z1,h.len];omega),Z7 (by rw[z1,h.len])];exact hr
theorem L'.cat{H:Hp}{D B:Addr}{ra rb:List Addr}{rows more:List (List Nat)}(h:L' H D ra rows)(g:L' H B rb more)(nd:D∉ra)(ne:D∉rb):L' (upd H D (.lst (ra.map V.ref++rb.map V.ref))) D (ra++rb) (rows++more)where
 lst:=by rw[Z4,YV]
 len:=by rw[ZF,ZF,h.len,g.len]
 row:=fun i x e=>by
  show upd _ _ _ _=_;rw[ZV (fun q=>(by
   rcases Zj.mp (Y3 e)with z|z;·exact nd (q▸z)
   ·exact ne (q▸z)))]
  rw[ZW];by_cases hi:i<ra.length
  ·rw[VT hi]at e;rw[VT (by rw[<-h.len];exact hi),<-ZW];exact h.row i x e
  ·rw[Uy (by omega)]at e;rw[Uy (by rw[<-h.len];omega),<-ZW,<-h.len];exact g.row _ x e
theorem L'.pop{H:Hp}{D r:Addr}{ra:List Addr}{rows:List (List Nat)}{row:List Nat}(h:L' H D (ra++[r]) (rows++[row]))(nd:D∉ra++[r]):L' (upd H D (.lst ((ra++[r]).map V.ref).dropLast)) D ra rows/\NL (upd H D (.lst ((ra++[r]).map V.ref).dropLast)) r row:=by
 have hl:ra.length=rows.length:=by have:=h.len;simpa using this
 refine⟨⟨by rw[Z4,YV];simp,hl,fun i x e=>?_⟩,?_⟩
 ·show upd _ _ _ _=_;have hi:i<ra.length:=(Zy.mp e).1;have e2:(ra++[r])[i]?=some x:=by rw[VT hi];exact e
  rw[ZV (fun q=>nd (by rw[<-q];exact Y3 e2))];have:=h.row i x e2;rw[getD_snoc,Z7 (by omega)]at this;exact this
 ·show upd _ _ _ _=_;have e2:(ra++[r])[ra.length]?=some r:=by simp
  rw[ZV (fun q=>nd (by rw[<-q];exact Y3 e2))];have:=h.row _ r e2;rw[getD_snoc,Z8 (by omega),Z7 hl]at this;exact this
theorem B9{K:W.Frag}{H:Hp}:∀(ra:List Addr)(rows:List (List Nat)),ra.length=rows.length->(∀(i:Nat) r,ra[i]?=some r->NL H r (rows.getD i []))->ND K H (ra.map V.ref) (rows.map fun us=>PyData.list (us.map fun(k:Nat)=>PyData.int (k:Int)))
 |[],[],_,_=>.nil
 |[],_::_,h,_=>by cases h
 |_::_,[],h,_=>by cases h
 |r::ra,us::rows,h,g=>.cons (yr (g 0 r Y)) (B9 ra rows (by simpa using h) fun i x e=>by
  have:=g (i+1) x (by simpa using e);simpa using this)
theorem Fo:∀rows:List (List Nat),PyData.canLayAll0 (rows.map fun us=>PyData.list (us.map fun(k:Nat)=>PyData.int (k:Int)))=true
 |[]=>rfl
 |us::rows=>by
  rw[Y1];simp only[PyData.canLayAll0,PyData.canLay0,KG us,Fo rows];rfl
theorem Fn:∀rows:List (List Nat),PyData.depthAll (rows.map fun us=>PyData.list (us.map fun(k:Nat)=>PyData.int (k:Int)))<=1
 |[]=>by simp[PyData.depthAll]
 |us::rows=>by
  rw[Y1];simp only[PyData.depthAll,PyData.depth,KD us];have:=Fn rows;omega
theorem Fm(rows:List (List Nat)):SeqAt.shaped (.list (rows.map fun us=>PyData.list (us.map fun(k:Nat)=>PyData.int (k:Int))))=true:=by
 unfold SeqAt.shaped;have J:PyData.canLay0 (.list (rows.map fun us=>PyData.list (us.map fun(k:Nat)=>PyData.int (k:Int))))=true:=by
  simp only[PyData.canLay0];exact Fo rows
 have h2:PyData.depth (.list (rows.map fun us=>PyData.list (us.map fun(k:Nat)=>PyData.int (k:Int))))<=64:=by
  simp only[PyData.depth];have:=Fn rows;omega
 rw[J,ZP h2];rfl
theorem yb(rows:List (List Nat)):PyData.eqv (.list (rows.map fun us=>PyData.list (us.map fun(k:Nat)=>PyData.int (k:Int)))) (.list [])=rows.isEmpty:=by
 cases rows with
 |nil=>simp [PyData.eqv,PyData.eqvAll]
 |cons u us=>simp [PyData.eqv,PyData.eqvAll]
theorem ow{K:W.Frag}{H:Hp}{D:Addr}{ra:List Addr}{rows:List (List Nat)}(h:L' H D ra rows):Dp K H (.ref D) (.list (rows.map fun us=>PyData.list (us.map fun(k:Nat)=>PyData.int (k:Int)))):=.lst (Zw.of h.lst) (B9 ra rows h.len h.row)
def Qt(r:List Nat):List Int:=r.map fun(k:Nat)=>(k:Int)
def toN(r:List Int):List Nat:=r.map Int.toNat
theorem L_(r:List Nat):toN (Qt r)=r:=by
 unfold toN Qt;rw[Yn];have:(Int.toNat∘fun(k:Nat)=>(k:Int))=id:=by
  funext k;simp
 rw[this,List.map_id]
theorem Oh:∀p q:List Nat,WM (Qt p) (Qt q)=true->before p q
 |[],_,_=>trivial
 |a::p,[],h=>by
  rw[show Qt []=[]from rfl,QG]at h;cases h
 |a::p,b::q,h=>by
  have h:(if(a:Int)=b then WM (Qt p) (Qt q)else decide ((a:Int)<b))=true:=h;by_cases e:(a:Int)=b
  ·rw[Z7 e]at h;exact .inr ⟨by omega,Oh p q h⟩
  ·rw[Z8 e]at h;have:=ZD h;exact .inl (by omega)
theorem IV(r:List Nat):(Qt r).map V.int=r.map fun(k:Nat)=>V.int (k:Int):=by
 unfold Qt;rw[Yn];rfl
theorem Fl{found:List (List Nat)}{ks:List (List Int)}(h:ks.Perm (found.map Qt))(hp:ks.Pairwise (fun x y=>WM x y=true)):∃L:List (List Nat),ks=L.map Qt/\L.Perm found/\L.Pairwise before:=by
 have e:ks=(ks.map toN).map Qt:=by
  rw[Yn];conv=>lhs;rw[<-List.map_id ks]
  refine VS fun x hx=>?_;obtain⟨r,_,rfl⟩:=Y9.mp (h.mem_iff.mp hx);show Qt r=Qt (toN (Qt r));rw[L_]
 refine⟨ks.map toN,e,?_,?_⟩
 ·have:=h.map toN;rw[Yn,show(toN∘Qt)=id from funext L_,List.map_id]at this;exact this
 ·rw[e,Uw]at hp;exact hp.imp fun q=>Oh _ _ q
theorem YI{n:Nat}(h:n<=16000000):n<sizeLine:=Yx h (by decide)
section
variable{P:Program}{w:World}{K:W.Frag}{mg:Str->Option Value}{base:Heap}{t:Yl}
def rD(t:Yl):Sp:=fun vs H Q _=>∃a l,vs=[.ref a]/\WI t H a l/\Zh l/\∀H' c ra,H c=none->ZX H H'->L' H' c ra (ways l)->Q (.ref c) H'
structure ya(l:Land)(H0 H:Hp)(F S:Addr)(fa sa:List Addr)(found started:List (List Nat)):Prop where
 s:ZX H0 H
 f:L' H F fa found
 st:L' H S sa started
 ff:F∉fa
 fs:S∉fa
 sf:F∉sa
 ss:S∉sa
 p:LA l found started
 le:(started.map (WS l)).sum<=WS l []
theorem NM:ZL ["land","found","started","row","passed","number"] ["land"] (ZZ (top 66)):=YR
theorem Vk(T:Txt K mg t):Y6 P w K mg base XB 34 t.RQ t.RP ["land"] (rD t):=by
 have sc:=NM;refine T.Ve.F.ok sc (fun vs H Q E h=>?_) (fun Yp A outer s H vs Q E hr h=>?_)
 ·obtain⟨a,l,rfl,_⟩:=h;rfl
 ·have HG:=hr.units;obtain⟨a,l,rfl,ES,ok,k⟩:=h;have p6:=ok.p6;have r9:=ok.r9;have bK:=vh ok;refine⟨_,(Z5 (ZS (i:=1) sc.nd Y Y4 (Zv Z2))
   (Z5 (ZS (i:=2) sc.nd Y Y4 (Zv (Z6 (Zv Z2) Z2)))
   (Z5 (Vb Zi (ZG (IE HG) (Z 2) (Zv Z2) (Zr _)) (Z5 (ZS (i:=3) sc.nd Y (Or.inr Y) (tE X9 PySem.F.slot_list_pop PySem.F.type_list_pop tu (Z 2)))
   (Z5 (ZS (i:=4) sc.nd Y Y4 (cl T.P9 (NN T) hr (Z6 (Z 0) (Z6 (Z 3) Z2))))
   (Z0 (YT (ZG UW (ZI ZM (Z 4) (GZ LZ ZR) (fun _ _=>rfl)) (ZY (Z 0) rfl) (Zr _)) (Z0 (Xe (UU X9 WN WC W8 (Z 1) (Z6 (Z 3) Z2)))) (Z0 (Xe (UU X9 Ti RF Ta (Z 2) (Z6 (R5 Y sc.nd (Yq (cl T.K1 (J9 T) hr (Z6 (Z 0) (Z6 (Z 4) Z2)))) (Yt (own:=[("number",5)]) (show T_ ["land","found","started","row","passed","number"] (ZZ (top 66)) _ _=true by decide+kernel)) (fun _ _ _ _ _=>by exact(Zz (i:=5) sc.nd Y Y4)) (fun _ _ _ _ _=>by exact XE) (fun _ _ _ _ _=>by exact(Zc Ut (Z 3) (Zv (Z6 (Z 5) Z2))))) Z2)))))))))
   (Z0 (ZN (YN (DX HG) (by rfl) T.yU boot_sorted (Z6 (Z 1) Z2))))))),?_⟩
  refine⟨Zt _,fun F hF=>⟨Zt _,fun r0 jj=>⟨(by show 1<=sizeLine;decide),fun S hS=>?_⟩⟩⟩;have s1:=ZX.new hF (.lst []);have s2:=ZX.new jj (.lst []);have s3:=ZX.new hS (.lst [.ref r0]);have Ci:=s1.trans (s2.trans s3);have bJ:F≠r0:=fun q=>by rw[<-q,Z4]at jj;cases jj
  have jh:F≠S:=Zx (s2 F _ Z4) hS;have bI:r0≠S:=fun q=>by rw[<-q,Z4]at hS;cases hS
  have gm:H S=none:=s1.free (s2.free hS);refine⟨fun m σ H'=>∃c3 c4 c5 fa sa found started,σ=[some (.ref a),some (.ref F),some (.ref S),c3,c4,c5]/\ya l H H' F S fa sa found started/\m=(started.map (WS l)).sum,⟨_,none,none,none,[],[r0],[],[[]],Y,⟨Ci,⟨s3 _ _ (s2 _ _ Z4),Y,fun i r e=>by simp at e⟩,⟨Z4,Y,fun i r e=>?_⟩,by simp,by simp,by simpa using bJ,by simpa using fun q=>bI q.symm,LA.start ok,by simp⟩,Y⟩,?_⟩
  ·cases i with
   |zero=>
    have e:some r0=some r:=e;cases e;exact s3 _ _ Z4
   |succ i=>simp at e
  rintro m σ H1 ⟨c3,c4,c5,fa,sa,found,started,rfl,G,rfl⟩;refine Z1 Y ⟨Zt _,fun q hq=>?_⟩;have sq:=ZX.new hq (.lst []);have fq:=G.f.up sq;have mF:=G.st.up sq;refine ZQ (ow mF) (DD Z4) ⟨Fm _,(by decide+kernel),Z1 Y ?_⟩;rw[yb];have sH:=G.s.trans sq;rcases List.eq_nil_or_concat started with rfl|⟨AR,row,rfl⟩
  ·
   refine YA ?_;have kW:found.length<64:=by
    have:=G.p.perm.length_eq;rw[List.flatMap_nil,Xw]at this;rw[this];exact F3 ok
   have bH:found.Nodup:=by
    have:=G.p.perm.nodup_iff.mpr (D4 l _ _ _);rw[List.flatMap_nil,Xw]at this;exact this
   refine Z1 Y ⟨F,fa,found.map Qt,Y,Zw.of fq.lst,by rw[Z3,fq.len],fun i r e=>?_,?_,by rw[fq.len];exact kW,fun vW xG p hl hp bG jg jf=>?_⟩
   ·have hi:i<found.length:=by rw[<-fq.len];exact(Zy.mp e).1
    have:=fq.row i r e;rw[ZW,Zb,ZT hi];rw[ZW,ZT hi]at this;show _=some (HO.lst ((Qt found[i]).map V.int));rw[IV];exact this
   ·refine Uw.mpr (bH.imp fun{x y} h z=>h ?_);rw[<-L_ x,z,L_]
   ·obtain⟨L,rfl,AN,ud⟩:=Fl hp bG;have eL:=D' G.p AN ud;subst eL;refine k _ p vW (sH.free jf) (sH.trans (ZX.new jf _)) ⟨Z4,by rw[<-hl,Z3],fun i r e=>?_⟩;have hi:i<(ways l).length:=by
     have:=(Zy.mp e).1;rw[<-hl,Z3]at this;exact this
    have J:=jg i r e;rw[ZW,Zb,ZT hi]at J;have J:upd H1 q (HO.lst []) r=some (HO.lst ((Qt (ways l)[i]).map V.int)):=J;rw[IV]at J;show upd _ _ _ _=_;rw[ZV (Zx J jf),ZW,ZT hi];exact J
  ·
   rw[List.concat_eq_append]at*;obtain⟨x_,r,rfl⟩:∃x_ r,sa=x_++[r]:=by
    rcases List.eq_nil_or_concat sa with rfl|⟨x_,r,rfl⟩
    ·have:=G.st.len;simp at this
    ·exact⟨x_,r,by rw[List.concat_eq_append]⟩
   have ss:=G.ss;have sf:=G.sf;have bF:S≠F:=fun q=>jh q.symm;obtain⟨gk,je⟩:=mF.pop ss;have jd:r≠S:=fun q=>ss (by rw[q];simp);have ou:r≠F:=fun q=>sf (by rw[q];simp);have jc:S∉x_:=fun q=>ss (Ym _ q);have jb:F∉x_:=fun q=>sf (Ym _ q);have f2:L' (upd (upd H1 q (.lst [])) S (.lst ((x_++[r]).map V.ref).dropLast)) F fa found:=fq.off jh G.fs;have ro:=G.p.ok row (by simp);have bE:=ro.len;refine qH (by cases AR<;>rfl) ⟨fun XC HR=>∃m',m'<((AR++[row]).map (WS l)).sum/\∃c3 c4 c5 fa sa found started,XC=[some (.ref a),some (.ref F),some (.ref S),c3,c4,c5]/\ya l H HR F S fa sa found started/\m'=(started.map (WS l)).sum,fun _ _ h=>h,?_⟩;refine Z1 Y ⟨.inl ⟨Y,_,Zw.of mF.lst⟩,S,_,.ref r,Y,Y,mF.lst,by simp,?_⟩;have gj:ZX H (upd (upd H1 q (.lst [])) S (.lst ((x_++[r]).map V.ref).dropLast)):=sH.Zu gm _;generalize hH2:upd (upd H1 q (.lst [])) S (.lst ((x_++[r]).map V.ref).dropLast)=H2 at*;have ud:=ES.up gj;refine Y' Y rfl (W9 a r l row ⟨Y,ud,je,ro.lt,by omega,fun H3 c nc s4 hP=>?_⟩);rw[Hy]at hP;have ja:=gj.trans s4;obtain⟨la,rs,hL⟩:=ES.up ja;obtain⟨Tu,ea⟩:=hL.obj;refine Y' Y rfl (ZJ Y rfl (Zw.of hP) (by rw[YV];exact GP _ _) (YJ Y ea T.Land.cl T.WW Y ⟨Y,Z1 Y (Wb (fun cc=>?_) (fun cc=>?_))⟩))
   ·have cc:(rowAt l row).2=l.goal:=by
     have:=ZD cc;injection this with this
     omega
    have f3:=f2.up s4;refine Z1 Y ⟨.inl ⟨Y,_,Zw.of f3.lst⟩,Z1 Y (XR F _ _ ⟨Y,Y,f3.lst,?_,_,Jv,Xh ⟨fa++[r],x_,found++[row],AR,Y,?_,Y⟩⟩)⟩
    ·rw[Z3,f3.len];have:=G.p.perm.length_eq;rw[ZF]at this;have:=F3 ok;exact YI (by omega)
    ·have P':=G.p.goal cc;have hFn:H F=none:=hF;refine⟨ja.Zu hF _,f3.snoc G.ff (s4 _ _ je) ou,(gk.up s4).off bF jb,?_,?_,jb,jc,P',?_⟩
     ·intro z;rcases Zj.mp z with z|z;·exact G.ff z
      ·exact ou (Zm.mp z).symm
     ·intro z;rcases Zj.mp z with z|z;·exact G.fs z
      ·exact jd (Zm.mp z).symm
     ·have:=Jv (l:=l) (started:=AR) (r:=row);have:=G.le;omega
   ·have cc:(rowAt l row).2≠l.goal:=fun z=>cc (ZP (by rw[z]));have tN:=gk.up s4;refine Z1 Y ⟨.inl ⟨Y,_,Zw.of tN.lst⟩,Y' Y rfl (Ua a c l _ _ ⟨Y,⟨la,rs,hL⟩,ok,hP,fun H4 n nn s5 hN=>⟨n,Y,⟨_,Zw.of hN⟩,fun D hD=>?_⟩⟩)⟩;have pL:=tN.up s5;have f4:=(f2.up s4).up s5;have i_:=s5 _ _ (s4 _ _ je);have fl:(X6 l (rowAt l row).1 (rowAt l row).2).length<=9:=by
     unfold X6;refine ZA (Wg ..) ?_;rw[Y_];exact r9
    refine Vi (K:=K) (a:=n) (xs:=(X6 l (rowAt l row).1 (rowAt l row).2).map fun(k:Nat)=>V.int (k:Int)) (fun i H'=>ZX H4 H'/\∃ba:List Addr,L' H' D ba (((X6 l (rowAt l row).1 (rowAt l row).2).take i).map fun e=>row++[e])/\D∉ba/\∀b,b∈ba->H4 b=none) ⟨ZX.new hD _,[],⟨Z4,Y,fun i r e=>by simp at e⟩,by simp,by simp⟩ (fun i H' _ q=>Zw.of (q.1 _ _ hN)) ?_ ?_
    ·rintro i x H5 hx ⟨s6,ba,g1,g2,g3⟩;obtain⟨e,he,rfl⟩:=Ud hx;have il:i<(X6 l (rowAt l row).1 (rowAt l row).2).length:=(Zy.mp he).1;have i9:=s6 _ _ i_;refine⟨Y,Y' Y rfl ⟨(by show 1<=sizeLine;decide),fun u hu=>?_⟩⟩;have s7:=ZX.new hu (.lst [.int (e:Int)]);refine W9 r u _ _ ⟨Y,Y,s7 _ _ i9,Z4,?_,fun y hy=>?_⟩
     ·rw[Z3];exact YZ (YI (show row.length+1<=16000000 by omega))
     have s8:=ZX.new hy (.lst ((row.map fun(k:Nat)=>V.int (k:Int))++[.int (e:Int)]));have g5:=(g1.up s7).up s8;have ny:y≠D:=fun z=>by rw[z,(g1.up s7).lst]at hy;cases hy
     have bD:NL (upd (upd H5 u (.lst [.int (e:Int)])) y (.lst ((row.map fun(k:Nat)=>V.int (k:Int))++[.int (e:Int)]))) y (row++[e]):=by
      show upd _ _ _ _=_;rw[Z4,Sg]
     refine⟨_,g5.lst,?_,((s6.trans s7).trans s8).Zu hD _,ba++[y],?_,?_,?_⟩
     ·rw[Z3,g5.len,Z3,Xt];exact YI (by omega)
     ·have:=g5.snoc g2 bD ny;rw[SK he,YV];exact this
     ·intro z;rcases Zj.mp z with z|z;·exact g2 z
      ·exact ny (Zm.mp z).symm
     ·intro b O;rcases Zj.mp O with z|z;·exact g3 b z
      ·rw[Zm.mp z];exact(s6.trans s7).free hy
    ·rintro H5 ⟨s6,ba,g1,g2,g3⟩;rw[Z3,XX]at g1;have xN:=pL.up s6;have f5:=f4.up s6;have gi:S∉ba:=fun z=>by have:=g3 S z;rw[pL.lst]at this;cases this
     have bC:F∉ba:=fun z=>by have:=g3 F z;rw[f4.lst]at this;cases this
     have P':=G.p.more ok cc;have lm:=BA (l:=l) (started:=AR) (r:=row) (by omega);have gle:=G.le;have ln:=Fp (l:=l) (AR++(X6 l (rowAt l row).1 (rowAt l row).2).map fun e=>row++[e]);refine W9 S D _ _ ⟨Y,Y,xN.lst,g1.lst,?_,_,lm,Xh ⟨fa,x_++ba,Xr found _ ⟨Y,?_,Y⟩⟩⟩
     ·rw[Z3,Z3,xN.len,g1.len];rw[ZF]at ln;exact YZ (YI (by omega))
     ·refine⟨((ja.trans s5).trans s6).Zu gm _,f5.off jh G.fs,xN.cat g1 jc gi,G.ff,G.fs,?_,?_,P',by omega⟩
      ·intro z;rcases Zj.mp z with z|z;·exact jb z
       ·exact bC z
      ·intro z;rcases Zj.mp z with z|z;·exact jc z
       ·exact gi z
end
end Rw
namespace Rw
open PySem PySem.Spec PyProof.Rows L2 RR
open RhRoads (Road Land settled on total costTo ways wayCost leastOn parts partsOf)
theorem Dx{l:Land}{f:RhRoads.Flow}{w:List Nat}(h:∀e,e∈w->e<l.roads.length):wayCost l f w=ls w fun e=>(rd l e).price false (on f e):=by
 have:wayCost l f w=ls w fun(e:Nat)=>match l.roads[e]?with
  |some r=>r.price false (on f e)
  |none=>0:=rfl
 rw[this];refine XT fun e he=>?_;have hl:=h e he;have e2:rd l e=l.roads[e]:=by
  show l.roads.getD e _=_;rw[ZW,ZT hl];rfl
 rw[ZT hl,e2]
section
variable{P:Program}{w:World}{K:W.Frag}{mg:Str->Option Value}{base:Heap}{t:Yl}
def A4(t:Yl):Sp:=fun vs H Q _=>∃a c b l f wy,vs=[.ref a,.ref c,.ref b]/\VB t H a c l f/\NL H b wy/\(∀e,e∈wy->e<l.roads.length)/\wy.length<=10/\∀H' d,ZX H H'->Fr H' d (wayCost l f wy)->Q (.ref d) H'
theorem Fj:ZL ["land","flow","way","total","number"] ["land","flow","way"] (ZZ (top 67)):=YR
theorem Fi(T:Txt K mg t):Y6 P w K mg base XB 38 t.Lk t.Lj ["land","flow","way"] (A4 t):=by
 have sc:=Fj;refine T.FR.F.ok sc (fun vs H Q E h=>?_) (fun Yp A outer s H vs Q E hr h=>?_)
 ·obtain⟨a,c,b,l,f,wy,rfl,_⟩:=h;rfl
 ·obtain⟨a,c,b,l,f,wy,rfl,FA,O,WY,w10,k⟩:=h;obtain⟨la,rs,hL⟩:=FA.land;obtain⟨Tu,ea⟩:=hL.obj;have ok:=FA.ok;have rl:rs.length=l.roads.length:=hL.len;obtain⟨cs,J,h2,h3⟩:=FA.fr;have Fw:cs.length=l.roads.length:=by rw[h2];exact FA.len
  let pr:Nat->Rat:=fun e=>(rd l e).price false (on f e)
  refine⟨_,(Z5 (ZS (i:=3) sc.nd Y Y4 (cl T.ratio (Yg T) hr (Z6 ZR (Z6 ZR Z2))))
   (Z5 (Yu Zi Y (Yq (Z 2)) (Zz (i:=4) sc.nd Y Y4) (Z0 (ZS (i:=3) sc.nd Y Y4 (cl T.plus (UJ T) hr (Z6 (Z 3) (Z6 (cl T.QC (R_ T) hr (Z6 (ZI ZM (ZY (Z 0) rfl) (Z 4) (fun _ _=>rfl)) (Z6 (ZI ZM (Z 1) (Z 4) (fun _ _=>rfl)) Z2))) Z2))))))
   (Z0 (ZN (Z 3))))),?_⟩
  refine⟨0,1,Y,by decide,fun p hp=>?_⟩;rw[Be];have s0:=ZX.new hp (.tup [.int (0:Rat).num,.int (0:Rat).den]);refine Z1 Y ⟨b,Y,⟨_,Zw.of (s0 _ _ O)⟩,?_⟩;refine Xo (K:=K) (a:=b) (xs:=wy.map fun(k:Nat)=>V.int (k:Int)) (fun i σ H'=>ZX H H'/\∃c4 d,σ=[some (.ref a),some (.ref c),some (.ref b),some (.ref d),c4]/\Fr H' d (ls (wy.take i) pr)/\Rb (31043*i+1) (ls (wy.take i) pr))
   ⟨s0,none,p,Y,Z4,Rb.ofInt (x:=0) (Bd.zero _) (by omega)⟩ (fun i σ H' _ q=>Zw.of (q.1 _ _ O)) ?_ ?_
  ·rintro i x σ H1 hx ⟨s1,c4,d,rfl,fd,bd⟩;obtain⟨e,he,rfl⟩:=Ud hx;have el:=WY e (Y3 he);have il:i<wy.length:=(Zy.mp he).1;have ro:=ok.rd el;obtain⟨ra,Xg⟩:∃ra,rs[e]?=some ra:=⟨rs[e]'(by omega),ZT (by omega)⟩;obtain⟨xa,IY⟩:∃xa,cs[e]?=some xa:=⟨cs[e]'(by omega),ZT (by omega)⟩;have fx:Fr H1 xa (on f e):=(h3 e xa IY).up s1;have bx:Rb 31000 (on f e):=FA.bd e;refine Y' Y rfl (S7 (s1 _ _ ea) T.Land.cl T.ZH Y (Z1 Y (ZJ Y rfl (Zw.of (s1 _ _ hL.lst)) (Yz Xg) (Y' Y rfl (ZJ Y rfl (Zw.of (s1 _ _ J)) (Yz IY) ⟨ra,xa,rd l e,ZQ Y ((hL.at_ e ra Xg).up s1) ⟨ro,fx,bx.mono (by decide),fun H2 g s2 fg=>?_⟩⟩)))));have bp:Rb 31042 (pr e):=by
    show Rb 31042 ((rd l e).price false (on f e));rw[<-Qx];exact KA ro bx
   refine⟨d,g,ZQ Y (fd.up s2) ⟨fg,bd.mono (by show 31043*i+1<=33554432;omega),bp.mono (by decide),fun H3 z s3 fz=>?_⟩⟩;have et:ls (wy.take (i+1)) pr=ls (wy.take i) pr+pr e:=by
    rw[SK he,JH,X1,Tx];grind
   refine⟨s1.trans (s2.trans s3),_,z,Y,?_,?_⟩
   ·rw[et];exact fz
   ·rw[et];exact(bd.add bp).mono (by omega)
  ·rintro σ H1 ⟨s1,c4,d,rfl,fd,bd⟩;rw[Z3,XX]at fd;refine Z1 Y (k H1 d s1 ?_);rw[Dx WY];exact fd
def vg(t:Yl):Sp:=fun vs H Q _=>∃c b f n wy B,vs=[.ref c,.ref b]/\SJ H c f n/\NL H b wy/\wy≠[]/\(∀e,e∈wy->e<n)/\(∀e,Rb B (f e))/\B<=G9/\∀x e,e∈wy->Fr H x (f e)->(∀g,g∈wy->f e<=f g)->Q (.ref x) H
theorem Fh:ZL ["flow","way","least","number"] ["flow","way"] (ZZ (top 68)):=YR
theorem Fg(T:Txt K mg t):Y6 P w K mg base XB 34 t.Li t.Lh ["flow","way"] (vg t):=by
 have sc:=Fh;refine T.FQ.F.ok sc (fun vs H Q E h=>?_) (fun Yp A outer s H vs Q E hr h=>?_)
 ·obtain⟨c,b,f,n,wy,B,rfl,_⟩:=h;rfl
 ·obtain⟨c,b,f,n,wy,B,rfl,⟨cs,J,h2,h3⟩,O,QN,WY,hB,bB,k⟩:=h;obtain⟨e0,wt,rfl⟩:∃e0 wt,wy=e0::wt:=by
   cases wy with
   |nil=>exact absurd rfl QN
   |cons e0 wt=>exact Xr e0 wt rfl
  have at_:∀e,e∈e0::wt->∃xa,cs[e]?=some xa/\Fr H xa (f e):=fun e he=>by
   have:=WY e he;exact⟨cs[e]'(by omega),ZT (by omega),h3 e _ (ZT (by omega))⟩
  obtain⟨x0,bA,bj⟩:=at_ e0 (by simp);refine⟨_,(Z5 (ZS (i:=2) sc.nd Y Y4 (ZI ZM (Z 0) (ZI ZM (Z 1) ZR (fun _ _=>rfl)) (fun _ _=>rfl)))
   (Z5 (Yu Zi Y (Yq (Z 1)) (Zz (i:=3) sc.nd Y Y4) (Z0 (YT (TF (cl T.less (HQ T) hr (Z6 (ZI ZM (Z 0) (Z 3) (fun _ _=>rfl)) (Z6 (Z 2) Z2)))) (Z0 (ZS (i:=2) sc.nd Y Y4 (ZI ZM (Z 0) (Z 3) (fun _ _=>rfl)))) Zs)))
   (Z0 (ZN (Z 2))))),?_⟩
  refine Y' Y rfl (Xh ⟨.int (e0:Int),Y,Y,Zw.of O,SD (j:=0) rfl,ZJ Y rfl (Zw.of J) (Yz bA) ?_⟩);refine Z1 Y ⟨b,Y,⟨_,Zw.of O⟩,?_⟩;refine Xo (K:=K) (a:=b) (xs:=(e0::wt).map fun(k:Nat)=>V.int (k:Int)) (fun i σ H'=>H'=H/\∃c3 x e,σ=[some (.ref c),some (.ref b),some (.ref x),c3]/\e∈e0::wt/\Fr H x (f e)/\∀g,g∈(e0::wt).take i->f e<=f g)
   ⟨Y,XR none x0 e0 ⟨Y,by simp,bj,fun g hg=>by simp at hg⟩⟩ (fun i σ H' _ q=>by rw[q.1];exact Zw.of O) ?_ ?_
  ·rintro i x σ H1 hx ⟨rfl,c3,y,e,rfl,he,fy,hle⟩;obtain⟨g,hg,rfl⟩:=Ud hx;have gh:=Y3 hg;obtain⟨xa,IY,gf⟩:=at_ g gh;refine Y' Y rfl (ZJ Y rfl (Zw.of J) (Yz IY) (Z1 Y (W9 xa y _ _ ⟨Y,gf,fy,(hB g).mono bB,(hB e).mono bB,Z1 Y (Wb (fun cc=>?_) (fun cc=>?_))⟩)))
   ·have cc:f g<f e:=ZD cc;refine Y' Y rfl (ZJ Y rfl (Zw.of J) (Yz IY) ⟨Y,XR _ xa g ⟨Y,gh,gf,fun u hu=>?_⟩⟩);rw[SK hg]at hu;rcases Zj.mp hu with z|z
    ·have:=hle u z;grind
    ·rw[Zm.mp z];exact Ye
   ·have cc:¬f g<f e:=fun z=>cc (ZP z);refine⟨Y,XR _ y e ⟨Y,he,fy,fun u hu=>?_⟩⟩;rw[SK hg]at hu;rcases Zj.mp hu with z|z;·exact hle u z
    ·rw[Zm.mp z];exact Rat.not_lt.mp cc
  ·rintro σ H1 ⟨rfl,c3,y,e,rfl,he,fy,hle⟩;rw[Z3,XX]at hle;exact Z1 Y (k y e he fy hle)
def Wm(H:Hp)(D:Addr)(ps:List (Rat×List Nat)):Prop:=∃ta:List Addr,H D=some (.lst (ta.map V.ref))/\ta.length=ps.length/\∀(i:Nat) a,ta[i]?=some a->∃x b,H a=some (.tup [.ref x,.ref b])/\Fr H x (ps.getD i (0,[])).1/\NL H b (ps.getD i (0,[])).2/\(ps.getD i (0,[])).2≠[]
theorem Wm.up{H H':Hp}{D:Addr}{ps:List (Rat×List Nat)}(h:Wm H D ps)(s:ZX H H'):Wm H' D ps:=by
 obtain⟨ta,J,h2,h3⟩:=h;refine⟨ta,s _ _ J,h2,fun i a e=>?_⟩;obtain⟨x,b,g1,g2,g3,g4⟩:=h3 i a e;exact⟨x,b,s _ _ g1,g2.up s,s _ _ g3,g4⟩
theorem Kx{H:Hp}{b L:Addr}{wy:List Nat}{cs:List Addr}(h:NL H b wy)(ne:wy≠[])(hL:H L=some (.lst (cs.map V.ref))):b≠L:=fun q=>by
 have h:H b=some (HO.lst (wy.map fun(k:Nat)=>V.int (k:Int))):=h;rw[q,hL]at h;have h:=Y8 h;injection h with h
 cases wy with
 |nil=>exact ne rfl
 |cons e wy=>
  cases cs with
  |nil=>cases h
  |cons c cs=>
   rw[Y1,Y1]at h;injection h with J _
   cases J
theorem Wm.off{H:Hp}{D L:Addr}{ps:List (Rat×List Nat)}{cs:List Addr}{ys:List V}(h:Wm H D ps)(n:D≠L)(hL:H L=some (.lst (cs.map V.ref))):Wm (upd H L (.lst ys)) D ps:=by
 obtain⟨ta,J,h2,h3⟩:=h;refine⟨ta,by rw[ZV n];exact J,h2,fun i a e=>?_⟩;obtain⟨x,b,g1,g2,g3,g4⟩:=h3 i a e;exact⟨x,b,Xi g1 hL fun _ q=>(by cases q),Xi g2 hL fun _ q=>(by cases q),by show upd _ _ _ _=_;rw[ZV (Kx g3 g4 hL)];exact g3,g4⟩
theorem Wm.snoc{H:Hp}{D a x b:Addr}{ps:List (Rat×List Nat)}{m:Rat}{wy:List Nat}{ta:List Addr}(h:Wm H D ps)(ht:H D=some (.lst (ta.map V.ref)))(ha:H a=some (.tup [.ref x,.ref b]))(fx:Fr H x m)(O:NL H b wy)(ne:wy≠[]):Wm (upd H D (.lst (ta.map V.ref++[.ref a]))) D (ps++[(m,wy)]):=by
 obtain⟨tb,J,h2,h3⟩:=h;have e:tb.map V.ref=ta.map V.ref:=by
  rw[J]at ht;have:=Y8 ht;injection this
 have el:ta.length=tb.length:=by
  have:=congrArg List.length e;rw[Z3,Z3]at this;exact this.symm
 refine⟨tb++[a],by rw[Z4,<-e,UM],by rw[ZF,ZF,h2];rfl,fun i y hy=>?_⟩;rcases UL hy with⟨z1,z2⟩|⟨z1,rfl⟩
 ·obtain⟨x',b',g1,g2,g3,g4⟩:=h3 i y z2;rw[getD_snoc,Z7 (by omega)];exact⟨x',b',Xi g1 J fun _ q=>(by cases q),Xi g2 J fun _ q=>(by cases q),by show upd _ _ _ _=_;rw[ZV (Kx g3 g4 J)];exact g3,g4⟩
 ·rw[getD_snoc,Z8 (by omega),Z7 (by omega)];exact⟨x,b,Xi ha J fun _ q=>(by cases q),Xi fx J fun _ q=>(by cases q),by show upd _ _ _ _=_;rw[ZV (Kx O ne J)];exact O,ne⟩
theorem MJ(l:Land):∀(k:Nat)(f:RhRoads.Flow),(partsOf l k f).length<=k
 |0,_=>ZK _
 |k+1,f=>by
  unfold partsOf;split;·exact Zt _
  ·rw[Zg];have:=MJ l k;exact Nat.succ_le_succ (this _)
theorem NK(l:Land)(f:RhRoads.Flow):(parts l f).length<=10:=MJ l _ f
theorem ot:∀k,k<=10->31001*2^k-1<=33554432:=by decide
theorem Hx{f:RhRoads.Flow}{e:Nat}(h:f.length<=e):on f e=0:=by
 unfold on;rw[ZW,YH h];rfl
def vf(t:Yl):Sp:=fun vs H Q _=>∃a c l f,vs=[.ref a,.ref c]/\VB t H a c l f/\(∀e,e<l.roads.length->0<=on f e)/\∀H' d,ZX H H'->Wm H' d (parts l f)->Q (.ref d) H'
theorem Ff:ZL ["land","flow","parts","left","way","amount","number"] ["land","flow"] (ZZ (top 69)):=YR
theorem Fe(T:Txt K mg t):Y6 P w K mg base XB 37 t.Lg t.Lf ["land","flow"] (vf t):=by
 have sc:=Ff;refine T.FP.F.ok sc (fun vs H Q E h=>?_) (fun Yp A outer s H vs Q E hr h=>?_)
 ·obtain⟨a,c,l,f,rfl,_⟩:=h;rfl
 ·obtain⟨a,c,l,f,rfl,FA,nn,k⟩:=h;have ok:=FA.ok;have r9:=ok.r9;obtain⟨cs,J,h2,h3⟩:=FA.fr;have Fw:cs.length=l.roads.length:=by rw[h2];exact FA.len
  have gc:∀e,0<=on f e:=fun e=>by
   by_cases q:e<l.roads.length;·exact nn e q
   ·rw[Hx (by rw[FA.len];omega)];exact Ye
  refine⟨_,(Z5 (ZS (i:=2) sc.nd Y Y4 (Zv Z2))
   (Z5 (ZS (i:=3) sc.nd Y Y4 (Vs Wr (by rfl) T.NU boot_list (Z6 (Z 1) Z2)))
   (Z5 (Yu Zi Y (Yq (cl T.Ve (Vk T) hr (Z6 (Z 0) Z2))) (Zz (i:=4) sc.nd Y Y4) (Z5 (ZS (i:=5) sc.nd Y Y4 (cl T.FQ (Fg T) hr (Z6 (Z 3) (Z6 (Z 4) Z2))))
   (Z5 (YT (ZG UW (ZI Yj (Z 5) ZR (fun _ _=>rfl)) ZR (Zr _)) (Z0 V3) Zs)
   (Z5 (Xe (UU X9 WN WC W8 (Z 2) (Z6 (ED (Z6 (Z 5) (Z6 (Z 4) Z2))) Z2)))
   (Z0 (Yu Zi Y (Yq (Z 4)) (Zz (i:=6) sc.nd Y Y4) (Z0 (P5 (cl T.minus (FL T) hr (Z6 (ZI ZM (Z 3) (Z 6) (fun _ _=>rfl)) (Z6 (Z 5) Z2))) (P6 (Z 3) (Z 6) set_list)))))))))
   (Z0 (ZN (Z 2)))))),?_⟩
  refine⟨Zt _,fun Pp f_=>?_⟩;have s1:=ZX.new f_ (.lst []);refine Z1 Y (ZQ Y (.inl (Zw.of (s1 _ _ J))) (fun L hL=>?_));have s2:=ZX.new hL (.lst (cs.map V.ref));have Qy:=s1.trans s2;have a_:H L=none:=s1.free hL;have f6:Pp≠L:=fun q=>by rw[<-q,Z4]at hL;cases hL
  refine Z1 Y ⟨a,l,Y,FA.land.up Qy,ok,fun H1 W ra hW s3 R=>?_⟩;have fZ:W≠L:=fun q=>by rw[q,Z4]at hW;cases hW
  have nLW:L≠W:=fun q=>fZ q.symm;have a9:W≠Pp:=fun q=>by
   have:=s2 Pp _ Z4;rw[q,this]at hW;cases hW
  have Ci:=Qy.trans s3;have L1:SJ H1 L (on f) l.roads.length:=⟨cs,s3 _ _ Z4,Fw,fun j b e=>(h3 j b e).up Ci⟩;have P1:Wm H1 Pp []:=⟨[],s3 _ _ (s2 _ _ Z4),Y,fun i a e=>by simp at e⟩;have wm:∀wy,wy∈ways l->wy≠[]/\(∀e,e∈wy->e<l.roads.length)/\wy.Nodup:=fun wy hw=>Ly ok hw;have p0:parts l f=pass (ways l) f:=D_ ok FA.len gc fun wy hw=>⟨(wm wy hw).1,(wm wy hw).2.1⟩;have W0:∀H',ZX H1 H'->True:=fun _ _=>trivial;refine⟨W,Y,⟨_,Zw.of R.lst⟩,?_⟩;refine Xo (K:=K) (a:=W) (xs:=ra.map V.ref) (fun i σ H'=>ZX H H'/\L' H' W ra (ways l)/\∃c4 c5 c6 A cur,σ=[some (.ref a),some (.ref c),some (.ref Pp),some (.ref L),c4,c5,c6]/\Wm H' Pp A/\SJ H' L (on cur) l.roads.length/\cur.length=l.roads.length/\(∀e,0<=on cur e)/\parts l f=A++pass ((ways l).drop i) cur/\∀e,Rb (31001*2^A.length-1) (on cur e))
   ⟨Ci,R,none,none,none,[],f,Y,P1,L1,FA.len,gc,p0,fun e=>(FA.bd e).mono (by show 31000<=31001*2^0-1;decide)⟩ (fun i σ H' _ q=>Zw.of q.2.1.lst) ?_ ?_
  ·rintro i x σ H2 hx ⟨s4,R2,c4,c5,c6,A,cur,rfl,P2,L2,i8,pz,pe,rb⟩;obtain⟨b,O,rfl⟩:=Yb hx;have il:i<(ways l).length:=by rw[<-R2.len];exact(Zy.mp O).1
   have a8:(ways l).getD i []=(ways l)[i]:=by rw[ZW,ZT il];rfl
   obtain⟨wy,rB⟩:∃wy,(ways l)[i]=wy:=⟨_,Y⟩;have a7:wy∈ways l:=by rw[<-rB];exact WO il
   obtain⟨w1,w2,w3⟩:=wm wy a7;have nb:NL H2 b wy:=by
    have:=R2.row i b O;rw[a8,rB]at this;exact this
   have dr:(ways l).drop i=wy::(ways l).drop (i+1):=by rw[List.drop_eq_getElem_cons il,rB]
   have Al:A.length<=10:=by
    have:=NK l f;rw[pe,ZF]at this;omega
   have bk:=ot _ Al;refine Y' Y rfl ⟨L,b,on cur,l.roads.length,wy,Z1 Y ⟨L2,nb,w1,w2,rb,bk,fun xm em jV fm hle=>?_⟩⟩;have a6:OZ cur wy (on cur em):=⟨⟨em,jV,Y⟩,hle⟩;have x9:leastOn cur wy=on cur em:=(PQ cur wy w1).uniq a6;have a0:pass (wy::(ways l).drop (i+1)) cur=if leastOn cur wy=0 then pass ((ways l).drop (i+1)) cur else(leastOn cur wy,wy)::pass ((ways l).drop (i+1)) (Uq cur wy (leastOn cur wy)):=rfl
   rw[dr,a0]at pe;refine Z1 Y (ZJ Y rfl (U4.of fm) rfl ⟨Y,Z1 Y (Wb (fun z=>?_) (fun z=>?_))⟩)
   ·have z:=ZD z;injection z with z
    have z:on cur em=0:=Rat.num_eq_zero.mp z;rw[Z7 (by rw[x9];exact z)]at pe;exact⟨s4,R2,Xh ⟨A,cur,Y,P2,L2,i8,pz,pe,rb⟩⟩
   ·have z:on cur em≠0:=fun q=>z (ZP (by rw[q];rfl));rw[Z8 (by rw[x9];exact z),x9]at pe;have aZ:=P2;obtain⟨ta,t1,t2,t3⟩:=aZ;refine Z1 Y ⟨.inl ⟨Y,_,Zw.of t1⟩,Y' Y rfl ⟨(by show 2<=sizeLine;decide),fun tp aY=>?_⟩⟩;have s5:=ZX.new aY (.tup [.ref xm,.ref b]);refine⟨Pp,ZQ Y rfl ⟨s5 _ _ t1,by rw[Z3,t2];exact YI (by omega),?_⟩⟩;have P3:=(P2.up s5).snoc (ta:=ta) (s5 _ _ t1) Z4 (fm.up s5) (s5 _ _ nb) w1;have aX:b≠Pp:=Kx nb w1 t1;have aW:ZX H (upd (upd H2 tp (.tup [.ref xm,.ref b])) Pp (.lst (ta.map V.ref++[.ref tp]))):=(s4.trans s5).Zu f_ _;have aV:Pp∉ra:=fun q=>by
     obtain⟨j,hj,aU⟩:=XY.mp q;have jl:j<(ways l).length:=by rw[<-R2.len];exact hj
     have:=R2.row j Pp (by rw[ZT hj,aU]);rw[ZW,ZT jl]at this;exact Kx this (wm _ (WO jl)).1 t1 rfl
    have R3:=(R2.up s5).off (o:=.lst (ta.map V.ref++[.ref tp])) a9 aV;obtain⟨aT,l1,l2,l3⟩:=L2.up s5;have L3:SJ (upd (upd H2 tp (.tup [.ref xm,.ref b])) Pp (.lst (ta.map V.ref++[.ref tp]))) L (on cur) l.roads.length:=⟨aT,by rw[ZV (fun q=>f6 q.symm)];exact l1,l2,fun j y e=>Xi (l3 j y e) (s5 _ _ t1) fun _ q=>(by cases q)⟩;have fY:NL (upd (upd H2 tp (.tup [.ref xm,.ref b])) Pp (.lst (ta.map V.ref++[.ref tp]))) b wy:=by
     show upd _ _ _ _=_;rw[ZV aX];exact s5 _ _ nb
    have aS:Fr (upd (upd H2 tp (.tup [.ref xm,.ref b])) Pp (.lst (ta.map V.ref++[.ref tp]))) xm (on cur em):=Xi (fm.up s5) (s5 _ _ t1) fun _ q=>(by cases q);have Al2:A.length+1<=10:=by
     have:=NK l f;rw[pe,ZF,Zg]at this;omega
    generalize eX:upd (upd H2 tp (.tup [.ref xm,.ref b])) Pp (.lst (ta.map V.ref++[.ref tp]))=H3 at*;refine Z1 Y ⟨b,Y,⟨_,Zw.of fY⟩,?_⟩;refine Xo (K:=K) (a:=b) (xs:=wy.map fun(k:Nat)=>V.int (k:Int)) (fun j σ H'=>ZX H H'/\L' H' W ra (ways l)/\NL H' b wy/\Fr H' xm (on cur em)/\Wm H' Pp (A++[(on cur em,wy)])/\SJ H' L (fun e=>if e∈wy.take j then on cur e-on cur em else on cur e) l.roads.length/\∃c6,σ=[some (.ref a),some (.ref c),some (.ref Pp),some (.ref L),some (.ref b),some (.ref xm),c6])
     ⟨aW,R3,fY,aS,P3,L3.congr fun j hj=>by simp,_,Y⟩ (fun j σ H' _ q=>Zw.of q.2.2.1) ?_ ?_
    ·rintro j y σ H4 hy ⟨s6,R4,i7,i6,P4,L4,aR,rfl⟩;obtain⟨e,he,rfl⟩:=Ud hy;have i5:=Y3 he;have el:=w2 e i5;have jl:j<wy.length:=(Zy.mp he).1;have i4:e∉wy.take j:=fun q=>by
      obtain⟨u,hu,fX⟩:=XY.mp q;rw[Xt]at hu;rw[List.getElem_take]at fX;have h2:wy[j]=e:=by
       have:=ZT jl;rw[he]at this;exact(Y8 this).symm
      have:=(List.getElem_inj w3).mp (fX.trans h2.symm);omega
     obtain⟨bs,xb,e1,e2,e3,e4⟩:=L4.at_ el;rw[Z8 i4]at e4;refine Y' Y rfl (ZJ Y rfl (Zw.of e1) (Yz e3) (Z1 Y ⟨xb,xm,ZQ Y e4 ⟨i6,(rb e).mono bk,(rb em).mono bk,fun H5 z' s7 fz=>?_⟩⟩));obtain⟨xs,x1,x2,x3⟩:=(L4.up s7).set fz el;refine Y' Y rfl ⟨L,Xh ⟨Y,Y,x1,x2,?_⟩⟩;have Bc:=s7 _ _ e1;have hx:bs.map V.ref=xs:=by
      rw[Bc]at x1;have:=Y8 x1;injection this
     subst hx;have aQ:L∉ra:=fun q=>by
      obtain⟨u,hu,aP⟩:=XY.mp q;have ul:u<(ways l).length:=by rw[<-R4.len];exact hu
      have:=R4.row u L (by rw[ZT hu,aP]);rw[ZW,ZT ul]at this;exact Kx this (wm _ (WO ul)).1 e1 rfl
     refine⟨(s6.trans s7).Zu a_ _,(R4.up s7).off fZ aQ,?_,Xi (i6.up s7) Bc fun _ q=>(by cases q),(P4.up s7).off f6 Bc,x3.congr fun u hu=>?_,_,Y⟩
     ·show upd _ _ _ _=_;rw[ZV (Kx i7 w1 e1)];exact s7 _ _ i7
     ·rw[SK he];by_cases q:u=e;·rw[Z7 q,Z7 (by rw[q];simp),q]
      ·rw[Z8 q];by_cases q2:u∈wy.take j;·rw[Z7 q2,Z7 (Ym _ q2)]
       ·rw[Z8 q2,Z8];intro q3;rcases Zj.mp q3 with q3|q3;·exact q2 q3
        ·exact q (Zm.mp q3)
    ·rintro σ H4 ⟨s6,R4,i7,i6,P4,L4,aR,rfl⟩;rw[Z3,XX]at L4;have iZ:∀e,e<cur.length->on (Uq cur wy (on cur em)) e=if e∈wy then on cur e-on cur em else on cur e:=fun e he=>Ju he
     refine⟨s6,R4,Xh ⟨A++[(on cur em,wy)],Uq cur wy (on cur em),Y,P4,L4.congr fun e he=>(iZ e (by omega)).symm,by rw[Wz];exact i8,fun e=>?_,by rw[pe,VX];rfl,fun e=>?_⟩⟩
     ·by_cases q:e<cur.length
      ·rw[iZ e q];split
       ·rename_i hm;have:=hle e hm;grind
       ·exact pz e
      ·rw[Hx (by rw[Wz];omega)];exact Ye
     ·have e2:(A++[(on cur em,wy)]).length=A.length+1:=by simp
      have aO:0<2^A.length:=Nat.pow_pos (by omega);rw[e2,Nat.pow_succ];by_cases q:e<cur.length
      ·rw[iZ e q];split;·exact((rb e).sub (rb em)).mono (by omega)
       ·exact(rb e).mono (by omega)
      ·rw[Hx (by rw[Wz];omega)];exact Rb.ofInt (x:=0) (Bd.zero _) (by omega)
  ·rintro σ H2 ⟨s4,R2,c4,c5,c6,A,cur,rfl,P2,L2,i8,pz,pe,rb⟩;rw[Z3,R2.len,List.drop_length]at pe;have pe:parts l f=A++[]:=pe;rw[Xw]at pe;subst pe;exact Z1 Y (k H2 Pp s4 P2)
end
open RoadSpec (timeOf fraction fractions tells says no orNo ofFlow)
theorem A3(us:List Nat):(tells us).map V.int=us.map fun(k:Nat)=>V.int (k:Int):=by
 unfold tells;rw[Yn];rfl
theorem V0(qs:List Rat):(qs.flatMap fraction).length=2*qs.length:=by
 induction qs with
 |nil=>rfl
 |cons q qs ih=>
  rw[VU,ZF,ih,Zg];show 2+_=_;omega
section
variable{P:Program}{w:World}{K:W.Frag}{mg:Str->Option Value}{base:Heap}{t:Yl}
def oq:Sp:=fun vs H Q _=>∃c qs,vs=[.ref c]/\A7 H c qs/\qs.length<=100/\∀H' d,H d=none->ZX H H'->IL H' d (qs.flatMap fraction)->Q (.ref d) H'
theorem Og:ZL ["fractions","told","fraction"] ["fractions"] (ZZ (top 72)):=YR
theorem WE(T:Txt K mg t):Y6 P w K mg base XB 33 t.SS t.SR ["fractions"] oq:=by
 have sc:=Og;refine T.Wx.F.ok sc (fun vs H Q E h=>?_) (fun Yp A outer s H vs Q E hr h=>?_)
 ·obtain⟨c,qs,rfl,_⟩:=h;rfl
 ·obtain⟨c,qs,rfl,⟨cs,J,h2,h3⟩,aN,k⟩:=h;refine⟨_,(Z5 (ZS (i:=1) sc.nd Y Y4 (Zv Z2))
   (Z5 (Yu Zi Y (Yq (Z 0)) (Zz (i:=2) sc.nd Y Y4) (Z0 (Xe (UU X9 Ti RF Ta (Z 1) (Z6 (Vs Wr (by rfl) T.NU boot_list (Z6 (Z 2) Z2)) Z2)))))
   (Z0 (ZN (Z 1))))),?_⟩
  refine⟨Zt _,fun D hD=>?_⟩;have s0:=ZX.new hD (.lst []);refine Z1 Y ⟨c,Y,⟨_,Zw.of (s0 _ _ J)⟩,?_⟩;refine Xo (K:=K) (a:=c) (xs:=cs.map V.ref) (fun i σ H'=>(∃c2,σ=[some (.ref c),some (.ref D),c2])/\ZX H H'/\IL H' D ((qs.take i).flatMap fraction)) ⟨⟨none,Y⟩,s0,Z4⟩ (fun i σ H' _ q=>Zw.of (q.2.1 _ _ J)) ?_ ?_
  ·rintro i x σ H1 hx ⟨⟨c2,rfl⟩,s1,d1⟩;obtain⟨b,O,rfl⟩:=Yb hx;have il:i<qs.length:=by rw[<-h2];exact(Zy.mp O).1
   have fb:=(h3 i b O).up s1;refine Z1 Y ⟨.inl ⟨Y,_,Zw.of d1⟩,Z1 Y (ZQ Y (.inr (U4.of fb)) (fun l hl=>?_))⟩;have s2:=ZX.new hl (.lst [.int (qs.getD i 0).num,.int (qs.getD i 0).den]);refine W9 D l _ _ ⟨Y,Y,s2 _ _ d1,Z4,?_,⟨_,Y⟩,(s1.trans s2).Zu hD _,?_⟩
   ·rw[Z3,V0,Xt];exact YZ (YI (show 2*min i qs.length+2<=16000000 by omega))
   ·show upd _ _ _ _=_;have e:qs.take (i+1)=qs.take i++[qs.getD i 0]:=by
     rw[Xc,ZW,ZT il];rfl
    rw[Z4,e,Tr,YV];rfl
  ·rintro σ H1 ⟨⟨c2,rfl⟩,s1,d1⟩;rw[Z3,h2,XX]at d1;exact Z1 Y (k H1 D hD s1 d1)
def rq:Sp:=fun vs H Q _=>∃c us,vs=[.ref c]/\NL H c us/\us.length<=100/\∀H' d,H d=none->ZX H H'->IL H' d (tells (us.length::us))->Q (.ref d) H'
theorem Hw:ZL ["numbers"] ["numbers"] (ZZ (top 73)):=YR
theorem R9(T:Txt K mg t):Y6 P w K mg base XB 33 t.Ni t.Nh ["numbers"] rq:=by
 have sc:=Hw;refine T.QB.F.ok sc (fun vs H Q E h=>?_) (fun Yp A outer s H vs Q E hr h=>?_)
 ·obtain⟨c,us,rfl,_⟩:=h;rfl
 ·obtain⟨c,us,rfl,J,aM,k⟩:=h;refine⟨_,(Z0 (ZN (Zc Ut (Zv (Z6 (YN Zd (by rfl) T.Wk YM (Z6 (Z 0) Z2)) Z2)) (Z 0)))),?_⟩;refine Z1 Y (ZQ Y (.inl (Zw.of J)) ⟨(by show 1<=sizeLine;decide),fun p hp=>?_⟩);have s1:=ZX.new hp (.lst [.int ((us.map fun(k:Nat)=>V.int (k:Int)).length:Int)]);refine Z1 Y (W9 p c _ _ ⟨Y,Y,Z4,s1 _ _ J,?_,fun d hd=>k _ d (s1.free hd) (s1.trans (ZX.new hd _)) ?_⟩)
  ·rw[Z3];exact YZ (YI (show 1+us.length<=16000000 by omega))
  ·show upd _ _ _ _=_;rw[Z4,A3,Y1,Z3];rfl
def oo(H:Hp)(v:V):Option Rat->Prop
 |none=>v=.Xf
 |some q=>∃b,v=.ref b/\Fr H b q
def Dv:Sp:=fun vs H Q _=>∃v o,vs=[v]/\oo H v o/\∀H' d,H d=none->ZX H H'->IL H' d (orNo o)->Q (.ref d) H'
theorem Hv:ZL ["cost"] ["cost"] (ZZ (top 74)):=YR
theorem R8(T:Txt K mg t):Y6 P w K mg base XB 33 t.Ng t.Nf ["cost"] Dv:=by
 have sc:=Hv;refine T.QA.F.ok sc (fun vs H Q E h=>?_) (fun Yp A outer s H vs Q E hr h=>?_)
 ·obtain⟨v,o,rfl,_⟩:=h;rfl
 ·obtain⟨v,o,rfl,hv,k⟩:=h;refine⟨_,(Z5 (YT (ZG U2 (Z 0) XH (Zr _)) (Z0 (ZN (Zv (Z6 (gl T.Sj) Z2)))) Zs)
   (Z0 (ZN (Vs Wr (by rfl) T.NU boot_list (Z6 (Z 0) Z2))))),?_⟩
  cases o with
  |none=>
   have hv:v=.Xf:=hv;subst hv;exact Z1 Y ⟨Y,Z1 Y (YW ⟨(by show 1<=sizeLine;decide),fun p hp=>k _ p hp (ZX.new hp _) Z4⟩)⟩
  |some q=>
   obtain⟨b,rfl,fb⟩:=hv;exact Z1 Y ⟨Y,Z1 Y (YA (Z1 Y (ZQ Y (.inr (U4.of fb)) (fun l hl=>k _ l hl (ZX.new hl _) Z4))))⟩
def VD(t:Yl)(R:List Int->RoadSpec.Call->Prop):Sp:=fun vs H Q _=>∃a g l gs c,vs=[.ref a,.ref g]/\WI t H a l/\Zh l/\IL H g gs/\R gs c/\∀H' d,H d=none->ZX H H'->IL H' d (RoadSpec.asked l c)->(RoadSpec.asked l c).length<=300->Q (.ref d) H'
noncomputable def Pq(r:Road):List Int:=tells [r.from_,r.to_,r.base,r.slope,r.toll.num.toNat,r.toll.den,r.shut.toNat]
theorem ve(l:Land):RoadSpec.asked l .told=tells [l.places,l.source,l.goal,l.units,l.roads.length]++l.roads.flatMap Pq:=by
 show tells (_++_)=_;unfold tells Pq;rw[YV,List.map_flatMap];rfl
theorem IU(rs:List Road):(rs.flatMap Pq).length=7*rs.length:=by
 induction rs with
 |nil=>rfl
 |cons r rs ih=>
  rw[VU,ZF,ih,Zg];show 7+_=_;omega
theorem Hu:ZL ["land","given","told","road"] ["land","given"] (ZZ (top 75)):=YR
theorem Hs(T:Txt K mg t):Y6 P w K mg base XB 33 t.TV t.Nd ["land","given"] (VD t fun _ c=>c=.told):=by
 have sc:=Hu;refine T.N2.F.ok sc (fun vs H Q E h=>?_) (fun Yp A outer s H vs Q E hr h=>?_)
 ·obtain⟨a,g,l,gs,c,rfl,_⟩:=h;rfl
 ·obtain⟨a,g,l,gs,c,rfl,⟨la,rs,hL⟩,ok,hg,rfl,k⟩:=h;obtain⟨Tu,ea⟩:=hL.obj;have r9:=ok.r9;have rl:rs.length=l.roads.length:=hL.len;rw[ve]at k;refine⟨_,(Z5 (ZS (i:=2) sc.nd Y Y4 (Zv (Z6 (ZY (Z 0) rfl) (Z6 (ZY (Z 0) rfl) (Z6 (ZY (Z 0) rfl) (Z6 (ZY (Z 0) rfl) (Z6 (YN Zd (by rfl) T.Wk YM (Z6 (ZY (Z 0) rfl) Z2)) Z2)))))))
   (Z5 (Yu Zi Y (Yq (ZY (Z 0) rfl)) (Zz (i:=3) sc.nd Y Y4) (Z0 (Xe (UU X9 Ti RF Ta (Z 2) (Z6 (Zv (Z6 (ZY (Z 3) rfl) (Z6 (ZY (Z 3) rfl) (Z6 (ZY (Z 3) rfl) (Z6 (ZY (Z 3) rfl) (Z6 (ZI Yj (ZY (Z 3) rfl) ZR (fun _ _=>rfl)) (Z6 (ZI Yj (ZY (Z 3) rfl) ZR (fun _ _=>rfl)) (Z6 (ZY (Z 3) rfl) Z2)))))))) Z2)))))
   (Z0 (ZN (Z 2))))),?_⟩
  refine YJ Y ea T.Land.cl T.Yo Y (YJ Y ea T.Land.cl T.Xj Y (YJ Y ea T.Land.cl T.WW Y (YJ Y ea T.Land.cl T.Xk Y (YJ Y ea T.Land.cl T.ZH Y (ZQ Y (.inl (Zw.of hL.lst)) ⟨(by show 5<=sizeLine;decide),fun D hD=>?_⟩)))));rw[Z3,rl];have s0:=ZX.new hD (.lst [.int (l.places:Int),.int (l.source:Int),.int (l.goal:Int),.int (l.units:Int),.int (l.roads.length:Int)]);refine YJ Y (s0 _ _ ea) T.Land.cl T.ZH Y ⟨la,Y,⟨_,Zw.of (s0 _ _ hL.lst)⟩,?_⟩;refine Xo (K:=K) (a:=la) (xs:=rs.map V.ref) (fun i σ H'=>(∃c3,σ=[some (.ref a),some (.ref g),some (.ref D),c3])/\ZX H H'/\IL H' D (tells [l.places,l.source,l.goal,l.units,l.roads.length]++(l.roads.take i).flatMap Pq)) ⟨⟨none,Y⟩,s0,Z4⟩ (fun i σ H' _ q=>Zw.of (q.2.1 _ _ hL.lst)) ?_ ?_
  ·rintro i x σ H1 hx ⟨⟨c3,rfl⟩,s1,d1⟩;obtain⟨ra,Xg,rfl⟩:=Yb hx;have il:i<l.roads.length:=by rw[<-rl];exact(Zy.mp Xg).1
   obtain⟨ta,⟨dr,er⟩,ft⟩:=(hL.at_ i ra Xg).up s1;have tn:=Td.mpr (ok.rd il).tn;refine Z1 Y ⟨.inl ⟨Y,_,Zw.of d1⟩,YJ Y er T.Road.cl T.X5 Y (YJ Y er T.Road.cl T.Ys Y (YJ Y er T.Road.cl T.Ww Y (YJ Y er T.Road.cl T.Xl Y (YJ Y er T.Road.cl T.WX Y (ZJ Y rfl (U4.of ft) rfl (YJ Y er T.Road.cl T.WX Y (ZJ Y rfl (U4.of ft) rfl (YJ Y er T.Road.cl T.XN Y ⟨(by show 7<=sizeLine;decide),fun p hp=>?_⟩))))))))⟩;have s2:=ZX.new hp (.lst ((Pq (rd l i)).map V.int));have e7:[V.int ((rd l i).from_:Int),.int ((rd l i).to_:Int),.int ((rd l i).base:Int),.int ((rd l i).slope:Int),.int (rd l i).toll.num,.int ((rd l i).toll.den:Int),.int ((rd l i).shut.toNat:Int)]=(Pq (rd l i)).map V.int:=by
    unfold Pq tells;simp only[Y1,List.map_nil];rw[show(((rd l i).toll.num.toNat:Nat):Int)=(rd l i).toll.num by omega]
   rw[e7];refine W9 D p _ _ ⟨Y,Y,s2 _ _ d1,Z4,?_,⟨_,Y⟩,(s1.trans s2).Zu hD _,?_⟩
   ·rw[Z3,Z3,ZF,IU,Xt];exact YZ (YI (show 5+7*min i l.roads.length+7<=16000000 by omega))
   ·show upd _ _ _ _=_;have e:l.roads.take (i+1)=l.roads.take i++[rd l i]:=by
     have:rd l i=l.roads[i]:=by
      show l.roads.getD i _=_;rw[ZW,ZT il];rfl
     rw[Xc,this,ZT il];rfl
    rw[Z4,e,Tr,<-VX,YV (l₁:=_++_)];simp only[VU,List.flatMap_nil,Xw]
  ·rintro σ H1 ⟨⟨c3,rfl⟩,s1,d1⟩;rw[Z3,rl,XX]at d1;refine Z1 Y (k H1 D hD s1 d1 ?_);rw[ZF,IU];show 5+_<=_;omega
theorem Du{H H1:Hp}{Q:VK}{l:Land}{c:RoadSpec.Call}(s:ZX H H1)(k:∀H' d,H d=none->ZX H H'->IL H' d (RoadSpec.asked l c)->(RoadSpec.asked l c).length<=300->Q (.ref d) H'){z:Int}(e:RoadSpec.asked l c=[z]):(1:Nat)<=sizeLine/\∀p,H1 p=none->Q (.ref p) (upd H1 p (.lst [.int z])):=
 ⟨by decide,fun p hp=>k _ p (s.free hp) (s.trans (ZX.new hp _)) (by rw[e];exact Z4) (by rw[e];show 1<=300;decide)⟩
theorem WU{l:Land}{all:Bool}{f:RhRoads.Flow->RoadSpec.Answer}(e:settled l all=none):ofFlow l all f=[-4]:=by
 unfold ofFlow;rw[e];rfl
theorem X4{l:Land}{all:Bool}{f:RhRoads.Flow->RoadSpec.Answer}{x:RhRoads.Flow}(e:settled l all=some x):ofFlow l all f=f x:=by
 unfold ofFlow;rw[e]
theorem Hr:ZL ["land","given","flow"] ["land","given"] (ZZ (top 76)):=YR
theorem Hq(T:Txt K mg t):Y6 P w K mg base XB 41 t.TU t.Nc ["land","given"] (VD t fun _ c=>c=.flow):=by
 have sc:=Hr;refine T.N0.F.ok sc (fun vs H Q E h=>?_) (fun Yp A outer s H vs Q E hr h=>?_)
 ·obtain⟨a,g,l,gs,c,rfl,_⟩:=h;rfl
 ·obtain⟨a,g,l,gs,c,rfl,hL,ok,hg,rfl,k⟩:=h;have r9:=ok.r9;refine⟨_,(Z5 (ZS (i:=2) sc.nd Y Y4 (cl T.Xm (XZ T) hr (Z6 (Z 0) Z2)))
   (Z5 (YT (ZG U2 (Z 2) XH (Zr _)) (Z0 (ZN (Zv (Z6 (gl T.Sj) Z2)))) Zs)
   (Z0 (ZN (Zc Ut (Zv (Z6 (YN Zd (by rfl) T.Wk YM (Z6 (Z 2) Z2)) Z2)) (cl T.Wx (WE T) hr (Z6 (Z 2) Z2))))))),?_⟩
  refine Z1 Y (Xr a l ⟨Y,hL,ok,fun H1 s1 e _=>?_,fun H1 c f s1 hf e bf=>?_⟩);·exact Z1 Y ⟨Y,Z1 Y (YW (Du s1 k (WU e)))⟩
  ·have fl:=(YS ok e).1;have sI:=hf;obtain⟨cs,J,h2,h3⟩:=sI;refine Z1 Y ⟨Y,Z1 Y (YA (Z1 Y (ZQ Y (.inl (Zw.of J)) ⟨(by show 1<=sizeLine;decide),fun p hp=>?_⟩)))⟩;rw[Z3,h2];have s2:=ZX.new hp (.lst [.int (List.length f:Int)]);refine Z1 Y (Xr c f ⟨Y,hf.up s2,by omega,fun H2 d _ s3 hd=>W9 p d _ _ ⟨Y,Y,s3 _ _ Z4,hd,?_,fun u hu=>k _ u ((s1.trans (s2.trans s3)).free hu) ((s1.trans (s2.trans s3)).trans (ZX.new hu _)) ?_ ?_⟩⟩)
   ·rw[Z3,V0];exact YZ (YI (show 1+2*List.length f<=16000000 by omega))
   ·show upd _ _ _ _=_;rw[Z4];show _=some (HO.lst ((ofFlow l false fractions).map V.int));rw[X4 e];rfl
   ·show(ofFlow l false fractions).length<=_;rw[X4 e];show(says (List.length f)++List.flatMap fraction f).length<=_;rw[ZF,V0];show 1+_<=_;omega
end
section
variable{P:Program}{w:World}{K:W.Frag}{mg:Str->Option Value}{base:Heap}{t:Yl}
theorem vc{H:Hp}{p b c:Addr}{x y:Rat}(h:H p=some (.lst [.ref b,.ref c]))(O:Fr H b x)(hc:Fr H c y):A7 H p [x,y]:=⟨[b,c],h,Y,fun j z e=>by
 match j,e with
 |0,e=>cases e;exact O
 |1,e=>cases e;exact hc⟩
theorem Ho:ZL ["land","given","flow","costs"] ["land","given"] (ZZ (top 77)):=YR
theorem Hn(T:Txt K mg t):Y6 P w K mg base XB 41 t.TR t.Nb ["land","given"] (VD t fun _ c=>c=.time):=by
 have sc:=Ho;refine T.NZ.F.ok sc (fun vs H Q E h=>?_) (fun Yp A outer s H vs Q E hr h=>?_)
 ·obtain⟨a,g,l,gs,c,rfl,_⟩:=h;rfl
 ·have hu:=Qr hr;obtain⟨a,g,l,gs,c,rfl,hL,ok,hg,rfl,k⟩:=h;refine⟨_,(Z5 (ZS (i:=2) sc.nd Y Y4 (cl T.Xm (XZ T) hr (Z6 (Z 0) Z2)))
   (Z5 (YT (ZG U2 (Z 2) XH (Zr _)) (Z0 (ZN (Zv (Z6 (gl T.Sj) Z2)))) Zs)
   (Z5 (ZS (i:=3) sc.nd Y Y4 (cl T.Wy (WG T) hr (Z6 (Z 0) (Z6 (Z 2) Z2))))
   (Z0 (ZN (cl T.Wx (WE T) hr (Z6 (Zv (Z6 (Wq hu (Z 3) (ZY (Z 0) rfl) (fun _ _=>rfl)) (Z6 (cl T.spent (Om T) hr (Z6 (Z 0) (Z6 (Z 2) Z2))) Z2))) Z2))))))),?_⟩
  refine Z1 Y ⟨a,l,Y,hL,ok,fun H1 s1 e _=>?_,fun H1 c f s1 hf e bf=>?_⟩;·exact Z1 Y ⟨Y,Z1 Y (YW (Du s1 k (WU e)))⟩
  ·have FA:VB t H1 a c l f:=⟨hL.up s1,ok,hf,(YS ok e).1,bf⟩;refine Z1 Y ⟨Y,Z1 Y (YA (Y' Y rfl ⟨a,c,l,f,Y,FA,Oj ok e,fun H2 d s2 C=>?_⟩))⟩;have Qy:=s1.trans s2;obtain⟨la,rs,ES⟩:=hL.up Qy;obtain⟨Tu,ea⟩:=ES.obj;obtain⟨q,hq,ht⟩:=Qw ok e;obtain⟨b,b1,b2⟩:=C.get hq;refine Y' Y rfl (S7 ea T.Land.cl T.WW Y ⟨d,Z1 Y ⟨b1,Y' Y rfl ⟨a,c,l,f,Y,FA.up s2,fun H3 z s3 fz _=>⟨(by show 2<=sizeLine;decide),fun p hp=>?_⟩⟩⟩⟩);have s4:=ZX.new hp (.lst [.ref b,.ref z]);have e2:RoadSpec.asked l .time=[q,total l f].flatMap fraction:=by
    show ofFlow l false _=_;rw[X4 e,hq];rfl
   refine⟨p,[q,total l f],Y,vc Z4 ((b2.up s3).up s4) (fz.up s4),(by show 2<=100;decide),fun H4 u nu s5 A2=>k H4 u ((Qy.trans (s3.trans s4)).free nu) (Qy.trans (s3.trans (s4.trans s5))) (by rw[e2];exact A2) (by rw[e2,V0];show 4<=300;decide)⟩
theorem x8{H:Hp}{p z:Addr}{cs:List Addr}{f:List Rat}{x:Rat}(h:H p=some (.lst (cs.map V.ref++[.ref z])))(hl:cs.length=f.length)(hf:∀(j:Nat) b,cs[j]?=some b->Fr H b (f.getD j 0))(hz:Fr H z x):A7 H p (f++[x]):=⟨cs++[z],by rw[h,UM],by rw[ZF,ZF,hl];rfl,fun j b e=>by
 show Fr H b ((f++[x]).getD j 0);rcases UL e with⟨z1,z2⟩|⟨z1,rfl⟩
 ·rw[getD_snoc,Z7 (by omega)];exact hf j b z2
 ·rw[getD_snoc,Z8 (by omega),Z7 (by omega)];exact hz⟩
theorem Hm:ZL ["land","given","flow"] ["land","given"] (ZZ (top 78)):=YR
theorem Hl(T:Txt K mg t):Y6 P w K mg base XB 41 t.TQ t.Na ["land","given"] (VD t fun _ c=>c=.best):=by
 have sc:=Hm;refine T.NY.F.ok sc (fun vs H Q E h=>?_) (fun Yp A outer s H vs Q E hr h=>?_)
 ·obtain⟨a,g,l,gs,c,rfl,_⟩:=h;rfl
 ·obtain⟨a,g,l,gs,c,rfl,hL,ok,hg,rfl,k⟩:=h;have r9:=ok.r9;refine⟨_,(Z5 (ZS (i:=2) sc.nd Y Y4 (cl T.QD (Sa T) hr (Z6 (Z 0) Z2)))
   (Z5 (YT (ZG U2 (Z 2) XH (Zr _)) (Z0 (ZN (Zv (Z6 (gl T.Sj) Z2)))) Zs)
   (Z0 (ZN (Zc Ut (Zv (Z6 (YN Zd (by rfl) T.Wk YM (Z6 (Z 2) Z2)) Z2)) (cl T.Wx (WE T) hr (Z6 (Zc Ut (Z 2) (Zv (Z6 (cl T.spent (Om T) hr (Z6 (Z 0) (Z6 (Z 2) Z2))) Z2))) Z2))))))),?_⟩
  refine Z1 Y (Xr a l ⟨Y,hL,ok,fun H1 s1 e _=>?_,fun H1 c f s1 hf e bf=>?_⟩);·exact Z1 Y ⟨Y,Z1 Y (YW (Du s1 k (WU e)))⟩
  ·have fl:=(YS ok e).1;have FA:VB t H1 a c l f:=⟨hL.up s1,ok,hf,fl,bf⟩;obtain⟨cs,J,h2,h3⟩:=hf;refine Z1 Y ⟨Y,Z1 Y (YA (Z1 Y (ZQ Y (.inl (Zw.of J)) ⟨(by show 1<=sizeLine;decide),fun p hp=>?_⟩)))⟩;rw[Z3,h2];have s2:=ZX.new hp (.lst [.int (List.length f:Int)]);refine Y' Y rfl (Z1 Y (W9 a c l f ⟨Y,FA.up s2,fun H3 z s3 fz _=>⟨(by show 1<=sizeLine;decide),fun q hq=>?_⟩⟩));have s4:=ZX.new hq (.lst [.ref z]);have rM:=s2.trans (s3.trans s4);refine W9 c q _ _ ⟨Y,Y,rM _ _ J,Z4,by rw[Z3,h2];exact YZ (YI (show List.length f+1<=16000000 by omega)),fun u hu=>?_⟩;have s5:=ZX.new hu (.lst (cs.map V.ref++[.ref z]));have e2:RoadSpec.asked l .best=((List.length f:Nat):Int)::(f++[total l f]).flatMap fraction:=by
    show ofFlow l true _=_;rw[X4 e,Tr];show(says (List.length f)++List.flatMap fraction f)++fraction (total l f)=_;rw[VX];show _=[((List.length f:Nat):Int)]++_;congr 1
   refine⟨u,f++[total l f],Y,x8 Z4 h2 (fun j b eb=>((h3 j b eb).up rM).up s5) ((fz.up s4).up s5),by rw[ZF];show List.length f+1<=100;omega,fun H4 v _ s6 hv=>?_⟩;have iY:=s3.trans (s4.trans (s5.trans s6));refine W9 p v _ _ ⟨Y,Y,iY _ _ Z4,hv,?_,fun y hy=>k _ y (((s1.trans s2).trans iY).free hy) (((s1.trans s2).trans iY).trans (ZX.new hy _)) ?_ ?_⟩
   ·rw[Z3,V0,ZF];exact YZ (YI (show 1+2*(List.length f+1)<=16000000 by omega))
   ·rw[e2];exact Z4
   ·rw[e2,Zg,V0,ZF];show 2*(List.length f+1)+1<=300;omega
theorem J8:ZL ["land","given","flow"] ["land","given"] (ZZ (top 79)):=YR
theorem J7(T:Txt K mg t):Y6 P w K mg base XB 41 t.UR t.OM ["land","given"] (VD t fun _ c=>c=.price):=by
 have sc:=J8;refine T.PJ.F.ok sc (fun vs H Q E h=>?_) (fun Yp A outer s H vs Q E hr h=>?_)
 ·obtain⟨a,g,l,gs,c,rfl,_⟩:=h;rfl
 ·obtain⟨a,g,l,gs,c,rfl,hL,ok,hg,rfl,k⟩:=h;refine⟨_,(Z5 (ZS (i:=2) sc.nd Y Y4 (cl T.Xm (XZ T) hr (Z6 (Z 0) Z2)))
   (Z5 (YT (ZG U2 (Z 2) XH (Zr _)) (Z0 (ZN (Zv (Z6 (gl T.Sj) Z2)))) Zs)
   (Z0 (ZN (Vs Wr (by rfl) T.NU boot_list (Z6 (cl T.divided (DO T) hr (Z6 (cl T.spent (Om T) hr (Z6 (Z 0) (Z6 (Z 2) Z2))) (Z6 (cl T.spent (Om T) hr (Z6 (Z 0) (Z6 (cl T.QD (Sa T) hr (Z6 (Z 0) Z2)) Z2))) Z2))) Z2)))))),?_⟩
  refine Z1 Y (Xr a l ⟨Y,hL,ok,fun H1 s1 e _=>?_,fun H1 c f s1 hf e bf=>?_⟩);·exact Z1 Y ⟨Y,Z1 Y (YW (Du s1 k (WU e)))⟩
  ·have FA:VB t H1 a c l f:=⟨hL.up s1,ok,hf,(YS ok e).1,bf⟩;refine Z1 Y ⟨Y,Z1 Y (YA (Y' Y rfl (W9 a c l f ⟨Y,FA,fun H2 z s2 fz rz=>?_⟩)))⟩;have Qy:=s1.trans s2;refine Y' Y rfl (Xr a l ⟨Y,hL.up Qy,ok,fun H3 s3 e2 nr=>?_,fun H3 c2 f2 s3 j8 e2 aL=>?_⟩);·exact absurd (Bq true ((YS ok e).2.reach (U_ ok false))) nr
   ·have FB:VB t H3 a c2 l f2:=⟨hL.up (Qy.trans s3),ok,j8,(YS ok e2).1,aL⟩;have tp:=Bp ok (YS ok e2).2.1;refine W9 a c2 l f2 ⟨Y,FB,fun H4 y s4 fy ry=>?_⟩;refine W9 z y _ _ ⟨Y,fz.up (s3.trans s4),fy,rz.mono (by decide),ry.mono (by decide),tp,fun H5 d s5 fd=>?_⟩;have e3:RoadSpec.asked l .price=fraction (total l f/total l f2):=by
     show ofFlow l false _=_;rw[X4 e,X4 e2]
    have fW:=Qy.trans (s3.trans (s4.trans s5));exact ZQ Y (.inr (U4.of fd)) (fun u hu=>k _ u (fW.free hu) (fW.trans (ZX.new hu _)) (by rw[e3];exact Z4) (by rw[e3];show 2<=300;decide))
theorem J6:ZL ["land","given","best"] ["land","given"] (ZZ (top 80)):=YR
theorem J5(T:Txt K mg t):Y6 P w K mg base XB 41 t.UQ t.OL ["land","given"] (VD t fun _ c=>c=.tolls):=by
 have sc:=J6;refine T.PH.F.ok sc (fun vs H Q E h=>?_) (fun Yp A outer s H vs Q E hr h=>?_)
 ·obtain⟨a,g,l,gs,c,rfl,_⟩:=h;rfl
 ·obtain⟨a,g,l,gs,c,rfl,hL,ok,hg,rfl,k⟩:=h;have r9:=ok.r9;refine⟨_,(Z5 (ZS (i:=2) sc.nd Y Y4 (cl T.QD (Sa T) hr (Z6 (Z 0) Z2)))
   (Z5 (YT (ZG U2 (Z 2) XH (Zr _)) (Z0 (ZN (Zv (Z6 (gl T.Sj) Z2)))) Zs)
   (Z0 (ZN (Zc Ut (Zv (Z6 (YN Zd (by rfl) T.Wk YM (Z6 (Z 2) Z2)) Z2)) (cl T.Wx (WE T) hr (Z6 (cl T.K4 (Kd T) hr (Z6 (Z 0) (Z6 (Z 2) Z2))) Z2))))))),?_⟩
  refine Z1 Y (Xr a l ⟨Y,hL,ok,fun H1 s1 e _=>?_,fun H1 c f s1 hf e bf=>?_⟩);·exact Z1 Y ⟨Y,Z1 Y (YW (Du s1 k (WU e)))⟩
  ·have fl:=(YS ok e).1;have FA:VB t H1 a c l f:=⟨hL.up s1,ok,hf,fl,bf⟩;obtain⟨cs,J,h2,h3⟩:=hf;refine Z1 Y ⟨Y,Z1 Y (YA (Z1 Y (ZQ Y (.inl (Zw.of J)) ⟨(by show 1<=sizeLine;decide),fun p hp=>?_⟩)))⟩;rw[Z3,h2];have s2:=ZX.new hp (.lst [.int (List.length f:Int)]);refine Y' Y rfl (W9 a c l f ⟨Y,FA.up s2,fun H2 d s3 hd=>?_⟩);have e2:RoadSpec.asked l .tolls=((l.roads.length:Nat):Int)::((List.range l.roads.length).map fun e=>((rd l e).slope:Rat)*on f e).flatMap fraction:=by
    show ofFlow l true _=_;rw[X4 e,X' l.roads Wi,Yn];show says (List.length _)++_=_;rw[Z3,Y_];rfl
   refine Xr d _ ⟨Y,hd,by rw[Z3,Y_];omega,fun H3 v _ s4 hv=>?_⟩;have vv:=s3.trans s4;refine W9 p v _ _ ⟨Y,Y,vv _ _ Z4,hv,?_,fun y hy=>k _ y (((s1.trans s2).trans vv).free hy) (((s1.trans s2).trans vv).trans (ZX.new hy _)) ?_ ?_⟩
   ·rw[Z3,V0,Z3,Y_];exact YZ (YI (show 1+2*l.roads.length<=16000000 by omega))
   ·rw[e2];show upd _ _ _ _=_;rw[Z4,fl];rfl
   ·rw[e2,Zg,V0,Z3,Y_];omega
end
def xy(of:Nat->RoadSpec.Call):List Int->RoadSpec.Call->Prop:=fun gs c=>∃v:Nat,gs=[(v:Int)]/\c=of v
theorem R7(v:Nat):QO ([(v:Int)].map V.int) 0=some (.int (v:Int)):=SD (j:=0) rfl
theorem QU(o:Option Rat):(orNo o).length<=2:=by
 cases o with
 |none=>show 1<=2;decide
 |some q=>show 2<=2;decide
section
variable{P:Program}{w:World}{K:W.Frag}{mg:Str->Option Value}{base:Heap}{t:Yl}
theorem Hk:ZL ["land","given","place","flow"] ["land","given"] (ZZ (top 81)):=YR
theorem Hj(T:Txt K mg t):Y6 P w K mg base XB 41 t.TN t.M' ["land","given"] (VD t (xy .cost)):=by
 have sc:=Hk;refine T.NX.F.ok sc (fun vs H Q E h=>?_) (fun Yp A outer s H vs Q E hr h=>?_)
 ·obtain⟨a,g,l,gs,c,rfl,_⟩:=h;rfl
 ·have hu:=Qr hr;obtain⟨a,g,l,gs,c,rfl,hL,ok,hg,⟨v,rfl,rfl⟩,k⟩:=h;have om:=hL;obtain⟨la,rs,ES⟩:=om;obtain⟨Tu,ea⟩:=ES.obj;have Ub:RoadSpec.asked l (.cost v)=if l.places<=v then no 2 else ofFlow l false fun f=>orNo (costTo l false f v):=rfl
  refine⟨_,(Z5 (ZS (i:=2) sc.nd Y Y4 (ZI ZM (Z 1) ZR (fun _ _=>rfl)))
   (Z5 (YT (ZG R6 (Z 2) (ZY (Z 0) rfl) (Zr _)) (Z0 (ZN (Zv (Z6 (gl T.Vm) Z2)))) Zs)
   (Z5 (ZS (i:=3) sc.nd Y Y4 (cl T.Xm (XZ T) hr (Z6 (Z 0) Z2)))
   (Z5 (YT (ZG U2 (Z 3) XH (Zr _)) (Z0 (ZN (Zv (Z6 (gl T.Sj) Z2)))) Zs)
   (Z0 (ZN (cl T.QA (R8 T) hr (Z6 (Ab hu (cl T.Wy (WG T) hr (Z6 (Z 0) (Z6 (Z 3) Z2))) (Z 2) ⟨Y,Y,Y,Y⟩) Z2)))))))),?_⟩
  refine Z1 Y (ZJ Y rfl (Zw.of hg) (R7 v) (Y' Y rfl (S7 ea T.Land.cl T.Yo Y (ZQ Y rfl (Z1 Y (Wb (fun cc=>?_) (fun cc=>?_)))))))
  ·have cc:l.places<=v:=by have:=ZD cc;omega
   rw[Z7 cc]at Ub;exact Du (ZX.refl H) k Ub
  ·have cc:¬l.places<=v:=fun q=>cc (ZP (by omega));rw[Z8 cc]at Ub;refine Z1 Y (Xr a l ⟨Y,hL,ok,fun H1 s1 e _=>?_,fun H1 c f s1 hf e bf=>?_⟩);·exact Z1 Y ⟨Y,Z1 Y (YW (Du s1 k (Ub.trans (WU e))))⟩
   ·have FA:VB t H1 a c l f:=⟨hL.up s1,ok,hf,(YS ok e).1,bf⟩;rw[X4 e]at Ub;refine Z1 Y ⟨Y,Z1 Y (YA (Y' Y rfl (W9 a c l f ⟨Y,FA,Oj ok e,fun H2 d s2 C=>?_⟩)))⟩;obtain⟨gg,g1,g2,g3⟩:=C.ex;obtain⟨Zp,ed⟩:=g1.mW;refine⟨d,Y,.inl ⟨Zp,.inl ed⟩,Z1 Y ⟨gg v,g1.get v,(gg v).getD .Xf,costTo l false f v,Y,?_,fun H3 u nu s3 A2=>k H3 u ((s1.trans s2).free nu) (s1.trans (s2.trans s3)) (by rw[Ub];exact A2) (by rw[Ub];exact ZA (QU _) (by decide))⟩⟩;cases q:costTo l false f v with
    |none=>
     rw[g2 v q];rfl
    |some x=>
     obtain⟨b,b1,b2⟩:=g3 v x q;rw[b1];exact⟨b,Y,b2⟩
theorem Mv:ZL ["land","given"] ["land","given"] (ZZ (top 82)):=YR
theorem Mu(T:Txt K mg t):Y6 P w K mg base XB 42 t.VJ t.Q7 ["land","given"] (VD t (xy .without)):=by
 have sc:=Mv;refine T.Sk.F.ok sc (fun vs H Q E h=>?_) (fun Yp A outer s H vs Q E hr h=>?_)
 ·obtain⟨a,g,l,gs,c,rfl,_⟩:=h;rfl
 ·obtain⟨a,g,l,gs,c,rfl,hL,ok,hg,⟨v,rfl,rfl⟩,k⟩:=h;have om:=hL;obtain⟨la,rs,ES⟩:=om;obtain⟨Tu,ea⟩:=ES.obj;have rl:rs.length=l.roads.length:=ES.len;have Ub:RoadSpec.asked l (.without v)=if l.roads.length<=v then no 2 else orNo (timeOf (RoadSpec.one l v fun(r:Road)=>{r with shut:=true})):=rfl
  refine⟨_,(Z5 (YT (ZG R6 (ZI ZM (Z 1) ZR (fun _ _=>rfl)) (YN Zd (by rfl) T.Wk YM (Z6 (ZY (Z 0) rfl) Z2)) (Zr _)) (Z0 (ZN (Zv (Z6 (gl T.Vm) Z2)))) Zs)
   (Z0 (ZN (cl T.QA (R8 T) hr (Z6 (cl T.SO (UH T) hr (Z6 (cl T.Sl (RN T) hr (Z6 (Z 0) (Z6 (ZI ZM (Z 1) ZR (fun _ _=>rfl)) Z2))) Z2)) Z2))))),?_⟩
  refine Z1 Y (ZJ Y rfl (Zw.of hg) (R7 v) (YJ Y ea T.Land.cl T.ZH Y (ZQ Y (.inl (Zw.of ES.lst)) (ZQ Y rfl (Z1 Y ?_)))));rw[Z3,rl];refine Wb (fun cc=>?_) (fun cc=>?_)
  ·have cc:l.roads.length<=v:=by have:=ZD cc;omega
   rw[Z7 cc]at Ub;exact Du (ZX.refl H) k Ub
  ·have cc:¬l.roads.length<=v:=fun q=>cc (ZP (by omega));rw[Z8 cc]at Ub;refine Y' Y rfl (ZJ Y rfl (Zw.of hg) (R7 v) (XR a l v ⟨Y,hL,ok.r9,by omega,fun H1 b s1 hB=>?_⟩));refine Xr b _ ⟨Y,hB,CI ok v,fun H2 s2 e=>?_,fun H2 c q s2 fq e _=>?_⟩;·exact⟨.Xf,none,Y,Y,fun H3 u nu s3 A2=>k H3 u ((s1.trans s2).free nu) (s1.trans (s2.trans s3)) (by rw[Ub,e];exact A2) (by rw[Ub];exact ZA (QU _) (by decide))⟩
   ·exact⟨.ref c,some q,Y,⟨c,Y,fq⟩,fun H3 u nu s3 A2=>k H3 u ((s1.trans s2).free nu) (s1.trans (s2.trans s3)) (by rw[Ub,e];exact A2) (by rw[Ub];exact ZA (QU _) (by decide))⟩
theorem Kw:ZL ["land","given","cost"] ["land","given"] (ZZ (top 83)):=YR
theorem Kv(T:Txt K mg t):Y6 P w K mg base XB 43 t.Vg t.Qe ["land","given"] (VD t fun _ c=>c=.better):=by
 have sc:=Kw;refine T.Q2.F.ok sc (fun vs H Q E h=>?_) (fun Yp A outer s H vs Q E hr h=>?_)
 ·obtain⟨a,g,l,gs,c,rfl,_⟩:=h;rfl
 ·obtain⟨a,g,l,gs,c,rfl,hL,ok,hg,rfl,k⟩:=h;have r9:=ok.r9;refine⟨_,(Z5 (ZS (i:=2) sc.nd Y Y4 (cl T.SO (UH T) hr (Z6 (Z 0) Z2)))
   (Z5 (YT (ZG U2 (Z 2) XH (Zr _)) (Z0 (ZN (Zv (Z6 (gl T.Sj) Z2)))) Zs)
   (Z0 (ZN (cl T.QB (R9 T) hr (Z6 (cl T.MQ (Ky T) hr (Z6 (Z 0) (Z6 (Z 2) Z2))) Z2)))))),?_⟩
  refine Z1 Y (Xr a l ⟨Y,hL,ok,fun H1 s1 e=>?_,fun H1 c q s1 fq e bq=>?_⟩)
  ·refine Z1 Y ⟨Y,Z1 Y (YW (Du s1 k ?_))⟩;cases e2:settled l false with
   |none=>exact WU e2
   |some f=>
    obtain⟨q,_,ht⟩:=Qw ok e2;rw[ht]at e;cases e
  ·refine Z1 Y ⟨Y,Z1 Y (YA (Y' Y rfl (W9 a c l q ⟨Y,hL.up s1,ok,fq,bq,fun H2 d s2 hd=>?_⟩)))⟩;have fl:((List.range l.roads.length).filter (isBetter l q)).length<=9:=by
    refine ZA (Wg ..) ?_;rw[Y_];exact r9
   have Ub:RoadSpec.asked l .better=tells (((List.range l.roads.length).filter (isBetter l q)).length::(List.range l.roads.length).filter (isBetter l q)):=by
    cases e2:settled l false with
    |none=>
     unfold timeOf at e;rw[e2]at e;cases e
    |some f=>
     obtain⟨x,hx,ht⟩:=Qw ok e2;rw[e]at ht;cases ht;show ofFlow l false _=_;rw[X4 e2,hx];rfl
   exact Xr d _ ⟨Y,hd,by omega,fun H3 u nu s3 A2=>k H3 u ((s1.trans s2).free nu) (s1.trans (s2.trans s3)) (by rw[Ub];exact A2) (by rw[Ub];unfold tells;rw[Z3,Zg];omega)⟩
theorem Dr:ZL ["land","given"] ["land","given"] (ZZ (top 84)):=YR
theorem Dq(T:Txt K mg t):Y6 P w K mg base XB 42 t.QF t.Jc ["land","given"] (VD t (xy .at_)):=by
 have sc:=Dr;refine T.HV.F.ok sc (fun vs H Q E h=>?_) (fun Yp A outer s H vs Q E hr h=>?_)
 ·obtain⟨a,g,l,gs,c,rfl,_⟩:=h;rfl
 ·obtain⟨a,g,l,gs,c,rfl,hL,ok,hg,⟨v,rfl,rfl⟩,k⟩:=h;have Ub:RoadSpec.asked l (.at_ v)=if v=0\/1000<v then no 1 else orNo (timeOf {l with units:=v}):=rfl
  refine⟨_,(Z5 (YT (RD (TF (cl T.QE (Si T) hr (Z6 (ZI ZM (Z 1) ZR (fun _ _=>rfl)) Z2)))) (Z0 (ZN (Zv (Z6 (gl T.XO) Z2)))) Zs)
   (Z0 (ZN (cl T.QA (R8 T) hr (Z6 (cl T.SO (UH T) hr (Z6 (cl T.K5 (Kf T) hr (Z6 (Z 0) (Z6 (ZI ZM (Z 1) ZR (fun _ _=>rfl)) Z2))) Z2)) Z2))))),?_⟩
  refine Z1 Y (ZJ Y rfl (Zw.of hg) (R7 v) (Y' Y rfl ?_));by_cases cc:v=0\/1000<v
  ·have e:decide (1<=(v:Int)/\(v:Int)<=1000)=false:=ZC (by omega);rw[e];rw[Z7 cc]at Ub;exact YW (Du (ZX.refl H) k Ub)
  ·have e:decide (1<=(v:Int)/\(v:Int)<=1000)=true:=ZP (by omega);rw[e];rw[Z8 cc]at Ub;refine YA (Y' Y rfl (ZJ Y rfl (Zw.of hg) (R7 v) (XR a l v ⟨Y,hL,ok.r9,fun H1 b s1 hB=>?_⟩)));refine Xr b _ ⟨Y,hB,zk ok (by omega) (by omega),fun H2 s2 e=>?_,fun H2 c q s2 fq e _=>?_⟩;·exact⟨.Xf,none,Y,Y,fun H3 u nu s3 A2=>k H3 u ((s1.trans s2).free nu) (s1.trans (s2.trans s3)) (by rw[Ub,e];exact A2) (by rw[Ub];exact ZA (QU _) (by decide))⟩
   ·exact⟨.ref c,some q,Y,⟨c,Y,fq⟩,fun H3 u nu s3 A2=>k H3 u ((s1.trans s2).free nu) (s1.trans (s2.trans s3)) (by rw[Ub,e];exact A2) (by rw[Ub];exact ZA (QU _) (by decide))⟩
theorem Hi:ZL ["land","given"] ["land","given"] (ZZ (top 85)):=YR
theorem Hh(T:Txt K mg t):Y6 P w K mg base XB 35 t.TM t.M_ ["land","given"] (VD t fun _ c=>c=.ways):=by
 have sc:=Hi;refine T.NW.F.ok sc (fun vs H Q E h=>?_) (fun Yp A outer s H vs Q E hr h=>?_)
 ·obtain⟨a,g,l,gs,c,rfl,_⟩:=h;rfl
 ·obtain⟨a,g,l,gs,c,rfl,hL,ok,hg,rfl,k⟩:=h;refine⟨_,(Z0 (ZN (Zv (Z6 (YN Zd (by rfl) T.Wk YM (Z6 (cl T.Ve (Vk T) hr (Z6 (Z 0) Z2)) Z2)) Z2)))),?_⟩;refine Z1 Y (Xr a l ⟨Y,hL,ok,fun H1 W ra hW s1 R=>ZQ Y (.inl (Zw.of R.lst)) ?_⟩);rw[Z3,R.len];exact Du s1 k rfl
theorem Fd:ZL ["land","given","ways","way"] ["land","given"] (ZZ (top 86)):=YR
theorem Fc(T:Txt K mg t):Y6 P w K mg base XB 41 t.Sr t.Le ["land","given"] (VD t (xy .way)):=by
 have sc:=Fd;refine T.K0.F.ok sc (fun vs H Q E h=>?_) (fun Yp A outer s H vs Q E hr h=>?_)
 ·obtain⟨a,g,l,gs,c,rfl,_⟩:=h;rfl
 ·obtain⟨a,g,l,gs,c,rfl,hL,ok,hg,⟨v,rfl,rfl⟩,k⟩:=h;have Ub:RoadSpec.asked l (.way v)=match(ways l)[v]?with
   |none=>no 2
   |some w=>ofFlow l false fun f=>tells (w.length::w)++fraction (wayCost l f w):=rfl
  have r9:=ok.r9;refine⟨_,(Z5 (ZS (i:=2) sc.nd Y Y4 (cl T.Ve (Vk T) hr (Z6 (Z 0) Z2)))
   (Z5 (YT (ZG R6 (ZI ZM (Z 1) ZR (fun _ _=>rfl)) (YN Zd (by rfl) T.Wk YM (Z6 (Z 2) Z2)) (Zr _)) (Z0 (ZN (Zv (Z6 (gl T.Vm) Z2)))) Zs)
   (Z5 (ZS (i:=3) sc.nd Y Y4 (ZI ZM (Z 2) (ZI ZM (Z 1) ZR (fun _ _=>rfl)) (fun _ _=>rfl)))
   (Z0 (ZN (Zc Ut (cl T.QB (R9 T) hr (Z6 (Z 3) Z2)) (Vs Wr (by rfl) T.NU boot_list (Z6 (cl T.FR (Fi T) hr (Z6 (Z 0) (Z6 (cl T.Xm (XZ T) hr (Z6 (Z 0) Z2)) (Z6 (Z 3) Z2)))) Z2)))))))),?_⟩
  refine Z1 Y (Xr a l ⟨Y,hL,ok,fun H1 W ra hW s1 R=>?_⟩);have fV:=s1 _ _ hg;refine Z1 Y (ZJ Y rfl (Zw.of fV) (R7 v) (Z1 Y (ZQ Y (.inl (Zw.of R.lst)) (ZQ Y rfl (Z1 Y ?_)))));rw[Z3,R.len];refine Wb (fun cc=>?_) (fun cc=>?_)
  ·have cc:(ways l).length<=v:=by have:=ZD cc;omega
   rw[YH cc]at Ub;exact Du s1 k Ub
  ·have cc:v<(ways l).length:=Nat.lt_of_not_le fun q=>cc (ZP (by omega));have vr:v<ra.length:=by rw[R.len];exact cc
   have Xg:ra[v]?=some ra[v]:=ZT vr;obtain⟨b,O⟩:∃b,ra[v]=b:=⟨_,Y⟩;rw[O]at Xg;obtain⟨wy,rB⟩:∃wy,(ways l)[v]=wy:=⟨_,Y⟩;have wm:wy∈ways l:=by rw[<-rB];exact WO cc
   obtain⟨w1,w2,w3⟩:=Ly ok wm;have nb:NL H1 b wy:=by
    have:=R.row v b Xg;rw[ZW,ZT cc,rB]at this;exact this
   have wl:wy.length<=9:=ZA (W3 l.roads.length wy w3 w2) r9;rw[ZT cc,rB]at Ub;have Ub:RoadSpec.asked l (.way v)=ofFlow l false fun f=>tells (wy.length::wy)++fraction (wayCost l f wy):=Ub;refine Y' Y rfl (ZJ Y rfl (Zw.of fV) (R7 v) (ZJ Y rfl (Zw.of R.lst) (Yz Xg) ?_));refine Z1 Y (Xr b wy ⟨Y,nb,by omega,fun H2 d _ s2 hd=>?_⟩);have Qy:=s1.trans s2;refine Y' Y rfl (Xr a l ⟨Y,hL.up Qy,ok,fun H3 s3 e nr=>absurd (Bo false wm) nr,fun H3 c f s3 hf e bf=>?_⟩);have FA:VB t H3 a c l f:=⟨hL.up (Qy.trans s3),ok,hf,(YS ok e).1,bf⟩;rw[X4 e]at Ub;refine Z1 Y (XR a c b (XR l f wy ⟨Y,FA,s3 _ _ (s2 _ _ nb),w2,by omega,fun H4 x s4 fx=>?_⟩));refine ZQ Y (.inr (U4.of fx)) (fun u hu=>?_);have s5:=ZX.new hu (.lst [.int (wayCost l f wy).num,.int (wayCost l f wy).den]);have iX:=s3.trans (s4.trans s5);refine W9 d u _ _ ⟨Y,Y,iX _ _ hd,Z4,?_,fun y hy=>k _ y ((Qy.trans iX).free hy) ((Qy.trans iX).trans (ZX.new hy _)) ?_ ?_⟩
   ·rw[Z3];unfold tells;rw[Z3,Zg];exact YZ (YI (show wy.length+1+2<=16000000 by omega))
   ·rw[Ub];show upd _ _ _ _=_;rw[Z4,YV];rfl
   ·rw[Ub,ZF];unfold tells;rw[Z3,Zg];show wy.length+1+2<=300;omega
end
end Rw
namespace Rw
open PySem PySem.Spec PyProof.Rows L2 RR
open RhRoads (Road Land settled on total costTo ways wayCost leastOn parts partsOf wrong)
open RoadSpec (timeOf fraction fractions tells says no orNo ofFlow)
theorem MI(l:Land):∀(k:Nat)(f:RhRoads.Flow)(x:Rat×List Nat),x∈partsOf l k f->x.2∈ways l
 |0,_,x,h=>by cases h
 |k+1,f,x,h=>by
  unfold partsOf at h;split at h;·cases h
  ·rename_i w hw;rcases ZE.mp h with rfl|h;·exact List.mem_of_find?_eq_some hw
   ·exact MI l k _ x h
noncomputable def QT(x:Rat×List Nat):List Int:=fraction x.1++tells (x.2.length::x.2)
theorem IT{x:Rat×List Nat}(h:x.2.length<=9):(QT x).length<=12:=by
 unfold QT tells;rw[ZF,Z3,Zg];show 2+_<=12;omega
theorem NJ:∀ps:List (Rat×List Nat),(∀x,x∈ps->x.2.length<=9)->(ps.flatMap QT).length<=12*ps.length
 |[],_=>ZK _
 |x::ps,h=>by
  rw[VU,ZF,Zg];have:=IT (h x (YG ..));have:=NJ ps fun y hy=>h y (Zf _ hy);omega
section
variable{P:Program}{w:World}{K:W.Frag}{mg:Str->Option Value}{base:Heap}{t:Yl}
theorem J4:ZL ["land","given","flow","parts","told","amount","way"] ["land","given"] (ZZ (top 87)):=YR
theorem J3(T:Txt K mg t):Y6 P w K mg base XB 41 t.UP t.OK ["land","given"] (VD t fun _ c=>c=.parts):=by
 have sc:=J4;refine T.PF.F.ok sc (fun vs H Q E h=>?_) (fun Yp A outer s H vs Q E hr h=>?_)
 ·obtain⟨a,g,l,gs,c,rfl,_⟩:=h;rfl
 ·obtain⟨a,g,l,gs,c,rfl,hL,ok,hg,rfl,k⟩:=h;have r9:=ok.r9;refine⟨_,(Z5 (ZS (i:=2) sc.nd Y Y4 (cl T.Xm (XZ T) hr (Z6 (Z 0) Z2)))
   (Z5 (YT (ZG U2 (Z 2) XH (Zr _)) (Z0 (ZN (Zv (Z6 (gl T.Sj) Z2)))) Zs)
   (Z5 (ZS (i:=3) sc.nd Y Y4 (cl T.FP (Fe T) hr (Z6 (Z 0) (Z6 (Z 2) Z2))))
   (Z5 (ZS (i:=4) sc.nd Y Y4 (Zv (Z6 (YN Zd (by rfl) T.Wk YM (Z6 (Z 3) Z2)) Z2)))
   (Z5 (Yu Zi Y (Yq (Z 3)) (VQ Y (YU (Zz (i:=5) sc.nd Y Y4) (YU (Zz (i:=6) sc.nd Y Y4) WH))) (Z0 (Xe (UU X9 Ti RF Ta (Z 4) (Z6 (Zc Ut (Vs Wr (by rfl) T.NU boot_list (Z6 (Z 5) Z2)) (cl T.QB (R9 T) hr (Z6 (Z 6) Z2))) Z2)))))
   (Z0 (ZN (Z 4)))))))),?_⟩
  refine Z1 Y (Xr a l ⟨Y,hL,ok,fun H1 s1 e _=>?_,fun H1 c f s1 hf e bf=>?_⟩);·exact Z1 Y ⟨Y,Z1 Y (YW (Du s1 k (WU e)))⟩
  ·have FA:VB t H1 a c l f:=⟨hL.up s1,ok,hf,(YS ok e).1,bf⟩;refine Z1 Y ⟨Y,Z1 Y (YA (Y' Y rfl (W9 a c l f ⟨Y,FA,Oj ok e,fun H2 p s2 aK=>?_⟩)))⟩;have Qy:=s1.trans s2;have pl:=NK l f;have w9:∀x,x∈parts l f->x.2.length<=9:=fun x hx=>by
    obtain⟨_,w2,w3⟩:=Ly ok (MI l _ f x hx);exact ZA (W3 l.roads.length _ w3 w2) r9
   have Ub:RoadSpec.asked l .parts=says (parts l f).length++(parts l f).flatMap QT:=by
    show ofFlow l false _=_;rw[X4 e];rfl
   obtain⟨ta,t1,t2,t3⟩:=aK;refine Z1 Y (ZQ Y (.inl (Zw.of t1)) ⟨(by show 1<=sizeLine;decide),fun D hD=>?_⟩);rw[Z3,t2];have s3:=ZX.new hD (.lst [.int ((parts l f).length:Int)]);refine Z1 Y ⟨p,Y,⟨_,Zw.of (s3 _ _ t1)⟩,?_⟩;refine Xo (K:=K) (a:=p) (xs:=ta.map V.ref) (fun i σ H'=>(∃c5 c6,σ=[some (.ref a),some (.ref g),some (.ref c),some (.ref p),some (.ref D),c5,c6])/\ZX H2 H'/\IL H' D (says (parts l f).length++((parts l f).take i).flatMap QT)) ⟨Xr none none Y,s3,Z4⟩ (fun i σ H' _ q=>Zw.of (q.2.1 _ _ t1)) ?_ ?_
   ·rintro i x σ H3 hx ⟨⟨c5,c6,rfl⟩,s4,d4⟩;obtain⟨b,O,rfl⟩:=Yb hx;have il:i<(parts l f).length:=by rw[<-t2];exact(Zy.mp O).1
    obtain⟨x,y,g1,g2,g3,g4⟩:=t3 i b O;obtain⟨pt,iW⟩:∃pt,(parts l f)[i]=pt:=⟨_,Y⟩;have aJ:(parts l f).getD i (0,[])=pt:=by rw[ZW,ZT il,<-iW];rfl
    rw[aJ]at g2 g3 g4;have p9:=w9 pt (by rw[<-iW];exact WO il);refine KR (U4.of (s4 _ _ g1)) ?_;refine Z1 Y ⟨.inl ⟨Y,_,Zw.of d4⟩,Z1 Y (ZQ Y (.inr (U4.of (g2.up s4))) (fun u hu=>?_))⟩;have s5:=ZX.new hu (.lst [.int pt.1.num,.int pt.1.den]);refine Z1 Y ⟨y,pt.2,Y,s5 _ _ (s4 _ _ g3),by omega,fun H4 z _ s6 hz=>?_⟩;have A6:=s5.trans s6;refine W9 u z _ _ ⟨Y,Y,s6 _ _ Z4,hz,?_,fun q hq=>?_⟩
    ·rw[Z3];unfold tells;rw[Z3,Zg];exact YZ (YI (show 2+(pt.2.length+1)<=16000000 by omega))
    have s7:=ZX.new hq (.lst ([.int pt.1.num,.int pt.1.den]++(tells (pt.2.length::pt.2)).map V.int));have jx:=A6.trans s7;refine W9 D q _ _ ⟨Y,Y,jx _ _ d4,Z4,?_,Yd Y,(s4.trans jx).Zu hD _,?_⟩
    ·have J:=NJ ((parts l f).take i) fun x hx=>w9 x (List.mem_of_mem_take hx);have h2:=IT p9;rw[Xt]at J;rw[Z3,ZF];have h3:([V.int pt.1.num,V.int pt.1.den]++(tells (pt.2.length::pt.2)).map V.int).length=(QT pt).length:=by
      unfold QT;rw[ZF,ZF,Z3];rfl
     rw[h3];exact YZ (YI (show 1+(((parts l f).take i).flatMap QT).length+(QT pt).length<=16000000 by omega))
    ·show upd _ _ _ _=_;have et:(parts l f).take (i+1)=(parts l f).take i++[pt]:=by
      rw[Xc,ZT il,iW];rfl
     have eP:[V.int pt.1.num,V.int pt.1.den]++(tells (pt.2.length::pt.2)).map V.int=(QT pt).map V.int:=by
      unfold QT;rw[YV];rfl
     rw[Z4,et,eP];simp only[Tr,VU,List.flatMap_nil,Xw,YV,VX]
   ·rintro σ H3 ⟨⟨c5,c6,rfl⟩,s4,d4⟩;rw[Z3,t2,XX]at d4;refine Z1 Y (k H3 D (Qy.free hD) (Qy.trans s4) (by rw[Ub];exact d4) ?_);rw[Ub,ZF];have J:=NJ (parts l f) w9;show 1+_<=300;omega
def oj:List Int->RoadSpec.Call->Prop:=fun gs c=>∃(q:Nat) (us:List Nat),gs=(q:Int)::(us.length:Int)::Qt us/\c=.judge us q/\us.length<=65536
theorem iV(a b:V)(ys:List V):IH (a::b::ys) (some 2) none=ys:=by
 unfold IH;rw[HT.Ao,show(2:Int)=((2:Nat):Int)from rfl,HT.IJ];have e:min 2 (a::b::ys).length=2:=by
  rw[Zg,Zg];omega
 rw[e];show ys.take _=ys;refine Ph ?_;rw[Zg,Zg];omega
theorem vb{p q:Nat}(hq:0<q)(dP:q<=1000000000)(hp:p<=1000000000):Rb 40 ((p:Rat)/(q:Rat)):=by
 have h0:(0:Int)<(q:Int):=by omega
 have e40:(2:Nat)^40=1099511627776:=by decide
 refine⟨?_,?_⟩
 ·rw[<-N4,Ik h0 rfl];have h2:=Int.ediv_le_self (b:=((Int.gcd (p:Int) (q:Int):Nat):Int)) (show(0:Int)<=(p:Int) by omega);have h3:0<=(p:Int)/((Int.gcd (p:Int) (q:Int):Nat):Int):=Int.ediv_nonneg (by omega) (by omega);unfold Bd;omega
 ·rw[<-N4,LC h0 rfl];have h2:=Int.ediv_le_self (b:=((Int.gcd (p:Int) (q:Int):Nat):Int)) (show(0:Int)<=(q:Int) by omega);have h3:0<=(q:Int)/((Int.gcd (p:Int) (q:Int):Nat):Int):=Int.ediv_nonneg (by omega) (by omega);unfold Bd;omega
theorem Dm(l:Land)(f:RhRoads.Flow):verdict l f=match wrong l false f with
 |none=>says 0
 |some x=>tells [x.1,x.2]:=by
 unfold verdict;cases wrong l false f with
 |none=>rfl
 |some x=>rfl
theorem Fb(l:Land)(f:RhRoads.Flow):(verdict l f).length<=2:=by
 unfold verdict;split;·show 1<=2;decide
 ·show 2<=2;decide
theorem Of:ZL ["land","given","lower","uppers","upper"] ["land","given"] (ZZ (top 88)):=YR
theorem Oe(T:Txt K mg t):Y6 P w K mg base XB 41 t.Wo t.SQ ["land","given"] (VD t oj):=by
 have sc:=Of;refine T.Uk.F.ok sc (fun vs H Q E h=>?_) (fun Yp A outer s H vs Q E hr h=>?_)
 ·obtain⟨a,g,l,gs,c,rfl,_⟩:=h;rfl
 ·obtain⟨a,g,l,gs,c,rfl,hL,ok,hg,⟨q,us,rfl,rfl,u6⟩,k⟩:=h;have r9:=ok.r9;have om:=hL;obtain⟨la,rs,ES⟩:=om;obtain⟨Tu,ea⟩:=ES.obj;have rl:rs.length=l.roads.length:=ES.len;have Ub:RoadSpec.asked l (.judge us q)=if q=0\/1000000000<q then no 1 else if us.length≠l.roads.length\/us.any (fun(x:Nat)=>decide (1000000000<x))=true then no 3 else(match wrong l false (us.map fun(x:Nat)=>(x:Rat)/(q:Rat))with
   |none=>says 0
   |some x=>tells [x.1,x.2]):=rfl
  refine⟨_,(Z5 (ZS (i:=2) sc.nd Y (Or.inr Y) (ZI ZM (Z 1) ZR (fun _ _=>rfl)))
   (Z5 (ZS (i:=3) sc.nd Y Y4 (GR C7 (Z 1) (II ZR) w4))
   (Z5 (YT (RD (LY RB RB ZR (Z 2) (gl T.MO))) (Z0 (ZN (Zv (Z6 (gl T.XO) Z2)))) Zs)
   (Z5 (YT (PW.pt (UX (ZG uT (YN Zd (by rfl) T.Wk YM (Z6 (Z 3) Z2)) (YN Zd (by rfl) T.Wk YM (Z6 (ZY (Z 0) rfl) Z2)) (Zr _)) (Vt (ZG NH (vS Y (by rfl) T.oP (Z6 (Z 3) Z2) (xc ZR tI)) (gl T.MO) (Zr _))))) (Z0 (ZN (Zv (Z6 (gl T.DU) Z2)))) Zs)
   (Z0 (ZN (cl T.Ja (Hz T) hr (Z6 (Z 0) (Z6 (R5 Y sc.nd (Yq (Z 3)) (Yt (own:=[("upper",4)]) (show T_ ["land","given","lower","uppers","upper"] (ZZ (top 88)) _ _=true by decide+kernel)) (fun _ _ _ _ _=>by exact(Zz (i:=4) sc.nd Y Y4)) (fun _ _ _ _ _=>by exact XE) (fun _ _ _ _ _=>by exact(cl T.ratio (Yg T) hr (Z6 (Z 4) (Z6 (Z 2) Z2))))) Z2))))))))),?_⟩
  refine Z1 Y (Xh ⟨.int (q:Int),Y,Y,Zw.of hg,SD (j:=0) rfl,Y' Y rfl (ZQ Y (Zw.of hg) (fun u hu=>?_))⟩);rw[show((q:Int)::(us.length:Int)::Qt us).map V.int=V.int (q:Int)::V.int (us.length:Int)::(Qt us).map V.int from rfl,iV];have s1:=ZX.new hu (.lst ((Qt us).map V.int));have mE:IL (upd H u (.lst ((Qt us).map V.int))) u (Qt us):=Z4;generalize upd H u (.lst ((Qt us).map V.int))=H1 at*;have bad:q=0\/1000000000<q->(1:Nat)<=sizeLine/\∀p,H1 p=none->Q (.ref p) (upd H1 p (.lst [.int (-1)])):=fun cc=>by
   rw[Z7 cc]at Ub;exact Du s1 k Ub
  refine Z1 Y (ZQ Y rfl (Z1 Y (Wb (fun c1=>?_) (fun c1=>?_))))
  ·have c1:(1:Int)<=q:=ZD c1;refine ZQ Y rfl (Z1 Y ?_);by_cases c2:(q:Int)<=1000000000
   ·rw[ZP c2];refine YA ?_;rw[Z8 (by omega)]at Ub;have x6:us.length≠l.roads.length\/us.any (fun(x:Nat)=>decide (1000000000<x))=true->(1:Nat)<=sizeLine/\∀p,H1 p=none->Q (.ref p) (upd H1 p (.lst [.int (-3)])):=fun cc=>by
     rw[Z7 cc]at Ub;exact Du s1 k Ub
    have tl:(Qt us).length=us.length:=Z3 ..
    refine Z1 Y (ZQ Y (.inl (Zw.of mE)) (YJ Y (s1 _ _ ea) T.Land.cl T.ZH Y (ZQ Y (.inl (Zw.of (s1 _ _ ES.lst))) ⟨Y,Z1 Y ?_⟩)));rw[Z3,Z3,tl,rl];by_cases c3:us.length=l.roads.length
    ·have e3:(!decide (V.int (us.length:Int)=V.int (l.roads.length:Int)))=false:=by rw[c3];simp
     rw[e3];refine YA (Z1 Y ⟨u,Qt us,0,Y,Y,Zw.of mE,fun m hm=>ZQ Y rfl (Z1 Y ?_)⟩);by_cases c4:(1000000000:Int)<m
     ·rw[ZP c4];refine YW (x6 (.inr ?_));rcases hm with⟨_,rfl⟩|⟨hm,_⟩;·exact absurd c4 (by decide)
      ·obtain⟨x,hx,rfl⟩:=Y9.mp hm;exact UB.mpr ⟨x,hx,ZP (by omega)⟩
     ·rw[ZC c4];refine YA ?_;have small:∀x,x∈us->x<=1000000000:=fun x hx=>by
       rcases hm with⟨h0,_⟩|⟨_,hm⟩
       ·have:us=[]:=by
         have:=congrArg List.length h0;rw[tl]at this;exact Xu.mp this
        rw[this]at hx;cases hx
       ·have:=hm (x:Int) (Y9.mpr ⟨x,hx,Y⟩);omega
      rw[Z8 (by
       rintro(z|z);·exact z c3
       ·obtain⟨x,hx,hz⟩:=UB.mp z;have:=small x hx;have:=ZD hz;omega),<-Dm]at Ub
      generalize hf:(us.map fun(x:Nat)=>(x:Rat)/(q:Rat))=f at*;have fe:∀e,e<us.length->on f e=((us.getD e 0:Nat):Rat)/(q:Rat):=fun e he=>by
       rw[<-hf];unfold on;rw[ZW,Zb,ZW,ZT he];rfl
      have fl:f.length=us.length:=by rw[<-hf,Z3]
      have xA:∀e,Rb 40 (on f e):=fun e=>by
       by_cases he:e<us.length
       ·rw[fe e he];refine vb (by omega) (by omega) (small _ ?_);rw[ZW,ZT he];exact WO he
       ·rw[Hx (by omega)];exact Rb.ofInt (x:=0) (Bd.zero _) (by omega)
      have nn:∀e,e<l.roads.length->0<=on f e:=fun e he=>by
       rw[fe e (by omega)];exact Rl (Vp _) (natCast_pos (by omega))
      refine Y' Y rfl ⟨u,Y,⟨_,Zw.of mE⟩,fun D hD=>?_⟩;refine Vi (K:=K) (a:=u) (xs:=(Qt us).map V.int) (fun i H'=>ZX H1 H'/\SJ H' D (on f) i) ⟨ZX.new hD _,SJ.nil _ Z4⟩ (fun i H' _ z=>Zw.of (z.1 _ _ mE)) ?_ ?_
      ·rintro i x H2 hx ⟨s2,f2⟩;obtain⟨hi,rfl⟩:=int_at hx;rw[tl]at hi;have ex:(Qt us).getD i 0=((us.getD i 0:Nat):Int):=by
        unfold Qt;rw[ZW,Zb,ZW,ZT hi];rfl
       rw[ex];refine⟨Y,Y' Y rfl (ZQ Y (by omega) (fun p hp=>?_))⟩;rw[N4,<-fe i hi];have s3:=ZX.new hp (.tup [.int (on f i).num,.int (on f i).den]);obtain⟨acc,a1,a2,a3⟩:=(f2.up s3).snoc (c:=p) (by show upd _ _ _ _=_;rw[Z4]) (by omega);exact⟨acc,a1,a2,(s2.trans s3).Zu hD _,a3⟩
      ·rintro H2 ⟨s2,f2⟩;rw[Z3,tl]at f2;have f2:A7 H2 D f:=by
        show SJ H2 D (fun j=>f.getD j 0) f.length;rw[fl];exact f2
       have Z_:QV t H2 a D l f:=⟨⟨hL.up (s1.trans s2),ok,f2,by omega,fun e=>(xA e).mono (by decide)⟩,nn,xA⟩;exact W9 a D l f ⟨Y,Z_,fun H3 d nd s3 hd=>k H3 d ((s1.trans s2).free nd) (s1.trans (s2.trans s3)) (by rw[Ub];exact hd) (by rw[Ub];exact ZA (Fb l f) (by decide))⟩
    ·have e3:(!decide (V.int (us.length:Int)=V.int (l.roads.length:Int)))=true:=by
      rw[ZC];·rfl
      ·intro z;injection z with z
       omega
     rw[e3];exact YW (YW (x6 (.inl c3)))
   ·rw[ZC c2];exact YW (bad (.inr (by omega)))
  ·exact Z1 Y (YW (bad (.inl (by
    have:¬(1:Int)<=q:=fun z=>c1 (ZP z);omega))))
end
noncomputable def uc(t:Yl):List (Int×Value):=[(7,.ref t.TV),(8,.ref t.TU),(9,.ref t.TR),(10,.ref t.TQ),(11,.ref t.UR),(12,.ref t.UQ),(13,.ref t.TN),(14,.ref t.VJ),(15,.ref t.Vg),(16,.ref t.QF),(17,.ref t.TM),(18,.ref t.Sr),(19,.ref t.UP),(20,.ref t.Wo)]
noncomputable def xZ(t:Yl):List (Int×Value):=[(1,.ref t.TL),(2,.ref t.Sq),(3,.ref t.Vf),(4,.ref t.So),(5,.ref t.Sn),(6,.ref t.UO)]
def xY:List (Int×Int):=[(1,4),(2,4),(3,3),(4,3),(5,2),(6,1),(7,0),(8,0),(9,0),(10,0),(11,0),(12,0),(13,1),(14,1),(15,0),(16,1),(17,0),(18,1),(19,0),(20,2)]
structure Txt2(K:W.Frag)(mg:Str->Option Value)(t:Yl)(dA dC dG:Addr):Prop where
 T:Txt K mg t
 rj:Gv mg "ASKING" (.ref dA)
 E':Gv mg "CHANGING" (.ref dC)
 oi:Gv mg "GIVEN" (.ref dG)
 kA:Nv K dA (uc t)
 kC:Nv K dC (xZ t)
 kG:∃Zp,Nv K dG Zp/\∀n g,(n,g)∈xY->∃tk,Zp.lookup n=some (.int g tk)
def va(n:Int)(gs:List Int)(c:RoadSpec.Call):Prop:=(n=7/\c=.told)\/(n=8/\c=.flow)\/(n=9/\c=.time)\/(n=10/\c=.best)\/(n=11/\c=.price)\/(n=12/\c=.tolls)\/(n=13/\xy .cost gs c)\/(n=14/\xy .without gs c)\/(n=15/\c=.better)\/(n=16/\xy .at_ gs c)\/(n=17/\c=.ways)\/(n=18/\xy .way gs c)\/(n=19/\c=.parts)\/(n=20/\oj gs c)
section
variable{P:Program}{w:World}{K:W.Frag}{mg:Str->Option Value}{base:Heap}{t:Yl}{dA dC dG:Addr}
def u_(t:Yl):Sp:=fun vs H Q _=>∃a n g l gs c,vs=[.ref a,.int n,.ref g]/\WI t H a l/\Zh l/\IL H g gs/\va n gs c/\∀H' d,H d=none->ZX H H'->IL H' d (RoadSpec.asked l c)->(RoadSpec.asked l c).length<=300->Q (.ref d) H'
theorem xX:ZL ["land","number","given"] ["land","number","given"] (ZZ (top 90)):=YR
theorem xW(T2:Txt2 K mg t dA dC dG):Y6 P w K mg base XB 44 t.Cp t.Co ["land","number","given"] (u_ t):=by
 have T:=T2.T;have sc:=xX;refine T.asked.F.ok sc (fun vs H Q E h=>?_) (fun Yp A outer s H vs Q E hr h=>?_)
 ·obtain⟨a,n,g,l,gs,c,rfl,_⟩:=h;rfl
 ·obtain⟨a,n,g,l,gs,c,rfl,hL,ok,hg,hR,k⟩:=h;refine⟨_,(Z0 (ZN (FZ (HX (gl T2.rj) (Z 1) (fun _ _=>rfl)) (Z6 (Z 0) (Z6 (Z 2) Z2))))),?_⟩;rcases hR with⟨rfl,h⟩|⟨rfl,h⟩|⟨rfl,h⟩|⟨rfl,h⟩|⟨rfl,h⟩|⟨rfl,h⟩|⟨rfl,h⟩|⟨rfl,h⟩|⟨rfl,h⟩|⟨rfl,h⟩|⟨rfl,h⟩|⟨rfl,h⟩|⟨rfl,h⟩|⟨rfl,h⟩;·exact Z1 Y ⟨dA,_,7,_,.ref t.TV,Y,T2.kA,Y,Y,Y,Tc ⟨Y,T.N2.F.kp,T.N2.b,Hs T,hr.mono (by decide),Y' Y rfl (Ua a g l gs c ⟨Y,hL,ok,hg,h,k⟩)⟩⟩
  ·exact Z1 Y ⟨dA,_,8,_,.ref t.TU,Y,T2.kA,Y,Y,Y,Tc ⟨Y,T.N0.F.kp,T.N0.b,Hq T,hr.mono (by decide),Y' Y rfl (Ua a g l gs c ⟨Y,hL,ok,hg,h,k⟩)⟩⟩
  ·exact Z1 Y ⟨dA,_,9,_,.ref t.TR,Y,T2.kA,Y,Y,Y,Tc ⟨Y,T.NZ.F.kp,T.NZ.b,Hn T,hr.mono (by decide),Y' Y rfl (Ua a g l gs c ⟨Y,hL,ok,hg,h,k⟩)⟩⟩
  ·exact Z1 Y ⟨dA,_,10,_,.ref t.TQ,Y,T2.kA,Y,Y,Y,Tc ⟨Y,T.NY.F.kp,T.NY.b,Hl T,hr.mono (by decide),Y' Y rfl (Ua a g l gs c ⟨Y,hL,ok,hg,h,k⟩)⟩⟩
  ·exact Z1 Y ⟨dA,_,11,_,.ref t.UR,Y,T2.kA,Y,Y,Y,Tc ⟨Y,T.PJ.F.kp,T.PJ.b,J7 T,hr.mono (by decide),Y' Y rfl (Ua a g l gs c ⟨Y,hL,ok,hg,h,k⟩)⟩⟩
  ·exact Z1 Y ⟨dA,_,12,_,.ref t.UQ,Y,T2.kA,Y,Y,Y,Tc ⟨Y,T.PH.F.kp,T.PH.b,J5 T,hr.mono (by decide),Y' Y rfl (Ua a g l gs c ⟨Y,hL,ok,hg,h,k⟩)⟩⟩
  ·exact Z1 Y ⟨dA,_,13,_,.ref t.TN,Y,T2.kA,Y,Y,Y,Tc ⟨Y,T.NX.F.kp,T.NX.b,Hj T,hr.mono (by decide),Y' Y rfl (Ua a g l gs c ⟨Y,hL,ok,hg,h,k⟩)⟩⟩
  ·exact Z1 Y ⟨dA,_,14,_,.ref t.VJ,Y,T2.kA,Y,Y,Y,Tc ⟨Y,T.Sk.F.kp,T.Sk.b,Mu T,hr.mono (by decide),Y' Y rfl (Ua a g l gs c ⟨Y,hL,ok,hg,h,k⟩)⟩⟩
  ·exact Z1 Y ⟨dA,_,15,_,.ref t.Vg,Y,T2.kA,Y,Y,Y,Tc ⟨Y,T.Q2.F.kp,T.Q2.b,Kv T,hr.mono (by decide),Y' Y rfl (Ua a g l gs c ⟨Y,hL,ok,hg,h,k⟩)⟩⟩
  ·exact Z1 Y ⟨dA,_,16,_,.ref t.QF,Y,T2.kA,Y,Y,Y,Tc ⟨Y,T.HV.F.kp,T.HV.b,Dq T,hr.mono (by decide),Y' Y rfl (Ua a g l gs c ⟨Y,hL,ok,hg,h,k⟩)⟩⟩
  ·exact Z1 Y ⟨dA,_,17,_,.ref t.TM,Y,T2.kA,Y,Y,Y,Tc ⟨Y,T.NW.F.kp,T.NW.b,Hh T,hr.mono (by decide),Y' Y rfl (Ua a g l gs c ⟨Y,hL,ok,hg,h,k⟩)⟩⟩
  ·exact Z1 Y ⟨dA,_,18,_,.ref t.Sr,Y,T2.kA,Y,Y,Y,Tc ⟨Y,T.K0.F.kp,T.K0.b,Fc T,hr.mono (by decide),Y' Y rfl (Ua a g l gs c ⟨Y,hL,ok,hg,h,k⟩)⟩⟩
  ·exact Z1 Y ⟨dA,_,19,_,.ref t.UP,Y,T2.kA,Y,Y,Y,Tc ⟨Y,T.PF.F.kp,T.PF.b,J3 T,hr.mono (by decide),Y' Y rfl (Ua a g l gs c ⟨Y,hL,ok,hg,h,k⟩)⟩⟩
  ·exact Z1 Y ⟨dA,_,20,_,.ref t.Wo,Y,T2.kA,Y,Y,Y,Tc ⟨Y,T.Uk.F.kp,T.Uk.b,Oe T,hr.mono (by decide),Y' Y rfl (Ua a g l gs c ⟨Y,hL,ok,hg,h,k⟩)⟩⟩
def rf:Sp:=fun vs H Q _=>∃a b:Int,vs=[.int a,.int b]/\Q (.bl (decide (a<=1000/\1<=b/\b<=1000))) H
theorem RK:ZL ["base","slope"] ["base","slope"] (ZZ (top 100)):=YR
theorem VA(T:Txt K mg t):Y6 P w K mg base XB 33 t.U7 t.U6 ["base","slope"] rf:=by
 have sc:=RK;refine T.V4.F.ok sc (fun vs H Q E h=>?_) (fun Yp A outer s H vs Q E hr h=>?_)
 ·obtain⟨a,b,rfl,_⟩:=h;rfl
 ·obtain⟨a,b,rfl,k⟩:=h;refine⟨_,(Z0 (ZN (tU (Dc RB (Z 0) (gl T.Bh) (Zr _)) (tV (GY RB RB ZR (Z 1) (gl T.DS)))))),?_⟩;refine Z1 Y (ZQ Y rfl (Z1 Y (Wb (fun c1=>?_) (fun c1=>?_))))
  ·have c1:a<=1000:=ZD c1;refine Z1 Y (ZQ Y rfl (Z1 Y (Wb (fun c2=>?_) (fun c2=>?_))))
   ·have c2:1<=b:=ZD c2;refine ZQ Y rfl ?_;have e:decide (a<=1000/\1<=b/\b<=1000)=decide (b<=1000):=by by_cases q:b<=1000<;>simp[q,c1,c2]
    rw[e]at k;exact k
   ·have c2:¬1<=b:=fun q=>c2 (ZP q);have e:decide (a<=1000/\1<=b/\b<=1000)=false:=by simp[c2]
    rw[e]at k;exact k
  ·have c1:¬a<=1000:=fun q=>c1 (ZP q);have e:decide (a<=1000/\1<=b/\b<=1000)=false:=by simp[c1]
   rw[e]at k;exact k
end
end Rw
namespace Rw
open PySem PySem.Spec PyProof.Rows L2 RR
open RhRoads (Road Land)
open RoadSpec (tells says no changed)
theorem Hf(H:Hp)(a:Addr)(x y:HO):upd (upd H a x) a y=upd H a y:=by
 funext b;by_cases q:b=a;·rw[q,Z4,Z4]
 ·rw[ZV q,ZV q,ZV q]
theorem Q0.road{t:Yl}{H:Hp}{a la ra ta ta' dr:Addr}{rs:List Addr}{l:Land}{e:Nat}{f:Road->Road}(h:Q0 t H a la rs l)(Xg:rs[e]?=some ra)(er:H ra=some (.ins t.VI dr (MN (rd l e) ta)))(ft:Fr H ta' (f (rd l e)).toll):Q0 t (upd H ra (.ins t.VI dr (MN (f (rd l e)) ta'))) a la rs (RoadSpec.one l e f):=by
 have he:e<l.roads.length:=by rw[<-h.len];exact(Zy.mp Xg).1
 obtain⟨Tu,ea⟩:=h.obj;refine⟨⟨Tu,?_⟩,?_,?_,h.nd,fun i rc KL=>?_⟩
 ·rw[ZV];·exact ea
  ·intro q;rw[q,er]at ea;have:=Y8 ea;injection this with _ _ z
   cases z
 ·rw[Sh h.lst er fun _ _ _ q=>by cases q]
 ·rw[h.len];show _=(l.roads.modify e _).length;rw[List.length_modify]
 ·rw[yK he];by_cases q:i=e
  ·subst q;rw[Xg]at KL;cases KL;rw[Z7 rfl];exact⟨ta',⟨dr,Z4⟩,Sh ft er fun _ _ _ q=>by cases q⟩
  ·rw[Z8 q];exact(h.at_ i rc KL).ins er fun z=>q (z4 h.nd KL (by rw[z];exact Xg))
theorem Ku{x D:Addr}{fp:List Addr}(h:x∈fp)(n:D∉fp):x≠D:=fun q=>n (by rw[<-q];exact h)
def B8(t:Yl)(H:Hp)(v:V)(fp:List Addr):Option Land->Prop
 |none=>v=.Xf
 |some l=>∃a la rs,v=.ref a/\Q0 t H a la rs l/\a∈fp/\la∈fp/\∀r,r∈rs->r∈fp
structure QS(t:Yl)(H:Hp)(o:Addr)(st:Option Land)(fp:List Addr):Prop where
 obj:∃dx v,H o=some (.ins t.V9 dx [("land",v)])/\B8 t H v fp st
 mem:o∈fp
theorem B8.up{t:Yl}{H H':Hp}{v:V}{fp:List Addr}{st:Option Land}(h:B8 t H v fp st)(s:ZX H H'):B8 t H' v fp st:=by
 cases st with
 |none=>exact h
 |some l=>
  obtain⟨a,la,rs,J,h2,h3⟩:=h;exact⟨a,la,rs,J,h2.up s,h3⟩
theorem QS.up{t:Yl}{H H':Hp}{o:Addr}{st:Option Land}{fp:List Addr}(h:QS t H o st fp)(s:ZX H H'):QS t H' o st fp:=by
 obtain⟨dx,v,J,h2⟩:=h.obj;exact⟨⟨dx,v,s _ _ J,h2.up s⟩,h.mem⟩
theorem QS.lst{t:Yl}{H:Hp}{o D:Addr}{xs:List V}{u:HO}{st:Option Land}{fp:List Addr}(h:QS t H o st fp)(hD:H D=some (.lst xs))(n:D∉fp):QS t (upd H D u) o st fp:=by
 obtain⟨dx,v,J,h2⟩:=h.obj;refine⟨⟨dx,v,by rw[ZV (Ku h.mem n)];exact J,?_⟩,h.mem⟩;cases st with
 |none=>exact h2
 |some l=>
  obtain⟨a,la,rs,g1,g2,g3,g4,g5⟩:=h2;obtain⟨Tu,ea⟩:=g2.obj;exact⟨a,la,rs,g1,⟨⟨Tu,by rw[ZV (Ku g3 n)];exact ea⟩,by rw[ZV (Ku g4 n)];exact g2.lst,g2.len,g2.nd,fun i r e=>(g2.at_ i r e).lst hD⟩,g3,g4,g5⟩
def Back(t:Yl)(H:Hp)(o:Addr)(fp:List Addr)(st:Option Land)(B7:List Int)(Q:VK):Prop:=∀H' d fp',QS t H' o st fp'->(∀b u,H b=some u->b∉fp->H' b=some u)->(∀b,b∈fp'->b∈fp\/H b=none)->H d=none->d∉fp'->IL H' d B7->B7.length<=300->Q (.ref d) H'
theorem QS.He{t:Yl}{H:Hp}{o:Addr}{st:Option Land}{fp:List Addr}(h:QS t H o st fp):∃fq,QS t H o st fq/\(∀b,b∈fq->b∈fp)/\∀b,b∈fq->∃u,H b=some u:=by
 obtain⟨dx,v,J,h2⟩:=h.obj;cases st with
 |none=>exact ⟨[o],⟨⟨dx,v,J,h2⟩,by simp⟩,fun b O=>by rw[Zm.mp O];exact h.mem,fun b O=>by rw[Zm.mp O];exact⟨_,J⟩⟩
 |some l=>
  obtain⟨a,la,rs,g1,g2,g3,g4,g5⟩:=h2;obtain⟨Tu,ea⟩:=g2.obj;refine⟨o::a::la::rs,⟨⟨dx,v,J,a,la,rs,g1,g2,by simp,by simp,fun r hr=>by simp[hr]⟩,by simp⟩,fun b O=>?_,fun b O=>?_⟩
  ·rcases ZE.mp O with rfl|O;·exact h.mem
   rcases ZE.mp O with rfl|O;·exact g3
   rcases ZE.mp O with rfl|O;·exact g4
   ·exact g5 b O
  ·rcases ZE.mp O with rfl|O;·exact⟨_,J⟩
   rcases ZE.mp O with rfl|O;·exact⟨_,ea⟩
   rcases ZE.mp O with rfl|O;·exact⟨_,g2.lst⟩
   ·obtain⟨i,hi,aI⟩:=XY.mp O;obtain⟨ta,⟨dr,er⟩,_⟩:=g2.at_ i b (by rw[ZT hi,aI]);exact⟨_,er⟩
theorem Back.one{t:Yl}{H H1:Hp}{o:Addr}{st:Option Land}{fp:List Addr}{B7:List Int}{Q:VK}(k:Back t H o fp st B7 Q)(h:QS t H o st fp)(s:ZX H H1){z:Int}(e:B7=[z]):(1:Nat)<=sizeLine/\∀p,H1 p=none->Q (.ref p) (upd H1 p (.lst [.int z])):=by
 obtain⟨fq,f1,f2,f3⟩:=h.He;refine⟨by decide,fun p hp=>?_⟩;have s2:=s.trans (ZX.new hp (.lst [.int z]));refine k _ p fq (f1.up s2) (fun b u O _=>s2 _ _ O) (fun b O=>.inl (f2 b O)) (s.free hp) (fun q=>?_) (by rw[e];exact Z4) (by rw[e];show 1<=300;decide);obtain⟨u,hu⟩:=f3 p q;rw[s.free hp]at hu;cases hu
theorem Back.done{t:Yl}{H H1:Hp}{o:Addr}{st:Option Land}{fp fp':List Addr}{B7:List Int}{Q:VK}(k:Back t H o fp st B7 Q)(h:QS t H1 o st fp')(kp:∀b u,H b=some u->b∉fp->H1 b=some u)(hold:∀b u,H b=some u->∃v,H1 b=some v)(fr:∀b,b∈fp'->b∈fp\/H b=none){z:Int}(e:B7=[z]):(1:Nat)<=sizeLine/\∀p,H1 p=none->Q (.ref p) (upd H1 p (.lst [.int z])):=by
 obtain⟨fq,f1,f2,f3⟩:=h.He;refine⟨by decide,fun p hp=>?_⟩;have s2:=ZX.new hp (.lst [.int z]);have jv:H p=none:=by
  cases q:H p with
  |none=>rfl
  |some u=>
   obtain⟨v,hv⟩:=hold p u q;rw[hp]at hv;cases hv
 refine k _ p fq (f1.up s2) (fun b u O hn=>s2 _ _ (kp b u O hn)) (fun b O=>fr b (f2 b O)) jv (fun q=>?_) (by rw[e];exact Z4) (by rw[e];show 1<=300;decide);obtain⟨u,hu⟩:=f3 p q;rw[hp]at hu;cases hu
theorem VC{ns:List Int}{k:Nat}{z:Int}(h:ns[k]?=some z):QO (ns.map V.int) (k:Int)=some (.int z):=SD (by rw[Zb,h];rfl)
section
variable{P:Program}{w:World}{K:W.Frag}{mg:Str->Option Value}{base:Heap}{t:Yl}{dA dC dG:Addr}
def A0(t:Yl):Sp:=fun vs H Q _=>∃p dx,vs=[.ref p]/\H p=some (.ins t.V9 dx [])/\Q .Xf (upd H p (.ins t.V9 dx [("land",.Xf)]))
theorem Kt:ZL ["self"] ["self"] (ZZ (inClass (top 99) 0)):=YR
theorem Ks(T:Txt K mg t):Y6 P w K mg base XB 33 t.Qb t.Qa ["self"] (A0 t):=by
 have sc:=Kt;refine T.Uj.F.ok sc (fun vs H Q E h=>?_) (fun Yp A outer s H vs Q E hr h=>?_)
 ·obtain⟨p,dx,rfl,_⟩:=h;rfl
 ·obtain⟨p,dx,rfl,hp,k⟩:=h;refine⟨_,(Z0 (YB (Z 0) XH Y)),?_⟩;exact Z1 Y (ZJ Y hp T.Uj.cl T.X_ ⟨(by show 0<1000;decide),k⟩)
def E_(t:Yl)(R:List Int->RoadSpec.Call->Prop):Sp:=fun vs H Q _=>∃o g l gs c fp,vs=[.ref o,.ref g]/\QS t H o (some l) fp/\Zh l/\IL H g gs/\R gs c/\Back t H o fp (some (changed l c).1) (changed l c).2 Q
def fU(of:Nat->Nat->RoadSpec.Call):List Int->RoadSpec.Call->Prop:=fun gs c=>∃x y:Nat,gs=[(x:Int),(y:Int)]/\c=of x y
def mD(of:Nat->Nat->Nat->RoadSpec.Call):List Int->RoadSpec.Call->Prop:=fun gs c=>∃x y z:Nat,gs=[(x:Int),(y:Int),(z:Int)]/\c=of x y z
def oh(of:Nat->Nat->Nat->Nat->RoadSpec.Call):List Int->RoadSpec.Call->Prop:=fun gs c=>∃x y z u:Nat,gs=[(x:Int),(y:Int),(z:Int),(u:Int)]/\c=of x y z u
theorem J2:ZL ["office","given","land"] ["office","given"] (ZZ (top 106)):=YR
theorem J1(T:Txt K mg t):Y6 P w K mg base XB 34 t.UO t.OJ ["office","given"] (E_ t (xy .demand)):=by
 have sc:=J2;refine T.PB.F.ok sc (fun vs H Q E h=>?_) (fun Yp A outer s H vs Q E hr h=>?_)
 ·obtain⟨o,g,l,gs,c,fp,rfl,_⟩:=h;rfl
 ·obtain⟨o,g,l,gs,c,fp,rfl,Z9,ok,hg,⟨v,rfl,rfl⟩,k⟩:=h;obtain⟨dx,lv,eo,a,la,rs,rfl,hL,m1,m2,m3⟩:=Z9.obj;obtain⟨Tu,ea⟩:=hL.obj;have cd:changed l (.demand v)=if v=0\/1000<v then(l,no 1)else({l with units:=v},says 0):=rfl
  refine⟨_,(Z5 (ZS (i:=2) sc.nd Y Y4 (ZY (Z 0) rfl))
   (Z5 (YT (RD (TF (cl T.QE (Si T) hr (Z6 (ZI ZM (Z 1) ZR (fun _ _=>rfl)) Z2)))) (Z0 (ZN (Zv (Z6 (gl T.XO) Z2)))) Zs)
   (Z5 (YB (Z 2) (ZI ZM (Z 1) ZR (fun _ _=>rfl)) rfl)
   (Z0 (ZN (Zv (Z6 ZR Z2))))))),?_⟩
  refine YJ Y eo T.Uj.cl T.X_ Y (Z1 Y (ZJ Y rfl (Zw.of hg) (R7 v) (Y' Y rfl ?_)));by_cases cc:v=0\/1000<v
  ·have e:decide (1<=(v:Int)/\(v:Int)<=1000)=false:=ZC (by omega);rw[e];rw[Z7 cc]at cd;rw[cd]at k;exact YW (Back.one k Z9 (ZX.refl H) rfl)
  ·have e:decide (1<=(v:Int)/\(v:Int)<=1000)=true:=ZP (by omega);rw[e];rw[Z8 cc]at cd;rw[cd]at k;refine YA (Z1 Y (ZJ Y rfl (Zw.of hg) (R7 v) (Z1 Y (ZJ Y ea T.Land.cl T.Xk ⟨(by show 5<1000;decide),?_⟩))));refine Back.done k (fp':=fp) ⟨⟨dx,.ref a,?_,XR a la rs ⟨Y,⟨⟨Tu,Z4⟩,?_,hL.len,hL.nd,fun i rc KL=>?_⟩,m1,m2,m3⟩⟩,Z9.mem⟩ (fun b u O hn=>?_) (fun b u O=>?_) (fun b O=>.inl O) rfl
   ·rw[ZV];·exact eo
    ·intro q;rw[q,ea]at eo;have:=Y8 eo;injection this with _ _ z
     cases z
   ·rw[Sh hL.lst ea fun _ _ _ q=>by cases q]
   ·refine Wt.ins (hL.at_ i rc KL) ea fun q=>?_;obtain⟨ta,⟨oM,er⟩,_⟩:=hL.at_ i rc KL;rw[q,ea]at er;have:=Y8 er;injection this with _ _ z
    cases z
   ·rw[ZV (Ku m1 hn).symm];exact O
   ·by_cases q:b=a
    ·rw[q];exact⟨_,Z4⟩
    ·exact⟨u,by rw[ZV q];exact O⟩
theorem Back.road{t:Yl}{H H1:Hp}{o dx a la ra ta ta' dr:Addr}{rs fp:List Addr}{l:Land}{e:Nat}{f:Road->Road}{B7:List Int}{Q:VK}{z:Int}(k:Back t H o fp (some (RoadSpec.one l e f)) B7 Q)(Z9:QS t H o (some l) fp)(eo:H o=some (.ins t.V9 dx [("land",.ref a)]))(hL:Q0 t H a la rs l)(m1:a∈fp)(m2:la∈fp)(m3:∀r,r∈rs->r∈fp)(s:ZX H H1)(Xg:rs[e]?=some ra)(er:H ra=some (.ins t.VI dr (MN (rd l e) ta)))(ft:Fr H1 ta' (f (rd l e)).toll)(ea:B7=[z]):(1:Nat)<=sizeLine/\∀p,upd H1 ra (.ins t.VI dr (MN (f (rd l e)) ta')) p=none->Q (.ref p) (upd (upd H1 ra (.ins t.VI dr (MN (f (rd l e)) ta'))) p (.lst [.int z])):=by
 have jW:ra∈fp:=m3 ra (Y3 Xg);refine Back.done k (fp':=fp) ⟨⟨dx,.ref a,?_,XR a la rs ⟨Y,Q0.road (hL.up s) Xg (s _ _ er) ft,m1,m2,m3⟩⟩,Z9.mem⟩ (fun b u O hn=>?_) (fun b u O=>?_) (fun b O=>.inl O) ea
 ·rw[ZV];·exact s _ _ eo
  ·intro q;rw[q,er]at eo;have:=Y8 eo;injection this with _ _ z
   cases z
 ·rw[ZV (Ku jW hn).symm];exact s _ _ O
 ·by_cases q:b=ra
  ·rw[q];exact⟨_,Z4⟩
  ·exact⟨u,by rw[ZV q];exact s _ _ O⟩
theorem E9:ZL ["office","given","land","road"] ["office","given"] (ZZ (top 105)):=YR
theorem E8(T:Txt K mg t):Y6 P w K mg base XB 33 t.Sn t.La ["office","given"] (E_ t (fU .shut)):=by
 have sc:=E9;refine T.KW.F.ok sc (fun vs H Q E h=>?_) (fun Yp A outer s H vs Q E hr h=>?_)
 ·obtain⟨o,g,l,gs,c,fp,rfl,_⟩:=h;rfl
 ·obtain⟨o,g,l,gs,c,fp,rfl,Z9,ok,hg,⟨x,y,rfl,rfl⟩,k⟩:=h;obtain⟨dx,lv,eo,a,la,rs,rfl,hL,m1,m2,m3⟩:=Z9.obj;obtain⟨Tu,ea⟩:=hL.obj;have rl:rs.length=l.roads.length:=hL.len;have g0:QO ([(x:Int),(y:Int)].map V.int) 0=some (.int (x:Int)):=VC (k:=0) rfl;have g1:QO ([(x:Int),(y:Int)].map V.int) 1=some (.int (y:Int)):=VC (k:=1) rfl;have cd:changed l (.shut x y)=if l.roads.length<=x then(l,no 2)else if 1<y then(l,no 1)else(RoadSpec.one l x fun(r:Road)=>{r with shut:=y==1},says 0):=rfl
  refine⟨_,(Z5 (ZS (i:=2) sc.nd Y Y4 (ZY (Z 0) rfl))
   (Z5 (YT (ZG R6 (ZI ZM (Z 1) ZR (fun _ _=>rfl)) (YN Zd (by rfl) T.Wk YM (Z6 (ZY (Z 2) rfl) Z2)) (Zr _)) (Z0 (ZN (Zv (Z6 (gl T.Vm) Z2)))) Zs)
   (Z5 (YT (ZG NH (ZI ZM (Z 1) ZR (fun _ _=>rfl)) ZR (Zr _)) (Z0 (ZN (Zv (Z6 (gl T.XO) Z2)))) Zs)
   (Z5 (ZS (i:=3) sc.nd Y Y4 (ZI ZM (ZY (Z 2) rfl) (ZI ZM (Z 1) ZR (fun _ _=>rfl)) (fun _ _=>rfl)))
   (Z5 (YB (Z 3) (ZI ZM (Z 1) ZR (fun _ _=>rfl)) rfl)
   (Z0 (ZN (Zv (Z6 ZR Z2))))))))),?_⟩
  refine YJ Y eo T.Uj.cl T.X_ Y (Z1 Y (ZJ Y rfl (Zw.of hg) g0 (YJ Y ea T.Land.cl T.ZH Y (ZQ Y (.inl (Zw.of hL.lst)) (ZQ Y rfl (Z1 Y ?_))))));rw[Z3,rl];by_cases c1:l.roads.length<=x
  ·rw[ZP (show(l.roads.length:Int)<=(x:Int) by omega)];rw[Z7 c1]at cd;rw[cd]at k;exact YW (Back.one k Z9 (ZX.refl H) rfl)
  ·rw[ZC (show¬(l.roads.length:Int)<=(x:Int) by omega)];rw[Z8 c1]at cd;refine YA (Z1 Y (ZJ Y rfl (Zw.of hg) g1 (ZQ Y rfl (Z1 Y ?_))));by_cases c2:1<y
   ·rw[ZP (show(1:Int)<(y:Int) by omega)];rw[Z7 c2]at cd;rw[cd]at k;exact YW (Back.one k Z9 (ZX.refl H) rfl)
   ·rw[ZC (show¬(1:Int)<(y:Int) by omega)];rw[Z8 c2]at cd;rw[cd]at k;obtain⟨ra,Xg⟩:∃ra,rs[x]?=some ra:=⟨rs[x]'(by omega),ZT (by omega)⟩;obtain⟨ta,⟨dr,er⟩,ft⟩:=hL.at_ x ra Xg;refine YA (YJ Y ea T.Land.cl T.ZH Y (Z1 Y (ZJ Y rfl (Zw.of hg) g0 (ZJ Y rfl (Zw.of hL.lst) (Yz Xg) ?_))));refine Z1 Y (ZJ Y rfl (Zw.of hg) g1 (Z1 Y (ZJ Y er T.Road.cl T.XN ⟨(by show 6<1000;decide),?_⟩)));have:=Back.road k Z9 eo hL m1 m2 m3 (ZX.refl H) Xg er (ta':=ta) ft rfl;have e:SE "shut" (V.int (y:Int)) (MN (rd l x) ta)=MN {rd l x with shut:=y==1} ta:=by
     have hy:y=0\/y=1:=by omega
     rcases hy with rfl|rfl<;>rfl
    rw[e];exact this
end
section
variable{P:Program}{w:World}{K:W.Frag}{mg:Str->Option Value}{base:Heap}{t:Yl}{dA dC dG:Addr}
theorem E7:ZL ["office","given","land","upper","lower","road"] ["office","given"] (ZZ (top 104)):=YR
theorem E6(T:Txt K mg t):Y6 P w K mg base XB 35 t.So t.Lc ["office","given"] (E_ t (mD .toll)):=by
 have sc:=E7;refine T.KY.F.ok sc (fun vs H Q E h=>?_) (fun Yp A outer s H vs Q E hr h=>?_)
 ·obtain⟨o,g,l,gs,c,fp,rfl,_⟩:=h;rfl
 ·obtain⟨o,g,l,gs,c,fp,rfl,Z9,ok,hg,⟨x,y,z,rfl,rfl⟩,k⟩:=h;obtain⟨dx,lv,eo,a,la,rs,rfl,hL,m1,m2,m3⟩:=Z9.obj;obtain⟨Tu,ea⟩:=hL.obj;have rl:rs.length=l.roads.length:=hL.len;have g0:QO ([(x:Int),(y:Int),(z:Int)].map V.int) 0=some (.int (x:Int)):=VC (k:=0) rfl;have g1:QO ([(x:Int),(y:Int),(z:Int)].map V.int) 1=some (.int (y:Int)):=VC (k:=1) rfl;have g2:QO ([(x:Int),(y:Int),(z:Int)].map V.int) 2=some (.int (z:Int)):=VC (k:=2) rfl;have cd:changed l (.toll x y z)=if l.roads.length<=x then(l,no 2)else if z=0\/1000000<z\/1000000<y then(l,no 1)else(RoadSpec.one l x fun(r:Road)=>{r with toll:=(y:Rat)/(z:Rat)},says 0):=rfl
  refine⟨_,(Z5 (ZS (i:=2) sc.nd Y Y4 (ZY (Z 0) rfl))
   (Z5 (ZS (i:=3) sc.nd Y Y4 (ZI ZM (Z 1) ZR (fun _ _=>rfl)))
   (Z5 (ZS (i:=4) sc.nd Y Y4 (ZI ZM (Z 1) ZR (fun _ _=>rfl)))
   (Z5 (YT (ZG R6 (ZI ZM (Z 1) ZR (fun _ _=>rfl)) (YN Zd (by rfl) T.Wk YM (Z6 (ZY (Z 2) rfl) Z2)) (Zr _)) (Z0 (ZN (Zv (Z6 (gl T.Vm) Z2)))) Zs)
   (Z5 (YT (PW.pt (UX (RD (LY RB RB ZR (Z 4) (gl T.OE))) (Vt (ZG NH (Z 3) (gl T.OE) (Zr _))))) (Z0 (ZN (Zv (Z6 (gl T.XO) Z2)))) Zs)
   (Z5 (ZS (i:=5) sc.nd Y Y4 (ZI ZM (ZY (Z 2) rfl) (ZI ZM (Z 1) ZR (fun _ _=>rfl)) (fun _ _=>rfl)))
   (Z5 (YB (Z 5) (cl T.ratio (Yg T) hr (Z6 (Z 3) (Z6 (Z 4) Z2))) rfl)
   (Z0 (ZN (Zv (Z6 ZR Z2))))))))))),?_⟩
  refine YJ Y eo T.Uj.cl T.X_ Y (Z1 Y (ZJ Y rfl (Zw.of hg) g1 (Z1 Y (ZJ Y rfl (Zw.of hg) g2 (Z1 Y (ZJ Y rfl (Zw.of hg) g0 (YJ Y ea T.Land.cl T.ZH Y (ZQ Y (.inl (Zw.of hL.lst)) (ZQ Y rfl (Z1 Y ?_))))))))));rw[Z3,rl];by_cases c1:l.roads.length<=x
  ·rw[ZP (show(l.roads.length:Int)<=(x:Int) by omega)];rw[Z7 c1]at cd;rw[cd]at k;exact YW (Back.one k Z9 (ZX.refl H) rfl)
  ·rw[ZC (show¬(l.roads.length:Int)<=(x:Int) by omega)];rw[Z8 c1]at cd;have bad:z=0\/1000000<z\/1000000<y->(1:Nat)<=sizeLine/\∀p,H p=none->Q (.ref p) (upd H p (.lst [.int (-1)])):=fun cc=>by
    rw[Z7 cc]at cd;rw[cd]at k;exact Back.one k Z9 (ZX.refl H) rfl
   refine YA (Z1 Y (ZQ Y rfl (Z1 Y (Wb (fun q1=>?_) (fun q1=>?_)))))
   ·have q1:(1:Int)<=z:=ZD q1;refine ZQ Y rfl (Z1 Y ?_);by_cases q2:(z:Int)<=1000000
    ·rw[ZP q2];refine YA (Z1 Y (ZQ Y rfl (Z1 Y ?_)));by_cases q3:(1000000:Int)<y
     ·rw[ZP q3];exact YW (bad (.inr (.inr (by omega))))
     ·rw[ZC q3];rw[Z8 (by omega)]at cd;rw[cd]at k;obtain⟨ra,Xg⟩:∃ra,rs[x]?=some ra:=⟨rs[x]'(by omega),ZT (by omega)⟩;obtain⟨ta,⟨dr,er⟩,ft⟩:=hL.at_ x ra Xg;refine YA (YJ Y ea T.Land.cl T.ZH Y (Z1 Y (ZJ Y rfl (Zw.of hg) g0 (ZJ Y rfl (Zw.of hL.lst) (Yz Xg) ?_))));refine Y' Y rfl (ZQ Y (by omega) (fun p hp=>?_));rw[N4];have s1:=ZX.new hp (.tup [.int ((y:Rat)/(z:Rat)).num,.int ((y:Rat)/(z:Rat)).den]);have aH:=s1 _ _ er;refine Z1 Y (ZJ Y aH T.Road.cl T.WX ⟨(by show 6<1000;decide),?_⟩);exact Back.road k Z9 eo hL m1 m2 m3 s1 Xg er (ta':=p) Z4 rfl
    ·rw[ZC q2];exact YW (YW (bad (.inr (.inl (by omega)))))
   ·have q1:¬(1:Int)<=z:=fun q=>q1 (ZP q);exact Z1 Y (YW (YW (bad (.inl (by omega)))))
theorem Kr:ZL ["office","given","land","road"] ["office","given"] (ZZ (top 103)):=YR
theorem Kq(T:Txt K mg t):Y6 P w K mg base XB 34 t.Vf t.Qc ["office","given"] (E_ t (mD .change)):=by
 have sc:=Kr;refine T.Q1.F.ok sc (fun vs H Q E h=>?_) (fun Yp A outer s H vs Q E hr h=>?_)
 ·obtain⟨o,g,l,gs,c,fp,rfl,_⟩:=h;rfl
 ·obtain⟨o,g,l,gs,c,fp,rfl,Z9,ok,hg,⟨x,y,z,rfl,rfl⟩,k⟩:=h;obtain⟨dx,lv,eo,a,la,rs,rfl,hL,m1,m2,m3⟩:=Z9.obj;obtain⟨Tu,ea⟩:=hL.obj;have rl:rs.length=l.roads.length:=hL.len;have g0:QO ([(x:Int),(y:Int),(z:Int)].map V.int) 0=some (.int (x:Int)):=VC (k:=0) rfl;have g1:QO ([(x:Int),(y:Int),(z:Int)].map V.int) 1=some (.int (y:Int)):=VC (k:=1) rfl;have g2:QO ([(x:Int),(y:Int),(z:Int)].map V.int) 2=some (.int (z:Int)):=VC (k:=2) rfl;have cd:changed l (.change x y z)=if l.roads.length<=x then(l,no 2)else if 1000<y\/z=0\/1000<z then(l,no 1)else(RoadSpec.one l x fun(r:Road)=>{r with base:=y,slope:=z},says 0):=rfl
  refine⟨_,(Z5 (ZS (i:=2) sc.nd Y Y4 (ZY (Z 0) rfl))
   (Z5 (YT (ZG R6 (ZI ZM (Z 1) ZR (fun _ _=>rfl)) (YN Zd (by rfl) T.Wk YM (Z6 (ZY (Z 2) rfl) Z2)) (Zr _)) (Z0 (ZN (Zv (Z6 (gl T.Vm) Z2)))) Zs)
   (Z5 (YT (RD (TF (cl T.V4 (VA T) hr (Z6 (ZI ZM (Z 1) ZR (fun _ _=>rfl)) (Z6 (ZI ZM (Z 1) ZR (fun _ _=>rfl)) Z2))))) (Z0 (ZN (Zv (Z6 (gl T.XO) Z2)))) Zs)
   (Z5 (ZS (i:=3) sc.nd Y Y4 (ZI ZM (ZY (Z 2) rfl) (ZI ZM (Z 1) ZR (fun _ _=>rfl)) (fun _ _=>rfl)))
   (Z5 (YB (Z 3) (ZI ZM (Z 1) ZR (fun _ _=>rfl)) rfl)
   (Z5 (YB (Z 3) (ZI ZM (Z 1) ZR (fun _ _=>rfl)) rfl)
   (Z0 (ZN (Zv (Z6 ZR Z2)))))))))),?_⟩
  refine YJ Y eo T.Uj.cl T.X_ Y (Z1 Y (ZJ Y rfl (Zw.of hg) g0 (YJ Y ea T.Land.cl T.ZH Y (ZQ Y (.inl (Zw.of hL.lst)) (ZQ Y rfl (Z1 Y ?_))))));rw[Z3,rl];by_cases c1:l.roads.length<=x
  ·rw[ZP (show(l.roads.length:Int)<=(x:Int) by omega)];rw[Z7 c1]at cd;rw[cd]at k;exact YW (Back.one k Z9 (ZX.refl H) rfl)
  ·rw[ZC (show¬(l.roads.length:Int)<=(x:Int) by omega)];rw[Z8 c1]at cd;refine YA (Z1 Y (ZJ Y rfl (Zw.of hg) g1 (Z1 Y (ZJ Y rfl (Zw.of hg) g2 (Yd ⟨Y,Z1 Y ?_⟩)))));by_cases c2:1000<y\/z=0\/1000<z
   ·rw[ZC (show¬((y:Int)<=1000/\1<=(z:Int)/\(z:Int)<=1000) by omega)];rw[Z7 c2]at cd;rw[cd]at k;exact YW (Back.one k Z9 (ZX.refl H) rfl)
   ·rw[ZP (show((y:Int)<=1000/\1<=(z:Int)/\(z:Int)<=1000) by omega)];rw[Z8 c2]at cd;rw[cd]at k;obtain⟨ra,Xg⟩:∃ra,rs[x]?=some ra:=⟨rs[x]'(by omega),ZT (by omega)⟩;obtain⟨ta,⟨dr,er⟩,ft⟩:=hL.at_ x ra Xg;refine YA (YJ Y ea T.Land.cl T.ZH Y (Z1 Y (ZJ Y rfl (Zw.of hg) g0 (ZJ Y rfl (Zw.of hL.lst) (Yz Xg) ?_))));refine Z1 Y (ZJ Y rfl (Zw.of hg) g1 (Z1 Y (ZJ Y er T.Road.cl T.Ww ⟨(by show 6<1000;decide),?_⟩)));refine Z1 Y (ZJ Y rfl (Zw.of (Sh hg er fun _ _ _ q=>by cases q)) g2 (Z1 Y (ZJ Y Z4 T.Road.cl T.Xl ⟨(by show 6<1000;decide),?_⟩)));rw[Hf];exact Back.road k Z9 eo hL m1 m2 m3 (ZX.refl H) Xg er (ta':=ta) ft rfl
theorem E5:ZL ["office","given","land","tail","head","base","slope"] ["office","given"] (ZZ (top 102)):=YR
theorem E4(T:Txt K mg t):Y6 P w K mg base XB 37 t.Sq t.Ld ["office","given"] (E_ t (oh .road)):=by
 have sc:=E5;refine T.KZ.F.ok sc (fun vs H Q E h=>?_) (fun Yp A outer s H vs Q E hr h=>?_)
 ·obtain⟨o,g,l,gs,c,fp,rfl,_⟩:=h;rfl
 ·obtain⟨o,g,l,gs,c,fp,rfl,Z9,ok,hg,⟨x,y,z,u,rfl,rfl⟩,k⟩:=h;obtain⟨dx,lv,eo,a,la,rs,rfl,hL,m1,m2,m3⟩:=Z9.obj;obtain⟨Tu,ea⟩:=hL.obj;have rl:rs.length=l.roads.length:=hL.len;have g0:QO ([(x:Int),(y:Int),(z:Int),(u:Int)].map V.int) 0=some (.int (x:Int)):=VC (k:=0) rfl;have g1:QO ([(x:Int),(y:Int),(z:Int),(u:Int)].map V.int) 1=some (.int (y:Int)):=VC (k:=1) rfl;have g2:QO ([(x:Int),(y:Int),(z:Int),(u:Int)].map V.int) 2=some (.int (z:Int)):=VC (k:=2) rfl;have g3:QO ([(x:Int),(y:Int),(z:Int),(u:Int)].map V.int) 3=some (.int (u:Int)):=VC (k:=3) rfl;have cd:changed l (.road x y z u)=if l.places<=x\/l.places<=y\/x=y then(l,no 2)else if 1000<z\/u=0\/1000<u then(l,no 1)else if 9<=l.roads.length then(l,no 5)else({l with roads:=l.roads++[⟨x,y,z,u,0,false⟩]},says l.roads.length):=rfl
  refine⟨_,(Z5 (ZS (i:=2) sc.nd Y Y4 (ZY (Z 0) rfl))
   (Z5 (ZS (i:=3) sc.nd Y Y4 (ZI ZM (Z 1) ZR (fun _ _=>rfl)))
   (Z5 (ZS (i:=4) sc.nd Y Y4 (ZI ZM (Z 1) ZR (fun _ _=>rfl)))
   (Z5 (ZS (i:=5) sc.nd Y Y4 (ZI ZM (Z 1) ZR (fun _ _=>rfl)))
   (Z5 (ZS (i:=6) sc.nd Y Y4 (ZI ZM (Z 1) ZR (fun _ _=>rfl)))
   (Z5 (YT (PW.pt (UX (ZG R6 (Z 3) (ZY (Z 2) rfl) (Zr _)) (UX (ZG R6 (Z 4) (ZY (Z 2) rfl) (Zr _)) (Vt (ZG UW (Z 3) (Z 4) (Zr _)))))) (Z0 (ZN (Zv (Z6 (gl T.Vm) Z2)))) Zs)
   (Z5 (YT (RD (TF (cl T.V4 (VA T) hr (Z6 (Z 5) (Z6 (Z 6) Z2))))) (Z0 (ZN (Zv (Z6 (gl T.XO) Z2)))) Zs)
   (Z5 (YT (ZG R6 (YN Zd (by rfl) T.Wk YM (Z6 (ZY (Z 2) rfl) Z2)) (gl T.DT) (Zr _)) (Z0 (ZN (Zv (Z6 (gl T.j_) Z2)))) Zs)
   (Z5 (Xe (UU X9 WN WC W8 (ZY (Z 2) rfl) (Z6 (mk T.Road (OC T) hr (Z6 (Z 3) (Z6 (Z 4) (Z6 (Z 5) (Z6 (Z 6) Z2))))) Z2)))
   (Z0 (ZN (Zv (Z6 (Zc PY (YN Zd (by rfl) T.Wk YM (Z6 (ZY (Z 2) rfl) Z2)) ZR) Z2))))))))))))),?_⟩
  refine YJ Y eo T.Uj.cl T.X_ Y (Z1 Y (ZJ Y rfl (Zw.of hg) g0 (Z1 Y (ZJ Y rfl (Zw.of hg) g1 (Z1 Y (ZJ Y rfl (Zw.of hg) g2 (Z1 Y (ZJ Y rfl (Zw.of hg) g3 (Y' Y rfl (S7 ea T.Land.cl T.Yo Y (ZQ Y rfl (Z1 Y ?_))))))))))));have bad:l.places<=x\/l.places<=y\/x=y->(1:Nat)<=sizeLine/\∀p,H p=none->Q (.ref p) (upd H p (.lst [.int (-2)])):=fun cc=>by
   rw[Z7 cc]at cd;rw[cd]at k;exact Back.one k Z9 (ZX.refl H) rfl
  by_cases q1:l.places<=x
  ·rw[ZP (show(l.places:Int)<=(x:Int) by omega)];exact YW (YW (bad (.inl q1)))
  ·rw[ZC (show¬(l.places:Int)<=(x:Int) by omega)];refine YA (Y' Y rfl (S7 ea T.Land.cl T.Yo Y (ZQ Y rfl (Z1 Y ?_))));by_cases q2:l.places<=y
   ·rw[ZP (show(l.places:Int)<=(y:Int) by omega)];exact YW (YW (bad (.inr (.inl q2))))
   ·rw[ZC (show¬(l.places:Int)<=(y:Int) by omega)];refine YA (Y' Y rfl ⟨Y,Z1 Y (Wb (fun q3=>?_) (fun q3=>?_))⟩)
    ·have q3:x=y:=by
      have:=ZD q3;injection this with this
      omega
     exact bad (.inr (.inr q3))
    ·have q3:¬x=y:=fun q=>q3 (ZP (by rw[q]));rw[Z8 (by omega)]at cd;refine Y' Y rfl (Yd ⟨Y,Z1 Y ?_⟩);by_cases c2:1000<z\/u=0\/1000<u
     ·rw[ZC (show¬((z:Int)<=1000/\1<=(u:Int)/\(u:Int)<=1000) by omega)];rw[Z7 c2]at cd;rw[cd]at k;exact YW (Back.one k Z9 (ZX.refl H) rfl)
     ·rw[ZP (show((z:Int)<=1000/\1<=(u:Int)/\(u:Int)<=1000) by omega)];rw[Z8 c2]at cd;refine YA (YJ Y ea T.Land.cl T.ZH Y (ZQ Y (.inl (Zw.of hL.lst)) (ZQ Y rfl (Z1 Y ?_))));rw[Z3,rl];by_cases c3:9<=l.roads.length
      ·rw[ZP (show(9:Int)<=(l.roads.length:Int) by omega)];rw[Z7 c3]at cd;rw[cd]at k;exact YW (Back.one k Z9 (ZX.refl H) rfl)
      ·rw[ZC (show¬(9:Int)<=(l.roads.length:Int) by omega)];rw[Z8 c3]at cd;rw[cd]at k;refine YA (YJ Y ea T.Land.cl T.ZH Y ⟨.inl ⟨Y,_,Zw.of hL.lst⟩,Y' Y rfl (Y' Y rfl ?_)⟩);intro r oM nr nd ne;refine⟨r,oM,V7 ⟨Y,Z4,fun H1 tb hB kp=>⟨Y,?_⟩⟩⟩;have s1:ZX H H1:=ZX.made nr nd kp;have AN:=hL.up s1;have G8:=s1 _ _ ea;refine⟨la,ZQ Y rfl ⟨AN.lst,by rw[Z3];exact YI (by omega),?_⟩⟩;have nal:a≠la:=fun q=>by
        have:=hL.lst;rw[<-q,ea]at this;cases this
       have mR:upd H1 la (.lst (rs.map V.ref++[.ref r])) a=_:=Xi G8 AN.lst fun _ q=>(by cases q);refine YJ Y mR T.Land.cl T.ZH Y (ZQ Y (.inl (Zw.of Z4)) (ZQ Y rfl ?_));have ez:(((rs.map V.ref++[V.ref r]).length:Nat):Int)-1=(l.roads.length:Int):=by
        rw[ZF,Z3,rl];show((l.roads.length+1:Nat):Int)-1=_;omega
       show(1:Nat)<=sizeLine/\∀p,_->Q (.ref p) (upd _ p (.lst [.int ((((rs.map V.ref++[V.ref r]).length:Nat):Int)-1)]));rw[ez];have aF:r∉rs:=fun q=>by
        obtain⟨i,hi,aE⟩:=XY.mp q;obtain⟨ta,⟨dr,er⟩,_⟩:=hL.at_ i r (by rw[ZT hi,aE]);rw[nr]at er;cases er
       refine Back.done k (fp':=r::fp) ⟨⟨dx,.ref a,Xi (s1 _ _ eo) AN.lst fun _ q=>(by cases q),a,la,rs++[r],Y,⟨⟨Tu,mR⟩,?_,?_,?_,fun i rc KL=>?_⟩,Zf _ m1,Zf _ m2,fun b O=>?_⟩,Zf _ Z9.mem⟩ (fun b w O hn=>?_) (fun b w O=>?_) (fun b O=>?_) rfl;·rw[Z4,UM]
       ·rw[ZF,rl];show _=(l.roads++[_]).length;rw[ZF];rfl
       ·rw[List.nodup_append];exact⟨hL.nd,by simp,fun b O c hc q=>aF (by rw[<-Zm.mp hc,<-q];exact O)⟩
       ·have aD:∀i,rd {l with roads:=l.roads++[⟨x,y,z,u,0,false⟩]} i=(l.roads++[(⟨x,y,z,u,0,false⟩:Road)]).getD i Wi:=fun i=>rfl;rw[aD,getD_snoc];rcases UL KL with⟨z1,z2⟩|⟨z1,rfl⟩
        ·rw[Z7 (by omega)];exact(AN.at_ i rc z2).lst AN.lst
        ·rw[Z8 (by omega),Z7 (by omega)];exact Wt.lst ⟨tb,hB⟩ AN.lst
       ·rcases Zj.mp O with q|q;·exact Zf _ (m3 b q)
        ·rw[Zm.mp q];simp
       ·rw[ZV (Ku m2 hn).symm];exact s1 _ _ O
       ·by_cases q:b=la
        ·rw[q];exact⟨_,Z4⟩
        ·exact⟨w,by rw[ZV q];exact s1 _ _ O⟩
       ·rcases ZE.mp O with q|q
        ·rw[q];exact .inr nr
        ·exact .inl q
end
theorem AZ{p:Int}{n:Nat}(h:PyWqagde.shape p=some (n,0)):(p,(n:Int))∈xY/\p≠20:=
 (by decide:∀e∈Ih,e.2.2=0->(e.1,(e.2.1:Int))∈xY/\e.1≠20) _ (N5 h) rfl
def q_(n:Int)(gs:List Int):Prop:=(n≠20/\(n,(gs.length:Int))∈xY)\/(n=20/\∃q a,gs=q::((a:List Int).length:Int)::a)
section
variable{P:Program}{w:World}{K:W.Frag}{mg:Str->Option Value}{base:Heap}{t:Yl}{dA dC dG:Addr}
def u9(t:Yl):Sp:=fun vs H Q _=>∃o g st gs c fp,vs=[.ref o,.ref g]/\QS t H o st fp/\IL H g gs/\oh .land gs c/\Back t H o fp (RoadSpec.step st c).1 (RoadSpec.step st c).2 Q
theorem Hd:ZL ["office","given","places","source","goal","units"] ["office","given"] (ZZ (top 101)):=YR
theorem Hc(T:Txt K mg t):Y6 P w K mg base XB 35 t.TL t.M9 ["office","given"] (u9 t):=by
 have sc:=Hd;refine T.NV.F.ok sc (fun vs H Q E h=>?_) (fun Yp A outer s H vs Q E hr h=>?_)
 ·obtain⟨o,g,st,gs,c,fp,rfl,_⟩:=h;rfl
 ·obtain⟨o,g,st,gs,c,fp,rfl,Z9,hg,⟨x,y,z,u,rfl,rfl⟩,k⟩:=h;have g0:QO ([(x:Int),(y:Int),(z:Int),(u:Int)].map V.int) 0=some (.int (x:Int)):=VC (k:=0) rfl;have g1:QO ([(x:Int),(y:Int),(z:Int),(u:Int)].map V.int) 1=some (.int (y:Int)):=VC (k:=1) rfl;have g2:QO ([(x:Int),(y:Int),(z:Int),(u:Int)].map V.int) 2=some (.int (z:Int)):=VC (k:=2) rfl;have g3:QO ([(x:Int),(y:Int),(z:Int),(u:Int)].map V.int) 3=some (.int (u:Int)):=VC (k:=3) rfl;have cd:RoadSpec.step st (.land x y z u)=if x<2\/6<x\/x<=y\/x<=z\/y=z\/u=0\/1000<u then(st,no 1)else(some ⟨x,y,z,u,[]⟩,says 0):=rfl
  have bad:x<2\/6<x\/x<=y\/x<=z\/y=z\/u=0\/1000<u->(1:Nat)<=sizeLine/\∀p,H p=none->Q (.ref p) (upd H p (.lst [.int (-1)])):=fun cc=>by
   rw[Z7 cc]at cd;rw[cd]at k;exact Back.one k Z9 (ZX.refl H) rfl
  refine⟨_,(Z5 (ZS (i:=2) sc.nd Y Y4 (ZI ZM (Z 1) ZR (fun _ _=>rfl)))
   (Z5 (ZS (i:=3) sc.nd Y Y4 (ZI ZM (Z 1) ZR (fun _ _=>rfl)))
   (Z5 (ZS (i:=4) sc.nd Y Y4 (ZI ZM (Z 1) ZR (fun _ _=>rfl)))
   (Z5 (ZS (i:=5) sc.nd Y Y4 (ZI ZM (Z 1) ZR (fun _ _=>rfl)))
   (Z5 (YT (PW.pt (UX (RD (LY RB RB ZR (Z 2) (gl T.FN))) (UX (ZG R6 (Z 3) (Z 2) (Zr _)) (Vt (ZG R6 (Z 4) (Z 2) (Zr _)))))) (Z0 (ZN (Zv (Z6 (gl T.XO) Z2)))) Zs)
   (Z5 (YT (PW.pt (UX (ZG UW (Z 3) (Z 4) (Zr _)) (Vt (RD (TF (cl T.QE (Si T) hr (Z6 (Z 5) Z2))))))) (Z0 (ZN (Zv (Z6 (gl T.XO) Z2)))) Zs)
   (Z5 (YB (Z 0) (mk T.Land (OB T) hr (Z6 (Z 2) (Z6 (Z 3) (Z6 (Z 4) (Z6 (Z 5) Z2))))) rfl)
   (Z0 (ZN (Zv (Z6 ZR Z2))))))))))),?_⟩
  refine Z1 Y (ZJ Y rfl (Zw.of hg) g0 (Z1 Y (ZJ Y rfl (Zw.of hg) g1 (Z1 Y (ZJ Y rfl (Zw.of hg) g2 (Z1 Y (ZJ Y rfl (Zw.of hg) g3 (Z1 Y (ZQ Y rfl (Z1 Y (Wb (fun q1=>?_) (fun q1=>?_))))))))))))
  ·have q1:(2:Int)<=x:=ZD q1;refine ZQ Y rfl (Z1 Y ?_);by_cases q2:(x:Int)<=6
   ·rw[ZP q2];refine YA (Y' Y rfl (ZQ Y rfl (Z1 Y ?_)));by_cases q3:(x:Int)<=y
    ·rw[ZP q3];exact YW (YW (bad (by omega)))
    ·rw[ZC q3];refine YA (Y' Y rfl (ZQ Y rfl (Z1 Y ?_)));by_cases q4:(x:Int)<=z
     ·rw[ZP q4];exact YW (bad (by omega))
     ·rw[ZC q4];refine YA (Y' Y rfl ⟨Y,Z1 Y ?_⟩);by_cases q5:y=z
      ·rw[ZP (show V.int (y:Int)=V.int (z:Int) by rw[q5])];exact YW (YW (bad (by omega)))
      ·rw[ZC (show¬V.int (y:Int)=V.int (z:Int)from fun q=>q5 (by injection q with q;omega))];refine YA (Y' Y rfl (Z1 Y ?_));by_cases q6:u=0\/1000<u
       ·rw[ZC (show¬(1<=(u:Int)/\(u:Int)<=1000) by omega)];exact YW (bad (by omega))
       ·rw[ZP (show(1<=(u:Int)/\(u:Int)<=1000) by omega)];rw[Z8 (by omega)]at cd;rw[cd]at k;obtain⟨dx,lv,eo,_⟩:=Z9.obj;refine YA (Y' Y rfl (Y' Y rfl ?_));intro p fT np nd ne;refine⟨p,fT,V7 ⟨Y,Z4,fun H1 la rY e1 e2 kp=>⟨Y,?_⟩⟩⟩;have s1:ZX H H1:=ZX.made np nd kp;have aB:=s1 _ _ eo;refine Z1 Y (ZJ Y aB T.Uj.cl T.X_ ⟨(by show 1<1000;decide),?_⟩);have az:p≠o:=fun q=>by rw[q,eo]at np;cases np
        have qZ:H la=none:=by
         cases q:H la with
         |none=>rfl
         |some w'=>
          rw[ZV (Zx q np),ZV (Zx q nd),q]at rY;cases rY
        have ay:la≠o:=fun q=>by rw[q,eo]at qZ;cases qZ
        refine Back.done k (fp':=[o,p,la]) ⟨⟨dx,.ref p,Z4,p,la,[],Y,⟨⟨fT,by rw[ZV az];exact e1⟩,by rw[ZV ay];exact e2,Y,by simp,fun i rc KL=>by simp at KL⟩,by simp,by simp,fun r hr=>by cases hr⟩,by simp⟩ (fun b w O hn=>?_) (fun b w O=>?_) (fun b O=>?_) rfl
        ·rw[ZV (Ku Z9.mem hn).symm];exact s1 _ _ O
        ·by_cases q:b=o
         ·rw[q];exact⟨_,Z4⟩
         ·exact⟨w,by rw[ZV q];exact s1 _ _ O⟩
        ·rcases ZE.mp O with q|O
         ·rw[q];exact .inl Z9.mem
         rcases ZE.mp O with q|O
         ·rw[q];exact .inr np
         ·rw[Zm.mp O];exact .inr qZ
   ·rw[ZC q2];exact YW (YW (bad (by omega)))
  ·have q1:¬(2:Int)<=x:=fun q=>q1 (ZP q);exact Z1 Y (YW (YW (bad (by omega))))
def og(K:W.Frag):Sp:=fun vs H Q _=>∃c ns n gs r,∃pl:Nat,vs=[.ref c,.int pl]/\Zw K H c (List.map V.int ns)/\ns.drop pl=n::(gs++r)/\q_ n gs/\Q (.int ((pl+1+gs.length:Nat):Int)) H
theorem Hb{ns l:List Int}{pl:Nat}(h:ns.drop pl=l){i:Nat}{z:Int}(hz:l[i]?=some z):ns[pl+i]?=some z:=by
 rw[<-h,List.getElem?_drop]at hz;exact hz
theorem E3:ZL ["calls","place","number","end"] ["calls","place"] (ZZ (top 110)):=YR
theorem E2(T2:Txt2 K mg t dA dC dG):Y6 P w K mg base XB 33 t.K' t.K_ ["calls","place"] (og K):=by
 have T:=T2.T;have sc:=E3;refine T.FO.F.ok sc (fun vs H Q E h=>?_) (fun Yp A outer s H vs Q E hr h=>?_)
 ·obtain⟨c,ns,n,gs,r,pl,rfl,_⟩:=h;rfl
 ·obtain⟨c,ns,n,gs,r,pl,rfl,hc,hd,hG,k⟩:=h;obtain⟨Zp,kd,kl⟩:=T2.kG;have h0:QO (ns.map V.int) (pl:Int)=some (.int n):=VC (by have:=Hb hd (i:=0) (z:=n) rfl;exact this);refine⟨_,(Z5 (ZS (i:=2) sc.nd Y Y4 (ZI ZM (Z 0) (Z 1) (fun _ _=>rfl)))
   (Z5 (ZS (i:=3) sc.nd Y Y4 (Zc SF (Zc SF (Z 1) ZR) (HX (gl T2.oi) (Z 2) (fun _ _=>rfl))))
   (Z5 (YT (ZG UW (Z 2) (gl T.DR) (Zr _)) (Z0 (tP (i:=3) sc.nd Y Y4 (ZI ZM (Z 0) (Zc PY (Z 3) ZR) (fun _ _=>rfl)) L5)) Zs)
   (Z0 (ZN (Z 3)))))),?_⟩
  rcases hG with⟨mC,hm⟩|⟨rfl,q,a,rfl⟩
  ·obtain⟨tk,hk⟩:=kl _ _ hm;refine Y' Y rfl (ZJ Y rfl hc h0 (Z1 Y (ZQ Y rfl (Z1 Y ⟨dG,Zp,n,_,.int (gs.length:Int),Y,kd,Y,hk,⟨_,Y⟩,ZQ Y rfl (Z1 Y ⟨Y,Z1 Y ?_⟩)⟩))));rw[ZC (show¬V.int n=V.int 20 from fun z=>mC (by injection z))];refine YA (Z1 Y ?_);have e:(pl:Int)+1+(gs.length:Int)=((pl+1+gs.length:Nat):Int):=by push_cast;rfl
   show Q (.int ((pl:Int)+1+(gs.length:Int))) H;rw[e];exact k
  ·obtain⟨tk,hk⟩:=kl 20 2 (by decide);refine Y' Y rfl (ZJ Y rfl hc h0 (Z1 Y (ZQ Y rfl (Z1 Y ⟨dG,Zp,20,_,.int 2,Y,kd,Y,hk,⟨_,Y⟩,ZQ Y rfl (Z1 Y ⟨Y,Z1 Y ?_⟩)⟩))));rw[ZP rfl];refine YW ?_;have h2:QO (ns.map V.int) ((pl:Int)+1+2-1)=some (.int (a.length:Int)):=by
    have:=VC (Hb hd (i:=2) (z:=(a.length:Int)) rfl);rw[show(pl:Int)+1+2-1=((pl+2:Nat):Int) by omega];exact this
   refine Y' Y rfl (Z1 Y (ZQ Y rfl (ZJ Y rfl hc h2 (ZQ Y rfl (Z1 Y ?_)))));have e:(pl:Int)+1+2+(a.length:Int)=((pl+1+(q::(a.length:Int)::a).length:Nat):Int):=by
    rw[Zg,Zg];omega
   show Q (.int ((pl:Int)+1+2+(a.length:Int))) H;rw[e];exact k
def Ha(n:Int)(gs:List Int)(c:RoadSpec.Call):Prop:=(n=1/\oh .land gs c)\/(n=2/\oh .road gs c)\/(n=3/\mD .change gs c)\/(n=4/\mD .toll gs c)\/(n=5/\fU .shut gs c)\/(n=6/\xy .demand gs c)\/va n gs c
theorem EZ{n:Int}{gs:List Int}{c:RoadSpec.Call}(h:va n gs c)(l:Land):changed l c=(l,RoadSpec.asked l c):=by rcases h with⟨_,rfl⟩|⟨_,rfl⟩|⟨_,rfl⟩|⟨_,rfl⟩|⟨_,rfl⟩|⟨_,rfl⟩|⟨_,v,_,rfl⟩|⟨_,v,_,rfl⟩|⟨_,rfl⟩|⟨_,v,_,rfl⟩|⟨_,rfl⟩|⟨_,v,_,rfl⟩|⟨_,rfl⟩|⟨_,q,us,_,rfl,_⟩<;>rfl
theorem B6{n:Int}{gs:List Int}{c:RoadSpec.Call}(h:va n gs c)(t:Yl):(xZ t).lookup n=none/\n≠1:=by rcases h with⟨rfl,_⟩|⟨rfl,_⟩|⟨rfl,_⟩|⟨rfl,_⟩|⟨rfl,_⟩|⟨rfl,_⟩|⟨rfl,_⟩|⟨rfl,_⟩|⟨rfl,_⟩|⟨rfl,_⟩|⟨rfl,_⟩|⟨rfl,_⟩|⟨rfl,_⟩|⟨rfl,_⟩<;>exact⟨Y,by decide⟩
theorem AY{n:Int}{gs:List Int}{c:RoadSpec.Call}(h:Ha n gs c)(n1:n≠1):RoadSpec.step none c=(none,no 8):=by
 rcases h with⟨rfl,_⟩|⟨_,x,y,z,u,_,rfl⟩|⟨_,x,y,z,_,rfl⟩|⟨_,x,y,z,_,rfl⟩|⟨_,x,y,_,rfl⟩|⟨_,x,_,rfl⟩|h;·exact absurd rfl n1
 ·rfl
 ·rfl
 ·rfl
 ·rfl
 ·rfl
 ·rcases h with⟨_,rfl⟩|⟨_,rfl⟩|⟨_,rfl⟩|⟨_,rfl⟩|⟨_,rfl⟩|⟨_,rfl⟩|⟨_,v,_,rfl⟩|⟨_,v,_,rfl⟩|⟨_,rfl⟩|⟨_,v,_,rfl⟩|⟨_,rfl⟩|⟨_,v,_,rfl⟩|⟨_,rfl⟩|⟨_,q,us,_,rfl,_⟩<;>rfl
theorem AX{n:Int}{gs:List Int}{c:RoadSpec.Call}(h:Ha n gs c)(n1:n≠1)(l:Land):RoadSpec.step (some l) c=(some (changed l c).1,(changed l c).2):=by
 rcases h with⟨rfl,_⟩|⟨_,x,y,z,u,_,rfl⟩|⟨_,x,y,z,_,rfl⟩|⟨_,x,y,z,_,rfl⟩|⟨_,x,y,_,rfl⟩|⟨_,x,_,rfl⟩|h;·exact absurd rfl n1
 ·rfl
 ·rfl
 ·rfl
 ·rfl
 ·rfl
 ·rcases h with⟨_,rfl⟩|⟨_,rfl⟩|⟨_,rfl⟩|⟨_,rfl⟩|⟨_,rfl⟩|⟨_,rfl⟩|⟨_,v,_,rfl⟩|⟨_,v,_,rfl⟩|⟨_,rfl⟩|⟨_,v,_,rfl⟩|⟨_,rfl⟩|⟨_,v,_,rfl⟩|⟨_,rfl⟩|⟨_,q,us,_,rfl,_⟩<;>rfl
def xV(t:Yl):Sp:=fun vs H Q _=>∃o n g st gs c fp,vs=[.ref o,.int n,.ref g]/\QS t H o st fp/\(∀l,st=some l->Zh l)/\IL H g gs/\Ha n gs c/\Back t H o fp (RoadSpec.step st c).1 (RoadSpec.step st c).2 Q
theorem AW:ZL ["office","number","given"] ["office","number","given"] (ZZ (top 109)):=YR
theorem AV(T2:Txt2 K mg t dA dC dG):Y6 P w K mg base XB 45 t.FW t.FV ["office","number","given"] (xV t):=by
 have T:=T2.T;have sc:=AW;refine T.answer.F.ok sc (fun vs H Q E h=>?_) (fun Yp A outer s H vs Q E hr h=>?_)
 ·obtain⟨o,n,g,st,gs,c,fp,rfl,_⟩:=h;rfl
 ·obtain⟨o,n,g,st,gs,c,fp,rfl,Z9,X3,hg,hC,k⟩:=h;obtain⟨dx,lv,eo,hV⟩:=Z9.obj;refine⟨_,(Z5 (YT (PW.pt (P7 (ZG uT (Z 1) (gl T.Bg) (Zr _)) (QP (ZG U2 (ZY (Z 0) rfl) XH (Zr _))))) (Z0 (ZN (Zv (Z6 (gl T.vR) Z2)))) Zs)
   (Z5 (YT (U3 (r6 (Z 1) (gl T2.E'))) (Z0 (ZN (FZ (HX (gl T2.E') (Z 1) (fun _ _=>rfl)) (Z6 (Z 0) (Z6 (Z 2) Z2))))) Zs)
   (Z0 (ZN (cl T.asked (xW T2) hr (Z6 (ZY (Z 0) rfl) (Z6 (Z 1) (Z6 (Z 2) Z2)))))))),?_⟩
  by_cases n1:n=1
  ·subst n1;refine Z1 Y ⟨Y,Z1 Y (YA (YA ?_))⟩;refine Z1 Y ⟨dC,_,1,Y,T2.kC,Y,Z1 Y (YW ?_)⟩;have J:oh .land gs c:=by
    rcases hC with⟨_,h⟩|⟨e,_⟩|⟨e,_⟩|⟨e,_⟩|⟨e,_⟩|⟨e,_⟩|h;·exact h
    ·exact absurd e (by decide)
    ·exact absurd e (by decide)
    ·exact absurd e (by decide)
    ·exact absurd e (by decide)
    ·exact absurd e (by decide)
    ·exact absurd rfl (B6 h t).2
   exact Z1 Y ⟨dC,_,1,_,.ref t.TL,Y,T2.kC,Y,Y,Y,Tc ⟨Y,T.NV.F.kp,T.NV.b,Hc T,hr.mono (by decide),Y' Y rfl (XR o g st (XR gs c fp ⟨Y,Z9,hg,J,k⟩))⟩⟩
  ·refine Z1 Y ⟨Y,Z1 Y ?_⟩;have e1:(!decide (V.int n=V.int 1))=true:=by
    rw[ZC (fun z=>n1 (by injection z))];rfl
   rw[e1];refine YW (YJ Y eo T.Uj.cl T.X_ Y ⟨Y,Z1 Y ?_⟩);cases st with
   |none=>
    have hV:lv=.Xf:=hV;subst hV;rw[AY hC n1]at k;exact YW (Back.one k Z9 (ZX.refl H) rfl)
   |some l=>
    obtain⟨a,la,rs,rfl,hL,m1,m2,m3⟩:=hV;have ok:=X3 l rfl;rw[AX hC n1]at k;refine YA (Z1 Y (XR dC _ n ⟨Y,T2.kC,Y,Z1 Y ?_⟩));rcases hC with⟨rfl,_⟩|⟨rfl,h⟩|⟨rfl,h⟩|⟨rfl,h⟩|⟨rfl,h⟩|⟨rfl,h⟩|h;·exact absurd rfl n1
    ·exact YW (Z1 Y ⟨dC,_,2,_,.ref t.Sq,Y,T2.kC,Y,Y,Y,Tc ⟨Y,T.KZ.F.kp,T.KZ.b,E4 T,hr.mono (by decide),Y' Y rfl (XR o g l (XR gs c fp ⟨Y,Z9,ok,hg,h,k⟩))⟩⟩)
    ·exact YW (Z1 Y ⟨dC,_,3,_,.ref t.Vf,Y,T2.kC,Y,Y,Y,Tc ⟨Y,T.Q1.F.kp,T.Q1.b,Kq T,hr.mono (by decide),Y' Y rfl (XR o g l (XR gs c fp ⟨Y,Z9,ok,hg,h,k⟩))⟩⟩)
    ·exact YW (Z1 Y ⟨dC,_,4,_,.ref t.So,Y,T2.kC,Y,Y,Y,Tc ⟨Y,T.KY.F.kp,T.KY.b,E6 T,hr.mono (by decide),Y' Y rfl (XR o g l (XR gs c fp ⟨Y,Z9,ok,hg,h,k⟩))⟩⟩)
    ·exact YW (Z1 Y ⟨dC,_,5,_,.ref t.Sn,Y,T2.kC,Y,Y,Y,Tc ⟨Y,T.KW.F.kp,T.KW.b,E8 T,hr.mono (by decide),Y' Y rfl (XR o g l (XR gs c fp ⟨Y,Z9,ok,hg,h,k⟩))⟩⟩)
    ·exact YW (Z1 Y ⟨dC,_,6,_,.ref t.UO,Y,T2.kC,Y,Y,Y,Tc ⟨Y,T.PB.F.kp,T.PB.b,J1 T,hr.mono (by decide),Y' Y rfl (XR o g l (XR gs c fp ⟨Y,Z9,ok,hg,h,k⟩))⟩⟩)
    ·rw[(B6 h t).1];rw[EZ h]at k;refine YA (YJ Y eo T.Uj.cl T.X_ Y (Y' Y rfl (XR a n g (XR l gs c ⟨Y,⟨la,rs,hL⟩,ok,hg,h,fun H' d hd s' hi hl=>?_⟩))));obtain⟨fq,f1,f2,f3⟩:=Z9.He;refine k H' d fq (f1.up s') (fun b u O _=>s' _ _ O) (fun b O=>.inl (f2 b O)) hd (fun q=>?_) hi hl;obtain⟨u,hu⟩:=f3 d q;rw[hd]at hu;cases hu
end
theorem XA{z:Int}{b:Nat}(h:RoadNeutral.natural z b=true):z=((z.toNat:Nat):Int):=by
 unfold RoadNeutral.natural at h;rw[Yi]at h;have:=ZD h.1;omega
theorem xU{a:List Int}(h:a.length=1):∃x,a=[x]:=by
 match a,h with
 |[x],_=>exact ⟨x,Y⟩
theorem iU{a:List Int}(h:a.length=2):∃x y,a=[x,y]:=by
 match a,h with
 |[x,y],_=>exact Xr x y rfl
theorem oe{a:List Int}(h:a.length=3):∃x y z,a=[x,y,z]:=by
 match a,h with
 |[x,y,z],_=>exact XR x y z rfl
theorem oa{a:List Int}(h:a.length=4):∃x y z u,a=[x,y,z,u]:=by
 match a,h with
 |[x,y,z,u],_=>exact W9 x y z u rfl
theorem xT{l t0:List Int}{c0:List (List Int)}(h:Cut l c0 t0)(ha:RoadNeutral.asked1 c0=true):∃n gs cc,l=n::(gs++t0)/\q_ n gs/\Ha n gs cc/\∀st,RoadNeutral.step st c0=RoadSpec.step st cc:=by
 cases h with
 |judge q a=>
  have ha:(RoadNeutral.long a 65536 0 (2^1024-1)&&RoadNeutral.natural q 1024)=true:=ha;rw[Yi]at ha;have q0:=XA ha.2;have hl:=ha.1;unfold RoadNeutral.long at hl;rw[Yi]at hl;have al:=ZD hl.1;have an:a=Qt (RoadNeutral.nats a):=by
   unfold Qt RoadNeutral.nats;rw[Yn];conv=>lhs;rw[<-List.map_id a]
   refine VS fun x hx=>?_;have:=VY.mp hl.2 x hx;rw[Yi]at this;have:=ZD this.1;show x=((x.toNat:Nat):Int);omega
  have ln:(RoadNeutral.nats a).length=a.length:=Z3 ..
  refine⟨20,q::(a.length:Int)::a,.judge (RoadNeutral.nats a) q.toNat,Y,.inr ⟨Y,Xr q a Y⟩,?_,fun st=>rfl⟩;refine .inr (.inr (.inr (.inr (.inr (.inr (.inr (.inr (.inr (.inr (.inr (.inr (.inr (.inr (.inr (.inr (.inr (.inr (.inr ⟨Y,q.toNat,RoadNeutral.nats a,?_,Y,by rw[ln];exact al⟩))))))))))))))))));rw[ln,<-an,<-q0]
 |plain p a t n hs hn=>
  obtain⟨hm,mC⟩:=AZ hs;have hG:q_ p a:=.inl ⟨mC,by rw[hn];exact hm⟩;unfold PyWqagde.shape at hs;by_cases e:p=1
  ·rw[Z7 e]at hs;cases hs;subst e;obtain⟨x,y,z,u,rfl⟩:=oa hn;have ha:(RoadNeutral.natural x 1024&&(RoadNeutral.natural y 1024&&(RoadNeutral.natural z 1024&&(RoadNeutral.natural u 1024))))=true:=ha;rw[Yi]at ha;have x0:=XA ha.1;replace ha:=ha.2;rw[Yi]at ha;have y0:=XA ha.1;replace ha:=ha.2;rw[Yi]at ha;have z0:=XA ha.1;replace ha:=ha.2;have u0:=XA ha;exact⟨1,[x,y,z,u],(.land x.toNat y.toNat z.toNat u.toNat),Y,hG,.inl ⟨Y,x.toNat,y.toNat,z.toNat,u.toNat,by rw[<-x0,<-y0,<-z0,<-u0],Y⟩,fun st=>rfl⟩
  rw[Z8 e]at hs;clear e;by_cases e:p=2
  ·rw[Z7 e]at hs;cases hs;subst e;obtain⟨x,y,z,u,rfl⟩:=oa hn;have ha:(RoadNeutral.natural x 1024&&(RoadNeutral.natural y 1024&&(RoadNeutral.natural z 1024&&(RoadNeutral.natural u 1024))))=true:=ha;rw[Yi]at ha;have x0:=XA ha.1;replace ha:=ha.2;rw[Yi]at ha;have y0:=XA ha.1;replace ha:=ha.2;rw[Yi]at ha;have z0:=XA ha.1;replace ha:=ha.2;have u0:=XA ha;exact⟨2,[x,y,z,u],(.road x.toNat y.toNat z.toNat u.toNat),Y,hG,.inr (.inl ⟨Y,x.toNat,y.toNat,z.toNat,u.toNat,by rw[<-x0,<-y0,<-z0,<-u0],Y⟩),fun st=>rfl⟩
  rw[Z8 e]at hs;clear e;by_cases e:p=3
  ·rw[Z7 e]at hs;cases hs;subst e;obtain⟨x,y,z,rfl⟩:=oe hn;have ha:(RoadNeutral.natural x 1024&&(RoadNeutral.natural y 1024&&(RoadNeutral.natural z 1024)))=true:=ha;rw[Yi]at ha;have x0:=XA ha.1;replace ha:=ha.2;rw[Yi]at ha;have y0:=XA ha.1;replace ha:=ha.2;have z0:=XA ha;exact⟨3,[x,y,z],(.change x.toNat y.toNat z.toNat),Y,hG,.inr (.inr (.inl ⟨Y,x.toNat,y.toNat,z.toNat,by rw[<-x0,<-y0,<-z0],Y⟩)),fun st=>rfl⟩
  rw[Z8 e]at hs;clear e;by_cases e:p=4
  ·rw[Z7 e]at hs;cases hs;subst e;obtain⟨x,y,z,rfl⟩:=oe hn;have ha:(RoadNeutral.natural x 1024&&(RoadNeutral.natural y 1024&&(RoadNeutral.natural z 1024)))=true:=ha;rw[Yi]at ha;have x0:=XA ha.1;replace ha:=ha.2;rw[Yi]at ha;have y0:=XA ha.1;replace ha:=ha.2;have z0:=XA ha;exact⟨4,[x,y,z],(.toll x.toNat y.toNat z.toNat),Y,hG,.inr (.inr (.inr (.inl ⟨Y,x.toNat,y.toNat,z.toNat,by rw[<-x0,<-y0,<-z0],Y⟩))),fun st=>rfl⟩
  rw[Z8 e]at hs;clear e;by_cases e:p=5
  ·rw[Z7 e]at hs;cases hs;subst e;obtain⟨x,y,rfl⟩:=iU hn;have ha:(RoadNeutral.natural x 1024&&(RoadNeutral.natural y 1024))=true:=ha;rw[Yi]at ha;have x0:=XA ha.1;replace ha:=ha.2;have y0:=XA ha;exact⟨5,[x,y],(.shut x.toNat y.toNat),Y,hG,.inr (.inr (.inr (.inr (.inl ⟨Y,x.toNat,y.toNat,by rw[<-x0,<-y0],Y⟩)))),fun st=>rfl⟩
  rw[Z8 e]at hs;clear e;by_cases e:p=6
  ·rw[Z7 e]at hs;cases hs;subst e;obtain⟨x,rfl⟩:=xU hn;have ha:(RoadNeutral.natural x 1024)=true:=ha;have x0:=XA ha;exact⟨6,[x],(.demand x.toNat),Y,hG,.inr (.inr (.inr (.inr (.inr (.inl ⟨Y,x.toNat,by rw[<-x0],Y⟩))))),fun st=>rfl⟩
  rw[Z8 e]at hs;clear e;by_cases e:p=7
  ·rw[Z7 e]at hs;cases hs;subst e;have:a=[]:=Xu.mp hn;subst this;exact⟨7,[],.told,Y,hG,.inr (.inr (.inr (.inr (.inr (.inr (.inl ⟨Y,Y⟩)))))),fun st=>rfl⟩
  rw[Z8 e]at hs;clear e;by_cases e:p=8
  ·rw[Z7 e]at hs;cases hs;subst e;have:a=[]:=Xu.mp hn;subst this;exact⟨8,[],.flow,Y,hG,.inr (.inr (.inr (.inr (.inr (.inr (.inr (.inl ⟨Y,Y⟩))))))),fun st=>rfl⟩
  rw[Z8 e]at hs;clear e;by_cases e:p=9
  ·rw[Z7 e]at hs;cases hs;subst e;have:a=[]:=Xu.mp hn;subst this;exact⟨9,[],.time,Y,hG,.inr (.inr (.inr (.inr (.inr (.inr (.inr (.inr (.inl ⟨Y,Y⟩)))))))),fun st=>rfl⟩
  rw[Z8 e]at hs;clear e;by_cases e:p=10
  ·rw[Z7 e]at hs;cases hs;subst e;have:a=[]:=Xu.mp hn;subst this;exact⟨10,[],.best,Y,hG,.inr (.inr (.inr (.inr (.inr (.inr (.inr (.inr (.inr (.inl ⟨Y,Y⟩))))))))),fun st=>rfl⟩
  rw[Z8 e]at hs;clear e;by_cases e:p=11
  ·rw[Z7 e]at hs;cases hs;subst e;have:a=[]:=Xu.mp hn;subst this;exact⟨11,[],.price,Y,hG,.inr (.inr (.inr (.inr (.inr (.inr (.inr (.inr (.inr (.inr (.inl ⟨Y,Y⟩)))))))))),fun st=>rfl⟩
  rw[Z8 e]at hs;clear e;by_cases e:p=12
  ·rw[Z7 e]at hs;cases hs;subst e;have:a=[]:=Xu.mp hn;subst this;exact⟨12,[],.tolls,Y,hG,.inr (.inr (.inr (.inr (.inr (.inr (.inr (.inr (.inr (.inr (.inr (.inl ⟨Y,Y⟩))))))))))),fun st=>rfl⟩
  rw[Z8 e]at hs;clear e;by_cases e:p=13
  ·rw[Z7 e]at hs;cases hs;subst e;obtain⟨x,rfl⟩:=xU hn;have ha:(RoadNeutral.natural x 1024)=true:=ha;have x0:=XA ha;exact⟨13,[x],(.cost x.toNat),Y,hG,.inr (.inr (.inr (.inr (.inr (.inr (.inr (.inr (.inr (.inr (.inr (.inr (.inl ⟨Y,x.toNat,by rw[<-x0],Y⟩)))))))))))),fun st=>rfl⟩
  rw[Z8 e]at hs;clear e;by_cases e:p=14
  ·rw[Z7 e]at hs;cases hs;subst e;obtain⟨x,rfl⟩:=xU hn;have ha:(RoadNeutral.natural x 1024)=true:=ha;have x0:=XA ha;exact⟨14,[x],(.without x.toNat),Y,hG,.inr (.inr (.inr (.inr (.inr (.inr (.inr (.inr (.inr (.inr (.inr (.inr (.inr (.inl ⟨Y,x.toNat,by rw[<-x0],Y⟩))))))))))))),fun st=>rfl⟩
  rw[Z8 e]at hs;clear e;by_cases e:p=15
  ·rw[Z7 e]at hs;cases hs;subst e;have:a=[]:=Xu.mp hn;subst this;exact⟨15,[],.better,Y,hG,.inr (.inr (.inr (.inr (.inr (.inr (.inr (.inr (.inr (.inr (.inr (.inr (.inr (.inr (.inl ⟨Y,Y⟩)))))))))))))),fun st=>rfl⟩
  rw[Z8 e]at hs;clear e;by_cases e:p=16
  ·rw[Z7 e]at hs;cases hs;subst e;obtain⟨x,rfl⟩:=xU hn;have ha:(RoadNeutral.natural x 1024)=true:=ha;have x0:=XA ha;exact⟨16,[x],(.at_ x.toNat),Y,hG,.inr (.inr (.inr (.inr (.inr (.inr (.inr (.inr (.inr (.inr (.inr (.inr (.inr (.inr (.inr (.inl ⟨Y,x.toNat,by rw[<-x0],Y⟩))))))))))))))),fun st=>rfl⟩
  rw[Z8 e]at hs;clear e;by_cases e:p=17
  ·rw[Z7 e]at hs;cases hs;subst e;have:a=[]:=Xu.mp hn;subst this;exact⟨17,[],.ways,Y,hG,.inr (.inr (.inr (.inr (.inr (.inr (.inr (.inr (.inr (.inr (.inr (.inr (.inr (.inr (.inr (.inr (.inl ⟨Y,Y⟩)))))))))))))))),fun st=>rfl⟩
  rw[Z8 e]at hs;clear e;by_cases e:p=18
  ·rw[Z7 e]at hs;cases hs;subst e;obtain⟨x,rfl⟩:=xU hn;have ha:(RoadNeutral.natural x 1024)=true:=ha;have x0:=XA ha;exact⟨18,[x],(.way x.toNat),Y,hG,.inr (.inr (.inr (.inr (.inr (.inr (.inr (.inr (.inr (.inr (.inr (.inr (.inr (.inr (.inr (.inr (.inr (.inl ⟨Y,x.toNat,by rw[<-x0],Y⟩))))))))))))))))),fun st=>rfl⟩
  rw[Z8 e]at hs;clear e;by_cases e:p=19
  ·rw[Z7 e]at hs;cases hs;subst e;have:a=[]:=Xu.mp hn;subst this;exact⟨19,[],.parts,Y,hG,.inr (.inr (.inr (.inr (.inr (.inr (.inr (.inr (.inr (.inr (.inr (.inr (.inr (.inr (.inr (.inr (.inr (.inr (.inl ⟨Y,Y⟩)))))))))))))))))),fun st=>rfl⟩
  rw[Z8 e]at hs;clear e;by_cases e:p=20;·exact absurd e mC
  rw[Z8 e]at hs;cases hs
theorem qY{K:W.Frag}{H H':Hp}{a:Addr}{xs:List V}(h:Zw K H a xs)(s:ZX H H'):Zw K H' a xs:=by
 rcases h with(h|⟨o,h⟩)|h;·exact .inl (.inl (s _ _ h))
 ·exact .inl (.inr ⟨o,s _ _ h⟩)
 ·exact .inr h
theorem u7(xs:List V){i j:Nat}(hi:i<=j)(hj:j<=xs.length):IH xs (some (i:Int)) (some (j:Int))=(xs.drop i).take (j-i):=by
 unfold IH;rw[HT.IJ,HT.IJ,show min i xs.length=i by omega,show min j xs.length=j by omega]
theorem AU(a:List Int)(l:List (List Int)):PyFlat.told (a::l)=(a.length:Int)::a++PyFlat.told l:=by
 unfold PyFlat.told;rw[VU]
structure Loop(t:Yl)(H0 H:Hp)(o D:Addr)(ns:List Int)(pl:Nat)(st:Option Land)(fp:List Addr)(told:List Int)(cs:List (List (List Int))):Prop where
 s:ZX H0 H
 off:QS t H o st fp
 pM:∀b,b∈fp->H0 b=none
 fS:D∉fp
 nd:H0 D=none
 ht:IL H D told
 ok:∀l,st=some l->Zh l
 hp:pl<=ns.length
 hc:∃f,PyFlat.calls PyWqagde.shape f (ns.drop pl)=some cs
 asked:∀c,c∈cs->RoadNeutral.asked1 c=true
 B7:told++PyFlat.told (PyFlat.played RoadNeutral.step st cs)=PyWqagde.answers ns
 len:told.length+301*cs.length<=301*400
section
variable{P:Program}{w:World}{K:W.Frag}{mg:Str->Option Value}{base:Heap}{t:Yl}{dA dC dG:Addr}
def IS(K:W.Frag):Sp:=fun vs H Q _=>∃c ns,vs=[.ref c]/\Zw K H c (List.map V.int ns)/\PyWqagde.answers_asked ns=true/\∀H' d,IL H' d (PyWqagde.answers ns)->Q (.ref d) H'
theorem Dl:ZL ["calls","office","told","place","end","numbers"] ["calls"] (ZZ (top 111)):=YR
theorem Dk(T2:Txt2 K mg t dA dC dG):Y6 P w K mg base XB 46 t.Jb t.N3 ["calls"] (IS K):=by
 have T:=T2.T;have sc:=Dl;refine T.answers.F.ok sc (fun vs H Q E h=>?_) (fun Yp A outer s H vs Q E hr h=>?_)
 ·obtain⟨c,ns,rfl,_⟩:=h;rfl
 ·obtain⟨c,ns,rfl,hc,Mt,k⟩:=h;unfold PyWqagde.answers_asked at Mt;obtain⟨AL,qX⟩:∃AL,PyFlat.calls PyWqagde.shape ns.length ns=some AL:=by
   cases q:PyFlat.calls PyWqagde.shape ns.length ns with
   |none=>
    unfold PyWqagde.calls at Mt;rw[q]at Mt;cases Mt
   |some AL=>exact ⟨AL,Y⟩
  have xS:PyWqagde.calls ns=some AL:=by
   unfold PyWqagde.calls;rw[qX];show some (AL.map PyWqagde.whole)=_;rw[Jq qX]
  rw[xS]at Mt;have Mt:(PyFlat.atMost 400 AL&&RoadNeutral.asked AL)=true:=Mt;rw[Yi]at Mt;have ax:AL.length<=400:=ZD Mt.1;have TC:=Mt.2;unfold RoadNeutral.asked at TC;rw[Yi]at TC;have TC:=VY.mp TC.1;have iT:PyWqagde.answers ns=PyFlat.told (PyFlat.played RoadNeutral.step none AL):=by
   unfold PyWqagde.answers;rw[xS];rfl
  refine⟨_,(Z5 (ZS (i:=1) sc.nd Y Y4 (dE T.Uj (Ks T) hr (by decide) rfl))
   (Z5 (ZS (i:=2) sc.nd Y Y4 (Zv Z2))
   (Z5 (ZS (i:=3) sc.nd Y Y4 ZR)
   (Z5 (Vb Zi (ZG JS (Z 3) (YN Zd (by rfl) T.Wk YM (Z6 (Z 0) Z2)) (Zr _)) (Z5 (ZS (i:=4) sc.nd Y Y4 (cl T.FO (E2 T2) hr (Z6 (Z 0) (Z6 (Z 3) Z2))))
   (Z5 (ZS (i:=5) sc.nd Y Y4 (cl T.answer (AV T2) hr (Z6 (Z 1) (Z6 (ZI ZM (Z 0) (Z 3) (fun _ _=>rfl)) (Z6 (GR C7 (Z 0) (II (Zc SF (Z 3) ZR)) (II (Z 4))) Z2)))))
   (Z5 (Xe (UU X9 WN WC W8 (Z 2) (Z6 (YN Zd (by rfl) T.Wk YM (Z6 (Z 5) Z2)) Z2)))
   (Z5 (Xe (UU X9 Ti RF Ta (Z 2) (Z6 (Z 5) Z2)))
   (Z0 (ZS (i:=3) sc.nd Y Y4 (Z 4))))))))
   (Z0 (ZN (Z 2))))))),?_⟩
  intro o dx no nd ne;refine Xr o dx ⟨Y,Z4,Y,?_⟩;rw[Hf];have so:ZX H (upd (upd H dx (.own o)) o (.ins t.V9 dx [("land",.Xf)])):=(ZX.new nd _).Zu no _;have eo:upd (upd H dx (.own o)) o (.ins t.V9 dx [("land",.Xf)]) o=some (.ins t.V9 dx [("land",.Xf)]):=Z4;generalize upd (upd H dx (.own o)) o (.ins t.V9 dx [("land",.Xf)])=H1 at*;refine⟨Zt _,fun D hD=>?_⟩;have sD:=ZX.new hD (.lst []);have aw:D≠o:=fun q=>by rw[q,eo]at hD;cases hD
  refine⟨fun m σ H'=>∃pl st fp told cs c4 c5,σ=[some (.ref c),some (.ref o),some (.ref D),some (.int ((pl:Nat):Int)),c4,c5]/\m=ns.length-pl/\Loop t H H' o D ns pl st fp told cs,⟨_,0,none,[o],[],XR AL none none ⟨Y,Y,⟨so.trans sD,⟨⟨dx,.Xf,sD _ _ eo,Y⟩,by simp⟩,fun b O=>by rw[Zm.mp O];exact no,by simpa using aw,so.free hD,Z4,fun l hl=>(by cases hl),Zt _,⟨ns.length,qX⟩,TC,iT.symm,by show 0+301*AL.length<=_;omega⟩⟩⟩,?_⟩;rintro m σ H2 ⟨pl,st,fp,told,cs,c4,c5,rfl,rfl,L⟩;have ux:=qY hc L.s;refine Y' Y rfl (ZQ Y (.inl ux) (ZQ Y rfl (Z1 Y ?_)));rw[Z3];by_cases WY:pl<ns.length
  ·rw[ZP (show((pl:Nat):Int)<(ns.length:Int) by omega)];refine YW ⟨fun XC HR=>∃m',m'<ns.length-pl/\∃pl st fp told cs c4 c5,XC=[some (.ref c),some (.ref o),some (.ref D),some (.int ((pl:Nat):Int)),c4,c5]/\m'=ns.length-pl/\Loop t H HR o D ns pl st fp told cs,fun _ _ h=>h,?_⟩;obtain⟨f,hf⟩:=L.hc;obtain⟨p0,r0,vw⟩:∃p0 r0,ns.drop pl=p0::r0:=⟨ns[pl],ns.drop (pl+1),List.drop_eq_getElem_cons WY⟩;rw[vw]at hf;obtain⟨f',c0,t0,uw,rfl,jX,iS,rfl⟩:=Lw hf;obtain⟨n,gs,cc,hl,hG,hC,n_⟩:=xT (zo jX) (L.asked c0 (by simp));rw[hl]at vw;have hlen:pl+1+gs.length+t0.length=ns.length:=by
    have:=congrArg List.length vw;rw[List.length_drop,Zg,ZF]at this;omega
   have h0:QO (ns.map V.int) ((pl:Nat):Int)=some (.int n):=VC (Hb vw (i:=0) (z:=n) rfl);have au:((ns.map V.int).drop (pl+1)).take (pl+1+gs.length-(pl+1))=gs.map V.int:=by
    rw[<-List.map_drop,show ns.drop (pl+1)=(ns.drop pl).drop 1 by rw[List.drop_drop],vw];show((gs++t0).map V.int).take _=_;rw[show pl+1+gs.length-(pl+1)=gs.length by omega,YV,List.take_append_of_le_length (by rw[Z3];omega),Ph (by rw[Z3];omega)]
   have n9:ns.drop (pl+1+gs.length)=t0:=by
    rw[show pl+1+gs.length=pl+(1+gs.length) by omega,<-List.drop_drop,vw,Nat.add_comm 1];show(gs++t0).drop gs.length=t0;exact List.drop_left ..
   refine Y' Y rfl (XR c ns n (XR gs t0 pl ⟨Y,ux,vw,hG,?_⟩));refine Y' Y rfl (Z1 Y (ZJ Y rfl ux h0 (Y' Y rfl (ZQ Y rfl (Y' Y rfl (Z1 Y (ZQ Y ux (fun g hg=>?_))))))));have iR:IH (ns.map V.int) (some (((pl:Nat):Int)+1)) (some ((pl+1+gs.length:Nat):Int))=gs.map V.int:=by
    rw[show((pl:Nat):Int)+1=((pl+1:Nat):Int) by omega,u7 _ (by omega) (by rw[Z3];omega)];exact au
   rw[iR];have sg:=ZX.new hg (.lst (gs.map V.int));refine Ua o n g st gs (Xr cc fp ⟨Y,L.off.up sg,L.ok,Z4,hC,fun H3 d fp' O3 fR qb fQ dn3 fP hl3=>?_⟩);have xR:IL (upd H2 g (.lst (gs.map V.int))) D told:=sg _ _ L.ht;have xQ:IL H3 D told:=fR _ _ xR L.fS;have aq:d≠D:=fun q=>by rw[q,xR]at fQ;cases fQ
   have ao:=L.len;rw[Zg]at ao;refine Z1 Y ⟨.inl ⟨Y,_,Zw.of xQ⟩,Z1 Y (ZQ Y (.inl (Zw.of fP)) (XR D _ _ ⟨Y,Y,xQ,?_,?_⟩))⟩
   ·rw[Z3];exact YI (by omega)
   have ak:IL (upd H3 D (.lst (told.map V.int++[.int (((RoadSpec.step st cc).2.map V.int).length:Int)]))) d (RoadSpec.step st cc).2:=by
    show upd _ _ _ _=_;rw[ZV aq];exact fP
   refine Z1 Y ⟨.inl ⟨Y,_,Zw.of Z4⟩,Z1 Y (W9 D d _ _ ⟨Y,Y,Z4,ak,?_,?_⟩)⟩
   ·rw[ZF,Z3,Z3];exact YZ (YI (show told.length+1+(RoadSpec.step st cc).2.length<=16000000 by omega))
   rw[Hf];have fO:D∉fp':=fun q=>by
    rcases qb D q with z|z;·exact L.fS z
    ·rw[xR]at z;cases z
   refine Z1 Y ⟨ns.length-(pl+1+gs.length),by omega,pl+1+gs.length,(RoadSpec.step st cc).1,fp',told++(((RoadSpec.step st cc).2.length:Int)::(RoadSpec.step st cc).2),XR uw _ _ ⟨Y,Y,?_⟩⟩;have n8:=L.B7;refine⟨?_,O3.lst xQ fO,fun b O=>?_,fO,L.nd,?_,v5 L.ok cc,by omega,⟨f',by rw[n9];exact iS⟩,fun x hx=>L.asked x (Zf _ hx),?_,?_⟩
   ·intro b u O;have aj:b∉fp:=fun q=>by rw[L.pM b q]at O;cases O
    rw[ZV (Zx O L.nd)];exact fR b u ((L.s.trans sg) _ _ O) aj
   ·rcases qb b O with z|z;·exact L.pM b z
    ·exact(L.s.trans sg).free z
   ·show upd _ _ _ _=_;rw[Z4,Z3,YV,Y1,VX];rfl
   ·rw[<-n8];show _=told++PyFlat.told ((RoadNeutral.step st c0).2::PyFlat.played RoadNeutral.step (RoadNeutral.step st c0).1 uw);rw[n_,AU,VX]
   ·rw[ZF,Zg];omega
  ·rw[ZC (show¬((pl:Nat):Int)<(ns.length:Int) by omega)];refine YA (Z1 Y (k H2 D ?_));have hd:ns.drop pl=[]:=Pl (by omega);obtain⟨f,hf⟩:=L.hc;rw[hd,Jr]at hf;cases hf;have:=L.B7;have e:PyFlat.told (PyFlat.played RoadNeutral.step st [])=[]:=rfl;rw[e,Xw]at this;rw[<-this];exact L.ht
end
end Rw
namespace Rw
open PySem PySem.Spec PyProof.Rows L2
def JZ(x q:Str)(st:Stmt)(ps:List Str):Prop:=∀(kV doc pm:Value)(an:Option Addr)(Yp ct:Value)(us:List Value),us.length=ps.length->bindArgs (W.fnOf x q (Xn st) (XD st) (ZZ st) .none kV doc pm an Yp ct) ⟨us,[]⟩=pure (ps.zip us)
theorem b1{x q:Str}{st:Stmt}{p0:Str}(h:∀kV doc pm an Yp ct u0,bindArgs (W.fnOf x q (Xn st) (XD st) (ZZ st) .none kV doc pm an Yp ct) ⟨[u0],[]⟩=pure [(p0,u0)]):JZ x q st [p0]:=fun _ _ _ _ _ _ us hl=>match us,hl with|[_],_=>h _ _ _ _ _ _ _
theorem b2{x q:Str}{st:Stmt}{p0 p1:Str}(h:∀kV doc pm an Yp ct u0 u1,bindArgs (W.fnOf x q (Xn st) (XD st) (ZZ st) .none kV doc pm an Yp ct) ⟨[u0,u1],[]⟩=pure [(p0,u0),(p1,u1)]):JZ x q st [p0,p1]:=fun _ _ _ _ _ _ us hl=>match us,hl with|[_,_],_=>h _ _ _ _ _ _ _ _
theorem b3{x q:Str}{st:Stmt}{p0 p1 p2:Str}(h:∀kV doc pm an Yp ct u0 u1 u2,bindArgs (W.fnOf x q (Xn st) (XD st) (ZZ st) .none kV doc pm an Yp ct) ⟨[u0,u1,u2],[]⟩=pure [(p0,u0),(p1,u1),(p2,u2)]):JZ x q st [p0,p1,p2]:=fun _ _ _ _ _ _ us hl=>match us,hl with|[_,_,_],_=>h _ _ _ _ _ _ _ _ _
theorem b4{x q:Str}{st:Stmt}{p0 p1 p2 p3:Str}(h:∀kV doc pm an Yp ct u0 u1 u2 u3,bindArgs (W.fnOf x q (Xn st) (XD st) (ZZ st) .none kV doc pm an Yp ct) ⟨[u0,u1,u2,u3],[]⟩=pure [(p0,u0),(p1,u1),(p2,u2),(p3,u3)]):JZ x q st [p0,p1,p2,p3]:=fun _ _ _ _ _ _ us hl=>match us,hl with|[_,_,_,_],_=>h _ _ _ _ _ _ _ _ _ _
theorem b5{x q:Str}{st:Stmt}{p0 p1 p2 p3 p4:Str}(h:∀kV doc pm an Yp ct u0 u1 u2 u3 u4,bindArgs (W.fnOf x q (Xn st) (XD st) (ZZ st) .none kV doc pm an Yp ct) ⟨[u0,u1,u2,u3,u4],[]⟩=pure [(p0,u0),(p1,u1),(p2,u2),(p3,u3),(p4,u4)]):JZ x q st [p0,p1,p2,p3,p4]:=fun _ _ _ _ _ _ us hl=>match us,hl with|[_,_,_,_,_],_=>h _ _ _ _ _ _ _ _ _ _ _
theorem b6{x q:Str}{st:Stmt}{p0 p1 p2 p3 p4 p5:Str}(h:∀kV doc pm an Yp ct u0 u1 u2 u3 u4 u5,bindArgs (W.fnOf x q (Xn st) (XD st) (ZZ st) .none kV doc pm an Yp ct) ⟨[u0,u1,u2,u3,u4,u5],[]⟩=pure [(p0,u0),(p1,u1),(p2,u2),(p3,u3),(p4,u4),(p5,u5)]):JZ x q st [p0,p1,p2,p3,p4,p5]:=fun _ _ _ _ _ _ us hl=>match us,hl with|[_,_,_,_,_,_],_=>h _ _ _ _ _ _ _ _ _ _ _ _
section
variable{K:W.Frag}{h:Heap}{mg:Str->Option Value}{x q:Str}{st:Stmt}{ps:List Str}{C f:Addr}{oc kV dc pm cd ct:Value}{od an:Option Addr}{sl:Array (Option Value)}
abbrev fN(_:K.In h):W.Frag:=K
theorem n4(X:K.In h)(G:h.Ns mainGlobals mg)(B:JZ x x st ps)(a:W.nsIn K mainGlobals x=some (some (.ref f)))(l:K.lookup f=some ⟨oc,od,.func (W.fnOf x x (Xn st) (XD st) (ZZ st) .none kV dc pm an cd ct),sl⟩)(c:W.codeIn K cd x=true)(k:W.keepIn K (.ref f)=true):Dn K mg x st ps f (W.fnOf x x (Xn st) (XD st) (ZZ st) .none kV dc pm an cd ct):=⟨N9 l c k,(N9 l c k).binds B,W.mg_of X G a⟩
theorem nZ(X:K.In h)(G:h.Ns mainGlobals mg)(B:JZ "__init__" q st ps)(aC:W.nsIn K mainGlobals x=some (some (.ref C)))(a1:W.findIn K (.ref C) "__init__"=some (some (.ref f)))(i1:W.isFn K (.ref f)=true)(l1:K.lookup f=some ⟨oc,od,.func (W.fnOf "__init__" q (Xn st) (XD st) (ZZ st) .none kV dc pm an cd ct),sl⟩)(c1:W.codeIn K cd q=true)(k1:W.keepIn K (.ref f)=true)(pg:W.plainGet K C Str.empty=true)(hd:W.hasDictIn K C=true)(po:W.plainOver K C=true)(sa:W.findIn K (.ref C) "__setattr__"=some (some (.builtin "object.__setattr__")))(mk:W.makesIn K C=true)(kc:W.keepIn K (.ref C)=true):Cn K mg x q C st ps f (W.fnOf "__init__" q (Xn st) (XD st) (ZZ st) .none kV dc pm an cd ct):=⟨⟨pg,hd,po,sa⟩,⟨mk,a1,i1,kc⟩,W.mg_of X G aC,N9 l1 c1 k1,(N9 l1 c1 k1).binds B⟩
theorem nY(B:JZ x q st ps)(a1:W.findIn K (.ref C) x=some (some (.ref f)))(i1:W.isFn K (.ref f)=true)(l1:K.lookup f=some ⟨oc,od,.func (W.fnOf x q (Xn st) (XD st) (ZZ st) .none kV dc pm an cd ct),sl⟩)(c1:W.codeIn K cd q=true)(k1:W.keepIn K (.ref f)=true):Mn K x q C st ps f (W.fnOf x q (Xn st) (XD st) (ZZ st) .none kV dc pm an cd ct):=⟨⟨a1,i1,k1⟩,N9 l1 c1 k1,(N9 l1 c1 k1).binds B⟩
theorem nX(a:W.findIn K (.ref C) x=some none):YE K C x:=a
theorem nW{n:Int}{tk:Tok}(X:K.In h)(G:h.Ns mainGlobals mg)(a:W.nsIn K mainGlobals x=some (some (.int n tk))):Gv mg x (.int n):=⟨_,W.mg_of X G a,tk,Y⟩
theorem isInt_self(k:Int)(tk:Tok)(j:Int):Value.isInt j (.int k tk)=decide (j=k):=by
 simp only[Value.isInt];by_cases e:j=k;·simp[e]
 ·have:¬k=j:=fun q=>e q.symm;simp[e,this]
noncomputable def xx(e:DictEntry):Option (Int×Value):=match e.key with
 |.int k _=>if e.hash=hashInt k then some (k,e.val)else none
 |_=>none
theorem EY{e:DictEntry}{p:Int×Value}(h:xx e=some p):∃tk,e.key=.int p.1 tk/\e.hash=hashInt p.1/\e.val=p.2:=by
 unfold xx at h;split at h
 ·split at h
  ·next k tk e1 e2=>
   injection h with h
   subst h;exact⟨tk,e1,e2,Y⟩
  ·cases h
 ·cases h
theorem xP{d:Addr}{ep:Nat}{es:Array DictEntry}{L:List (Int×Value)}(l:K.lookup d=some ⟨.type "dict",none,.dict es ep,#[]⟩)(hs:(d==sysModules)=false)(r:es.toList.map xx=L.map some):Nv K d L:=by
 refine⟨⟨_,_,ep,l,⟨Y,Y,Y⟩,Y,fun e he=>?_,fun k=>?_⟩,hs⟩
 ·have q:xx e∈es.toList.map xx:=Ux (by simpa using he);rw[r]at q;obtain⟨p,_,hp⟩:=Y9.mp q;obtain⟨tk,e1,e2,_⟩:=EY hp.symm;exact⟨p.1,by rw[e1,isInt_self];exact ZP Y,e2⟩
 ·unfold findBy;rw[<-Array.find?_toList];generalize es.toList=m at r;clear l;induction m generalizing L with
  |nil=>
   cases L with
   |nil=>rfl
   |cons p L=>cases r
  |cons e m ih=>
   cases L with
   |nil=>cases r
   |cons p L=>
    rw[Y1,Y1]at r;injection r with r1 r2
    obtain⟨tk,e1,_,e3⟩:=EY r1;obtain⟨p1,p2⟩:=p;rw[Uz,Vc];show Option.map _ (match Value.isInt k e.key with|true=>_|false=>_)=_;rw[e1,isInt_self];by_cases c:k=p1
    ·rw[ZP c,show(k==p1)=true by rw[c];exact beq_self_eq_true _];exact congrArg some e3
    ·rw[ZC c,show(k==p1)=false by simpa using c];exact ih r2
theorem uZ{t:Yl}{dA dC dG:Addr}{eA eC eG:Nat}{sA sC sG:Array DictEntry}(X:K.In h)(G:h.Ns mainGlobals mg)(T:Txt K mg t)(aA:W.nsIn K mainGlobals "ASKING"=some (some (.ref dA)))(lA:K.lookup dA=some ⟨.type "dict",none,.dict sA eA,#[]⟩)(aC:W.nsIn K mainGlobals "CHANGING"=some (some (.ref dC)))(lC:K.lookup dC=some ⟨.type "dict",none,.dict sC eC,#[]⟩)(aG:W.nsIn K mainGlobals "GIVEN"=some (some (.ref dG)))(lG:K.lookup dG=some ⟨.type "dict",none,.dict sG eG,#[]⟩)(yA:(dA==sysModules)=false)(yC:(dC==sysModules)=false)(yG:(dG==sysModules)=false)(rA:sA.toList.map xx=(uc t).map some)(rC:sC.toList.map xx=(xZ t).map some)(rG:sG.toList.map xx=(sG.toList.filterMap xx).map some)(gG:(xY.all fun p=>match(sG.toList.filterMap xx).lookup p.1 with|some (.int g _)=>g==p.2|_=>false)=true):Txt2 K mg t dA dC dG:=by
 refine⟨T,⟨_,W.mg_of X G aA,Y⟩,⟨_,W.mg_of X G aC,Y⟩,⟨_,W.mg_of X G aG,Y⟩,xP lA yA rA,xP lC yC rC,_,xP lG yG rG,fun n g hm=>?_⟩;have q:=VY.mp gG _ hm;dsimp only at q;split at q;·next g' tk e=>exact ⟨tk,by rw[e,eq_of_beq q]⟩
 ·cases q
theorem Dj:JZ "answers" "answers" (top 111) ["calls"]:=b1 fun _ _ _ _ _ _ _=>rfl
end
end Rw
open PySem PySem.W PyProof.Rows
set_option maxRecDepth 100000 in
set_option maxHeartbeats 0 in
theorem PySem.Challenge.cw_roadrest_s01_answers_holds : PySem.Challenge.rw_roadrest_s01_answers.Holds := by
  w_on; k_headS; (case hw => exact ⟨[.list [.int 7]], by decide +kernel, by decide +kernel⟩)
  k_fillS
  refine L2.Eo (r := PySem.Challenge.rw_roadrest_s01_answers) (k := 46) (CX := L2.XB) (ps := ["calls"]) (sp := Rw.IS) (by decide +kernel) (by decide +kernel) (by decide +kernel) rfl rfl ⟨rfl, by decide, by decide⟩ (fun w h Y => PySem.W.kIn_of Y) ?F ?S (fun _ _ _ _ z => z)
  case F =>
    intro w mg fa h Y KX G kM
    obtain ⟨t, dA, dC, dG, T2⟩ : ∃ t dA dC dG, Rw.Txt2 (Rw.fN KX) mg t dA dC dG := by
      dsimp only [Rw.fN]
      refine' ⟨⟨_, _, _, _, _, _, _, _, _, _, _, _, _, _, _, _, _, _, _, _, _, _, _, _, _, _, _, _, _, _, _, _, _, _, _, _, _, _, _, _, _, _, _, _, _, _, _, _, _, _, _, _, _, _, _, _, _, _, _, _, _, _, _, _, _, _, _, _, _, _, _, _, _, _, _, _, _, _, _, _, _, _, _, _, _, _, _, _, _, _, _, _, _, _, _, _, _, _, _, _, _, _, _, _, _, _, _, _, _, _, _, _, _, _, _, _, _, _, _, _, _, _, _, _, _, _, _, _, _, _, _, _, _, _, _, _, _, _, _, _, _, _, _, _, _, _, _, _, _, _, _, _, _, _, _, _, _, _, _, _, _, _, _, _, _, _, _, _, _, _⟩, _, _, _, Rw.uZ KX G ⟨?_, ?_, ?_, ?_, ?_, ?_, ?_, ?_, ?_, ?_, ?_, ?_, ?_, ?_, ?_, ?_, ?_, ?_, ?_, ?_, ?_, ?_, ?_, ?_, ?_, ?_, ?_, ?_, ?_, ?_, ?_, ?_, ?_, ?_, ?_, ?_, ?_, ?_, ?_, ?_, ?_, ?_, ?_, ?_, ?_, ?_, ?_, ?_, ?_, ?_, ?_, ?_, ?_, ?_, ?_, ?_, ?_, ?_, ?_, ?_, ?_, ?_, ?_, ?_, ?_, ?_, ?_, ?_, ?_, ?_, ?_, ?_, ?_, ?_, ?_, ?_, ?_, ?_, ?_, ?_, ?_, ?_, ?_, ?_, ?_, ?_, ?_, ?_, ?_, ?_, ?_, ?_, ?_, ?_, ?_, ?_, ?_, ?_, ?_, ?_, ?_, ?_, ?_, ?_, ?_, ?_, ?_, ?_, ?_, ?_, ?_, ?_, ?_, ?_, ?_, ?_, ?_, ?_, ?_, ?_, ?_, ?_, ?_, ?_, ?_, ?_, ?_, ?_, ?_, ?_, ?_, ?_, ?_, ?_⟩ ?aA ?lA ?aC ?lC ?aG ?lG ?yA ?yC ?yG ?rA ?rC ?rG ?gG⟩
      all_goals try dsimp only
      any_goals first
        | (refine' Rw.n4 KX G ?B ?a ?l ?c ?k; (case a => k_is); (case l => k_is); (case c => k_is); (case k => k_is); (case B => first | exact Rw.b1 fun _ _ _ _ _ _ _ => rfl | exact Rw.b2 fun _ _ _ _ _ _ _ _ => rfl | exact Rw.b3 fun _ _ _ _ _ _ _ _ _ => rfl | exact Rw.b4 fun _ _ _ _ _ _ _ _ _ _ => rfl | exact Rw.b5 fun _ _ _ _ _ _ _ _ _ _ _ => rfl | exact Rw.b6 fun _ _ _ _ _ _ _ _ _ _ _ _ => rfl))
        | (refine' Rw.nZ KX G ?B ?za ?a1 ?i1 ?l1 ?c1 ?k1 ?pg ?hd ?po ?sa ?mk ?kc; (case za => k_is); (case a1 => k_is); (case i1 => k_is); (case l1 => k_is); (case c1 => k_is); (case k1 => k_is); (case pg => k_is); (case hd => k_is); (case po => k_is); (case sa => k_is); (case mk => k_is); (case kc => k_is); (case B => first | exact Rw.b1 fun _ _ _ _ _ _ _ => rfl | exact Rw.b2 fun _ _ _ _ _ _ _ _ => rfl | exact Rw.b3 fun _ _ _ _ _ _ _ _ _ => rfl | exact Rw.b4 fun _ _ _ _ _ _ _ _ _ _ => rfl | exact Rw.b5 fun _ _ _ _ _ _ _ _ _ _ _ => rfl | exact Rw.b6 fun _ _ _ _ _ _ _ _ _ _ _ _ => rfl))
        | (refine' Rw.nY ?B ?a1 ?i1 ?l1 ?c1 ?k1; (case a1 => k_is); (case i1 => k_is); (case l1 => k_is); (case c1 => k_is); (case k1 => k_is); (case B => first | exact Rw.b1 fun _ _ _ _ _ _ _ => rfl | exact Rw.b2 fun _ _ _ _ _ _ _ _ => rfl | exact Rw.b3 fun _ _ _ _ _ _ _ _ _ => rfl | exact Rw.b4 fun _ _ _ _ _ _ _ _ _ _ => rfl | exact Rw.b5 fun _ _ _ _ _ _ _ _ _ _ _ => rfl | exact Rw.b6 fun _ _ _ _ _ _ _ _ _ _ _ _ => rfl))
        | (refine' Rw.nX ?a; (case a => k_is))
        | (refine' Rw.nW KX G ?a; (case a => k_is))
        | (refine' PySem.W.mg_none_of KX G ?a; (case a => k_is))
        | (show PySem.W.nsIn _ _ _ = _; k_is)
        | (show PySem.W.Frag.lookup _ _ = _; k_is)
        | (show (_ == _) = _; decide)
        | (show _ = _; rfl)
    obtain ⟨oc, od, kV, doc, pm, an, Yp, ct, w_, e1, _, _⟩ := T2.T.answers.F.ex
    have e0 := kM.symm.trans T2.T.answers.m
    cases e0
    exact ⟨t.N3, fun s us hu => .of_eq (by rw [e1]; exact Rw.Dj kV doc pm an Yp ct us hu), fun base _ _ => Rw.Dk T2⟩
  case S =>
    intro K H xs a hO kJ Mt hx
    cases hx with
    | cons J h2 =>
      cases h2
      cases J with
      | lst hs ha =>
        have e := L2.CU a.1 _ ha
        subst e
        exact ⟨_, a.1, rfl, hs, Mt, fun H' p hp => .lst (L2.Zw.of hp) (L2.CV _)⟩
