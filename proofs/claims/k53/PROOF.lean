import PyProof.Rows.All
import Wide.All
import OpenK.KSplit
import OpenK.KNot
import OpenK.KApp
import KE.KPop
import KE.KListMore
import KE.RegKMod
import KE.KDictOf
import KE.KDictMeth
import KE.KEqSeq
import KE.KSlice
import KE.GnPush
import KE.KSorted
import KE.KJoinElse
import KE.RegTryLedger
import KE.KTops
import KE.RegKSuper
import KE.KSort
import KE.KDictLoop
import KE.RegLcTurns
import KE.RegLcAnyAll
import KE.KCat
import KE.KTemps
import KE.KTup
import KE.KxMul
import KE.KxSplit
import KE.KxIndex
import KE.KxText
import KE.KCells
import KE.KPassesOwn
import KE.RegKIsNot
import KE.KTempsTwo
import KE.KSetInts
import KE.KSortedL
import KE.KxBytes
import KE.KClos
import KE.KNestStore
import KE.KOwnIter
import KE.KStopIter
import KE.RegKBase
import KE.KDictOne
import KE.RegKMathG
import KE.KDictAny
import KE.RegKCallOwn
import KE.KSliceW
import KE.KxDecode
import KE.RegKMathGB
import KE.KLam
import KE.KDictBranch
import KE.KTree
import KE.KTreeB
import KE.KNestM
import KE.KDflt
import KE.KOwnIterCall
import KE.KSortedM
import KE.KTurns
import KE.KEqText
import KE.KxLen
import KE.RegKMathGC
import KE.KIsClose
import KE.KEqDict
import KE.KDisp
import KE.KDictAnyGet
import KE.KDictObj
import KE.KSetIn
import KE.KRevSl
import KE.KEqDeep
import KE.KAnyBase
import KE.KBoundM
import KE.KWhile
import KE.KRevIter
import KE.KCount
import KE.KTreeR
import KE.KxStill
import KE.KFinally
import KE.KTopLam
import KE.KWithOwn
import KE.KCases
import KE.KOpsOwn
import KE.KDictNew
import KE.KDictList
import KE.KDictIter
import KE.RegKUnpackStar
import KE.KSortAsk
import KE.KWhileD
import KE.KLcTest
import KE.KSumEnd
import KE.KPopAny
import KE.KGrown
import KE.KItemAt
import KE.KTextLit
import KE.KTupDict
import KE.KFmtOwn
import KE.KUnrMore
import KE.KMinKey
import KE.KTurnsDict
import KE.KExtendNil
import KE.KMethU
import KE.BytesMul
import KE.KCompFold
import KE.KDictSum
import KE.KDictName
import KE.KDictSym
import KE.KTurnsAny
import KE.KDictAnyTail
import KE.RegKStar
import KE.RegKParD
import KE.RegKTupTruth
import KE.RegKTupSum
import KE.KCallJoin
import KE.KMethJoin
import KE.KPathRangeEnd
import KE.KStateW
import KE.RegKParC
import KE.KxWritten
import KE.KxAdd
import KE.KxAffix
import KE.KxField
import KE.RegKIsAll
import KE.RegKMatchCls
import KE.KLcPair
import KE.RegKTryDeep
import KE.KJoinL
import KE.RegKNeg
import KE.KxPercentT
import KE.KBytesCut
import KE.KCellOne
import KE.KCompIf
import KE.KMenu
import KE.KxFormat
import KE.KTypeName
import KE.KCompText
import KE.BytesMulAny
import KE.KDictSymLen
import KE.KSortTup
import KE.KPairAssign
import KE.KTypeOf
import KE.KFinEnd
import KE.KMulAny
import KE.KBytesMenu
import KE.KTextDict
import KE.KPathShort
import KE.KSplitRange
import KE.KKinds
import KE.KxPart
import KE.KRangeItem
import KE.KDictLetter
import KE.KRangeNest
import KE.KSetAt
import KE.KWords
import KE.KxTruthy
import KE.KPairRows
import KE.KBytesMore
import KE.RegKStateDown
import KE.KItemsList
import KE.KRangePlain
import KE.KStateGiven
import KE.KBitsMul
import KE.KTextTable
import KE.KForList
import KE.KIdxIf
import KE.KAssignIn
import KE.KFirstTurn
import KE.KOwnRange
import KE.KLooksOwn
import KE.KDictWord
import KE.KStrOpen
import KE.KTurnsGround
import KE.KListEnd
import KE.KSearch
import KE.KFinFacts
import KE.RegKTryOn
import KE.KCenter
import KE.KStrWords
import KE.KStateTextK
import KE.KBools
import KE.KStateWGiven
import KE.KData
import KE.KCallTup
import KE.KTreeD
import KE.KTreeF
import KE.KEndWord
import KE.KStateBytes
import KE.KRangeEnd
import KE.KOf
import KE.KRepItem
import KE.KListLetter
import KE.KSliceSign
import KE.KCallBy
import KE.KToBytes
import KE.KPathText
import KE.KMinBuiltin
import KE.KFromBytes
import KE.KEqDat
import KE.KBytesUnr
import KE.KIsBytes
import KE.KCallRec
import KE.KEndW
import KE.RegLGe
import KE.RegLGeC
import Wide.FinOn
import Wide.FinOn
import Lean
import PyProof.EqAt
import PyProof.EqKinds
import PyProof.TupleCall
import PyProof.StrLawsRepr
import Open.Tops
import PySem.Challenge.RW_wakefew_k53_bells_that_ring_once
namespace PySem.W.Fast
theorem tw3933744386620080926:True:=⟨⟩
theorem tw2623927778843870023:True:=⟨⟩
theorem tw9723521110099093861:True:=⟨⟩
theorem tw11302844192938539399:True:=⟨⟩
theorem tw18025136917085389246:True:=⟨⟩
theorem tw12812571434036249017:True:=⟨⟩
theorem tw1033862884192945060:True:=⟨⟩
theorem tw12306763428299659111:True:=⟨⟩
theorem tw9577221689991544876:True:=⟨⟩
theorem tw16379686926465328357:True:=⟨⟩
theorem tw3275167623004848906:True:=⟨⟩
theorem tw14411632504104142915:True:=⟨⟩
theorem tw2427173386640990771:True:=⟨⟩
theorem tw7539328965978217369:True:=⟨⟩
theorem tw1468995130250812962:True:=⟨⟩
theorem tw17339377109282566401:True:=⟨⟩
theorem tw5410795164712197624:True:=⟨⟩
theorem tw6663150153354812165:True:=⟨⟩
theorem tw4187530240992248072:True:=⟨⟩
theorem tw433449533723322577:True:=⟨⟩
theorem tw8038038411266586727:True:=⟨⟩
theorem tw3559540024505696704:True:=⟨⟩
theorem tw5530337328397523945:True:=⟨⟩
theorem tw3127784755675372453:True:=⟨⟩
theorem tw17089674670894510620:True:=⟨⟩
theorem tw10398493117465179726:True:=⟨⟩
theorem tw10509143145192330120:True:=⟨⟩
theorem tw5384274166274354063:True:=⟨⟩
theorem tw15717551191377990858:True:=⟨⟩
theorem tw7227542440435775919:True:=⟨⟩
theorem tw16950844257568816438:True:=⟨⟩
theorem tw18419171657143160329:True:=⟨⟩
theorem tw4166864492988389211:True:=⟨⟩
theorem tw12581023948866842235:True:=⟨⟩
theorem tw2553662472468929311:True:=⟨⟩
theorem tw1477146853843528013:True:=⟨⟩
theorem tw10127615276258628667:True:=⟨⟩
theorem tw10153538727211830152:True:=⟨⟩
theorem tw7737460710696549043:True:=⟨⟩
theorem tw10706131643100397356:True:=⟨⟩
theorem tw13089500736524491784:True:=⟨⟩
theorem tw1572907250826198715:True:=⟨⟩
theorem tw10099021037552648294:True:=⟨⟩
theorem tw932839701382126404:True:=⟨⟩
theorem tw3631656871647319896:True:=⟨⟩
theorem tw10511936756727958944:True:=⟨⟩
theorem tw387439790479957101:True:=⟨⟩
theorem tw15289931892612440756:True:=⟨⟩
theorem tw14225957688015466410:True:=⟨⟩
theorem tw3160102801017576686:True:=⟨⟩
theorem tw677442012213950306:True:=⟨⟩
theorem tw5683978775287113040:True:=⟨⟩
theorem tw2185501696125617402:True:=⟨⟩
theorem tw5939058144863576553:True:=⟨⟩
theorem tw1432133976601662162:True:=⟨⟩
theorem tw1929945619578171999:True:=⟨⟩
theorem tw5547798760002279161:True:=⟨⟩
theorem tw18156273725577849370:True:=⟨⟩
theorem tw17092451486031385846:True:=⟨⟩
theorem tw4179530920917528410:True:=⟨⟩
theorem tw12336385706732368029:True:=⟨⟩
theorem tw17891057284207180282:True:=⟨⟩
theorem tw3838214434959174751:True:=⟨⟩
theorem tw12405874169319967163:True:=⟨⟩
theorem tw10524638281457432294:True:=⟨⟩
theorem tw16756865982451161484:True:=⟨⟩
theorem tw11181045733492946789:True:=⟨⟩
theorem tw5239894190616295485:True:=⟨⟩
theorem tw8090576191924319836:True:=⟨⟩
theorem tw7489155576695994710:True:=⟨⟩
theorem tw1307544393353837674:True:=⟨⟩
theorem tw15564757772380941064:True:=⟨⟩
theorem tw12787247848129112027:True:=⟨⟩
theorem tw10684809214552042153:True:=⟨⟩
theorem tw12122904934710819369:True:=⟨⟩
theorem tw14111624326486854553:True:=⟨⟩
theorem tw13933906266676546906:True:=⟨⟩
theorem tw13653971060541522046:True:=⟨⟩
theorem tw15897923850118637367:True:=⟨⟩
theorem tw12853316061292980410:True:=⟨⟩
theorem tw12061543299177029573:True:=⟨⟩
theorem tw1257907350139890037:True:=⟨⟩
theorem tw1833978884193336600:True:=⟨⟩
theorem tw1668805588411044060:True:=⟨⟩
theorem tw7316215279873089822:True:=⟨⟩
theorem tw15354881193779511765:True:=⟨⟩
theorem tw1305425585693916348:True:=⟨⟩
theorem tw5706365199043926465:True:=⟨⟩
theorem tw6347999874401537897:True:=⟨⟩
theorem tw4669057591001313601:True:=⟨⟩
theorem tw15509848142654012962:True:=⟨⟩
theorem tw10857282998366845410:True:=⟨⟩
theorem tw753945940515399995:True:=⟨⟩
theorem tw12236466604598214137:True:=⟨⟩
theorem tw7347646299108533977:True:=⟨⟩
theorem tw9307594452917991678:True:=⟨⟩
theorem tw12026496865941077550:True:=⟨⟩
theorem tw2822231583121631232:True:=⟨⟩
theorem tw4632030239678645568:True:=⟨⟩
theorem tw16421149194040586899:True:=⟨⟩
theorem tw1526894229836929839:True:=⟨⟩
theorem tw3615922994669712790:True:=⟨⟩
theorem tw14755972100840865495:True:=⟨⟩
theorem tw6740672625964947959:True:=⟨⟩
theorem tw6582188174513571749:True:=⟨⟩
theorem tw2794473791459032557:True:=⟨⟩
theorem tw14253553031324457403:True:=⟨⟩
theorem tw17786680949362927507:True:=⟨⟩
theorem tw1211844094716586931:True:=⟨⟩
theorem tw7798152515946231116:True:=⟨⟩
theorem tw6707319603169101688:True:=⟨⟩
theorem tw15752005787341956102:True:=⟨⟩
theorem tw3604233514763279588:True:=⟨⟩
theorem tw4785506101071631742:True:=⟨⟩
theorem tw16093653414049546652:True:=⟨⟩
theorem tw10443903830288354799:True:=⟨⟩
theorem tw12165476900871586242:True:=⟨⟩
theorem tw10642207142058779607:True:=⟨⟩
theorem tw1430962174773954531:True:=⟨⟩
theorem tw11760378887287209876:True:=⟨⟩
theorem tw15671971556226984373:True:=⟨⟩
theorem tw5045714089958690339:True:=⟨⟩
theorem tw9588437918258141548:True:=⟨⟩
theorem tw1215163792534042038:True:=⟨⟩
theorem tw5162449201439765780:True:=⟨⟩
theorem tw2560717606541366124:True:=⟨⟩
theorem tw12238792519942966742:True:=⟨⟩
theorem tw14448676985275196306:True:=⟨⟩
theorem tw7118287117881191995:True:=⟨⟩
theorem tw16494581419320832120:True:=⟨⟩
theorem tw8213811637231356896:True:=⟨⟩
theorem tw8342581387950924693:True:=⟨⟩
theorem tw17043358873854988142:True:=⟨⟩
theorem tw4462040801977109988:True:=⟨⟩
theorem tw10671343398998526044:True:=⟨⟩
theorem tw10924565332885000096:True:=⟨⟩
theorem tw12990989066046625634:True:=⟨⟩
theorem tw17027913018875874570:True:=⟨⟩
theorem tw6327597946878223732:True:=⟨⟩
theorem tw3271689728738765602:True:=⟨⟩
theorem tw12986390755210887185:True:=⟨⟩
theorem tw17954364556889068416:True:=⟨⟩
theorem tw14179209121697479999:True:=⟨⟩
theorem tw7551268745164000144:True:=⟨⟩
theorem tw6122866691113976738:True:=⟨⟩
theorem tw9041295689213433110:True:=⟨⟩
theorem tw1025760287752684455:True:=⟨⟩
theorem tw997664631286068619:True:=⟨⟩
theorem tw2026872144773375673:True:=⟨⟩
theorem tw9966687841130331282:True:=⟨⟩
theorem tw13923365406561264494:True:=⟨⟩
theorem tw16851634772028809753:True:=⟨⟩
theorem tw17978253909558296913:True:=⟨⟩
theorem tw17736613346533909080:True:=⟨⟩
theorem tw1050709158331754453:True:=⟨⟩
theorem tw8252637472669330942:True:=⟨⟩
theorem tw14031781232188458476:True:=⟨⟩
theorem tw7177849561239576040:True:=⟨⟩
theorem tw3351160364901708468:True:=⟨⟩
theorem tw3844024279026703357:True:=⟨⟩
theorem tw6133310561885090936:True:=⟨⟩
theorem tw17359472562608848581:True:=⟨⟩
theorem tw13767039193049406466:True:=⟨⟩
theorem tw7623885165842320591:True:=⟨⟩
theorem tw16349385243127615666:True:=⟨⟩
theorem tw7317323291525427346:True:=⟨⟩
theorem tw6476751086967210748:True:=⟨⟩
theorem tw5270464623877670997:True:=⟨⟩
theorem tw1771911735544343836:True:=⟨⟩
theorem tw12538107829063743212:True:=⟨⟩
theorem tw17764297079176011761:True:=⟨⟩
theorem tw7364622128290770580:True:=⟨⟩
theorem tw15270067636181877322:True:=⟨⟩
theorem tw11005999603720030416:True:=⟨⟩
theorem tw10626543267631353901:True:=⟨⟩
theorem tw8767151542991839747:True:=⟨⟩
theorem tw15060284073705538012:True:=⟨⟩
theorem tw2372233111941694619:True:=⟨⟩
theorem tw8416857220235465103:True:=⟨⟩
theorem tw5920178813569880808:True:=⟨⟩
theorem tw13925150339005124135:True:=⟨⟩
theorem tw238447711352821668:True:=⟨⟩
theorem tw14171401990535759626:True:=⟨⟩
theorem tw2131104721635360205:True:=⟨⟩
theorem tw8021488336197775:True:=⟨⟩
theorem tw2680656977759394848:True:=⟨⟩
theorem tw15271262406957309757:True:=⟨⟩
theorem tw2878675010942456310:True:=⟨⟩
theorem tw16989063008456802962:True:=⟨⟩
theorem tw7208340352979647767:True:=⟨⟩
theorem tw4925827022762468323:True:=⟨⟩
theorem tw7826443899884216204:True:=⟨⟩
theorem tw3156621366056172190:True:=⟨⟩
theorem tw16632697889459769377:True:=⟨⟩
theorem tw901955901204140318:True:=⟨⟩
theorem tw977691957141392938:True:=⟨⟩
theorem tw14971191204316762395:True:=⟨⟩
theorem tw2300453858095972701:True:=⟨⟩
theorem tw14924751666639040736:True:=⟨⟩
theorem tw13537824549585559560:True:=⟨⟩
theorem tw17707832003820305728:True:=⟨⟩
theorem tw11607787467894122695:True:=⟨⟩
theorem tw4178261746958464548:True:=⟨⟩
theorem tw18113688903836473457:True:=⟨⟩
theorem tw16180317692903276554:True:=⟨⟩
theorem tw5146573065956511504:True:=⟨⟩
theorem tw5771212635227818586:True:=⟨⟩
theorem tw15892224895309441451:True:=⟨⟩
theorem tw2913750833435349869:True:=⟨⟩
theorem tw330155496319486698:True:=⟨⟩
theorem tw15173366979564246683:True:=⟨⟩
theorem tw2076369439776739980:True:=⟨⟩
theorem tw16485079249861435747:True:=⟨⟩
theorem tw14981889246304208723:True:=⟨⟩
theorem tw1543226569501547384:True:=⟨⟩
theorem tw5945380854829731250:True:=⟨⟩
theorem tw4001169340733102210:True:=⟨⟩
theorem tw8410217238173842752:True:=⟨⟩
theorem tw2271113781966630560:True:=⟨⟩
theorem tw1010816023653474793:True:=⟨⟩
theorem tw17235890082806783455:True:=⟨⟩
theorem tw10184576100466523643:True:=⟨⟩
theorem tw11309083474812381601:True:=⟨⟩
theorem tw8248315624216759692:True:=⟨⟩
theorem tw11060503080652455658:True:=⟨⟩
theorem tw3026621974035347941:True:=⟨⟩
theorem tw15272866178808001886:True:=⟨⟩
theorem tw3669552989040741118:True:=⟨⟩
theorem tw2780138112500963073:True:=⟨⟩
theorem tw17974275135675784023:True:=⟨⟩
theorem tw3692965830546900392:True:=⟨⟩
theorem tw604301372592616398:True:=⟨⟩
theorem tw124579906396211971:True:=⟨⟩
theorem tw9540299111728397919:True:=⟨⟩
theorem tw18443453135096478237:True:=⟨⟩
theorem tw15761139135297570534:True:=⟨⟩
theorem tw16895544776218341658:True:=⟨⟩
theorem tw1107339348145982909:True:=⟨⟩
theorem tw471977470053299304:True:=⟨⟩
theorem tw14228102275155619514:True:=⟨⟩
theorem tw4115973798738251835:True:=⟨⟩
theorem tw2927709458639227744:True:=⟨⟩
theorem tw6880419655195569729:True:=⟨⟩
theorem tw7711327226130977004:True:=⟨⟩
theorem tw1240304842524433879:True:=⟨⟩
theorem tw6848140652748526806:True:=⟨⟩
theorem tw7784225687670581365:True:=⟨⟩
theorem tw906762532238706395:True:=⟨⟩
theorem tw15321244954093757278:True:=⟨⟩
theorem tw11673831523083137490:True:=⟨⟩
theorem tw17439761879875034860:True:=⟨⟩
theorem tw6112215248588426838:True:=⟨⟩
theorem tw5688467208337063316:True:=⟨⟩
theorem tw3526195881129687422:True:=⟨⟩
theorem tw1450145478017517605:True:=⟨⟩
theorem tw1305286455059194544:True:=⟨⟩
theorem tw2569722561985613186:True:=⟨⟩
theorem tw11535551663850178914:True:=⟨⟩
theorem tw14726971041358843536:True:=⟨⟩
theorem tw12562396131768953831:True:=⟨⟩
theorem tw13584919163864943408:True:=⟨⟩
theorem tw4187228424340264485:True:=⟨⟩
theorem tw4713770215593136329:True:=⟨⟩
theorem tw4797850638890047102:True:=⟨⟩
theorem tw13870351233779357719:True:=⟨⟩
theorem tw3419775207143453100:True:=⟨⟩
theorem tw8245100035661906225:True:=⟨⟩
theorem tw5575129259032151492:True:=⟨⟩
theorem tw15811669350086547624:True:=⟨⟩
theorem tw2257366708645617131:True:=⟨⟩
theorem tw5861059771829141023:True:=⟨⟩
theorem tw12684057930240876039:True:=⟨⟩
theorem tw15453858559647457043:True:=⟨⟩
theorem tw8650469651828839846:True:=⟨⟩
theorem tw257701783777971033:True:=⟨⟩
theorem tw12969243482328187565:True:=⟨⟩
theorem tw2980426699859973445:True:=⟨⟩
theorem tw8816327774009651597:True:=⟨⟩
theorem tw16750716218197232497:True:=⟨⟩
theorem tw17463478647760075312:True:=⟨⟩
theorem tw4991383881140458428:True:=⟨⟩
theorem tw10418151308847810906:True:=⟨⟩
theorem tw3242197841772289459:True:=⟨⟩
theorem tw6507080555180375563:True:=⟨⟩
theorem tw4117517539130970301:True:=⟨⟩
theorem tw9594228919237993028:True:=⟨⟩
theorem tw15790473234659430019:True:=⟨⟩
theorem tw8836492043930894003:True:=⟨⟩
theorem tw5557488513432386349:True:=⟨⟩
theorem tw9043631825942143545:True:=⟨⟩
theorem tw18063444903373470133:True:=⟨⟩
theorem tw6155754534684584850:True:=⟨⟩
theorem tw981223384771073339:True:=⟨⟩
theorem tw5190929279787246935:True:=⟨⟩
theorem tw17901366188372375928:True:=⟨⟩
theorem tw13071035104526632431:True:=⟨⟩
theorem tw9732485166958938628:True:=⟨⟩
theorem tw3634440113034648602:True:=⟨⟩
theorem tw1837639620418267082:True:=⟨⟩
theorem tw6543280322158229823:True:=⟨⟩
theorem tw14960208021732247765:True:=⟨⟩
theorem tw3303230860883071105:True:=⟨⟩
theorem tw885109136706230940:True:=⟨⟩
theorem tw12044555515665102548:True:=⟨⟩
theorem tw14417015799410957920:True:=⟨⟩
theorem tw4334706134264122961:True:=⟨⟩
theorem tw14530117190252870098:True:=⟨⟩
theorem tw11500899358624807690:True:=⟨⟩
theorem tw15590885761552719664:True:=⟨⟩
theorem tw1008901440435212883:True:=⟨⟩
theorem tw15122311063084225922:True:=⟨⟩
theorem tw717202684288660608:True:=⟨⟩
theorem tw17699244282683522888:True:=⟨⟩
theorem tw9061534103479078433:True:=⟨⟩
theorem tw5944044104789604262:True:=⟨⟩
theorem tw6914374587234257311:True:=⟨⟩
theorem tw4750895124512378454:True:=⟨⟩
theorem tw16041109581868416067:True:=⟨⟩
theorem tw14113172646741585854:True:=⟨⟩
theorem tw9046863066507579496:True:=⟨⟩
theorem tw16556215175930869783:True:=⟨⟩
theorem tw5968659464757621560:True:=⟨⟩
theorem tw15338601281160584150:True:=⟨⟩
theorem tw639058178733105278:True:=⟨⟩
theorem tw5954512996126574054:True:=⟨⟩
theorem tw8580032844865095669:True:=⟨⟩
theorem tw12612088975749379595:True:=⟨⟩
theorem tw16718098660272624335:True:=⟨⟩
theorem tw14431068456933237836:True:=⟨⟩
theorem tw13352165441115316256:True:=⟨⟩
theorem tw10530222579774268994:True:=⟨⟩
theorem tw9530388329605336565:True:=⟨⟩
theorem tw6621331363107496018:True:=⟨⟩
theorem tw15296410210341990240:True:=⟨⟩
theorem tw6423324160620816070:True:=⟨⟩
theorem tw15697769357194704189:True:=⟨⟩
theorem tw1147339308385173632:True:=⟨⟩
theorem tw4036867502571419959:True:=⟨⟩
theorem tw17793947221508411462:True:=⟨⟩
theorem tw3754598805825874024:True:=⟨⟩
theorem tw3352093893257581293:True:=⟨⟩
theorem tw14347113003751706384:True:=⟨⟩
theorem tw6279994257080766651:True:=⟨⟩
theorem tw1892951376047984078:True:=⟨⟩
theorem tw10747375593470846156:True:=⟨⟩
theorem tw695967531942416321:True:=⟨⟩
theorem tw6681240728859082520:True:=⟨⟩
theorem tw1296809788041971301:True:=⟨⟩
theorem tw18065087460628226609:True:=⟨⟩
theorem tw13639784269399604196:True:=⟨⟩
theorem tw18195161980401268965:True:=⟨⟩
theorem tw17948695273261511480:True:=⟨⟩
theorem tw15479188676604406329:True:=⟨⟩
theorem tw18344031168545147568:True:=⟨⟩
theorem tw6239937464153108964:True:=⟨⟩
theorem tw6575801665498219302:True:=⟨⟩
theorem tw1046873404206658674:True:=⟨⟩
theorem tw4630701116536035187:True:=⟨⟩
theorem tw1527983058744660133:True:=⟨⟩
theorem tw1655874928216888516:True:=⟨⟩
theorem tw10586557622594911096:True:=⟨⟩
theorem tw15844374080618685135:True:=⟨⟩
theorem tw13505033235352209817:True:=⟨⟩
theorem tw5360732557081287197:True:=⟨⟩
theorem tw13051566134867211820:True:=⟨⟩
theorem tw11210968968318344332:True:=⟨⟩
theorem tw2802609497165170350:True:=⟨⟩
theorem tw1738723952235449191:True:=⟨⟩
theorem tw9393264060042514587:True:=⟨⟩
theorem tw4064499553829806360:True:=⟨⟩
theorem tw14965977034698545036:True:=⟨⟩
theorem tw4099514411076133937:True:=⟨⟩
theorem tw16583397607317843991:True:=⟨⟩
theorem tw2792937108486615491:True:=⟨⟩
theorem tw5611629491995910580:True:=⟨⟩
theorem tw8278456604601238296:True:=⟨⟩
theorem tw1396447902234548920:True:=⟨⟩
theorem tw10330421472561200414:True:=⟨⟩
theorem tw1794209339250299008:True:=⟨⟩
theorem tw13738198527266788962:True:=⟨⟩
theorem tw3585406401390776893:True:=⟨⟩
theorem tw12347242164996711798:True:=⟨⟩
theorem tw6357015326957433426:True:=⟨⟩
theorem tw14819080291411099926:True:=⟨⟩
theorem tw1448021683012949882:True:=⟨⟩
theorem tw12223865305255741137:True:=⟨⟩
theorem tw5333451676178178709:True:=⟨⟩
theorem tw12571202400251423099:True:=⟨⟩
theorem tw4157635218867073669:True:=⟨⟩
theorem tw1623841321818229144:True:=⟨⟩
theorem tw14077052950165755145:True:=⟨⟩
theorem tw1978549352629984643:True:=⟨⟩
theorem tw3161716922717251096:True:=⟨⟩
theorem tw4444830914317278530:True:=⟨⟩
theorem tw11012358312403900441:True:=⟨⟩
theorem tw6501226832947109340:True:=⟨⟩
theorem tw4580213890485930764:True:=⟨⟩
theorem tw9116400142761819889:True:=⟨⟩
theorem tw210741579854061901:True:=⟨⟩
theorem tw2278055238651789853:True:=⟨⟩
theorem tw1811599838966994817:True:=⟨⟩
theorem tw1741992599094875802:True:=⟨⟩
theorem tw9221160834546597778:True:=⟨⟩
theorem tw2448870706854197495:True:=⟨⟩
theorem tw11384582913148816807:True:=⟨⟩
theorem tw12382524737395358215:True:=⟨⟩
theorem tw9172153519455929612:True:=⟨⟩
theorem tw17973849701975021932:True:=⟨⟩
theorem tw7691493642273100205:True:=⟨⟩
theorem tw16774796116395802487:True:=⟨⟩
theorem tw14375640208791023794:True:=⟨⟩
theorem tw12030231719626993771:True:=⟨⟩
theorem tw11914564654135271740:True:=⟨⟩
theorem tw17184143086848627453:True:=⟨⟩
theorem tw10917881752025634246:True:=⟨⟩
theorem tw10861445820734739572:True:=⟨⟩
theorem tw8424079334735725799:True:=⟨⟩
theorem tw3049474473504141595:True:=⟨⟩
theorem tw3704728867817703873:True:=⟨⟩
theorem tw62836327816556747:True:=⟨⟩
theorem tw9187125423199775927:True:=⟨⟩
theorem tw996080734821944116:True:=⟨⟩
theorem tw12463858079119194829:True:=⟨⟩
theorem tw6413108763690799217:True:=⟨⟩
theorem tw198035656581313431:True:=⟨⟩
theorem tw10511186044986388792:True:=⟨⟩
theorem tw17593069512053225408:True:=⟨⟩
theorem tw2059410098447559281:True:=⟨⟩
theorem tw4531488420956876773:True:=⟨⟩
theorem tw6711951335310270135:True:=⟨⟩
theorem tw12781828254219080817:True:=⟨⟩
theorem tw11316301266078409629:True:=⟨⟩
theorem tw3709549769918750441:True:=⟨⟩
theorem tw17722420046063972477:True:=⟨⟩
theorem tw13834282244650669336:True:=⟨⟩
theorem tw3056074263934053642:True:=⟨⟩
theorem tw10279985357148226668:True:=⟨⟩
theorem tw5850995036973982617:True:=⟨⟩
theorem tw12961637773337637605:True:=⟨⟩
theorem tw8322397548898800051:True:=⟨⟩
theorem tw14509333991691441900:True:=⟨⟩
theorem tw15129464977090044237:True:=⟨⟩
theorem tw7826280372254850413:True:=⟨⟩
theorem tw10530945154049078039:True:=⟨⟩
theorem tw13976533353036261421:True:=⟨⟩
theorem tw13083387837417733652:True:=⟨⟩
theorem tw16248107461990322818:True:=⟨⟩
theorem tw15632701585944350824:True:=⟨⟩
theorem tw11599782932045988894:True:=⟨⟩
theorem tw16157598516709462620:True:=⟨⟩
theorem tw7577283019617946905:True:=⟨⟩
theorem tw957670427503256309:True:=⟨⟩
theorem tw4048263236327177369:True:=⟨⟩
theorem tw8806151841239194061:True:=⟨⟩
theorem tw9160533545837119222:True:=⟨⟩
theorem tw14079415809537101536:True:=⟨⟩
theorem tw7261276341166824319:True:=⟨⟩
theorem tw15374854733965200089:True:=⟨⟩
theorem tw13310439171616397214:True:=⟨⟩
theorem tw7248893754523403152:True:=⟨⟩
theorem tw6462057730114775757:True:=⟨⟩
theorem tw17979580070261624384:True:=⟨⟩
theorem tw115684660846200782:True:=⟨⟩
theorem tw3677638831005220057:True:=⟨⟩
theorem tw17320602041931343515:True:=⟨⟩
theorem tw11675352019150927669:True:=⟨⟩
theorem tw3017889728623169252:True:=⟨⟩
theorem tw4073485523670417376:True:=⟨⟩
theorem tw5359587405487331328:True:=⟨⟩
theorem tw13598917631396910051:True:=⟨⟩
theorem tw9096760493869401182:True:=⟨⟩
theorem tw5898594230689883788:True:=⟨⟩
theorem tw9721885262939799754:True:=⟨⟩
theorem tw13157921885327755322:True:=⟨⟩
theorem tw17661953058298634347:True:=⟨⟩
theorem tw14735054849823357656:True:=⟨⟩
theorem tw12385373672941261264:True:=⟨⟩
theorem tw3806170078800460647:True:=⟨⟩
theorem tw3408281244717874662:True:=⟨⟩
theorem tw13506077134798917149:True:=⟨⟩
theorem tw5725491476292682127:True:=⟨⟩
theorem tw4811995094289885567:True:=⟨⟩
theorem tw1293636944206008590:True:=⟨⟩
theorem tw3976015019291502846:True:=⟨⟩
theorem tw17833350105949142861:True:=⟨⟩
theorem tw14643791582269262702:True:=⟨⟩
theorem tw16603659835564139901:True:=⟨⟩
theorem tw761888197064202616:True:=⟨⟩
theorem tw13415645678459319041:True:=⟨⟩
theorem tw873582708286581457:True:=⟨⟩
theorem tw11238097518834155331:True:=⟨⟩
theorem tw6327762903536764518:True:=⟨⟩
theorem tw7969282872456107276:True:=⟨⟩
theorem tw7581923477882359491:True:=⟨⟩
theorem tw17226467871806757186:True:=⟨⟩
theorem tw17190788046484377627:True:=⟨⟩
theorem tw15199445844855730559:True:=⟨⟩
theorem tw14952116091011128374:True:=⟨⟩
theorem tw9708420563912433778:True:=⟨⟩
theorem tw14659325333183039324:True:=⟨⟩
theorem tw17917705907523218021:True:=⟨⟩
theorem tw15454044997940719242:True:=⟨⟩
theorem tw17939638439833557473:True:=⟨⟩
theorem tw14729084412610197004:True:=⟨⟩
theorem tw10805820438266370245:True:=⟨⟩
theorem tw3212059726883815209:True:=⟨⟩
theorem tw6303398587980619495:True:=⟨⟩
theorem tw4553874434708497733:True:=⟨⟩
theorem tw6369867477863874089:True:=⟨⟩
theorem tw8474895136189401526:True:=⟨⟩
theorem tw2700757077463408927:True:=⟨⟩
theorem tw12637127830956229142:True:=⟨⟩
theorem tw15046614029649244946:True:=⟨⟩
theorem tw11513523498219325397:True:=⟨⟩
theorem tw17918871434879027414:True:=⟨⟩
theorem tw5912623846319886001:True:=⟨⟩
theorem tw13582147454015632383:True:=⟨⟩
theorem tw8280689904542544944:True:=⟨⟩
theorem tw9372166634391018609:True:=⟨⟩
theorem tw2082460798958566174:True:=⟨⟩
theorem tw7636579228323809619:True:=⟨⟩
theorem tw3721283114097752514:True:=⟨⟩
theorem tw14384956185365007633:True:=⟨⟩
theorem tw3218005775330375077:True:=⟨⟩
theorem tw6439467606708576868:True:=⟨⟩
theorem tw15854270786550003686:True:=⟨⟩
theorem tw8597082001752109902:True:=⟨⟩
theorem tw13661213922799828492:True:=⟨⟩
theorem tw7581625409662590524:True:=⟨⟩
theorem tw13486794116239942547:True:=⟨⟩
theorem tw16697496219306110153:True:=⟨⟩
theorem tw12083551393614688055:True:=⟨⟩
theorem tw12480010065683980586:True:=⟨⟩
theorem tw5568824606943731442:True:=⟨⟩
theorem tw16269094207174096633:True:=⟨⟩
theorem tw6555442449706758710:True:=⟨⟩
theorem tw3399046053535527167:True:=⟨⟩
theorem tw17259989155628416029:True:=⟨⟩
theorem tw9138412727575588055:True:=⟨⟩
theorem tw5969112466762881230:True:=⟨⟩
theorem tw9891699520288416642:True:=⟨⟩
theorem tw13987804336042698189:True:=⟨⟩
theorem tw13593701760991264744:True:=⟨⟩
theorem tw18097719241060364498:True:=⟨⟩
theorem tw1730324662594732791:True:=⟨⟩
theorem tw5481314907380466693:True:=⟨⟩
theorem tw17325007919139154964:True:=⟨⟩
theorem tw12802760915674435475:True:=⟨⟩
theorem tw10903125507313775736:True:=⟨⟩
theorem tw13198741020200929499:True:=⟨⟩
theorem tw6209402406403823640:True:=⟨⟩
theorem tw13111761946570332661:True:=⟨⟩
theorem tw5708099922031180557:True:=⟨⟩
theorem tw13139952258709042945:True:=⟨⟩
theorem tw18078215364868786174:True:=⟨⟩
theorem tw8086441514836349272:True:=⟨⟩
theorem tw3591970201866545630:True:=⟨⟩
theorem tw18154891889972804022:True:=⟨⟩
theorem tw12857426060168363323:True:=⟨⟩
theorem tw13870062584396766875:True:=⟨⟩
theorem tw2612333837937074943:True:=⟨⟩
theorem tw12540018763282121347:True:=⟨⟩
theorem tw4483018485475637904:True:=⟨⟩
theorem tw3793462661057828075:True:=⟨⟩
theorem tw8480972062274251524:True:=⟨⟩
theorem tw14291182948620310445:True:=⟨⟩
theorem tw2575711175096378128:True:=⟨⟩
theorem tw2564537010982801535:True:=⟨⟩
theorem tw3353767071951380034:True:=⟨⟩
theorem tw9060096686602685153:True:=⟨⟩
theorem tw16791128445852453361:True:=⟨⟩
theorem tw826527722974265565:True:=⟨⟩
theorem tw3500887965761675688:True:=⟨⟩
theorem tw2799036908286812169:True:=⟨⟩
theorem tw6887835844759592171:True:=⟨⟩
theorem tw4766606213936207916:True:=⟨⟩
theorem tw18268227206213179169:True:=⟨⟩
theorem tw6205464769183650354:True:=⟨⟩
theorem tw9900654699443116119:True:=⟨⟩
theorem tw1175092091715742702:True:=⟨⟩
theorem tw7796206694971108621:True:=⟨⟩
theorem tw14314081060084284543:True:=⟨⟩
theorem tw10127473410720453816:True:=⟨⟩
theorem tw6641742691332238137:True:=⟨⟩
theorem tw11106919115788436064:True:=⟨⟩
theorem tw7587359580215554601:True:=⟨⟩
theorem tw2032543033472252152:True:=⟨⟩
theorem tw10227030146183839236:True:=⟨⟩
theorem tw3301903232009687712:True:=⟨⟩
theorem tw10688378259446553063:True:=⟨⟩
theorem tw16686259228460274307:True:=⟨⟩
theorem tw8300637017339532780:True:=⟨⟩
theorem tw5820781232472586813:True:=⟨⟩
theorem tw12212380988034458196:True:=⟨⟩
theorem tw17579025636646478410:True:=⟨⟩
theorem tw15713868383367889930:True:=⟨⟩
theorem tw9368444609340283169:True:=⟨⟩
theorem tw14677231046333857634:True:=⟨⟩
theorem tw2807324625824223411:True:=⟨⟩
theorem tw987253026982656074:True:=⟨⟩
theorem tw13538406594162107389:True:=⟨⟩
theorem tw7606160890316500859:True:=⟨⟩
theorem tw799777077003560019:True:=⟨⟩
theorem tw5159185278550007400:True:=⟨⟩
theorem tw9335423756259001386:True:=⟨⟩
theorem tw8770607253035608728:True:=⟨⟩
theorem tw9537990068813546550:True:=⟨⟩
theorem tw9500720211875373324:True:=⟨⟩
theorem tw1604375087027822036:True:=⟨⟩
theorem tw3326583022103247777:True:=⟨⟩
theorem tw15518356668669994491:True:=⟨⟩
theorem tw10995020934977699120:True:=⟨⟩
theorem tw14663854572109061524:True:=⟨⟩
theorem tw8145313388581822439:True:=⟨⟩
theorem tw10272008865126586230:True:=⟨⟩
theorem tw5100975785695152536:True:=⟨⟩
theorem tw7751490944201647961:True:=⟨⟩
theorem tw9199400282534074882:True:=⟨⟩
theorem tw251168493842727542:True:=⟨⟩
theorem tw16022487903958050532:True:=⟨⟩
theorem tw11038084542628327569:True:=⟨⟩
theorem tw14525008090199397228:True:=⟨⟩
theorem tw17245725492224353596:True:=⟨⟩
theorem tw838556466681798193:True:=⟨⟩
theorem tw18194649371363769981:True:=⟨⟩
theorem tw1662094946578712317:True:=⟨⟩
theorem tw17846379764673683938:True:=⟨⟩
theorem tw15846485785727054151:True:=⟨⟩
theorem tw2088790098937647881:True:=⟨⟩
theorem tw11644985092016429118:True:=⟨⟩
theorem tw12768582536840680230:True:=⟨⟩
theorem tw6529067688433482745:True:=⟨⟩
theorem tw748149187538724641:True:=⟨⟩
theorem tw17133608913367462611:True:=⟨⟩
theorem tw17460680748826913793:True:=⟨⟩
theorem tw7530063535693407055:True:=⟨⟩
theorem tw15013083232864322099:True:=⟨⟩
theorem tw5058007368267668316:True:=⟨⟩
theorem tw14927630373176371319:True:=⟨⟩
theorem tw9361271910349972483:True:=⟨⟩
theorem tw11340933611163520391:True:=⟨⟩
theorem tw18421079799254212872:True:=⟨⟩
theorem tw4988139480266079192:True:=⟨⟩
theorem tw16145758369855077985:True:=⟨⟩
theorem tw9846508814454223313:True:=⟨⟩
theorem tw4803301524969495598:True:=⟨⟩
theorem tw10501040334302374893:True:=⟨⟩
theorem tw16778082943211999826:True:=⟨⟩
theorem tw6938601921418430878:True:=⟨⟩
theorem tw7810395960506004727:True:=⟨⟩
theorem tw14068565163709467969:True:=⟨⟩
theorem tw13125339067316032245:True:=⟨⟩
theorem tw5867685289969942524:True:=⟨⟩
theorem tw9180884327369088417:True:=⟨⟩
theorem tw12988243191092619299:True:=⟨⟩
theorem tw9104513383676936115:True:=⟨⟩
theorem tw1050825236841125024:True:=⟨⟩
theorem tw12011134064251992976:True:=⟨⟩
theorem tw5864484284630362934:True:=⟨⟩
theorem tw5361001238644416570:True:=⟨⟩
theorem tw12690193791651834147:True:=⟨⟩
theorem tw4573807464836461858:True:=⟨⟩
theorem tw15101422108417281561:True:=⟨⟩
theorem tw10846263845634879256:True:=⟨⟩
theorem tw1495553242421499660:True:=⟨⟩
theorem tw11306109792591004812:True:=⟨⟩
theorem tw4049138910170047373:True:=⟨⟩
theorem tw898691810242741680:True:=⟨⟩
theorem tw3625135380467920257:True:=⟨⟩
theorem tw10897821838017941927:True:=⟨⟩
theorem tw9594325712706648572:True:=⟨⟩
theorem tw2220783733076799773:True:=⟨⟩
theorem tw2825003682985032018:True:=⟨⟩
theorem tw381632732612773703:True:=⟨⟩
theorem tw11039163999734150060:True:=⟨⟩
theorem tw5505332558737675920:True:=⟨⟩
theorem tw12884591507082969475:True:=⟨⟩
theorem tw9846803247622521126:True:=⟨⟩
theorem tw7112380818877346699:True:=⟨⟩
theorem tw12182310775543803801:True:=⟨⟩
theorem tw10467446253169472007:True:=⟨⟩
theorem tw10736044011173031947:True:=⟨⟩
theorem tw12696710793259610147:True:=⟨⟩
theorem tw6236588985802302561:True:=⟨⟩
theorem tw39935864262516149:True:=⟨⟩
theorem tw1306788083133818037:True:=⟨⟩
theorem tw3700239575073459453:True:=⟨⟩
theorem tw6933985031527655393:True:=⟨⟩
theorem tw4829214244734151935:True:=⟨⟩
theorem tw8841975695866081122:True:=⟨⟩
theorem tw10656244751535497972:True:=⟨⟩
theorem tw6424124972576484998:True:=⟨⟩
theorem tw3346060146301640042:True:=⟨⟩
theorem tw5437443609225260515:True:=⟨⟩
theorem tw12500602817677374629:True:=⟨⟩
theorem tw177257214637103567:True:=⟨⟩
theorem tw14421656573527413356:True:=⟨⟩
theorem tw12778011470416724231:True:=⟨⟩
theorem tw12254090465079525796:True:=⟨⟩
theorem tw4096209916827152412:True:=⟨⟩
theorem tw13569176247580837492:True:=⟨⟩
theorem tw3607427290772561018:True:=⟨⟩
theorem tw8839403977857061014:True:=⟨⟩
theorem tw17226653754029282367:True:=⟨⟩
theorem tw15042195457614555338:True:=⟨⟩
theorem tw5468161347355754247:True:=⟨⟩
theorem tw2042761076030830210:True:=⟨⟩
theorem tw9593094771618420062:True:=⟨⟩
theorem tw6107552329882188869:True:=⟨⟩
theorem tw12793224650098631100:True:=⟨⟩
theorem tw16614253380810916385:True:=⟨⟩
theorem tw4918430437565292852:True:=⟨⟩
theorem tw7797052519883946016:True:=⟨⟩
theorem tw16735164294907705413:True:=⟨⟩
theorem tw16465922487754568711:True:=⟨⟩
theorem tw2150135117928269744:True:=⟨⟩
theorem tw1458653775383140129:True:=⟨⟩
theorem tw7412931187533448863:True:=⟨⟩
theorem tw12719062299522469588:True:=⟨⟩
theorem tw14091708616134987730:True:=⟨⟩
theorem tw7934722772188143585:True:=⟨⟩
theorem tw173118413840594842:True:=⟨⟩
theorem tw3682863981166968776:True:=⟨⟩
theorem tw16134798950578719456:True:=⟨⟩
theorem tw17697904360630610121:True:=⟨⟩
theorem tw16796896876469616136:True:=⟨⟩
theorem tw10690283753006864979:True:=⟨⟩
theorem tw18059275656991184227:True:=⟨⟩
theorem tw1268939047144981037:True:=⟨⟩
theorem tw3273644015200004765:True:=⟨⟩
theorem tw16452113847221820664:True:=⟨⟩
theorem tw5808856949967076371:True:=⟨⟩
theorem tw6655559987126209453:True:=⟨⟩
theorem tw12487793095238341444:True:=⟨⟩
theorem tw11162699233914743964:True:=⟨⟩
theorem tw14326303337553338243:True:=⟨⟩
theorem tw15980102835795819648:True:=⟨⟩
theorem tw1912512631177238336:True:=⟨⟩
theorem tw15923199285539944563:True:=⟨⟩
theorem tw6016312996910654489:True:=⟨⟩
theorem tw898931117918844111:True:=⟨⟩
theorem tw9892937130442247877:True:=⟨⟩
theorem tw16276759054714404210:True:=⟨⟩
theorem tw5665416448403834472:True:=⟨⟩
theorem tw1327321540817036486:True:=⟨⟩
theorem tw6666559043179924279:True:=⟨⟩
theorem tw12737566823884404212:True:=⟨⟩
theorem tw13642627431074733524:True:=⟨⟩
theorem tw5946609750684043878:True:=⟨⟩
theorem tw14570266899098028599:True:=⟨⟩
theorem tw16184847690366691108:True:=⟨⟩
theorem tw7608669079472480322:True:=⟨⟩
theorem tw1053938986193733499:True:=⟨⟩
theorem tw16962866602598701259:True:=⟨⟩
theorem tw5414118217843581761:True:=⟨⟩
theorem tw17501279599382823539:True:=⟨⟩
theorem tw9827951136399137436:True:=⟨⟩
theorem tw12136834209697377706:True:=⟨⟩
theorem tw4626745151778491861:True:=⟨⟩
theorem tw15991666130785900792:True:=⟨⟩
theorem tw4474734756274002915:True:=⟨⟩
theorem tw2844680388592728552:True:=⟨⟩
theorem tw18149051749019424573:True:=⟨⟩
theorem tw2269513273914215736:True:=⟨⟩
theorem tw4363065643242424155:True:=⟨⟩
theorem tw11370833633470697376:True:=⟨⟩
theorem tw5908002024607422067:True:=⟨⟩
theorem tw14362563580960605921:True:=⟨⟩
theorem tw17503212417783600727:True:=⟨⟩
theorem tw16824102185691031038:True:=⟨⟩
theorem tw16002539509434967391:True:=⟨⟩
theorem tw3880439738530373487:True:=⟨⟩
theorem tw3684583482850615866:True:=⟨⟩
theorem tw3417288221038106552:True:=⟨⟩
theorem tw1000086580238334791:True:=⟨⟩
theorem tw11508863078218051789:True:=⟨⟩
theorem tw1656292471067475253:True:=⟨⟩
theorem tw13962101214711554594:True:=⟨⟩
theorem tw14861878946988918645:True:=⟨⟩
theorem tw9798858320935473453:True:=⟨⟩
theorem tw1006531058950013419:True:=⟨⟩
theorem tw7584543492156804049:True:=⟨⟩
theorem tw6730799606346601095:True:=⟨⟩
theorem tw2173298748849500935:True:=⟨⟩
theorem tw14733826399840321388:True:=⟨⟩
theorem tw14946080225564071365:True:=⟨⟩
theorem tw2163869542195100452:True:=⟨⟩
theorem tw10380440524679034224:True:=⟨⟩
theorem tw13003292695343010581:True:=⟨⟩
theorem tw12692144204613469405:True:=⟨⟩
theorem tw1529220930436989550:True:=⟨⟩
theorem tw14525949121743038564:True:=⟨⟩
theorem tw11856568351904390074:True:=⟨⟩
theorem tw1351866352697404703:True:=⟨⟩
theorem tw10599847424203967596:True:=⟨⟩
theorem tw15155796794792422634:True:=⟨⟩
theorem tw3638351932773456767:True:=⟨⟩
theorem tw4266474322679237013:True:=⟨⟩
theorem tw1977715418491230762:True:=⟨⟩
theorem tw3934104503662352267:True:=⟨⟩
theorem tw14420234992866001998:True:=⟨⟩
theorem tw8089335279518500422:True:=⟨⟩
theorem tw15550295356842831342:True:=⟨⟩
theorem tw14415810316836545703:True:=⟨⟩
theorem tw2388933935920836306:True:=⟨⟩
theorem tw2251585011891715662:True:=⟨⟩
theorem tw3569215846667529287:True:=⟨⟩
theorem tw1672312568993292068:True:=⟨⟩
theorem tw16280086579995693796:True:=⟨⟩
theorem tw18149267477751133311:True:=⟨⟩
theorem tw2826497804329787899:True:=⟨⟩
theorem tw18315401575844057273:True:=⟨⟩
theorem tw3340469707322916118:True:=⟨⟩
theorem tw16199722058092477377:True:=⟨⟩
theorem tw5839811628954936531:True:=⟨⟩
theorem tw13854082105827200728:True:=⟨⟩
theorem tw3596206658881992321:True:=⟨⟩
theorem tw16961107188082410440:True:=⟨⟩
theorem tw1668599647371556665:True:=⟨⟩
theorem tw15079852113623859005:True:=⟨⟩
end PySem.W.Fast
set_option Elab.async false in
set_option maxRecDepth 100000 in
set_option maxHeartbeats 0 in
open_shared Top for PySem.Challenge.pw_wakefew_k53_bells_that_ring_once leaving 1
set_option Elab.async false in
set_option maxRecDepth 100000 in
set_option maxHeartbeats 0 in
open_top Hd for PySem.Challenge.rw_wakefew_k53_bells_that_ring_once
open PySem.W renaming Frag → At,findIn → AT,keepIn → ES,mg_of → Gc,nsIn → IN,mg_none_of → Mc,kia_one → Pe,emptyDict → Po,makesIn → Sa,instObj → Tl,specialIn → UV,binds_K → WA,plainGet → Aam,callWith_K → Aav,hasDictIn → AaN,methodCall_KW → AaW,fnOf → AaX,plainGet_of → Abm,readsIn → Abp,findCls → Abq,lookIn → AbB,methodObj → AbE,plainOver → AbH,mem_lookup → Ab4
open List renaming getElem?_eq_getElem → AC,mem_cons → AD,length_map → AE,mem_cons_of_mem → AL,mem_map → AN,mem_singleton → AR,getElem?_eq_some_iff → AS,mem_cons_self → BC,mem_filter → B0,mem_map_of_mem → Cc,mem_of_getElem? → Cf,size_toArray → Cn,mem_append → Co,mem_append_right → CC,map_append → CS,length_append → Da,map_cons → EN,nodup_cons → EO,mem_append_left → EU,getElem?_map → Fa,length_cons → FF,nodup_append → Go,map_map → GM,toArray → ID,filter_sublist → IR,length_filter_le → JJ,length_take → KM,mem_flatMap → Lm,getD_eq_getElem?_getD → Lo,flatMap_append → LG,lookup_cons → LP,replicate → Mn,any_eq_true → M2,pairwise_map → Nl,append_nil → NG,not_mem_nil → NH,pairwise_iff_getElem → NJ,flatMap_cons → NL,filter_cons → Op,append_assoc → Os,Nodup → OE,pairwise_cons → OR,getElem_of_mem → Pf,getElem?_eq_none → Ps,filter_append → Q3,getElem?_append_right → Re,find?_cons → Sc,find?_eq_none → So,take_length → SO,pairwise_append → SZ,filter_congr → Tk,map_congr_left → Tu,take_append_drop → TW,concat_eq_append → TZ,mem_of_find?_eq_some → Uf,take_add_one → We,lookup → Zp,length_replicate → ZB,perm_ext_iff_of_nodup → Aag,getElem?_set_ne → Aah,getElem?_append_left → Aak,filter_eq_self → Aar,getElem?_replicate → Aaw,eraseIdx_cons_succ → Aay,length_nil → Aaz,filter_nil → AaE,filter_map → AaF,getElem?_set_self → AaJ,eraseIdxIfInBounds_toArray → AaO,ext_getElem? → AaQ,getElem?_set → AaS,length_singleton → AaY,map_nil → AaZ,getElem_mem → Aa7,getElem_map → Aa8,getElem?_of_mem → Aba,mem_of_mem_take → Abb,any_cons → Abd,filterMap_cons → Abg,length → Abn,mem_range → AbA,range → AbF,getElem_take → AbN,foldl_append → AbO,not_lt → AbR,Perm → Ab9
open PySem renaming Shared → AM,PyData → BB,wpAny_bind → BS,FuncData → Cs,starEach → DO,sizeLine → EM,Program → Fk,mainGlobals → FB,wpAny_pure → GS,Around → IS,compareOp → ON,wpAny_mono → Pc,wpAny_truthy_bool → Rs,wpAny_Call_Name_kw → Sk,keywordEach → SI,backTo → SS,sysModules → Th,boot_len → T0,wpAny_passesOwn → UF,attributeBase → WE,mem_of_lookup → WF,unitsOf → YA,binaryOp → YE,tupleKind_room_in1 → YI,Builtin → YU,getMethod → Aaj,wpAny_eqBool_int → Aal,backToKw → Aao,wpAny_call_entry → Aap,wpAny_Call_method0_late → Aax,wpAny_holding → AaD,assignEach → AaL,sizeLine_eq → AaM,bootBuiltins → AaV,behindInMarks → Abc,wpAny_newList → Abe,wpAny_execs_nil → Abi,letOwnedTupleGo → Abj,standAt → Abk,holding → Abl,evalArgs_none → Abo,codeAny_mono → Abv,callWith → Abw,call_meetsIn → Abx,foldedSetIterable → AbG,wpAny_pyIter_slot → AbL,codeAny → AbQ,Paired → AbT,tupleKind → AbV,Arguments → AbY,builtinsNs → Ab1,call_meets → Ab2,valueAt → Ab5,callerA → Ab6,relabel → Ab7,NameKind → Ab8
open Nat renaming le_refl → BN,lt_of_lt_of_le → DD,ne_of_lt → ET,zero_le → KF,le_of_ble_eq_true → LF,le_trans → Mo,lt_irrefl → Q2,lt_succ_of_lt → Wp,le_succ → Zs,lt_succ_self → Aan,le_of_lt → Aat,testBit_eq_decide_div_mod_eq → AaI,testBit_two_pow → Abs,lt_of_le_of_lt → Aby,pow_succ → Abz
open PySem.Heap renaming get?_push_of_some → BY,lt_size → Db,get?_push_size → Ev,size_push → WJ,get?_update_other → WS,get?_update_self → Aa2,get?_update_ne → Abr,SameBut → Abt
open Option.some renaming inj → Do
open PySem.PyData renaming str → EQ,canLay0 → LM,int → Pd,eqv → Sm,depthAll → AaH,canLayAll0 → AaP
open Bool renaming false_ne_true → FM,false_eq_true → IF,eq_iff_iff → NE,and_eq_true → SL,not_eq_true → Aaq,not_eq_true' → AbM
open Or renaming inl → FS
open PySem.F renaming plainAttrs_list → GG,plainAttrs_dict → Lu,slot_dict_pop → On,type_dict_pop → PM,slot_list_append → PP,type_list_append → P3,slot_list_extend → Su,type_list_extend → SB,slot_enumerate_iter → Aae,slot_dict_get → Aa0
open PySem.PassesOwn renaming never → KB
open PySem.Builtin.Int renaming intBits → Ll,intTooBig → Aa1
open PyProof.Rows renaming boot_isinstance → LB,seqObj → MW,boot_sorted → Q1,boot_list → XV,callWith_type1 → Zl,get?_update_seq → Aaa,listUpdate_at → Aaf,namesOf → Aai,boot_max → Aa4,boot_min → Aa5,seqEpoch_at → AbS,AllBare → AbW,take_snoc → AbZ
open PySem.Obj renaming mapSeq → LH
open PySem.Value renaming ref → LS,none → Of,type → Aas,int → AbD,str → AbU,bool → Ab0
open Ne renaming symm → Me
open Array renaming getD_eq_getD_getElem? → Na,length_toList → Abh
open PySem.Builtin renaming bitXor → No,bitOr → RS,bitNot → WP,bitAnd → AaU
open Option renaming map_eq_some_iff → NO,filter_some → SC,isSome_iff_exists → VT,map_eq_none_iff → W1,map_some → Aac,isSome_map → AbJ,some → Aca
open Int renaming toNat_natCast → OF,le_of_lt → OP,ediv_le_ediv → TM,eq_ofNat_of_zero_le → AaA,emod_lt_of_pos → AaB,ediv_ediv_of_nonneg → AaG,le_refl → AaR
open PySem.Str renaming ofString → Q4,empty → AbX
open False renaming elim → RI
open PySem.Calls renaming callWith_builtin → TD,spliced_cons → Abu,spliced_nil → AbI
open True renaming intro → US
open PySem.NameKind renaming free → WI
open Sum renaming inr → YO,inl → Aa6
open ForInStep renaming yield → Aab
open PySem.Builtin.List renaming listExtendWith → Aad,listTooLong → Aau
open PySem.W.KasT renaming kasWp_bind → AaC
open Sum.inr renaming inj → AaK
open Prod.mk renaming inj → AaT
open Nat.succ renaming inj → Aa3
open PySem.PyData.str renaming injEq → Aa9
open Function renaming comp → Abf
open List.Perm renaming refl → AbC
open List.Pairwise renaming nil → AbK
open PySem.Paired renaming length → AbP
open Prod renaming ext → Ab3
set_option compiler.extract_closed false
set_option Elab.async false
set_option linter.all false
set_option maxRecDepth 100000
namespace L2
open PySem PySem.Spec PyProof.Rows
variable {us:List Value} {a b dx C:Addr} {P:Fk} {w:World} {h base h':Heap} {t' i n:Nat} {ch fp:List Addr} {x:Str} {M:Model} {A:IS} {E Q:Value->AM->Prop} {u:Value} {e c tg:Expr} {s:AM} {pos:Pos} {pins:List (Addr × Obj)} {op:CmpOp} {K:At} {es:List Expr} {g:Int->Int->Int} {body:List Stmt} {f:Value->Value->Sem Value} {pl:Sem Bool} {kw:List (Str × Value)} {mg:Str->Option Value} {fd:Cs} {ps:List Str} {outer:List Env} {scope:Scope}
abbrev Key:=Sum Int Str
def Cb:Key->Value->Bool
 | .inl k,v=>Value.isInt k v
 | .inr x,v=>Value.isStrOf x v
def afM (w:World):Key->Int
 | .inl k=>hashInt k
 | .inr x=>hashStr w x
theorem c4:∀{k:Key} {v:Value},Cb k v=true->(∃i t,k=Aa6 i/\v=AbD i t)\/(∃x t,k=YO x/\v=AbU x t)
 | .inl i,v,h=>by
   obtain⟨t,e⟩:=Value.isInt_shape (k:=i) (v:=v) h
   exact .inl ⟨i,t,rfl,e⟩
 | .inr x,v,h=>by
   obtain⟨t,e⟩:=Value.isStrOf_shape (x:=x) (v:=v) h
   exact .inr ⟨x,t,rfl,e⟩
theorem LZ (i:Int) (t:Tok):Cb (.inl i) (.int i t)=true:=by simp [Cb,Value.isInt]
theorem NX (x:Str) (t:Tok):Cb (.inr x) (.str x t)=true:=by simp [Cb,Value.isStrOf]
theorem Z8 (a b:Int):decide ((Aa6 a:Key)=Aa6 b)=(a==b):=by
 by_cases e:a=b
 . subst e;simp
 . have h:¬(Aa6 a:Key)=Aa6 b:=fun q=>e (Aa6.inj q)
   rw [decide_eq_false h]
   exact(beq_eq_false_iff_ne.mpr e).symm
theorem ZT (a b:Str):decide ((YO a:Key)=YO b)=decide (a=b):=by
 by_cases e:a=b
 . subst e;simp
 . have h:¬(YO a:Key)=YO b:=fun q=>e (AaK q)
   rw [decide_eq_false h,decide_eq_false e]
theorem YC (a:Int) (b:Str):decide ((Aa6 a:Key)=YO b)=false:=decide_eq_false (fun q=>nomatch q)
theorem Xp (a:Str) (b:Int):decide ((YO a:Key)=Aa6 b)=false:=decide_eq_false (fun q=>nomatch q)
def bf (prog:Fk) (w:World):PySem.KeyKind prog w Key where
 is:=Cb
 hash:=afM w
 inj:=fun v a b ha hb=>by
  rcases c4 ha with⟨i,t,rfl,rfl⟩|⟨x,t,rfl,rfl⟩
  . rcases c4 hb with⟨j,u,rfl,e⟩|⟨y,u,rfl,e⟩
    . injection e with e1 _;rw [e1]
    . exact nomatch e
  . rcases c4 hb with⟨j,u,rfl,e⟩|⟨y,u,rfl,e⟩
    . exact nomatch e
    . injection e with e1 _;rw [e1]
 byValue:=fun k v h=>by
  rcases c4 h with⟨i,t,rfl,rfl⟩|⟨x,t,rfl,rfl⟩ <;>rfl
 pyHash:=fun hv h=>by
  rcases c4 hv with⟨i,t,rfl,rfl⟩|⟨x,t,rfl,rfl⟩
  . exact wpAny_pyHash_int h
  . exact wpAny_pyHash_str h
 eqBool:=fun hu hv h=>by
  rcases c4 hu with⟨i,t,rfl,rfl⟩|⟨x,t,rfl,rfl⟩
  . rcases c4 hv with⟨j,u,rfl,rfl⟩|⟨y,u,rfl,rfl⟩
    . rw [Z8] at h;exact Aal h
    . rw [YC] at h;exact SeqAt.EqAt.int_str i t y u _ _ _ _ h
  . rcases c4 hv with⟨j,u,rfl,rfl⟩|⟨y,u,rfl,rfl⟩
    . rw [Xp] at h;exact SeqAt.EqAt.str_int x t j u _ _ _ _ h
    . rw [ZT] at h;exact wpAny_eqBool_str h
 «strs»:=fun k x t v h=>by
  rcases c4 h with⟨i,u,rfl,e⟩|⟨y,u,rfl,e⟩
  . exact nomatch e
  . injection e with e1 _
    subst e1
    cases v <;>rfl
theorem Gp (prog:Fk) (w:World) (i:Int) (t:Tok):(bf prog w).is (.inl i) (.int i t)=true:=LZ i t
theorem HL (prog:Fk) (w:World) (x:Str) (t:Tok):(bf prog w).is (.inr x) (.str x t)=true:=NX x t
inductive V where
 |aQ|bl (b:Bool)|int (i:Int)|str (x:Str)|Lx (b:Array UInt8)|WQ (b:UInt64)|ref (a:Addr)|ty (n:String)
 deriving DecidableEq
variable {xs vs:List V} {v:V}
def RelV:V->Value->Prop
 | .aQ,u=>u=Of
 | .bl b,u=>u=Ab0 b
 | .int i,u=>∃t,u=AbD i t
 | .str x,u=>∃t,u=AbU x t
 | .Lx b,u=>∃t,u=Value.bytes b t
 | .WQ b,u=>∃t,u=Value.float b t
 | .ref a,u=>u=LS a
 | .ty n,u=>u=Aas n
abbrev Vals:List V->List Value->Prop:=AbT RelV
theorem Vals.length (r:Vals xs us):xs.length=us.length:=AbP r
theorem Vals.get:∀{xs:List V} {us:List Value} {i:Nat} {x:V},Vals xs us->xs[i]? =some x->∃u,us[i]? =some u/\RelV x u
 |_,_,_,_,.nil,e=>by simp at e
 |_,_,0,_,.cons r _,e=>by simp at e;subst e;exact⟨_,rfl,r⟩
 |_,_,i+1,x,.cons _ t,e=>by
  obtain⟨u,h1,h2⟩:=Vals.get (i:=i) (x:=x) t (by simpa using e)
  exact⟨u,by simpa using h1,h2⟩
theorem Vals.set {x:V} {u:Value} (r:RelV x u):∀{xs:List V} {us:List Value} (i:Nat),Vals xs us->Vals (xs.set i x) (us.set i u)
 |_,_,_,.nil=>.nil
 |_,_,0,.cons _ t=>.cons r t
 |_,_,i+1,.cons q t=>.cons q (Vals.set r i t)
theorem Vals.append:∀{xs ys:List V} {us ws:List Value},Vals xs us->Vals ys ws->Vals (xs++ys) (us++ws)
 |_,_,_,_,.nil,s=>s
 |_,_,_,_,.cons r t,s=>.cons r (Vals.append t s)
theorem Vals.take:∀{xs:List V} {us:List Value} (n:Nat),Vals xs us->Vals (xs.take n) (us.take n)
 |_,_,0,_=>.nil
 |_,_,_+1,.nil=>.nil
 |_,_,n+1,.cons r t=>.cons r (Vals.take n t)
theorem Vals.drop:∀{xs:List V} {us:List Value} (n:Nat),Vals xs us->Vals (xs.drop n) (us.drop n)
 |_,_,0,r=>r
 |_,_,_+1,.nil=>.nil
 |_,_,n+1,.cons _ t=>Vals.drop n t
def pQ:Option V->Option Value->Prop
 |some v,some u=>RelV v u
 |none,none=>True
 |_,_=>False
def KV {κ:Type}:List (κ × V)->List (κ × Value)->Prop:=AbT fun(p:κ × V) (q:κ × Value)=>p.1=q.1/\RelV p.2 q.2
def kV:Key->V
 | .inl i=>.int i
 | .inr x=>.str x
inductive HO where
 |lst (xs:List V)
 |tup (xs:List V)
 |dK (kvs:List (Key × V))|dT (kvs:List (List Key × V))
 |set (S:Int->Bool) (n:Nat)
 |ins (C dx:Addr) (fs:List (Str × V))
 |own (x:Addr)
 |xd (fs:List (Str × V))
 |met (f x:Addr)
 |rng (lo hi:Int)
 |sS (o:Obj) (u:HO)
 |Xf (ps:Array Value)
 |ext (φ:Heap->Prop)
variable {o:HO}
abbrev Hp:=Addr->Option HO
variable {H:Hp}
def upd (H:Hp) (a:Addr) (o:HO):Hp:=fun b=>if b=a then some o else H b
theorem av:upd H a o a=some o:=by unfold upd;rw [if_pos rfl]
theorem az (h:b≠a):upd H a o b=H b:=by unfold upd;rw [if_neg h]
theorem jN {u:HO}:upd (upd H a o) a u=upd H a u:=by
 funext b;unfold upd;split <;>rfl
theorem pB {u:HO} (h:H a=some o) (h':H b=some u) (d:o≠u):a≠b:=by
 intro e;subst e;rw [h] at h';exact d (Do h')
theorem aA (h:H a=some o) (h':H b=none):a≠b:=by
 intro e;subst e;rw [h] at h';cases h'
section
variable (P:Fk) (w:World)
def c6 (H:Hp) (h:Heap) (a:Addr):HO->Prop
 | .lst xs=>xs.length<=EM/\∃(aZ:List Value) (n:Nat),Vals xs aZ/\h.get? a=some {cls:=.type "list",data:=.seq aZ.toArray n}
 | .tup xs=>xs.length<=EM/\∃aZ:List Value,Vals xs aZ/\IsTup h a aZ.toArray
 | .dK kvs=>kvs.length<=EM/\(a==Th)=false/\∃vs,KV kvs vs/\h.DictOf (bf P w) a vs
 | .dT kvs=>kvs.length<=EM/\(a==Th)=false/\∃xs:List (List Key × Addr × Value),
  AbT (fun(p:List Key × V) (q:List Key × Addr × Value)=>p.1=q.1/\H q.2.1=some (.tup (p.1.map kV))/\RelV p.2 q.2.2) kvs xs/\
  ∃o es ep,h.get? a=some o/\o.ExactDict/\o.data=.dict es ep/\es.toList=xs.map (entryOfKey (AbV (bf P w)))/\(xs.map (·.1)).Nodup
 | .set S n=>h.SetOf (intKind P w) a S n
 | .ins C dx fs=>H dx=some (.own a)/\fs.length<=1000/\dx≠a/\h.get? a=some (Tl C dx)/\
  ∃mA,h.Ns1 dx mA/\(∀f,pQ (fs.lookup f) (mA f))/\PySem.Within mA (fs.map (·.1))
 | .own _=>∃o,h.get? a=some o
 | .xd fs=>∃mA,h.Ns1 a mA/\∀f,pQ (fs.lookup f) (mA f)
 | .rng lo hi=>∃t u v,h.get? a=some {cls:=.type "range",data:=.fields #[.int lo t,.int hi u,.int 1 v]}
 | .sS o u=>h.get? a=some o/\c6 H h a u
 | .Xf ps=>h.get? a=some {cls:=.none,data:=.fields ps}
 | .met f x=>h.get? a=some (AbE (.ref f) (.ref x))
 | .ext φ=>φ h/\(∃o,h.get? a=some o)/\∀h1 h2:Heap,φ h1->(∀o,h1.get? a=some o->h2.get? a=some o)->φ h2
def rh (H:Hp) (h:Heap):Prop:=∀a o,H a=some o->c6 P w H h a o
end
section
variable {H':Hp}
theorem c6.lt (x:c6 P w H h a o):a<h.objs.size:=by
 cases o with
 |lst xs=>obtain⟨_,_,_,_,e⟩:=x;exact Db e
 |tup xs=>obtain⟨_,_,_,p⟩:=x;exact p.lt
 |dK kvs=>obtain⟨_,_,_,_,o,_,_,e,_⟩:=x;exact Db e
 |dT kvs=>obtain⟨_,_,_,_,o,_,_,e,_⟩:=x;exact Db e
 |set S n=>obtain⟨o,_,_,_,e,_⟩:=x;exact Db e
 |ins C dx fs=>obtain⟨_,_,_,e,_⟩:=x;exact Db e
 |own y=>obtain⟨_,e⟩:=x;exact Db e
 |xd fs=>obtain⟨_,⟨_,_,_,e,_⟩,_⟩:=x;exact Db e
 |rng lo hi=>obtain⟨_,_,_,e⟩:=x;exact Db e
 |sS ob u=>obtain⟨e,_⟩:=x;exact Db e
 |Xf ps=>exact Db (show h.get? a=some _ from x)
 |met f y=>exact Db (show h.get? a=some _ from x)
 |ext φ=>obtain⟨_,⟨_,e⟩,_⟩:=x;exact Db e
theorem AbT.aaj {α β:Type} {F G:α->β->Prop}:∀{l₁:List α} {l₂:List β},AbT F l₁ l₂->(∀a b,F a b->G a b)->AbT G l₁ l₂
 |_,_,.nil,_=>.nil
 |_,_,.cons r t,f=>.cons (f _ _ r) (AbT.aaj t f)
theorem c6.qW (x:c6 P w H h a o) (k:∀b u,(b=a\/H b=some (.own a))->h.get? b=some u->h'.get? b=some u) (ho:∀b,H b=some (.own a)->H' b=some (.own a)) (ht:∀b xs,H b=some (.tup xs)->H' b=some (.tup xs)):c6 P w H' h' a o:=by
 induction o with
 |lst xs=>obtain⟨z,aZ,n,r,e⟩:=x;exact⟨z,aZ,n,r,k _ _ (.inl rfl) e⟩
 |tup xs=>obtain⟨z,aZ,r,ob,e,c⟩:=x;exact⟨z,aZ,r,ob,k _ _ (.inl rfl) e,c⟩
 |dK kvs=>obtain⟨z,y,vs,r,ob,es,ep,e,c⟩:=x;exact⟨z,y,vs,r,ob,es,ep,k _ _ (.inl rfl) e,c⟩
 |dT kvs=>
  obtain⟨z,y,xs,r,ob,es,ep,e,c⟩:=x
  exact⟨z,y,xs,AbT.aaj r fun p q z=>⟨z.1,ht _ _ z.2.1,z.2.2⟩,ob,es,ep,k _ _ (.inl rfl) e,c⟩
 |set S n=>obtain⟨ob,es,ep,t,e,c⟩:=x;exact⟨ob,es,ep,t,k _ _ (.inl rfl) e,c⟩
 |ins C dx fs=>
  obtain⟨d,z,ne,e,mA,⟨od,es,ep,e2,c⟩,r⟩:=x
  exact⟨ho _ d,z,ne,k _ _ (.inl rfl) e,mA,⟨od,es,ep,k _ _ (.inr d) e2,c⟩,r⟩
 |own y=>obtain⟨ob,e⟩:=x;exact⟨ob,k _ _ (.inl rfl) e⟩
 |xd fs=>obtain⟨mA,⟨od,es,ep,e,c⟩,r⟩:=x;exact⟨mA,⟨od,es,ep,k _ _ (.inl rfl) e,c⟩,r⟩
 |rng lo hi=>obtain⟨t,u,v,e⟩:=x;exact⟨t,u,v,k _ _ (.inl rfl) e⟩
 |sS ob u ih=>obtain⟨e,q⟩:=x;exact⟨k _ _ (.inl rfl) e,ih q⟩
 |Xf ps=>
  have e:h.get? a=some {cls:=.none,data:=.fields ps}:=x
  show h'.get? a=some {cls:=.none,data:=.fields ps}
  exact k a _ (.inl rfl) e
 |met f y=>
  have e:h.get? a=some (AbE (.ref f) (.ref y)):=x
  show h'.get? a=some (AbE (.ref f) (.ref y))
  exact k a _ (.inl rfl) e
 |ext φ=>obtain⟨p,⟨o,e⟩,st⟩:=x;exact⟨st _ _ p fun o q=>k _ _ (.inl rfl) q,⟨o,k _ _ (.inl rfl) e⟩,st⟩
theorem rh.lt (x:rh P w H h) (e:H a=some o):a<h.objs.size:=(x a o e).lt
theorem rh.fresh (x:rh P w H h) (e:h.objs.size<=a):H a=none:=by
 cases q:H a with
 |none=>rfl
 |some u=>exact absurd (DD (x.lt q) e) (Q2 _)
theorem rh.kept (x:rh P w H h) (k:∀b u,h.get? b=some u->h'.get? b=some u):rh P w H h':=fun a o e=>
 (x a o e).qW (fun b u _ q=>k b u q) (fun _ q=>q) fun _ _ q=>q
theorem rh.laid (x:rh P w H h) (k:∀b u,h.get? b=some u->h'.get? b=some u) (hp:h.objs.size<=a) (new:c6 P w (upd H a o) h' a o):rh P w (upd H a o) h':=fun b u e=>by
 have hn:=x.fresh hp
 by_cases hb:b=a
 . subst hb;rw [av] at e;cases e;exact new
 . rw [az hb] at e
   exact(x b u e).qW (fun c v _ q=>k c v q) (fun c q=>by rw [az (aA q hn)];exact q) fun c xs q=>by rw [az (aA q hn)];exact q
end
def Rd (H:Hp) (a:Addr) (u:HO):Prop:=H a=some u\/∃o,H a=some (.sS o u)
theorem Rd.of {u:HO} (h:H a=some u):Rd H a u:=.inl h
theorem Rd.ok {u:HO} (r:Rd H a u) (x:rh P w H h):c6 P w H h a u:=by
 rcases r with r|⟨o,r⟩
 . exact x a u r
 . obtain⟨_,q⟩:=x a _ r
   exact q
def Mut:Option HO->Prop
 |some (.lst _)=>True
 |some (.dK _)=>True
 |some (.dT _)=>True
 |some (.set _ _)=>True
 |some (.ins _ _ _)=>True
 |some (.ext _)=>True
 |_=>False
section
variable {x e:Addr} {o':HO}
theorem rh.write (ok:rh P w H h) (mu:Mut (H x)) (he:e=x\/H e=some (.own x)) (k:∀b u,b≠e->h.get? b=some u->h'.get? b=some u) (V0:∃u,h'.get? e=some u) (new:c6 P w (upd H x o') h' x o'):rh P w (upd H x o') h':=fun b u q=>by
 have adP:∀c y,H c=some (.own y)->c≠x:=fun c y r z=>by subst z;rw [r] at mu;exact mu
 have afD:∀c xs,H c=some (.tup xs)->c≠x:=fun c xs r z=>by subst z;rw [r] at mu;exact mu
 by_cases hb:b=x
 . subst hb;rw [av] at q;cases q;exact new
 . rw [az hb] at q
   by_cases Yt:b=e
   . have q':H b=some (.own x):=by
      rcases he with z|z
      . exact absurd (Yt.trans z) hb
      . rw [Yt];exact z
     rw [q] at q';cases q'
     obtain⟨v,hv⟩:=V0
     exact⟨v,by rw [Yt];exact hv⟩
   . refine(ok b u q).qW (fun c v hc r=>k c v ?_ r) (fun c r=>by rw [az (adP c b r)];exact r) fun c xs r=>by rw [az (afD c xs r)];exact r
     rcases hc with rfl|hc
     . exact Yt
     . rintro rfl
       rcases he with z|z
       . exact adP c b hc z
       . rw [hc] at z;cases z;exact hb rfl
end
structure Un (fs ex:List Addr) (H H':Hp) (h h':Heap):Prop where
 keep:∀b o,h.get? b=some o->H b=none->b∉fs->b∉ex->h'.get? b=some o
 slot:∀b o,h.get? b=some o->H b=none->b∈fs->b∉ex->∃sl,h'.get? b=some {o with slots:=sl}
 free:∀b o,h.get? b=some o->H b=none->b∉ex->H' b=none
 there:∀b o,h.get? b=some o->b∉ex->∃o',h'.get? b=some o'
 wW:∀b xs,H b=some (.tup xs)->H' b=some (.tup xs)
 uk:∀b o u,H b=some (.sS o u)->H' b=some (.sS o u)
 zM:∀b ps,H b=some (.Xf ps)->∃more,H' b=some (.Xf (ps++more))
section
variable {fs fs' ex ex':List Addr} {H1 H2:Hp} {h1 h2:Heap} {x e:Addr}
theorem Un.any (u:Un fs ex H H1 h h1) {ob:Obj} (q:h.get? b=some ob) (n:H b=none) (hx:b∉ex):∃sl,h1.get? b=some {ob with slots:=sl}:=by
 by_cases hb:b∈fs
 . exact u.slot b ob q n hb hx
 . exact⟨ob.slots,u.keep b ob q n hb hx⟩
theorem Un.kept (k:∀b u,h.get? b=some u->h'.get? b=some u):Un fs ex H H h h':=
 ⟨fun b ob q _ _ _=>k b ob q,fun b ob q _ _ _=>⟨ob.slots,k b ob q⟩,fun _ _ _ n _=>n,fun b ob q _=>⟨ob,k b ob q⟩,fun _ _ q=>q,fun _ _ _ q=>q,fun _ ps q=>⟨#[],by rw [q];simp⟩⟩
theorem Un.refl:Un fs ex H H h h:=Un.kept fun _ _ q=>q
theorem Un.laid (k:∀b u,h.get? b=some u->h'.get? b=some u) (hp:h.objs.size<=a) (hn:H a=none):Un fs ex H (upd H a o) h h' where
 keep:=fun b u q _ _ _=>k b u q
 slot:=fun b u q _ _ _=>⟨u.slots,k b u q⟩
 free:=fun b u q n _=>by rw [az (ET (DD (Db q) hp))];exact n
 there:=fun b u q _=>⟨u,k b u q⟩
 wW:=fun b xs q=>by rw [az (aA q hn)];exact q
 uk:=fun b u xs q=>by rw [az (aA q hn)];exact q
 zM:=fun b ps q=>⟨#[],by rw [az (aA q hn),q];simp⟩
theorem Un.write (mu:Mut (H x)) (he:e=x\/H e=some (.own x)) (k:∀b u,b≠e->h.get? b=some u->h'.get? b=some u) (V0:∃u,h'.get? e=some u):Un fs ex H (upd H x o) h h':=by
 have hx:∀b,H b=none->b≠x:=fun b n z=>by subst z;rw [n] at mu;exact mu
 have hb:∀b,H b=none->b≠e:=fun b n z=>by
  subst z
  rcases he with r|r
  . exact hx b n r
  . rw [n] at r;cases r
 have hm:∀b u,H b=some u->¬Mut (some u)->b≠x:=fun b u q nm z=>by subst z;rw [q] at mu;exact nm mu
 refine⟨fun b u q n _ _=>k b u (hb b n) q,fun b u q n _ _=>⟨u.slots,k b u (hb b n) q⟩,fun b u q n _=>by rw [az (hx b n)];exact n,fun b u q _=>?_,
  fun b xs q=>by rw [az (hm b _ q fun z=>z)];exact q,fun b u xs q=>by rw [az (hm b _ q fun z=>z)];exact q,fun b ps q=>⟨#[],by rw [az (hm b _ q fun z=>z),q];simp⟩⟩
 by_cases Yt:b=e
 . subst Yt;exact V0
 . exact⟨u,k b u Yt q⟩
end
def trk (h:Heap) (H:Hp):List Addr:=(AbF h.objs.size).filter fun a=>(H a).isSome
def Fx (h:Heap) (H:Hp):Heap:=PySem.W.hideAll h (trk h H)
theorem NW (h:Heap) (H:Hp):(Fx h H).objs.size=h.objs.size:=PySem.W.hideAll_size _ _
theorem QC {o:Obj} (e:h.get? b=some o) (n:H b=none):(Fx h H).get? b=some o:=
 PySem.W.hideAll_get _ e fun hm=>by
  have q:(H b).isSome=true:=(B0.mp hm).2
  rw [n] at q;simp at q
theorem Sy {o:Obj} (e:(Fx h H).get? b=some o):h.get? b=some o/\H b=none:=by
 have e':h.get? b=some o:=PySem.W.of_hideAll (trk h H) e
 refine⟨e',?_⟩
 cases q:H b with
 |none=>rfl
 |some x=>
  have hm:b∈trk h H:=B0.mpr ⟨AbA.mpr (Db e'),by simp [q]⟩
  have z:(Fx h H).get? b=none:=PySem.W.hideAll_none (trk h H) hm
  rw [z] at e;cases e
def S5 (g h:Heap) (L:Addr):List (Addr × Obj):=(AbF h.objs.size).filterMap fun a=>if a=L\/(g.get? a).isSome=true then none else (h.get? a).map fun o=>(a,o)
def rest (g h:Heap) (L d:Addr):List (Addr × Obj):=(S5 g h L).filter fun p=>decide (p.1≠d)
structure Mod (K:At) (mg:Str->Option Value) (base:Heap):Prop where
 kin:K.In base
 glob:base.Ns FB mg
 blt:∃mb,base.Ns Ab1 mb/\∀x:Str,x≠"__name__"->mb x=AaV x
 nolimit:base.NoLimit
structure Cx where
 prog:Fk
 w:World
 K:At
 mg:Str->Option Value
 base:Heap
 A:IS
 N:List Str
 jk:AM
 IV:Hp
 env:Env
 outer:List Env
 stack:List Env
 ex:List Addr
 fn:Str->Bool
 calm:Bool
 pn:List (Addr × Obj)
 xe:Value->AM->Prop
variable {X:Cx}
def Nq (l:List Env):List Addr:=l.filterMap (·.frame)
abbrev Cx.fs (X:Cx):List Addr:=Nq X.outer
def Vis (sc:Scope) (x:Str):Prop:=sc.names.lookup x=some .local\/sc.names.lookup x=some .cell\/sc.names.lookup x=some .free
def Loc (sc:Scope) (x:Str):Prop:=sc.names.lookup x=some .local\/sc.names.lookup x=some .cell
def Look (env:Env) (h:Heap) (m:Str->Option Value) (x:Str) (u:Value):Prop:=
 (env.kindOf x=some .local/\m x=some u)\/((env.kindOf x=some .cell\/env.kindOf x=some .free)/\∃c,env.cells.lookup x=some c/\h.IsCell c (some u))
structure Cx.Ok (X:Cx):Prop where
 mod:Mod X.K X.mg X.base
 kind:X.env.scope.kind=.function
 glob:X.env.globals=FB
 blt:X.env.builtins=Ab1
 above:X.jk.heap.objs.size<=X.env.locals
 inj:∀x y c,X.env.cells.lookup x=some c->X.env.cells.lookup y=some c->x=y
 has:∀x,(X.env.kindOf x=some .cell\/X.env.kindOf x=some .free)->∃c,X.env.cells.lookup x=some c
 cab:∀x c,X.fn x=true->X.env.cells.lookup x=some c->X.jk.heap.objs.size<=c
 hd:X.calm=true->X.A.handled=none
 frames:X.A.frames=some X.stack
 stk:X.stack=X.outer\/(X.stack=X.env::X.outer/\X.env.frame=some X.env.locals)
 exf:∀b∈X.ex,b≠X.env.locals/\∀x c,X.env.cells.lookup x=some c->c≠b
 bs:∀b o,X.base.get? b=some o->X.jk.heap.get? b=some o/\X.IV b=none
 Oe:X.base.objs.size<=X.jk.heap.objs.size
 MR:∀b o,X.base.get? b=some o->b∉X.ex
 M6:∀b∈X.ex,b∉X.fs
 xh:X.jk.heap.FunFrames X.base X.outer
 U8:∀b∈X.fs,X.IV b=none
structure Inv (X:Cx) (pins:List (Addr × Obj)) (σ:List (Option V)) (H:Hp) (s:AM):Prop where
 ok:X.Ok
 os:s.os=X.jk.os
 bare:AbW s.gens
 base:Un X.fs X.ex X.IV H X.jk.heap s.heap
 loc:∃m,s.heap.Ns X.env.locals m/\∀(i:Nat) (x:Str) (v:V),X.N[i]? =some x->σ[i]? =some (some v)->Vis X.env.scope x->∃u,RelV v u/\Look X.env s.heap m x u
 cell:∀x c,X.env.cells.lookup x=some c->∃v,s.heap.IsCell c v
 free:H X.env.locals=none
 mY:∀x c,X.env.cells.lookup x=some c->H c=none
 pin:∀p∈X.pn++pins,s.heap.get? p.1=some p.2/\H p.1=none/\p.1≠X.env.locals/\p.1∉X.fs/\∀v,p.2.data≠.cell v
 bb:rh X.prog X.w H s.heap
 len:σ.length=X.N.length
section
variable {σ:List (Option V)} {H':Hp}
theorem Cx.Ok.aeM (ok:X.Ok) {o:Obj} (e:X.base.get? b=some o):b∉X.fs:=fun hb=>by
 have:=(ok.xh.mem hb).1
 rw [e] at this;cases this
theorem Inv.bs (I:Inv X pins σ H s):∀b o,X.base.get? b=some o->s.heap.get? b=some o/\H b=none:=fun b o e=>
 ⟨I.base.keep b o (I.ok.bs b o e).1 (I.ok.bs b o e).2 (I.ok.aeM e) (I.ok.MR b o e),I.base.free b o (I.ok.bs b o e).1 (I.ok.bs b o e).2 (I.ok.MR b o e)⟩
theorem Inv.bk (I:Inv X pins σ H s):∀b o,X.base.get? b=some o->s.heap.get? b=some o:=fun b o e=>(I.bs b o e).1
theorem Inv.mod (I:Inv X pins σ H s):Mod X.K X.mg X.base:=I.ok.mod
theorem Inv.vS (I:Inv X pins σ H s):X.K.In s.heap:=I.ok.mod.kin.keeps I.bk
theorem Inv.fr (I:Inv X pins σ H s):∃m,Fr X.base X.env.locals s.heap m:=
 let ⟨m,hn,_⟩:=I.loc
 ⟨m,hn,I.bk,Mo I.ok.Oe I.ok.above⟩
theorem Inv.lt (I:Inv X pins σ H s):X.env.locals<s.heap.objs.size:=let ⟨_,hn,_⟩:=I.loc;hn.lt
theorem Inv.sz (I:Inv X pins σ H s):X.jk.heap.objs.size<=s.heap.objs.size:=Mo I.ok.above (Aat I.lt)
theorem Inv.ags (I:Inv X pins σ H s) (h:s.heap.objs.size<=a):a∉X.fs:=fun hb=>by
 obtain⟨_,o,ho,_⟩:=I.ok.xh.mem hb
 exact absurd (DD (Db ho) (Mo I.sz h)) (Q2 _)
theorem Inv.YR (I:Inv X pins σ H s):∀x c,X.env.cells.lookup x=some c->c≠X.env.locals:=fun x c e z=>by
 obtain⟨v,o,ho,hd⟩:=I.cell x c e
 obtain⟨m,⟨o',es,ep,Q0,rl,_⟩,_⟩:=I.loc
 rw [z,Q0] at ho;cases ho;rw [rl] at hd;cases hd
theorem Inv.xh (I:Inv X pins σ H s):s.heap.FunFrames X.base X.outer:=by
 have all:∀(l:List Env),(∀b∈Nq l,b∈X.fs)->X.jk.heap.FunFrames X.base l->s.heap.FunFrames X.base l:=by
  intro l
  induction l with
  |nil=>intro _ _;trivial
  |cons env r ih=>
   intro hs hl
   obtain⟨hk,⟨L,o,hf,hn,ho,hd⟩,hr⟩:=hl
   have hL:L∈X.fs:=hs L (by unfold Nq;rw [Abg,hf];exact BC)
   obtain⟨sl,e⟩:=I.base.slot L o ho (I.ok.U8 L hL) hL fun z=>I.ok.M6 L z hL
   exact⟨hk,⟨L,_,hf,hn,e,hd⟩,ih (fun b hb=>hs b (by unfold Nq;rw [Abg,hf];exact AL _ hb)) hr⟩
 exact all X.outer (fun _ hb=>hb) I.ok.xh
theorem Inv.stack (I:Inv X pins σ H s):s.heap.FunFrames X.base X.stack:=by
 rcases I.ok.stk with e|⟨e,hf⟩
 . rw [e];exact I.xh
 . rw [e]
   obtain⟨m,hn,_⟩:=I.loc
   refine .cons (by rw [I.ok.kind];decide) hf hn ?_ I.xh
   exact Heap.get?_none_of_le (Mo I.ok.Oe I.ok.above)
theorem Inv.JT (I:Inv X pins σ H s):∀b∈Nq X.stack,b∈X.env.locals::X.fs:=fun b hb=>by
 rcases I.ok.stk with e|⟨e,hf⟩
 . rw [e] at hb;exact AL _ hb
 . rw [e] at hb
   unfold Nq at hb
   rw [Abg,hf] at hb
   exact hb
theorem Inv.Km (I:Inv X pins σ H s):∀b∈Nq X.stack,H b=none:=fun b hb=>by
 rcases AD.mp (I.JT b hb) with e|hb
 . rw [e];exact I.free
 . obtain⟨_,o,ho,_⟩:=I.ok.xh.mem hb
   exact I.base.free b o ho (I.ok.U8 b hb) fun z=>I.ok.M6 b z hb
theorem Inv.step {g':Array GenState} {t':Nat} {d':Drawn} {ch:List Addr} (I:Inv X pins σ H s)
 (uM:∀b∈ch,(b∈X.ex\/X.jk.heap.objs.size<=b)/\b≠X.env.locals/\(∀x c,X.env.cells.lookup x=some c->c≠b)/\∀p∈X.pn++pins,p.1≠b)
 (keep:∀b o,b≠X.env.locals->b∉X.fs->b∉ch->s.heap.get? b=some o->H b=none->h'.get? b=some o)
 (slot:∀b o,b≠X.env.locals->b∈X.fs->b∉ch->s.heap.get? b=some o->H b=none->∃sl,h'.get? b=some {o with slots:=sl}) (free:∀b o,b∉ch->s.heap.get? b=some o->H b=none->H' b=none)
 (there:∀b o,b∉ch->s.heap.get? b=some o->∃o',h'.get? b=some o')
 (wW:∀b xs,H b=some (.tup xs)->H' b=some (.tup xs)) (uk:∀b o u,H b=some (.sS o u)->H' b=some (.sS o u)) (zM:∀b ps,H b=some (.Xf ps)->∃more,H' b=some (.Xf (ps++more)))
 (ns:∀m,s.heap.Ns X.env.locals m->h'.Ns X.env.locals m) (bb:rh X.prog X.w H' h') (hg:AbW g'):
 Inv X pins σ H' {s with heap:=h',gens:=g',drawn:=d',toks:=t'}:=by
 have neL:∀b o,X.jk.heap.get? b=some o->b≠X.env.locals:=fun b o e=>ET (DD (Db e) I.ok.above)
 have neC:∀b o,X.jk.heap.get? b=some o->b∉X.ex->b∉ch:=fun b o e hx hb=>by
  rcases (uM b hb).1 with z|z
  . exact hx z
  . exact absurd (DD (Db e) z) (Q2 _)
 have cellK:∀x c,X.env.cells.lookup x=some c->∀v,s.heap.IsCell c v->h'.IsCell c v:=fun x c e v ⟨o,ho,hd⟩=>by
  have nch:c∉ch:=fun z=>(uM c z).2.2.1 x c e rfl
  by_cases hc:c∈X.fs
  . obtain⟨sl,q⟩:=slot c o (I.YR x c e) hc nch ho (I.mY x c e)
    exact⟨_,q,hd⟩
  . exact⟨o,keep c o (I.YR x c e) hc nch ho (I.mY x c e),hd⟩
 refine⟨I.ok,I.os,hg,⟨fun b o e n hb hx=>?_,fun b o e n hb hx=>?_,fun b o e n hx=>?_,fun b o e hx=>?_,fun b xs e=>wW b xs (I.base.wW b xs e),fun b o xs e=>uk b o xs (I.base.uk b o xs e),fun b ps e=>?_⟩,?_,fun x c e=>?_,?_,fun x c e=>?_,fun p hp=>?_,bb,I.len⟩
 . exact keep b o (neL b o e) hb (neC b o e hx) (I.base.keep b o e n hb hx) (I.base.free b o e n hx)
 . obtain⟨sl,e1⟩:=I.base.slot b o e n hb hx
   obtain⟨sl',e2⟩:=slot b _ (neL b o e) hb (neC b o e hx) e1 (I.base.free b o e n hx)
   exact⟨sl',e2⟩
 . obtain⟨o',e1⟩:=I.base.there b o e hx
   exact free b o' (neC b o e hx) e1 (I.base.free b o e n hx)
 . obtain⟨o',e1⟩:=I.base.there b o e hx
   exact there b o' (neC b o e hx) e1
 . obtain⟨m1,e1⟩:=I.base.zM b ps e
   obtain⟨m2,e2⟩:=zM b _ e1
   exact⟨m1++m2,by rw [e2,Array.append_assoc]⟩
 . obtain⟨m,hn,hl⟩:=I.loc
   refine⟨m,ns m hn,fun i x v e1 e2 e3=>?_⟩
   obtain⟨u,r,l⟩:=hl i x v e1 e2 e3
   refine⟨u,r,?_⟩
   rcases l with l|⟨k,c,e,z⟩
   . exact .inl l
   . exact .inr ⟨k,c,e,cellK x c e _ z⟩
 . obtain⟨v,z⟩:=I.cell x c e
   exact⟨v,cellK x c e v z⟩
 . obtain⟨m,⟨o,_,_,ho,_⟩,_⟩:=I.loc
   exact free _ o (fun z=>(uM _ z).2.1 rfl) ho I.free
 . obtain⟨v,o,ho,hd⟩:=I.cell x c e
   exact free c o (fun z=>(uM c z).2.2.1 x c e rfl) ho (I.mY x c e)
 . obtain⟨e,n,ne,nf,d⟩:=I.pin p hp
   have nch:p.1∉ch:=fun z=>(uM p.1 z).2.2.2 p hp rfl
   exact⟨keep p.1 p.2 ne nf nch e n,free p.1 p.2 nch e n,ne,nf,d⟩
theorem Inv.un (I:Inv X pins σ H s) (u:Un X.fs [] H H' s.heap h') (bb:rh X.prog X.w H' h'):Inv X pins σ H' {s with heap:=h',toks:=t'}:=by
 obtain⟨m,⟨o,es,ep,ho,r⟩,_⟩:=id I.loc
 obtain⟨sl,hL⟩:=u.any ho I.free (by simp)
 exact I.step (g':=s.gens) (d':=s.drawn) (ch:=[]) (fun _ z=>nomatch z) (fun b o _ hb _ e n=>u.keep b o e n hb (by simp)) (fun b o _ hb _ e n=>u.slot b o e n hb (by simp)) (fun b o _ e n=>u.free b o e n (by simp)) (fun b o _ e=>u.there b o e (by simp)) u.wW u.uk u.zM (fun m' hm=>by
  obtain⟨o',Oj,ep',Q0,r'⟩:=hm
  rw [ho] at Q0;cases Q0
  exact⟨_,Oj,ep',hL,r'⟩) bb I.bare
theorem Inv.call {g':Array GenState} {d':Drawn} (I:Inv X pins σ H s) (u:Un (Nq X.stack) ch H H' s.heap h') (bb:rh X.prog X.w H' h') (hg:AbW g') (uM:∀b∈ch,(b∈X.ex\/X.jk.heap.objs.size<=b)/\b≠X.env.locals/\(∀x c,X.env.cells.lookup x=some c->c≠b)/\∀p∈X.pn++pins,p.1≠b):
 Inv X pins σ H' {s with heap:=h',gens:=g',drawn:=d',toks:=t'}:=by
 obtain⟨m,⟨o,es,ep,ho,r⟩,_⟩:=id I.loc
 obtain⟨sl,hL⟩:=u.any ho I.free fun z=>(uM _ z).2.1 rfl
 exact I.step (ch:=ch) uM (fun b o hL hb hc e n=>u.keep b o e n (fun z=>(AD.mp (I.JT b z)).elim hL hb) hc) (fun b o _ _ hc e n=>u.any e n hc) (fun b o hc e n=>u.free b o e n hc) (fun b o hc e=>u.there b o e hc) u.wW u.uk u.zM (fun m' hm=>by
  obtain⟨o',Oj,ep',Q0,r'⟩:=hm
  rw [ho] at Q0;cases Q0
  exact⟨_,Oj,ep',hL,r'⟩) bb hg
theorem Inv.turned {it:Addr} (I:Inv X pins σ H s) (k:∀b o,b≠it->s.heap.get? b=some o->h'.get? b=some o) (hn:H it=none) (hL:it≠X.env.locals) (h1:it∈X.ex\/X.jk.heap.objs.size<=it) (h2:∀x c,X.env.cells.lookup x=some c->c≠it) (h3:∀p∈X.pn++pins,p.1≠it):Inv X pins σ H {s with heap:=h',toks:=t'}:=by
 have Yg:∀b u,H b=some u->b≠it:=fun b u e z=>by rw [z,hn] at e;cases e
 refine I.step (g':=s.gens) (d':=s.drawn) (ch:=[it]) (fun b hb=>?_) (fun b o _ _ hc e _=>k b o (fun z=>hc (by simp [z])) e) (fun b o _ _ hc e _=>⟨o.slots,k b o (fun z=>hc (by simp [z])) e⟩) (fun _ _ _ _ n=>n)
  (fun b o hc e=>⟨o,k b o (fun z=>hc (by simp [z])) e⟩) (fun _ _ e=>e) (fun _ _ _ e=>e) (fun b ps e=>⟨#[],by rw [e];simp⟩) (fun m hm=>?_) (fun b u e=>?_) I.bare
 . have e:b=it:=by simpa using hb
   subst e
   exact⟨h1,hL,h2,h3⟩
 . obtain⟨o,es,ep,ho,r⟩:=hm
   exact⟨o,es,ep,k _ o (Me hL) ho,r⟩
 . refine(I.bb b u e).qW (fun c v hc q=>k c v ?_ q) (fun _ q=>q) fun _ _ q=>q
   rcases hc with z|z
   . rw [z];exact Yg b u e
   . exact Yg c _ z
theorem Inv.tok (I:Inv X pins σ H s) (t:Nat):Inv X pins σ H {s with toks:=t}:=I.un (h':=s.heap) (t':=t) Un.refl I.bb
theorem Inv.kept (I:Inv X pins σ H s) (k:∀b u,s.heap.get? b=some u->h'.get? b=some u):Inv X pins σ H {s with heap:=h',toks:=t'}:=I.un (Un.kept k) (I.bb.kept k)
theorem Inv.laid (I:Inv X pins σ H s) (k:∀b u,s.heap.get? b=some u->h'.get? b=some u) (hp:s.heap.objs.size<=a) (new:c6 X.prog X.w (upd H a o) h' a o):
 Inv X pins σ (upd H a o) {s with heap:=h',toks:=t'}:=I.un (Un.laid k hp (I.bb.fresh hp)) (I.bb.laid k hp new)
theorem Inv.write {x e:Addr} (I:Inv X pins σ H s) (mu:Mut (H x)) (he:e=x\/H e=some (.own x)) (k:∀b u,b≠e->s.heap.get? b=some u->h'.get? b=some u) (V0:∃u,h'.get? e=some u) (new:c6 X.prog X.w (upd H x o) h' x o):Inv X pins σ (upd H x o) {s with heap:=h',toks:=t'}:=I.un (Un.write mu he k V0) (I.bb.write mu he k V0 new)
theorem Inv.weak {σ':List (Option V)} (I:Inv X pins σ H s) (hl:σ'.length=σ.length) (w:∀(i:Nat) v,σ'[i]? =some (some v)->σ[i]? =some (some v)):Inv X pins σ' H s:=
 ⟨I.ok,I.os,I.bare,I.base,let ⟨m,hn,CB⟩:=I.loc;⟨m,hn,fun i x v e1 e2 e3=>CB i x v e1 (w i v e2) e3⟩,I.cell,I.free,I.mY,I.pin,I.bb,hl.trans I.len⟩
theorem Inv.t8 {Wl:List (Addr × Obj)} (I:Inv X pins σ H s) (h:∀p∈Wl,s.heap.get? p.1=some p.2/\H p.1=none/\p.1≠X.env.locals/\p.1∉X.fs/\∀v,p.2.data≠.cell v):Inv X Wl σ H s:=
 ⟨I.ok,I.os,I.bare,I.base,I.loc,I.cell,I.free,I.mY,fun p hp=>(Co.mp hp).elim (fun z=>I.pin p (EU _ z)) (h p),I.bb,I.len⟩
theorem Hw {N:List Str} (hN:N.Nodup) {j:Nat} (a:N[i]? =some x) (b:N[j]? =some x):i=j:=by
 obtain⟨h1,e1⟩:=AS.mp a
 obtain⟨h2,e2⟩:=AS.mp b
 exact(List.getElem_inj hN).mp (e1.trans e2.symm)
theorem DJ {Q:Unit->AM->Prop} (I:Inv X pins σ H s) (hN:X.N.Nodup) (hi:X.N[i]? =some x) (hx:Loc X.env.scope x) (r:RelV v u) (h:∀s',Inv X pins (σ.set i (some v)) H s'->(∃a,Abt a s.heap s'.heap/\(a=X.env.locals\/X.env.cells.lookup x=some a))->Q () s') (hf:X.fn x=true\/X.env.scope.names.lookup x=some .local:=by first|exact .inl rfl|exact .inr rfl|assumption):wpAny M A (storeName X.env x u) Q E s:=by
 obtain⟨m,hn,hl⟩:=id I.loc
 have afL:(X.env.scope.kind==.class||(X.env.scope.kind==.module&&X.env.locals !=X.env.globals))=false:=by rw [I.ok.kind];rfl
 have ac1:i<σ.length:=by rw [I.len];exact(AS.mp hi).1
 have YR:=I.YR
 have tracked:∀{a:Addr} {h':Heap},(∃o,s.heap.get? a=some o/\H a=none)->Abt a s.heap h'->rh X.prog X.w H h':=fun {a h'} ha hs b ob e=>by
  obtain⟨_,_,V4⟩:=ha
  refine(I.bb b ob e).qW (fun c w' hc q=>(hs.2 c ?_).trans q) (fun _ q=>q) fun _ _ q=>q
  rintro rfl
  rcases hc with rfl|hc
  . rw [V4] at e;cases e
  . rw [V4] at hc;cases hc
 rcases hx with hk|hk
 . refine wpAny_storeName_local hk hn (fun h' hn' hs=>?_) afL
   obtain⟨oL,_,_,J9,_⟩:=id hn
   refine h _ ⟨I.ok,I.os,I.bare,⟨fun b o e n hb hx=>?_,fun b o e n hb hx=>?_,I.base.free,fun b o e hx=>?_,I.base.wW,I.base.uk,I.base.zM⟩,⟨_,hn',fun j y v' e1 e2 e3=>?_⟩,fun y c e=>?_,I.free,I.mY,fun p hp=>?_,tracked ⟨oL,J9,I.free⟩ hs,by simpa using I.len⟩ ⟨_,hs,.inl rfl⟩
   . exact(hs.2 b (ET (DD (Db e) I.ok.above))).trans (I.base.keep b o e n hb hx)
   . obtain⟨sl,e1⟩:=I.base.slot b o e n hb hx
     exact⟨sl,(hs.2 b (ET (DD (Db e) I.ok.above))).trans e1⟩
   . obtain⟨o',e1⟩:=I.base.there b o e hx
     exact⟨o',(hs.2 b (ET (DD (Db e) I.ok.above))).trans e1⟩
   . by_cases hj:j=i
     . subst hj
       rw [hi] at e1;cases e1
       rw [AaJ ac1] at e2
       cases e2
       exact⟨u,r,.inl ⟨hk,by simp⟩⟩
     . rw [Aah (Me hj)] at e2
       obtain⟨u',r',q⟩:=hl j y v' e1 e2 e3
       refine⟨u',r',?_⟩
       rcases q with⟨k,e⟩|⟨k,c,e,z⟩
       . refine .inl ⟨k,?_⟩
         have:y≠x:=fun e=>hj (Hw hN e1 (e▸hi))
         simp [this,e]
       . exact .inr ⟨k,c,e,z.sameBut hs (YR y c e)⟩
   . obtain⟨w',z⟩:=I.cell y c e
     exact⟨w',z.sameBut hs (YR y c e)⟩
   . obtain⟨e,n,ne,nf,d⟩:=I.pin p hp
     exact⟨(hs.2 p.1 ne).trans e,n,ne,nf,d⟩
 . have E3:X.fn x=true:=by
    rcases hf with z|z
    . exact z
    . rw [z] at hk;cases hk
   obtain⟨c,hc⟩:=I.ok.has x (.inl hk)
   obtain⟨w',z⟩:=I.cell x c hc
   refine wpAny_storeName_cell I.ok.kind hk hc z (fun h' xt hs=>?_)
   obtain⟨oc,Jn,ag8⟩:=id z
   refine h {s with heap:=h'} ⟨I.ok,I.os,I.bare,⟨fun b o e n hb hx=>?_,fun b o e n hb hx=>?_,I.base.free,fun b o e hx=>?_,I.base.wW,I.base.uk,I.base.zM⟩,⟨m,hn.sameBut hs (Me (YR x c hc)),fun j y v' e1 e2 e3=>?_⟩,fun y c' e=>?_,I.free,I.mY,fun p hp=>?_,tracked ⟨oc,Jn,I.mY x c hc⟩ hs,by simpa using I.len⟩ ⟨c,hs,.inr hc⟩
   . exact(hs.2 b (ET (DD (Db e) (I.ok.cab x c E3 hc)))).trans (I.base.keep b o e n hb hx)
   . obtain⟨sl,e1⟩:=I.base.slot b o e n hb hx
     exact⟨sl,(hs.2 b (ET (DD (Db e) (I.ok.cab x c E3 hc)))).trans e1⟩
   . obtain⟨o',e1⟩:=I.base.there b o e hx
     exact⟨o',(hs.2 b (ET (DD (Db e) (I.ok.cab x c E3 hc)))).trans e1⟩
   . by_cases hj:j=i
     . subst hj
       rw [hi] at e1;cases e1
       rw [AaJ ac1] at e2
       cases e2
       exact⟨u,r,.inr ⟨.inl hk,c,hc,xt⟩⟩
     . rw [Aah (Me hj)] at e2
       obtain⟨u',r',q⟩:=hl j y v' e1 e2 e3
       refine⟨u',r',?_⟩
       rcases q with q|⟨k,c',e,z'⟩
       . exact .inl q
       . refine .inr ⟨k,c',e,z'.sameBut hs ?_⟩
         rintro rfl
         exact hj (Hw hN e1 (I.ok.inj _ _ _ e hc▸hi))
   . by_cases hcc:c'=c
     . subst hcc;exact⟨_,xt⟩
     . obtain⟨w2,z2⟩:=I.cell y c' e
       exact⟨w2,z2.sameBut hs hcc⟩
   . obtain⟨e,n,ne,nf,d⟩:=I.pin p hp
     refine⟨(hs.2 p.1 ?_).trans e,n,ne,nf,d⟩
     intro q
     rw [q,Jn] at e
     have q':oc=p.2:=Do e
     exact d w' (by rw [<-q'];exact ag8)
theorem F5 {Q:Unit->AM->Prop} (I:Inv X pins σ H s) (hN:X.N.Nodup) (hi:X.N[i]? =some x) (hx:Loc X.env.scope x) (r:RelV v u) (h:∀s',Inv X pins (σ.set i (some v)) H s'->Q () s') (hf:X.fn x=true\/X.env.scope.names.lookup x=some .local:=by first|exact .inl rfl|exact .inr rfl|assumption):wpAny M A (storeName X.env x u) Q E s:=
 DJ I hN hi hx r (fun s' I' _=>h s' I') hf
theorem Inv.adG {s':AM} (I:Inv X pins σ H s) (ho:s'.os=s.os) (u:Un (Nq X.stack) ch H H' s.heap s'.heap) (bb:rh X.prog X.w H' s'.heap) (hg:AbW s'.gens) (uM:∀b∈ch,(b∈X.ex\/X.jk.heap.objs.size<=b)/\b≠X.env.locals/\(∀x c,X.env.cells.lookup x=some c->c≠b)/\∀p∈X.pn++pins,p.1≠b):Inv X pins σ H' s':=by
 obtain⟨h',g',d',t',o'⟩:=s'
 have e:o'=s.os:=ho
 subst e
 exact I.call (g':=g') (t':=t') (d':=d') u bb hg uM
end
abbrev XK:=Value->Option Addr->Hp->Prop
abbrev St:=List (Option V)
variable {σ:St}
abbrev VK:=V->Hp->Prop
abbrev TE:=St->Hp->VK->Prop
variable {te ta:TE}
abbrev TT:=St->Hp->(Bool->Hp->Prop)->Prop
abbrev TA:=St->Hp->(List V->Hp->Prop)->Prop
variable {t:TA}
structure Ends where
 nx:St->Hp->Prop
 rt:VK
 bk:St->Hp->Prop:=fun _ _=>False
 ct:St->Hp->Prop:=fun _ _=>False
variable {D:Ends}
abbrev TS:=Ends->St->Hp->Prop
variable {tb:TS}
def EP (X:Cx) (pins:List (Addr × Obj)) (σ:St) (Q:VK) (u:Value) (s':AM):Prop:=∃v H',Inv X pins σ H' s'/\RelV v u/\Q v H'
def TP (X:Cx) (pins:List (Addr × Obj)) (σ:St) (Q:Bool->Hp->Prop) (b:Bool) (s':AM):Prop:=∃H',Inv X pins σ H' s'/\Q b H'
def AP (X:Cx) (pins:List (Addr × Obj)) (σ:St) (Q:List V->Hp->Prop) (us:List Value) (s':AM):Prop:=∃vs H',Inv X pins σ H' s'/\Vals vs us/\Q vs H'
def SP (X:Cx) (pins:List (Addr × Obj)) (D:Ends) (f:Flow) (s':AM):Prop:=
 match f with
 | .next=>∃σ' H',Inv X pins σ' H' s'/\D.nx σ' H'
 | .brk=>∃σ' H',Inv X pins σ' H' s'/\D.bk σ' H'
 | .cont=>∃σ' H',Inv X pins σ' H' s'/\D.ct σ' H'
 | .ret u=>∃v σ' H',Inv X pins σ' H' s'/\RelV v u/\D.rt v H'
def PE (X:Cx) (e:Expr) (t:TE):Prop:=
 ∀(pins:List (Addr × Obj)) (s:AM) (σ:St) (H:Hp) (Q:VK),Inv X pins σ H s->t σ H Q->wpAny (model X.prog X.w) X.A (eval e X.env) (EP X pins σ Q) X.xe s
def PT (X:Cx) (e:Expr) (t:TT):Prop:=
 ∀(pins:List (Addr × Obj)) (s:AM) (σ:St) (H:Hp) (Q:Bool->Hp->Prop),Inv X pins σ H s->t σ H Q->wpAny (model X.prog X.w) X.A (isTrue e X.env (eval e X.env)) (TP X pins σ Q) X.xe s
def PW (X:Cx) (e:Expr) (t:TT):Prop:=
 ∀(whole:Sem Value) (pins:List (Addr × Obj)) (s:AM) (σ:St) (H:Hp) (Q:Bool->Hp->Prop),Inv X pins σ H s->t σ H Q->wpAny (model X.prog X.w) X.A (isTrue e X.env whole) (TP X pins σ Q) X.xe s
theorem PW.pt {t:TT} (h:PW X e t):PT X e t:=h _
def PA (X:Cx) (es:List Expr) (t:TA):Prop:=
 ∀(pos:Pos) (pins:List (Addr × Obj)) (s:AM) (σ:St) (H:Hp) (Q:List V->Hp->Prop),Inv X pins σ H s->t σ H Q->wpAny (model X.prog X.w) X.A (spliced (SS pos (DO es X.env))) (AP X pins σ Q) X.xe s
def PS (X:Cx) (st:Stmt) (t:TS):Prop:=
 ∀(pins:List (Addr × Obj)) (s:AM) (σ:St) (H:Hp) (D:Ends),Inv X pins σ H s->t D σ H->wpAny (model X.prog X.w) X.A (exec st X.env) (SP X pins D) X.xe s
def J4 (X:Cx) (st:List Stmt) (t:TS):Prop:=
 ∀(pins:List (Addr × Obj)) (s:AM) (σ:St) (H:Hp) (D:Ends),Inv X pins σ H s->t D σ H->wpAny (model X.prog X.w) X.A (execs st X.env) (SP X pins D) X.xe s
theorem dC {α:Type} {t:Sem α} {Q Q':α->AM->Prop} (h:wpAny M A t Q E s) (hQ:∀a s,Q a s->Q' a s):wpAny M A t Q' E s:=Pc h hQ fun _ _ x=>x
section
def Z1 (i:Nat):TE:=fun σ H Q=>∃v,σ[i]? =some (some v)/\Q v H
def tC (v:V):TE:=fun _ H Q=>Q v H
theorem Ze (hN:X.N[i]? =some x) (hv:Vis X.env.scope x) (hd:(x==("__debug__":Str))=false:=by decide) (N9:(x==("__classdict__":Str))=false:=by decide):PE X (.Name x pos) (Z1 i):=by
 intro pins s σ H Q I h
 obtain⟨v,e,h⟩:=h
 obtain⟨m,hn,hl⟩:=I.loc
 obtain⟨u,r,l⟩:=hl i x v hN e hv
 have fin:EP X pins σ Q u s:=⟨v,H,I,r,h⟩
 rcases l with⟨hk,hm⟩|⟨hk,c,hc,Dt⟩
 . exact wpAny_Name (wpAny_loadName_local I.ok.kind hk hn hm fin) hd
 . rcases hk with hk|hk
   . exact wpAny_Name (wpAny_loadName_cell I.ok.kind hk hc Dt fin) hd
   . exact wpAny_Name (wpAny_loadName_free I.ok.kind hk hc Dt fin N9) hd
theorem aq {i j pos}:PE X (.Constant (.int i) j pos) (tC (.int i)):=fun _ _ _ H _ I h=>wpAny_Constant_int ⟨.int i,H,I.tok _,⟨_,rfl⟩,h⟩
theorem wx {b j pos}:PE X (.Constant (.bool b) j pos) (tC (.bl b)):=fun _ _ _ H _ I h=>Constant_bool ⟨.bl b,H,I,rfl,h⟩
theorem eC {j pos}:PE X (.Constant .none j pos) (tC .aQ):=fun _ _ _ H _ I h=>Constant_none ⟨.aQ,H,I,rfl,h⟩
theorem jy {x j pos}:PE X (.Constant (.str x) j pos) (tC (.str x)):=fun _ _ _ H _ I h=>Calls.Constant_str ⟨.str x,H,I.tok _,⟨_,rfl⟩,h⟩
def Gl (X:Cx) (x:Str):Prop:=X.env.kindOf x=some .globalImplicit
theorem xP (I:Inv X pins σ H s) (hg:Gl X x) (hm:X.mg x=some u) (h:Q u s) (hd:(x==("__debug__":Str))=false:=by decide):wpAny (model X.prog X.w) X.A (eval (.Name x pos) X.env) Q E s:=
 Calls.Name_function_global I.ok.kind hg (Calls.loadGlobal_global (by rw [I.ok.glob];exact I.mod.glob.keeps I.bk) hm h) hd
theorem u9 (I:Inv X pins σ H s) (hg:Gl X x) (hm:X.mg x=none) (hv:AaV x=some u) (h:Q u s) (hn:x≠"__name__":=by decide) (hd:(x==("__debug__":Str))=false:=by decide):wpAny (model X.prog X.w) X.A (eval (.Name x pos) X.env) Q E s:=by
 obtain⟨mb,h1,h2⟩:=I.mod.blt
 exact Calls.Name_function_global I.ok.kind hg (Calls.loadGlobal_builtin (by rw [I.ok.glob];exact I.mod.glob.keeps I.bk) hm (by rw [I.ok.blt];exact h1.keeps I.bk) ((h2 x hn).trans hv) h) hd
theorem Af (hg:Gl X x) (hm:X.mg x=some u) (r:RelV v u) (hd:(x==("__debug__":Str))=false:=by decide):PE X (.Name x pos) (tC v):=
 fun _ _ _ H _ I h=>xP I hg hm ⟨v,H,I,r,h⟩ hd
theorem mZ (hg:Gl X x) (hm:X.mg x=none) (hv:AaV x=some u) (r:RelV v u) (hn:x≠"__name__":=by decide) (hd:(x==("__debug__":Str))=false:=by decide):PE X (.Name x pos) (tC v):=
 fun _ _ _ H _ I h=>u9 I hg hm hv ⟨v,H,I,r,h⟩ hn hd
variable {a b:Expr} {tb:TE}
def PC (X:Cx) (op:CmpOp) (a b:Expr) (t:TE):Prop:=
 ∀(pins:List (Addr × Obj)) (s:AM) (σ:St) (H:Hp) (Q:VK),Inv X pins σ H s->t σ H Q->
  wpAny (model X.prog X.w) X.A (eval a X.env) (fun v s₁=>wpAny (model X.prog X.w) X.A (eval b X.env) (fun u s₂=>wpAny (model X.prog X.w) X.A (ON op v u) (EP X pins σ Q) X.xe s₂) X.xe s₁) X.xe s
def tB (t:TE):TT:=fun σ H Q=>t σ H fun x H1=>∃c,x=.bl c/\Q c H1
theorem E4 {t:TE} (h:PC X op a b t) (h1:Abc op b=false:=by first|exact abl _ (by decide) (by decide)|rfl):PT X (.Compare a [op] [b] pos) (tB t):=by
 intro pins s σ H Q I hw
 refine wpAny_isTrue_Compare1 (dC (h pins s σ H _ I hw) fun v s1 h1=>dC h1 fun u s2 h2=>dC h2 fun c s3 ⟨x,H1,I1,r1,q1⟩=>?_) h1
 obtain⟨d,rfl,q⟩:=q1
 cases r1
 exact Rs ⟨H1,I1,q⟩
variable {tA tB':TT} {rest:List Expr}
def adC (t u:TT):TT:=fun σ H Q=>t σ H fun c H1=>if c=true then u σ H1 Q else Q false H1
def tOr (t u:TT):TT:=fun σ H Q=>t σ H fun c H1=>if c=true then Q true H1 else u σ H1 Q
def adI (t:TT):TT:=fun σ H Q=>t σ H fun c H1=>Q (!c) H1
theorem pR (ha:PT X a tA):PW X (.BoolOp .And [a] pos) tA:=by
 intro wh pins s σ H Q I h
 refine isTrue_and (dC (ha pins s σ H Q I h) fun c s1 e=>?_)
 cases c with
 |true=>exact isTrue_and_nil e
 |false=>exact e
theorem BI (ha:PT X a tA):PW X (.BoolOp .Or [a] pos) tA:=by
 intro wh pins s σ H Q I h
 refine isTrue_or (dC (ha pins s σ H Q I h) fun c s1 e=>?_)
 cases c with
 |false=>exact isTrue_or_nil e
 |true=>exact e
theorem vG (ha:PT X a tA) (hb:PW X (.BoolOp .And (b::rest) pos) tB'):PW X (.BoolOp .And (a::b::rest) pos) (adC tA tB'):=by
 intro wh pins s σ H Q I h
 refine isTrue_and (dC (ha pins s σ H _ I h) fun c s1 ⟨H1,I1,q1⟩=>?_)
 cases c with
 |true=>exact hb wh pins s1 σ H1 Q I1 q1
 |false=>exact⟨H1,I1,q1⟩
theorem DZ (ha:PT X a tA) (hb:PW X (.BoolOp .Or (b::rest) pos) tB'):PW X (.BoolOp .Or (a::b::rest) pos) (tOr tA tB'):=by
 intro wh pins s σ H Q I h
 refine isTrue_or (dC (ha pins s σ H _ I h) fun c s1 ⟨H1,I1,q1⟩=>?_)
 cases c with
 |true=>exact⟨H1,I1,q1⟩
 |false=>exact hb wh pins s1 σ H1 Q I1 q1
theorem iY (ha:PT X a tA):PT X (.UnaryOp .Not a pos) (adI tA):=by
 intro pins s σ H Q I h
 exact isTrue_not (ha pins s σ H (fun c H1=>Q (!c) H1) I h)
def VD (ta tb:TE):TE:=fun σ H Q=>ta σ H fun x H1=>∃c,x=.bl c/\if c=true then tb σ H1 Q else Q (.bl false) H1
def abO (ta tb:TE):TE:=fun σ H Q=>ta σ H fun x H1=>∃c,x=.bl c/\if c=true then Q (.bl true) H1 else tb σ H1 Q
def VY (ta:TE):TE:=fun σ H Q=>ta σ H fun x H1=>∃c,x=.bl c/\Q (.bl (!c)) H1
theorem AQ {op} {t:TE} (h:PE X a t):PE X (.BoolOp op [a] pos) t:=fun pins s σ H Q I hw=>BoolOp_one (h pins s σ H Q I hw)
theorem EC (ha:PE X a ta) (hb:PE X (.BoolOp .And (b::rest) pos) tb):PE X (.BoolOp .And (a::b::rest) pos) (VD ta tb):=by
 intro pins s σ H Q I h
 refine BoolOp_and (dC (ha pins s σ H _ I h) fun v s1 ⟨x,H1,I1,r1,q1⟩=>?_)
 obtain⟨c,rfl,q1⟩:=q1
 cases r1
 refine Rs ?_
 cases c with
 |true=>exact hb pins s1 σ H1 Q I1 q1
 |false=>exact⟨.bl false,H1,I1,rfl,q1⟩
theorem aaP (ha:PE X a ta) (hb:PE X (.BoolOp .Or (b::rest) pos) tb):PE X (.BoolOp .Or (a::b::rest) pos) (abO ta tb):=by
 intro pins s σ H Q I h
 refine BoolOp_or (dC (ha pins s σ H _ I h) fun v s1 ⟨x,H1,I1,r1,q1⟩=>?_)
 obtain⟨c,rfl,q1⟩:=q1
 cases r1
 refine Rs ?_
 cases c with
 |false=>exact hb pins s1 σ H1 Q I1 q1
 |true=>exact⟨.bl true,H1,I1,rfl,q1⟩
theorem RT (ha:PE X a ta):PE X (.UnaryOp .Not a pos) (VY ta):=by
 intro pins s σ H Q I h
 refine UnaryOp_ (dC (ha pins s σ H _ I h) fun v s1 ⟨x,H1,I1,r1,q1⟩=>?_)
 obtain⟨c,rfl,q1⟩:=q1
 cases r1
 exact not_of (Rs ⟨.bl (!c),H1,I1,rfl,q1⟩)
def tIf (t:TT) (ta tb:TE):TE:=fun σ H Q=>t σ H fun c H1=>if c=true then ta σ H1 Q else tb σ H1 Q
theorem Au (hc:PT X c tA) (ha:PE X a ta) (hb:PE X b tb):PE X (.IfExp c a b pos) (tIf tA ta tb):=by
 intro pins s σ H Q I h
 refine wpAny_IfExp (dC (hc pins s σ H _ I h) fun d s1 ⟨H1,I1,q1⟩=>?_)
 cases d with
 |true=>exact ha pins s1 σ H1 Q I1 q1
 |false=>exact hb pins s1 σ H1 Q I1 q1
end
def gD (K:At) (H:Hp) (a:Addr) (xs:List V):Prop:=
 Rd H a (.lst xs)\/
  ∃(o:Obj) (aZ:Array Value) (n:Nat),K.lookup a=some o/\o.cls=.type "list"/\o.dict=none/\o.data=.seq aZ n/\aZ.size<=EM/\Vals xs aZ.toList
def zZ (K:At) (H:Hp) (a:Addr) (xs:List V):Prop:=
 Rd H a (.tup xs)\/
  ∃(o:Obj) (aZ:Array Value) (n:Nat),K.lookup a=some o/\o.cls=.type "tuple"/\o.data=.seq aZ n/\aZ.size<=EM/\Vals xs aZ.toList
def afc:Value->Option V
 | .none=>some .aQ
 | .bool b=>some (.bl b)
 | .int i _=>some (.int i)
 | .str x _=>some (.str x)
 | .bytes b _=>some (.Lx b)
 | .float b _=>some (.WQ b)
 | .ref a=>some (.ref a)
 | .type n=>some (.ty n)
 |_=>none
theorem RelV.abs {x:V} (r:RelV x u):afc u=some x:=by
 cases x with
 |aQ=>cases r;rfl
 |bl _=>cases r;rfl
 |int _=>obtain⟨t,rfl⟩:=r;rfl
 |str _=>obtain⟨t,rfl⟩:=r;rfl
 |Lx _=>obtain⟨t,rfl⟩:=r;rfl
 |WQ _=>obtain⟨t,rfl⟩:=r;rfl
 |ref _=>cases r;rfl
 |ty _=>cases r;rfl
theorem RelV.inj {x y:V} (r:RelV x u) (q:RelV y u):x=y:=Do (r.abs.symm.trans q.abs)
theorem Vals.inj:∀{xs ys:List V} {us:List Value},Vals xs us->Vals ys us->xs=ys
 |_,_,_,.nil,.nil=>rfl
 |_,_,_,.cons r t,.cons r' t'=>by rw [r.inj r',Vals.inj t t']
section
variable {ys:List V}
theorem gD.of (h:H a=some (.lst xs)):gD K H a xs:=.inl (.inl h)
theorem zZ.of (h:H a=some (.tup xs)):zZ K H a xs:=.inl (.inl h)
theorem Inv.list (I:Inv X pins σ H s) (h:gD X.K H a xs):∃aZ:List Value,Vals xs aZ/\PlainL s.heap a aZ.toArray/\xs.length<=EM:=by
 rcases h with h|⟨o,aZ,n,hk,hc,hd,hs,hz,r⟩
 . obtain⟨z,aZ,n,r,e⟩:=h.ok I.bb
   exact⟨aZ,r,⟨_,n,e,rfl,rfl,rfl⟩,z⟩
 . refine⟨aZ.toList,r,⟨o,n,I.vS a o hk,hc,hd,by simpa using hs⟩,?_⟩
   have e:=r.length
   simp only [Abh] at e
   omega
theorem Inv.tuple (I:Inv X pins σ H s) (h:zZ X.K H a xs):∃aZ:List Value,Vals xs aZ/\IsTup s.heap a aZ.toArray/\xs.length<=EM:=by
 rcases h with h|⟨o,aZ,n,hk,hc,hs,hz,r⟩
 . obtain⟨z,aZ,r,p⟩:=h.ok I.bb
   exact⟨aZ,r,p,z⟩
 . refine⟨aZ.toList,r,⟨o,I.vS a o hk,hc,n,by simpa using hs⟩,?_⟩
   have e:=r.length
   simp only [Abh] at e
   omega
theorem Inv.Gg (I:Inv X pins σ H s) (h:gD X.K H a xs) (h':gD X.K H a ys):xs=ys:=by
 obtain⟨aZ,r,⟨o,n,e,_,_,d⟩,_⟩:=I.list h
 obtain⟨its',r',⟨o',n',e',_,_,d'⟩,_⟩:=I.list h'
 rw [e] at e';cases e'
 rw [d] at d'
 injection d' with d1 _
 have:aZ=its':=by simpa using congrArg Array.toList d1
 subst this
 exact r.inj r'
theorem Inv.MQ (I:Inv X pins σ H s) (h:zZ X.K H a xs) (h':zZ X.K H a ys):xs=ys:=by
 obtain⟨aZ,r,⟨o,e,_,n,d⟩,_⟩:=I.tuple h
 obtain⟨its',r',⟨o',e',_,n',d'⟩,_⟩:=I.tuple h'
 rw [e] at e';cases e'
 rw [d] at d'
 injection d' with d1 _
 have:aZ=its':=by simpa using congrArg Array.toList d1
 subst this
 exact r.inj r'
end
abbrev Cx.CY (X:Cx) (E:Value->AM->Prop):Cx:={X with xe:=E}
abbrev Cx.nox (X:Cx):Cx:=X.CY fun _ _=>False
theorem Cx.Ok.CY (ok:X.Ok) (E:Value->AM->Prop):(X.CY E).Ok:=
 ⟨ok.mod,ok.kind,ok.glob,ok.blt,ok.above,ok.inj,ok.has,ok.cab,ok.hd,ok.frames,ok.stk,ok.exf,ok.bs,ok.Oe,ok.MR,ok.M6,ok.xh,ok.U8⟩
theorem Cx.Ok.rV (ok:(X.CY E).Ok):X.Ok:=
 ⟨ok.mod,ok.kind,ok.glob,ok.blt,ok.above,ok.inj,ok.has,ok.cab,ok.hd,ok.frames,ok.stk,ok.exf,ok.bs,ok.Oe,ok.MR,ok.M6,ok.xh,ok.U8⟩
section
theorem Inv.CY (I:Inv X pins σ H s) (E:Value->AM->Prop):Inv (X.CY E) pins σ H s:=⟨I.ok.CY E,I.os,I.bare,I.base,I.loc,I.cell,I.free,I.mY,I.pin,I.bb,I.len⟩
theorem Inv.rV (I:Inv (X.CY E) pins σ H s):Inv X pins σ H s:=⟨I.ok.rV,I.os,I.bare,I.base,I.loc,I.cell,I.free,I.mY,I.pin,I.bb,I.len⟩
theorem SP.rV {f:Flow} {s':AM} (h:SP (X.CY E) pins D f s'):SP X pins D f s':=by
 cases f with
 |next=>obtain⟨σ',H',I,q⟩:=h;exact⟨σ',H',I.rV,q⟩
 |brk=>obtain⟨σ',H',I,q⟩:=h;exact⟨σ',H',I.rV,q⟩
 |cont=>obtain⟨σ',H',I,q⟩:=h;exact⟨σ',H',I.rV,q⟩
 |ret u=>obtain⟨v,σ',H',I,r,q⟩:=h;exact⟨v,σ',H',I.rV,r,q⟩
theorem J4.nox {st:List Stmt} {t:TS} (h:J4 X.nox st t):J4 X st t:=fun pins s σ H D I hw=>
 Pc (h pins s σ H D (I.CY _) hw) (fun _ _ q=>q.rV) fun _ _ z=>RI z
end
section
variable {st:Stmt} {rest:List Stmt} {t u:TS}
def OG:TS:=fun D σ H=>D.nx σ H
theorem aN:J4 X [] OG:=fun _ _ σ H _ I h=>Abi ⟨σ,H,I,h⟩
theorem ah (h1:PS X st t):J4 X [st] t:=by
 intro pins s σ H D I h
 refine wpAny_execs_cons (dC (h1 pins s σ H D I h) fun f s1 q=>?_)
 cases f with
 |next=>exact Abi q
 |ret v=>exact q
 |brk=>exact q
 |cont=>exact q
theorem K3:PS X (.Pass pos) OG:=fun _ _ σ H _ I h=>wpAny_Pass ⟨σ,H,I,h⟩
theorem Inv.quiet (I:Inv X pins σ H s):interactive X.env=false:=by simp [interactive,I.ok.kind]
def V2 (te:TE):TS:=fun D σ H=>te σ H fun _ H1=>D.nx σ H1
theorem aF (he:PE X e te) (hs:swapsWith e none pos.line X.env=pure false:=by rfl):PS X (.Expr e pos) (V2 te):=by
 intro pins s σ H D I h
 exact wpAny_Expr_any (dC (he pins s σ H _ I h) fun v s1 ⟨x,H1,I1,r1,q1⟩=>⟨σ,H1,I1,q1⟩) I.quiet hs
def ac6 (te:TE):TS:=fun D σ H=>te σ H D.rt
theorem aD (he:PE X e te):PS X (.Return (some e) pos) (ac6 te):=by
 intro pins s σ H D I h
 exact wpAny_Return_some (dC (he pins s σ H _ I h) fun v s1 ⟨x,H1,I1,r1,q1⟩=>⟨x,σ,H1,I1,r1,q1⟩)
def aa6 (c:TT) (t u:TS):TS:=fun D σ H=>c σ H fun b H1=>if b=true then t D σ H1 else u D σ H1
theorem bB {a b:List Stmt} {tc:TT} (hc:PT X c tc) (ha:J4 X a t) (hb:J4 X b u):PS X (.If c a b pos) (aa6 tc t u):=by
 intro pins s σ H D I h
 refine wpAny_If (dC (hc pins s σ H _ I h) fun d s1 ⟨H1,I1,q1⟩=>?_)
 cases d with
 |true=>exact ha pins s1 σ H1 D I1 q1
 |false=>exact hb pins s1 σ H1 D I1 q1
def Zf:TS:=fun _ _ _=>False
theorem fA:PS X st Zf:=fun _ _ _ _ _ _ h=>h.elim
end
abbrev TG:=V->St->Hp->(St->Hp->Prop)->Prop
abbrev Px:=List V->St->Hp->(St->Hp->Prop)->Prop
def PG (X:Cx) (target:Expr) (t:TG):Prop:=
 ∀(pins:List (Addr × Obj)) (s:AM) (σ:St) (H:Hp) (v:V) (u:Value) (Q:St->Hp->Prop),Inv X pins σ H s->RelV v u->t v σ H Q->
  wpAny (model X.prog X.w) X.A (assign target X.env u) (fun _ s'=>∃σ' H',Inv X pins σ' H' s'/\Q σ' H') X.xe s
def PGs (X:Cx) (ts:List Expr) (t:Px):Prop:=
 ∀(pins:List (Addr × Obj)) (s:AM) (σ:St) (H:Hp) (vs:List V) (us:List Value) (Q:St->Hp->Prop),Inv X pins σ H s->Vals vs us->t vs σ H Q->
  wpAny (model X.prog X.w) X.A (assignInOrder ((AaL ts X.env).map (·.2)) us) (fun _ s'=>∃σ' H',Inv X pins σ' H' s'/\Q σ' H') X.xe s
section
def lC (i:Nat):TG:=fun v σ H Q=>Q (σ.set i (some v)) H
theorem a0 (hN:X.N.Nodup) (hi:X.N[i]? =some x) (hx:Loc X.env.scope x) (hf:X.fn x=true\/X.env.scope.names.lookup x=some .local:=by first|exact .inl rfl|exact .inr rfl|assumption):PG X (.Name x pos) (lC i):=by
 intro pins s σ H v u Q I r h
 exact wpAny_assign_Name (F5 I hN hi hx r (fun s' I'=>⟨_,H,I',h⟩) hf)
def M3:Px:=fun vs σ H Q=>vs=[]/\Q σ H
def uP (t:TG) (u:Px):Px:=fun vs σ H Q=>∃v r,vs=v::r/\t v σ H fun σ' H'=>u r σ' H' Q
theorem wN:PGs X [] M3:=by
 intro pins s σ H vs us Q I r h
 obtain⟨e,h⟩:=h
 subst e
 cases r
 exact assignInOrder_nil ⟨σ,H,I,h⟩
theorem gL {t:TG} {u:Px} (h1:PG X e t) (h2:PGs X es u) (hs:(AaL (e::es) X.env).map (·.2)=assign e X.env::(AaL es X.env).map (·.2):=by rfl):PGs X (e::es) (uP t u):=by
 intro pins s σ H vs us Q I r h
 obtain⟨v,vr,e1,h⟩:=h
 subst e1
 cases r with
 |cons r rr=>
  rw [hs]
  refine assignInOrder_cons (dC (h1 pins s σ H _ _ _ I r h) fun _ s1 ⟨σ1,H1,I1,q1⟩=>?_)
  exact h2 pins s1 σ1 H1 _ _ Q I1 rr q1
def Ii (K:At) (n:Nat) (t:Px):TG:=fun v σ H Q=>∃a xs,v=.ref a/\zZ K H a xs/\xs.length=n/\t xs σ H Q
theorem Fd {k:Nat} {t:Px} (hc:X.calm=true) (h:PGs X es t) (hn:(AaL es X.env).length=n:=by rfl) (uh:(AaL es X.env).findIdx? (·.1)=none:=by rfl):PG X (.Tuple es k pos) (Ii X.K n t):=by
 intro pins s σ H v u Q I r hw
 obtain⟨a,xs,e1,hq,hl,hw⟩:=hw
 subst e1
 cases r
 obtain⟨aZ,rv,ht,hz⟩:=I.tuple hq
 refine assign_Tuple_tuple (I.ok.hd hc) ht (by simp [hn,<-hl,rv.length]) uh fun h' hx=>?_
 have I1:Inv X pins σ H {s with heap:=h'}:=I.kept (t':=s.toks) fun b o e=>hx b o (ET (Db e)) e
 exact h pins _ σ H xs _ Q I1 (by simpa using rv) hw
def RY (te:TE) (g:TG):TS:=fun D σ H=>te σ H fun x H1=>g x σ H1 D.nx
theorem ZF {g:TG} (he:PE X e te) (hg:PG X tg g) (hs:swapsWithSole [tg] e pos.line X.env=pure false:=by rfl) (hw:swappedStores [tg] e X.env=pure none:=by rfl) (h1:(AaL [tg] X.env).map (·.2)=[assign tg X.env]:=by rfl):PS X (.Assign [tg] e pos) (RY te g):=by
 intro pins s σ H D I h
 refine wpAny_Assign_stores (dC (he pins s σ H _ I h) fun v s1 ⟨x,H1,I1,r1,q1⟩=>?_) hs hw
 rw [h1]
 exact dC (hg pins s1 σ H1 x v _ I1 r1 q1) fun _ s2 q=>q
theorem aE {pos':Pos} (hN:X.N.Nodup) (hi:X.N[i]? =some x) (hx:Loc X.env.scope x) (he:PE X e te) (hs:swapsWith e (some (.Name x pos')) pos.line X.env=pure false:=by rfl) (hf:X.fn x=true\/X.env.scope.names.lookup x=some .local:=by first|exact .inl rfl|exact .inr rfl|assumption):
 PS X (.Assign [.Name x pos'] e pos) (RY te (lC i)):=by
 intro pins s σ H D I h
 refine wpAny_Assign_Name (dC (he pins s σ H _ I h) fun v s1 ⟨y,H1,I1,r1,q1⟩=>?_) hs
 exact F5 I1 hN hi hx r1 (fun s2 I2=>⟨_,H1,I2,q1⟩) hf
end
section
def O5 (c:TT) (tb:TS):TS:=fun D σ H=>∃W:Nat->St->Hp->Prop,(∃m,W m σ H)/\∀m σ H,W m σ H->
 c σ H fun b H1=>if b=true then ∃N:St->Hp->Prop,(∀σ' H',N σ' H'->∃m',m'<m/\W m' σ' H')/\tb {D with nx:=N,ct:=N,bk:=D.nx} σ H1 else D.nx σ H1
theorem pE {tc:TT} (hp:PassesOwn (model X.prog X.w) X.A X.env X.xe) (hc:PT X c tc) (hb:J4 X body tb):PS X (.While c body [] pos) (O5 tc tb):=by
 intro pins s σ H D I h
 obtain⟨W,⟨m0,w0⟩,turn⟩:=h
 refine wpAny_While (codeAny_whileLoop (fun n s'=>∃σ' H',Inv X pins σ' H' s'/\W n σ' H') ?_ m0 ⟨σ,H,I,w0⟩)
 rintro n s1 ⟨σ1,H1,I1,w1⟩
 refine UF hp (dC (hc pins s1 σ1 H1 _ I1 (turn n σ1 H1 w1)) fun b s2 ⟨H2,I2,q2⟩=>?_)
 cases b with
 |true=>
  obtain⟨N,hN,q2⟩:=q2
  rw [if_pos rfl]
  refine UF hp (dC (hb pins s2 σ1 H2 _ I2 q2) fun f s3 q3=>?_)
  cases f with
  |next=>
   obtain⟨σ3,H3,I3,n3⟩:=q3
   obtain⟨m',hm,w3⟩:=hN σ3 H3 n3
   exact⟨m',hm,σ3,H3,I3,w3⟩
  |cont=>
   obtain⟨σ3,H3,I3,n3⟩:=q3
   obtain⟨m',hm,w3⟩:=hN σ3 H3 n3
   exact⟨m',hm,σ3,H3,I3,w3⟩
  |brk=>exact q3
  |ret v=>exact q3
 |false=>
  rw [if_neg FM]
  exact Abi ⟨σ1,H2,I2,q2⟩
end
structure It where
 go:Nat->Hp->Prop
 Sf:Nat->Hp->V->Hp->Prop
 stop:Nat->Hp->Prop
def iI (X:Cx) (pins:List (Addr × Obj)) (H:Hp) (b:Addr):Prop:=
 H b=none/\b≠X.env.locals/\b∉X.fs/\(b∈X.ex\/X.jk.heap.objs.size<=b)/\(∀x c,X.env.cells.lookup x=some c->c≠b)/\∀p∈X.pn++pins,p.1≠b
theorem Inv.xY {H':Hp} (I:Inv X pins σ H s) (hb:s.heap.objs.size<=b) (hn:H' b=none):iI X pins H' b:=by
 refine⟨hn,Nat.ne_of_gt (DD I.lt hb),I.ags hb,.inr (Mo I.sz hb),fun x c e z=>?_,fun p hp z=>?_⟩
 . obtain⟨v,q⟩:=I.cell x c e
   exact absurd (DD q.lt (by rw [z];exact hb)) (Q2 _)
 . exact absurd (DD (Db (I.pin p hp).1) (by rw [z];exact hb)) (Q2 _)
structure Turn (P:Fk) (w:World) (K:At) (tg:Expr) (J:It) (fp:List Addr) (it:Addr) (tn:Nat->Heap->Prop):Prop where
 mem:it∈fp
 obj:∀i h,tn i h->∀b∈fp,∃o,h.get? b=some o/\∀v,o.data≠.cell v
 keep:∀i h h',tn i h->(∀b∈fp,∀o,h.get? b=some o->h'.get? b=some o)->tn i h'
 item:∀(X:Cx),X.prog=P->X.w=w->X.K=K->X.calm=true->∀(i:Nat) (pins:List (Addr × Obj)) (s:AM) (σ:St) (H:Hp) (E:Value->AM->Prop),Inv X pins σ H s->(∀b∈fp,iI X pins H b)->tn i s.heap->J.go i H->
  wpAny (model P w) X.A (pyNext (.ref it)) (fun r s1=>∃u,r=some u/\
   wpAny (model P w) X.A (Abj tg (.ref it) u) (fun _ s2=>∃x H',Inv X pins σ H' s2/\RelV x u/\J.Sf i H x H'/\tn (i+1) s2.heap/\∀b∈fp,H' b=none) E s1) E s
 done:∀(X:Cx),X.prog=P->X.w=w->X.K=K->X.calm=true->∀(i:Nat) (pins:List (Addr × Obj)) (s:AM) (σ:St) (H:Hp) (E:Value->AM->Prop),Inv X pins σ H s->(∀b∈fp,iI X pins H b)->tn i s.heap->J.stop i H->
  wpAny (model P w) X.A (pyNext (.ref it)) (fun r s1=>r=none/\Inv X pins σ H s1) E s
 self:∀(A:IS) (i:Nat) (s:AM) (Q:Value->AM->Prop) (E:Value->AM->Prop),tn i s.heap->Q (.ref it) s->wpAny (model P w) A (pyIter (.ref it)) Q E s
abbrev TI:=St->Hp->(It->Hp->Prop)->Prop
def PIE (X:Cx) (pins:List (Addr × Obj)) (σ:St) (tg:Expr) (R:It->Hp->Prop) (itv:Value) (s2:AM):Prop:=
 ∃(it:Addr) (fp:List Addr) (tn:Nat->Heap->Prop) (J:It) (H':Hp),itv=.ref it/\Inv X pins σ H' s2/\Turn X.prog X.w X.K tg J fp it tn/\tn 0 s2.heap/\(∀b∈fp,iI X pins H' b)/\R J H'
def PI (X:Cx) (tg iter:Expr) (wi:TI):Prop:=
 ∀(pins:List (Addr × Obj)) (s:AM) (σ:St) (H:Hp) (R:It->Hp->Prop),Inv X pins σ H s->wi σ H R->
  wpAny (model X.prog X.w) X.A (eval iter X.env) (fun v s1=>wpAny (model X.prog X.w) X.A (pyIter v) (PIE X pins σ tg R) X.xe s1) X.xe s
theorem OH {it:Addr} {o:Obj} {n:String} {vs:Array Value} {Q:Unit->AM->Prop} (ho:s.heap.get? it=some o) (hc:o.cls=.type n) (hd:o.data=.fields vs) (hn:["enumerate","zip","dict_itemiterator","dict_reverseitemiterator","odict_iterator","itertools.zip_longest","itertools.pairwise"].contains n=false) (hQ:Q () s):wpAny M A (Abj tg (.ref it) u) Q E s:=by
 unfold Abj
 cases tg <;>first
  |exact GS hQ
  |(cases u <;>first
   |exact GS hQ
   |(refine BS (wpAny_load ho ?_)
     rw [hc,hd]
     show wpAny M A (if (["enumerate","zip","dict_itemiterator","dict_reverseitemiterator","odict_iterator","itertools.zip_longest","itertools.pairwise"].contains n&&vs[0]? ==some (rawInt _))=true then _ else _) Q E s
     rw [if_neg (by intro h;rw [hn,Bool.false_and] at h;cases h)]
     exact GS hQ))
def PN (K:At) (a:Addr):It:=
 ⟨fun i H=>∃xs x,gD K H a xs/\xs[i]? =some x,fun i H x H'=>H'=H/\∀xs,gD K H a xs->xs[i]? =some x,fun i H=>∃xs,gD K H a xs/\xs.length<=i⟩
def WL (K:At) (a:Addr):It:=
 ⟨fun i H=>∃xs x,zZ K H a xs/\xs[i]? =some x,fun i H x H'=>H'=H/\∀xs,zZ K H a xs->xs[i]? =some x,fun i H=>∃xs,zZ K H a xs/\xs.length<=i⟩
def S3 (lo:Int) (n:Nat):It:=⟨fun i _=>i<n,fun i H x H'=>H'=H/\x=.int (lo+i),fun i _=>n<=i⟩
theorem MP (a it:Addr):Turn P w K tg (PN K a) [it] it (fun i h=>h.IsListIter it a i) where
 mem:=by simp
 obj:=fun i h st b hb=>by
  have e:b=it:=by simpa using hb
  subst e
  obtain⟨o,e,c,d⟩:=st
  exact⟨o,e,fun v z=>by rw [d] at z;cases z⟩
 keep:=fun i h h' st k=>st.at fun o e=>k it (by simp) o e
 item:=by
  intro X hP hw hK hc i pins s σ H E I hf st hg
  subst hP hw hK
  obtain⟨xs,x,hq,hx⟩:=hg
  obtain⟨aZ,rv,p,hz⟩:=I.list hq
  obtain⟨u,hu,ru⟩:=rv.get hx
  obtain⟨f0,f1,f2,f3,f4,f5⟩:=hf it (by simp)
  refine wpAny_pyNext_list_item st p.isList (x:=u) (by simpa using hu) fun h' C3 sb=>?_
  have I1:Inv X pins σ H {s with heap:=h'}:=I.turned (t':=s.toks) (fun b o hb e=>(sb.2 b hb).trans e) f0 f1 f3 f4 f5
  obtain⟨o,e,c,d⟩:=id C3
  exact⟨u,rfl,OH (s:={s with heap:=h'}) e c d (by decide) ⟨x,H,I1,ru,⟨rfl,fun ys hy=>by rw [I.Gg hy hq];exact hx⟩,C3,fun b hb=>(hf b hb).1⟩⟩
 done:=by
  intro X hP hw hK hc i pins s σ H E I hf st hg
  subst hP hw hK
  obtain⟨xs,hq,hx⟩:=hg
  obtain⟨aZ,rv,p,hz⟩:=I.list hq
  obtain⟨f0,f1,f2,f3,f4,f5⟩:=hf it (by simp)
  have hl:=rv.length
  exact wpAny_pyNext_list_end (I.ok.hd hc) st p.isList (by simp;omega) fun h' eb=>⟨rfl,I.turned (t':=s.toks) (fun b o hb e=>eb b o hb e) f0 f1 f3 f4 f5⟩
 self:=fun _ _ _ _ _ st h=>wpAny_pyIter_listiter st h
theorem JD (a it:Addr):Turn P w K tg (WL K a) [it] it (fun i h=>h.IsTupleIter it a i) where
 mem:=by simp
 obj:=fun i h st b hb=>by
  have e:b=it:=by simpa using hb
  subst e
  obtain⟨o,e,c,d⟩:=st
  exact⟨o,e,fun v z=>by rw [d] at z;cases z⟩
 keep:=fun i h h' st k=>st.at fun o e=>k it (by simp) o e
 item:=by
  intro X hP hw hK hc i pins s σ H E I hf st hg
  subst hP hw hK
  obtain⟨xs,x,hq,hx⟩:=hg
  obtain⟨aZ,rv,p,hz⟩:=I.tuple hq
  obtain⟨u,hu,ru⟩:=rv.get hx
  obtain⟨f0,f1,f2,f3,f4,f5⟩:=hf it (by simp)
  refine wpAny_pyNext_tuple_item st (show s.heap.IsTuple a aZ.toArray from p) (x:=u) (by simpa using hu) fun h' C3 sb=>?_
  have I1:Inv X pins σ H {s with heap:=h'}:=I.turned (t':=s.toks) (fun b o hb e=>(sb.2 b hb).trans e) f0 f1 f3 f4 f5
  obtain⟨o,e,c,d⟩:=id C3
  exact⟨u,rfl,OH (s:={s with heap:=h'}) e c d (by decide) ⟨x,H,I1,ru,⟨rfl,fun ys hy=>by rw [I.MQ hy hq];exact hx⟩,C3,fun b hb=>(hf b hb).1⟩⟩
 done:=by
  intro X hP hw hK hc i pins s σ H E I hf st hg
  subst hP hw hK
  obtain⟨xs,hq,hx⟩:=hg
  obtain⟨aZ,rv,p,hz⟩:=I.tuple hq
  obtain⟨f0,f1,f2,f3,f4,f5⟩:=hf it (by simp)
  have hl:=rv.length
  exact wpAny_pyNext_tuple_end (I.ok.hd hc) st (show s.heap.IsTuple a aZ.toArray from p) (by simp;omega) fun h' eb=>⟨rfl,I.turned (t':=s.toks) (fun b o hb e=>eb b o hb e) f0 f1 f3 f4 f5⟩
 self:=fun _ _ _ _ _ st h=>wpAny_pyIter_tupleiter st h
theorem Io (it:Addr) (lo:Int) (n:Nat):Turn P w K tg (S3 lo n) [it] it (fun i h=>IsRangeIter h it (lo+(i:Nat)*1) ((n:Int) - (i:Nat)) 1) where
 mem:=by simp
 obj:=fun i h st b hb=>by
  have e:b=it:=by simpa using hb
  subst e
  exact⟨_,st,fun v z=>by
   have z':Data.fields _=Data.cell v:=z
   cases z'⟩
 keep:=fun i h h' st k=>k it (by simp) _ st
 item:=by
  intro X hP hw hK hc i pins s σ H E I hf st hg
  subst hP hw hK
  obtain⟨f0,f1,f2,f3,f4,f5⟩:=hf it (by simp)
  have W:=Walks.range (prog:=X.prog) (w:=X.w) (I.ok.hd hc) it lo 1 n
  refine W.item i s _ _ hg st fun v h' tk hv C3 kk=>?_
  obtain⟨t,rfl⟩:=hv
  have I1:Inv X pins σ H {s with heap:=h',toks:=tk}:=I.turned (fun b o hb e=>kk b o (by simpa using hb) e) f0 f1 f3 f4 f5
  refine⟨_,rfl,OH (s:={s with heap:=h',toks:=tk}) (n:="range_iterator") C3 rfl rfl (by decide) ⟨.int (lo+i),H,I1,⟨t,?_⟩,⟨rfl,rfl⟩,C3,fun b hb=>(hf b hb).1⟩⟩
  rw [Int.mul_one]
 done:=by
  intro X hP hw hK hc i pins s σ H E I hf st hg
  subst hP hw hK
  obtain⟨f0,f1,f2,f3,f4,f5⟩:=hf it (by simp)
  exact wpAny_pyNext_range_end (I.ok.hd hc) st (by have:n<=i:=hg;omega) fun h' eb=>⟨rfl,I.turned (t':=s.toks) (fun b o hb e=>eb b o hb e) f0 f1 f3 f4 f5⟩
 self:=fun _ _ _ _ _ st h=>wpAny_pyIter_rangeiter st h
section
def RV (K:At) (tl:TE):TI:=fun σ H R=>tl σ H fun x H1=>∃a,x=.ref a/\(∃xs,gD K H1 a xs)/\R (PN K a) H1
def abt (K:At) (tl:TE):TI:=fun σ H R=>tl σ H fun x H1=>∃a,x=.ref a/\(∃xs,zZ K H1 a xs)/\R (WL K a) H1
theorem cR {l:Expr} {tl:TE} (hl:PE X l tl):PI X tg l (RV X.K tl):=by
 intro pins s σ H R I h
 refine dC (hl pins s σ H _ I h) fun v s1 ⟨x,H1,I1,r1,q1⟩=>?_
 obtain⟨a,e,⟨xs,hq⟩,q⟩:=q1
 subst e
 cases r1
 obtain⟨aZ,rv,p,hz⟩:=I1.list hq
 refine wpAny_pyIter_list p.isList ?_
 refine⟨s1.heap.objs.size,[s1.heap.objs.size],_,_,H1,rfl,I1.kept (t':=s1.toks) fun b o e=>BY _ e,MP a _,⟨_,Ev _ rfl,rfl,rfl⟩,fun b hb=>?_,q⟩
 have e:b=s1.heap.objs.size:=by simpa using hb
 subst e
 exact I1.xY (BN _) (I1.bb.fresh (BN _))
theorem Yw {l:Expr} {tl:TE} (hl:PE X l tl):PI X tg l (abt X.K tl):=by
 intro pins s σ H R I h
 refine dC (hl pins s σ H _ I h) fun v s1 ⟨x,H1,I1,r1,q1⟩=>?_
 obtain⟨a,e,⟨xs,hq⟩,q⟩:=q1
 subst e
 cases r1
 obtain⟨aZ,rv,p,hz⟩:=I1.tuple hq
 refine wpAny_pyIter_tuple (show s1.heap.IsTuple a aZ.toArray from p) ?_
 refine⟨s1.heap.objs.size,[s1.heap.objs.size],_,_,H1,rfl,I1.kept (t':=s1.toks) fun b o e=>BY _ e,JD a _,⟨_,Ev _ rfl,rfl,rfl⟩,fun b hb=>?_,q⟩
 have e:b=s1.heap.objs.size:=by simpa using hb
 subst e
 exact I1.xY (BN _) (I1.bb.fresh (BN _))
theorem QD {R:It->Hp->Prop} {lo hi:Int} {t u v:Tok} {tk:Nat} (I:Inv X pins σ H s) (h1:-(2^62)<=lo) (h2:lo<2^62) (h3:-(2^62)<=hi) (h4:hi<2^62) (q:R (S3 lo (hi - lo).toNat) H):wpAny (model X.prog X.w) X.A (pyIter (.ref s.heap.objs.size)) (PIE X pins σ tg R) E {s with heap:=s.heap.push {cls:=.type "range",data:=.fields #[.int lo t,.int hi u,.int 1 v]},toks:=tk}:=by
 refine wpAny_pyIter_range (IsRange.new ..) (small_one h1 h2 h3 h4) ?_
 have I1:Inv X pins σ H {s with heap:=s.heap.push {cls:=.type "range",data:=.fields #[.int lo t,.int hi u,.int 1 v]},toks:=tk}:=I.kept fun b o e=>BY _ e
 refine⟨(s.heap.push {cls:=.type "range",data:=.fields #[.int lo t,.int hi u,.int 1 v]}).objs.size,[(s.heap.push {cls:=.type "range",data:=.fields #[.int lo t,.int hi u,.int 1 v]}).objs.size],_,_,H,rfl,
  I1.kept (t':=tk) fun b o e=>BY _ e,Io _ lo (hi - lo).toNat,?_,fun b hb=>?_,q⟩
 . have e1:lo+((0:Nat):Int)*1=lo:=by simp
   have e2:(((hi - lo).toNat:Nat):Int) - ((0:Nat):Int)=YU.Range.rangeSize lo hi 1:=by rw [rangeSize_one];split <;>omega
   show IsRangeIter _ _ (lo+((0:Nat):Int)*1) ((((hi - lo).toNat:Nat):Int) - ((0:Nat):Int)) 1
   rw [e1,e2]
   exact Ev _ rfl
 . have e:b=(s.heap.push {cls:=.type "range",data:=.fields #[.int lo t,.int hi u,.int 1 v]}).objs.size:=by simpa using hb
   subst e
   exact I1.xY (BN _) (I1.bb.fresh (BN _))
def VL (ta:TA):TI:=fun σ H R=>ta σ H fun vs H1=>∃i j:Int,vs=[.int i,.int j]/\(-(2^62)<=i/\i<2^62/\-(2^62)<=j/\j<2^62)/\R (S3 i (j - i).toNat) H1
theorem MO {a b:Expr} {ta:TA} {p:Pos} (hg:Gl X "range") (hm:X.mg "range"=none) (ha:PA X [a,b] ta) (hs:DO [a,b] X.env=[(false,eval a X.env),(false,eval b X.env)]:=by rfl) (Cz:DO [b] X.env=[(false,eval b X.env)]:=by rfl):
 PI X tg (.Call (.Name "range" p) [a,b] [] pos) (VL ta):=by
 intro pins s σ H R I h
 refine Call_ (u9 I hg hm boot_range (Zl (dC (ha pos pins s σ H _ I h) fun us s1 ⟨vs,H1,I1,r1,q1⟩=>?_) (by rw [hs,Cz]) (by rw [Cz];rfl)))
 obtain⟨i,j,e,⟨q1,q2,q3,q4⟩,q⟩:=q1
 subst e
 cases r1 with
 |cons r rr=>
  cases rr with
  |cons r' rr=>
   cases rr
   obtain⟨t,rfl⟩:=r
   obtain⟨t',rfl⟩:=r'
   exact call_range_2 (QD I1 q1 q2 q3 q4 q)
def QP (wi:TI) (g:TG) (tb:TS):TS:=fun D σ H=>wi σ H fun J H1=>∃W:Nat->Nat->St->Hp->Prop,(∃m,W 0 m σ H1)/\∀i m σ H,W i m σ H->
 (J.stop i H/\D.nx σ H)\/(J.go i H/\∃N:St->Hp->Prop,(∀σ' H',N σ' H'->∃m',m'<m/\W (i+1) m' σ' H')/\∀x H',J.Sf i H x H'->g x σ H' fun σ2 H2=>tb {D with nx:=N,ct:=N,bk:=D.nx} σ2 H2)
def BV (fp:List Addr) (h:Heap):List (Addr × Obj):=fp.filterMap fun b=>(h.get? b).map fun o=>(b,o)
theorem p5 {o:Obj} (hb:b∈fp) (e:h.get? b=some o):(b,o)∈BV fp h:=List.mem_filterMap.mpr ⟨b,hb,by rw [e];rfl⟩
theorem Nt {p:Addr × Obj} (hp:p∈BV fp h):p.1∈fp/\h.get? p.1=some p.2:=by
 obtain⟨b,hb,e⟩:=List.mem_filterMap.mp hp
 cases q:h.get? b with
 |none=>rw [q] at e;cases e
 |some o=>
  rw [q] at e
  have e':(b,o)=p:=Do e
  subst e'
  exact⟨hb,q⟩
theorem Inv.pinned (I:Inv X pins σ H s) (hf:∀b∈fp,iI X pins H b) (ho:∀b∈fp,∃o,s.heap.get? b=some o/\∀v,o.data≠.cell v):Inv X (pins++BV fp s.heap) σ H s:=
 I.t8 fun p hp=>(Co.mp hp).elim (fun z=>I.pin p (CC _ z)) fun z=>by
  obtain⟨hb,e⟩:=Nt z
  obtain⟨f0,f1,f2,_⟩:=hf p.1 hb
  obtain⟨o,e',d⟩:=ho p.1 hb
  rw [e] at e';cases e'
  exact⟨e,f0,f1,f2,d⟩
theorem Inv.xi {pl:List (Addr × Obj)} (I:Inv X (pins++pl) σ H s):Inv X pins σ H s:=I.t8 fun p hp=>I.pin p (CC _ (EU _ hp))
theorem kC {iter:Expr} {wi:TI} {g:TG} (hp:PassesOwn (model X.prog X.w) X.A X.env X.xe) (hc:X.calm=true) (hi:PI X tg iter wi) (hg:PG X tg g) (hb:J4 X body tb) (hs:∀x,AbG iter X.env x=pure x:=by intro _;rfl):PS X (.For tg iter body [] pos) (QP wi g tb):=by
 intro pins s σ H D I h
 refine wpAny_For (dC (hi pins s σ H _ I h) fun v s1 h1=>dC h1 fun itv s2 h2=>?_) hs
 obtain⟨it,fp,tn,J,H2,e,I2,T,st2,f2,W,⟨m0,w0⟩,turn⟩:=h2
 subst e
 have stat:∀{H':Hp},(∀b∈fp,H' b=none)->∀b∈fp,iI X pins H' b:=fun hn b hb=>⟨hn b hb,(f2 b hb).2⟩
 refine codeAny_forLoop_any (fun n s'=>∃i σ' H',Inv X pins σ' H' s'/\tn i s'.heap/\(∀b∈fp,H' b=none)/\W i n σ' H') ?_ m0 ⟨0,σ,H2,I2,st2,fun b hb=>(f2 b hb).1,w0⟩
 rintro n s3 ⟨i,σ3,H3,I3,st3,yn,w3⟩
 rcases turn i n σ3 H3 w3 with⟨stop,qn⟩|⟨go,N,hN,step⟩
 . refine UF hp (dC (T.done X rfl rfl rfl hc i pins s3 σ3 H3 X.xe I3 (stat yn) st3 stop) fun r s4 ⟨hr,I4⟩=>?_)
   subst hr
   exact Abi ⟨σ3,H3,I4,qn⟩
 . refine UF hp (dC (T.item X rfl rfl rfl hc i pins s3 σ3 H3 X.xe I3 (stat yn) st3 go) fun r s4 ⟨u,hr,h4⟩=>?_)
   subst hr
   refine UF hp (dC h4 fun _ s5 ⟨x,H5,I5,r5,y5,XN,fr5⟩=>?_)
   have I5':=I5.pinned (stat fr5) (T.obj _ _ XN)
   refine UF hp (dC (hg _ s5 σ3 H5 x u _ I5' r5 (step x H5 y5)) fun _ s6 ⟨σ6,H6,I6,q6⟩=>?_)
   refine UF hp (dC (hb _ s6 σ6 H6 _ I6 q6) fun f s7 q7=>?_)
   have again:∀{σ7:St} {H7:Hp},Inv X (pins++BV fp s5.heap) σ7 H7 s7->N σ7 H7->∃m,m<n/\∃i σ' H',Inv X pins σ' H' s7/\tn i s7.heap/\(∀b∈fp,H' b=none)/\W i m σ' H':=fun {σ7 H7} I7 n7=>by
    obtain⟨m',hm,w7⟩:=hN σ7 H7 n7
    refine⟨m',hm,i+1,σ7,H7,I7.xi,T.keep _ _ _ XN fun b hb o e=>(I7.pin (b,o) (CC _ (CC _ (p5 hb e)))).1,fun b hb=>?_,w7⟩
    obtain⟨o,e,d⟩:=T.obj _ _ XN b hb
    exact(I7.pin (b,o) (CC _ (CC _ (p5 hb e)))).2.1
   cases f with
   |next=>obtain⟨σ7,H7,I7,n7⟩:=q7;exact again I7 n7
   |cont=>obtain⟨σ7,H7,I7,n7⟩:=q7;exact again I7 n7
   |brk=>obtain⟨σ7,H7,I7,q7⟩:=q7;exact⟨σ7,H7,I7.xi,q7⟩
   |ret v=>obtain⟨x7,σ7,H7,I7,r7,q7⟩:=q7;exact⟨x7,σ7,H7,I7.xi,r7,q7⟩
end
theorem Oo {g:TG} (Pv:Nat->St->Hp->Prop) (h0:Pv 0 σ H) (hl:∀i σ H,i<=xs.length->Pv i σ H->gD K H a xs) (hs:∀i x σ H,xs[i]? =some x->Pv i σ H->g x σ H fun σ2 H2=>tb {D with nx:=Pv (i+1),ct:=Pv (i+1),bk:=D.nx} σ2 H2) (hd:∀σ H,Pv xs.length σ H->D.nx σ H):
 ∃W:Nat->Nat->St->Hp->Prop,(∃m,W 0 m σ H)/\∀i m σ H,W i m σ H->
  ((PN K a).stop i H/\D.nx σ H)\/((PN K a).go i H/\∃N:St->Hp->Prop,(∀σ' H',N σ' H'->∃m',m'<m/\W (i+1) m' σ' H')/\∀x H',(PN K a).Sf i H x H'->g x σ H' fun σ2 H2=>tb {D with nx:=N,ct:=N,bk:=D.nx} σ2 H2):=by
 refine⟨fun i m σ H=>m=xs.length - i/\i<=xs.length/\Pv i σ H,⟨xs.length,by simp,KF _,h0⟩,?_⟩
 rintro i m σ H ⟨rfl,hi,p⟩
 have q:=hl i σ H hi p
 by_cases gP:i<xs.length
 . refine .inr ⟨⟨xs,xs[i],q,by simp [gP]⟩,Pv (i+1),fun σ' H' p'=>⟨xs.length - (i+1),by omega,rfl,gP,p'⟩,fun x H' y=>?_⟩
   obtain⟨e,y⟩:=y
   subst e
   exact hs i x σ _ (y xs q) p
 . have e:i=xs.length:=by omega
   subst e
   exact .inl ⟨⟨xs,q,BN _⟩,hd σ H p⟩
theorem SD {g:TG} (Pv:Nat->St->Hp->Prop) (h0:Pv 0 σ H) (hl:∀i σ H,i<=xs.length->Pv i σ H->zZ K H a xs) (hs:∀i x σ H,xs[i]? =some x->Pv i σ H->g x σ H fun σ2 H2=>tb {D with nx:=Pv (i+1),ct:=Pv (i+1),bk:=D.nx} σ2 H2) (hd:∀σ H,Pv xs.length σ H->D.nx σ H):
 ∃W:Nat->Nat->St->Hp->Prop,(∃m,W 0 m σ H)/\∀i m σ H,W i m σ H->
  ((WL K a).stop i H/\D.nx σ H)\/((WL K a).go i H/\∃N:St->Hp->Prop,(∀σ' H',N σ' H'->∃m',m'<m/\W (i+1) m' σ' H')/\∀x H',(WL K a).Sf i H x H'->g x σ H' fun σ2 H2=>tb {D with nx:=N,ct:=N,bk:=D.nx} σ2 H2):=by
 refine⟨fun i m σ H=>m=xs.length - i/\i<=xs.length/\Pv i σ H,⟨xs.length,by simp,KF _,h0⟩,?_⟩
 rintro i m σ H ⟨rfl,hi,p⟩
 have q:=hl i σ H hi p
 by_cases gP:i<xs.length
 . refine .inr ⟨⟨xs,xs[i],q,by simp [gP]⟩,Pv (i+1),fun σ' H' p'=>⟨xs.length - (i+1),by omega,rfl,gP,p'⟩,fun x H' y=>?_⟩
   obtain⟨e,y⟩:=y
   subst e
   exact hs i x σ _ (y xs q) p
 . have e:i=xs.length:=by omega
   subst e
   exact .inl ⟨⟨xs,q,BN _⟩,hd σ H p⟩
theorem Mx {lo:Int} {g:TG} (Pv:Nat->St->Hp->Prop) (h0:Pv 0 σ H) (hs:∀i σ H,i<n->Pv i σ H->g (.int (lo+i)) σ H fun σ2 H2=>tb {D with nx:=Pv (i+1),ct:=Pv (i+1),bk:=D.nx} σ2 H2) (hd:∀σ H,Pv n σ H->D.nx σ H):
 ∃W:Nat->Nat->St->Hp->Prop,(∃m,W 0 m σ H)/\∀i m σ H,W i m σ H->
  ((S3 lo n).stop i H/\D.nx σ H)\/((S3 lo n).go i H/\∃N:St->Hp->Prop,(∀σ' H',N σ' H'->∃m',m'<m/\W (i+1) m' σ' H')/\∀x H',(S3 lo n).Sf i H x H'->g x σ H' fun σ2 H2=>tb {D with nx:=N,ct:=N,bk:=D.nx} σ2 H2):=by
 refine⟨fun i m σ H=>m=n - i/\i<=n/\Pv i σ H,⟨n,by simp,KF _,h0⟩,?_⟩
 rintro i m σ H ⟨rfl,hi,p⟩
 by_cases gP:i<n
 . refine .inr ⟨gP,Pv (i+1),fun σ' H' p'=>⟨n - (i+1),by omega,rfl,gP,p'⟩,fun x H' y=>?_⟩
   obtain⟨e,y⟩:=y
   subst e y
   exact hs i σ _ gP p
 . have e:i=n:=by omega
   subst e
   exact .inl ⟨BN _,hd σ H p⟩
abbrev R2:=V->V->Hp->VK->Prop
variable {r:R2}
def rm (X:Cx) (f:Value->Value->Sem Value) (r:R2):Prop:=
 ∀(pins:List (Addr × Obj)) (s:AM) (σ:St) (H:Hp) (x y:V) (v u:Value) (Q:VK),Inv X pins σ H s->RelV x v->RelV y u->r x y H Q->
  wpAny (model X.prog X.w) X.A (f v u) (EP X pins σ Q) X.xe s
def UnR (X:Cx) (f:Value->Sem Value) (r:V->Hp->VK->Prop):Prop:=
 ∀(pins:List (Addr × Obj)) (s:AM) (σ:St) (H:Hp) (x:V) (v:Value) (Q:VK),Inv X pins σ H s->RelV x v->r x H Q->
  wpAny (model X.prog X.w) X.A (f v) (EP X pins σ Q) X.xe s
def iL (X:Cx) (f:Value) (r:List V->Hp->VK->Prop):Prop:=
 ∀(pins:List (Addr × Obj)) (s:AM) (σ:St) (H:Hp) (xs:List V) (us:List Value) (Q:VK),Inv X pins σ H s->Vals xs us->r xs H Q->
  wpAny (model X.prog X.w) X.A (call f us) (EP X pins σ Q) X.xe s
def ag9 (X:Cx) (r:V->Hp->(Bool->Hp->Prop)->Prop):Prop:=
 ∀(pins:List (Addr × Obj)) (s:AM) (σ:St) (H:Hp) (x:V) (v:Value) (Q:Bool->Hp->Prop),Inv X pins σ H s->RelV x v->r x H Q->
  wpAny (model X.prog X.w) X.A (truthy v) (TP X pins σ Q) X.xe s
def tOp (r:R2) (ta tb:TE):TE:=fun σ H Q=>ta σ H fun x H1=>tb σ H1 fun y H2=>r x y H2 Q
def tUn (r:V->Hp->VK->Prop) (ta:TE):TE:=fun σ H Q=>ta σ H fun x H1=>r x H1 Q
def rI (C:Int->Int->Prop) (g:Int->Int->V):R2:=fun x y H Q=>∃i j,x=.int i/\y=.int j/\C i j/\Q (g i j) H
def Pj (g:Int->Int->V):R2:=fun x y H Q=>∃i j,x=.int i/\y=.int j/\Q (g i j) H
def rU (g:Int->V):V->Hp->VK->Prop:=fun x H Q=>∃i,x=.int i/\Q (g i) H
section
variable {a b:Expr} {tb tc:TE}
theorem WN (ha:PE X a ta) (hb:PE X b tb) {R:V->V->Hp->Prop} (I:Inv X pins σ H s) (h:ta σ H fun x H1=>tb σ H1 fun y H2=>R x y H2) (hf:∀v u s2 x y H2,Inv X pins σ H2 s2->RelV x v->RelV y u->R x y H2->wpAny (model X.prog X.w) X.A (f v u) Q X.xe s2):
 wpAny (model X.prog X.w) X.A (eval a X.env) (fun v s₁=>wpAny (model X.prog X.w) X.A (eval b X.env) (fun u s₂=>wpAny (model X.prog X.w) X.A (f v u) Q X.xe s₂) X.xe s₁) X.xe s:=by
 refine dC (ha pins s σ H _ I h) fun v s1 ⟨x,H1,I1,r1,q1⟩=>?_
 refine dC (hb pins s1 σ H1 _ I1 q1) fun u s2 ⟨y,H2,I2,r2,q2⟩=>?_
 exact hf v u s2 x y H2 I2 r1 r2 q2
theorem aC {op:Operator} (ho:rm X (YE op) r) (ha:PE X a ta) (hb:PE X b tb):PE X (.BinOp a op b pos) (tOp r ta tb):=by
 intro pins s σ H Q I h
 exact wpAny_BinOp (WN ha hb I h fun v u s2 x y H2 I2 rx ry q=>ho pins s2 σ H2 x y v u Q I2 rx ry q)
theorem Kc {op:UnaryOp} {r:V->Hp->VK->Prop} (ho:UnR X (unaryOp op) r) (ha:PE X a ta):PE X (.UnaryOp op a pos) (tUn r ta):=by
 intro pins s σ H Q I h
 exact UnaryOp_ (dC (ha pins s σ H _ I h) fun v s1 ⟨x,H1,I1,r1,q1⟩=>ho pins s1 σ H1 x v Q I1 r1 q1)
theorem opI {C:Int->Int->Prop} (rule:∀(i j:Int) (t u:Tok) (s:AM) (Q:Value->AM->Prop) (E:Value->AM->Prop),C i j->Q (.int (g i j) s.toks) {s with toks:=s.toks+1}->wpAny (model X.prog X.w) X.A (f (.int i t) (.int j u)) Q E s):
 rm X f (rI C fun i j=>.int (g i j)):=by
 intro pins s σ H x y v u Q I rx ry h
 obtain⟨i,j,rfl,rfl,hc,q⟩:=h
 obtain⟨t,rfl⟩:=rx
 obtain⟨t',rfl⟩:=ry
 exact rule i j t t' s _ _ hc ⟨.int (g i j),H,I.tok _,⟨_,rfl⟩,q⟩
theorem OB (rule:∀(i j:Int) (t u:Tok) (s:AM) (Q:Value->AM->Prop) (E:Value->AM->Prop),Q (.int (g i j) s.toks) {s with toks:=s.toks+1}->wpAny (model X.prog X.w) X.A (f (.int i t) (.int j u)) Q E s):
 rm X f (Pj fun i j=>.int (g i j)):=by
 intro pins s σ H x y v u Q I rx ry h
 obtain⟨i,j,rfl,rfl,q⟩:=h
 obtain⟨t,rfl⟩:=rx
 obtain⟨t',rfl⟩:=ry
 exact rule i j t t' s _ _ ⟨.int (g i j),H,I.tok _,⟨_,rfl⟩,q⟩
theorem YT {g:Int->Int->Bool} (rule:∀(i j:Int) (t u:Tok) (s:AM) (Q:Value->AM->Prop) (E:Value->AM->Prop),Q (.bool (g i j)) s->wpAny (model X.prog X.w) X.A (f (.int i t) (.int j u)) Q E s):
 rm X f (Pj fun i j=>.bl (g i j)):=by
 intro pins s σ H x y v u Q I rx ry h
 obtain⟨i,j,rfl,rfl,q⟩:=h
 obtain⟨t,rfl⟩:=rx
 obtain⟨t',rfl⟩:=ry
 exact rule i j t t' s _ _ ⟨.bl (g i j),H,I,rfl,q⟩
def Ta (i j:Int):Prop:=0<=j/\j<=1000000/\i.natAbs<2^64
theorem gB:rm X (YE .Add) (Pj fun i j=>.int (i+j)):=OB fun _ _ _ _ _ _ _ q=>add_int q
theorem rL:rm X (YE .Sub) (Pj fun i j=>.int (i - j)):=OB fun _ _ _ _ _ _ _ q=>sub_int q
theorem Xv:rm X (YE .Mod) (rI (fun _ j=>0<j) fun i j=>.int (i % j)):=opI fun i j _ _ _ _ _ hc q=>by
 have h1:(0:Int)<j:=hc
 exact mod_int' (by omega) (by rw [Int.fmod_eq_emod_of_nonneg i (by omega)];exact q)
theorem FP:rm X (YE .Pow) (rI Ta fun i j=>.int (i^j.toNat)):=opI fun _ _ _ _ _ _ _ hc q=>pow_int_small hc.1 hc.2.1 hc.2.2 q
theorem Fu:rm X (YE .LShift) (rI Ta fun i j=>.int (i*2^j.toNat)):=opI fun _ _ _ _ _ _ _ hc q=>lshift_int_small hc.1 hc.2.1 hc.2.2 q
theorem Xi:rm X (YE .BitAnd) (Pj fun i j=>.int (AaU i j)):=OB fun _ _ _ _ _ _ _ q=>and_int q
theorem abw:rm X (YE .BitOr) (Pj fun i j=>.int (RS i j)):=OB fun _ _ _ _ _ _ _ q=>or_int q
theorem Q9:rm X (YE .BitXor) (Pj fun i j=>.int (No i j)):=OB fun _ _ _ _ _ _ _ q=>xor_int q
theorem unI {f:Value->Sem Value} {g:Int->Int} (rule:∀(i:Int) (t:Tok) (s:AM) (Q:Value->AM->Prop) (E:Value->AM->Prop),Q (.int (g i) s.toks) {s with toks:=s.toks+1}->wpAny (model X.prog X.w) X.A (f (.int i t)) Q E s):
 UnR X f (rU fun i=>.int (g i)):=by
 intro pins s σ H x v Q I rx h
 obtain⟨i,rfl,q⟩:=h
 obtain⟨t,rfl⟩:=rx
 exact rule i t s _ _ ⟨.int (g i),H,I.tok _,⟨_,rfl⟩,q⟩
theorem E2:UnR X (unaryOp .USub) (rU fun i=>.int (-i)):=unI fun _ _ _ _ _ q=>neg_int q
end
def TR:V->V->Bool
 | .aQ,.aQ=>true| .aQ,.int _=>true| .int _,.aQ=>true| .aQ,.bl _=>true| .bl _,.aQ=>true| .aQ,.str _=>true| .str _,.aQ=>true
 | .int _,.int _=>true| .bl _,.bl _=>true| .str _,.str _=>true| .Lx _,.Lx _=>true
 | .int _,.str _=>true| .str _,.int _=>true| .bl _,.str _=>true| .str _,.bl _=>true
 |_,_=>false
def rEq:R2:=fun x y H Q=>TR x y=true/\Q (.bl (decide (x=y))) H
def rNe:R2:=fun x y H Q=>TR x y=true/\Q (.bl (!decide (x=y))) H
theorem Ly {i j:Int}:decide (V.int i=V.int j)=(i==j):=by
 rw [NE]
 simp
theorem QK {i j:Bool}:decide (V.bl i=V.bl j)=(i==j):=by
 rw [NE]
 simp
theorem Lz {i j:Str}:decide (V.str i=V.str j)=(i==j):=by
 rw [NE]
 simp
theorem LK {i j:Array UInt8}:decide (V.Lx i=V.Lx j)=(i.toList==j.toList):=by
 rw [NE]
 cases i
 cases j
 simp
section
variable {a b:Expr} {tb tc:TE}
theorem bo {Q:VK} {k k':Bool} (I:Inv X pins σ H s) (q:Q (.bl k) H) (e:k=k'):EP X pins σ Q (.bool k') s:=by
 subst e
 exact⟨.bl k,H,I,rfl,q⟩
theorem acO:rm X (ON .Eq) rEq:=by
 intro pins s σ H x y v u Q I rx ry h
 obtain⟨hs,q⟩:=h
 cases x with
 |aQ=>
  cases rx
  cases y with
  |aQ=>cases ry;exact PySem.EqNone.eq_none_none (bo I q (by simp))
  |bl j=>cases ry;exact PySem.EqNone.eq_none_bool (bo I q (by simp))
  |int j=>obtain⟨t',rfl⟩:=ry;exact PySem.EqNone.eq_none_int (bo I q (by simp))
  |str j=>obtain⟨t',rfl⟩:=ry;exact PySem.EqNone.eq_none_str (bo I q (by simp))
  |_=>exact absurd (show false=true from hs) FM
 |bl i=>
  cases rx
  cases y with
  |aQ=>cases ry;exact PySem.EqNone.eq_bool_none (bo I q (by simp))
  |bl j=>cases ry;exact eq_bool (bo I q QK)
  |str j=>obtain⟨t',rfl⟩:=ry;exact PySem.EqMixed.eq_bool_str (bo I q (by simp))
  |_=>exact absurd (show false=true from hs) FM
 |int i=>
  obtain⟨t,rfl⟩:=rx
  cases y with
  |aQ=>cases ry;exact PySem.EqNone.eq_int_none (bo I q (by simp))
  |int j=>obtain⟨t',rfl⟩:=ry;exact eq_int (bo I q Ly)
  |str j=>obtain⟨t',rfl⟩:=ry;exact PySem.EqMixed.eq_int_str (bo I q (by simp))
  |_=>exact absurd (show false=true from hs) FM
 |str i=>
  obtain⟨t,rfl⟩:=rx
  cases y with
  |aQ=>cases ry;exact PySem.EqNone.eq_str_none (bo I q (by simp))
  |bl j=>cases ry;exact PySem.EqMixed.eq_str_bool (bo I q (by simp))
  |int j=>obtain⟨t',rfl⟩:=ry;exact PySem.EqMixed.eq_str_int (bo I q (by simp))
  |str j=>obtain⟨t',rfl⟩:=ry;exact eq_str (bo I q Lz)
  |_=>exact absurd (show false=true from hs) FM
 |Lx i=>
  obtain⟨t,rfl⟩:=rx
  cases y with
  |Lx j=>obtain⟨t',rfl⟩:=ry;exact PySem.W.eq_bytes (bo I q LK)
  |_=>exact absurd (show false=true from hs) FM
 |_=>cases y <;>exact absurd (show false=true from hs) FM
theorem abM:rm X (ON .NotEq) rNe:=by
 intro pins s σ H x y v u Q I rx ry h
 obtain⟨hs,q⟩:=h
 cases x with
 |aQ=>
  cases rx
  cases y with
  |aQ=>cases ry;exact PySem.EqNone.ne_none_none (bo I q (by simp))
  |bl j=>cases ry;exact PySem.EqNone.ne_none_bool (bo I q (by simp))
  |int j=>obtain⟨t',rfl⟩:=ry;exact PySem.EqNone.ne_none_int (bo I q (by simp))
  |str j=>obtain⟨t',rfl⟩:=ry;exact PySem.EqNone.ne_none_str (bo I q (by simp))
  |_=>exact absurd (show false=true from hs) FM
 |bl i=>
  cases rx
  cases y with
  |aQ=>cases ry;exact PySem.EqNone.ne_bool_none (bo I q (by simp))
  |bl j=>cases ry;exact ne_bool (bo I q (congrArg not QK))
  |str j=>obtain⟨t',rfl⟩:=ry;exact PySem.EqMixed.ne_bool_str (bo I q (by simp))
  |_=>exact absurd (show false=true from hs) FM
 |int i=>
  obtain⟨t,rfl⟩:=rx
  cases y with
  |aQ=>cases ry;exact PySem.EqNone.ne_int_none (bo I q (by simp))
  |int j=>obtain⟨t',rfl⟩:=ry;exact ne_int (bo I q (congrArg not Ly))
  |str j=>obtain⟨t',rfl⟩:=ry;exact PySem.EqMixed.ne_int_str (bo I q (by simp))
  |_=>exact absurd (show false=true from hs) FM
 |str i=>
  obtain⟨t,rfl⟩:=rx
  cases y with
  |aQ=>cases ry;exact PySem.EqNone.ne_str_none (bo I q (by simp))
  |bl j=>cases ry;exact PySem.EqMixed.ne_str_bool (bo I q (by simp))
  |int j=>obtain⟨t',rfl⟩:=ry;exact PySem.EqMixed.ne_str_int (bo I q (by simp))
  |str j=>obtain⟨t',rfl⟩:=ry;exact ne_str (bo I q (congrArg not Lz))
  |_=>exact absurd (show false=true from hs) FM
 |Lx i=>
  obtain⟨t,rfl⟩:=rx
  cases y with
  |Lx j=>obtain⟨t',rfl⟩:=ry;exact PySem.W.ne_bytes (bo I q (congrArg not LK))
  |_=>exact absurd (show false=true from hs) FM
 |_=>cases y <;>exact absurd (show false=true from hs) FM
theorem zh:rm X (ON .Lt) (Pj fun i j=>.bl (decide (i<j))):=YT fun _ _ _ _ _ _ _ q=>lt_int q
theorem qQ:rm X (ON .LtE) (Pj fun i j=>.bl (decide (i<=j))):=YT fun _ _ _ _ _ _ _ q=>le_int q
theorem DA:rm X (ON .Gt) (Pj fun i j=>.bl (decide (j<i))):=YT fun _ _ _ _ _ _ _ q=>gt_int q
theorem AZ:rm X (ON .Is) (fun x y H Q=>y=.aQ/\Q (.bl (decide (x=.aQ))) H):=by
 intro pins s σ H x y v u Q I rx ry h
 obtain⟨rfl,q⟩:=h
 cases ry
 refine is_none_gen (bo I q ?_)
 cases x <;>first
  |(cases rx;rfl)
  |(obtain⟨t,rfl⟩:=rx;rfl)
theorem tT:rm X (ON .IsNot) (fun x y H Q=>y=.aQ/\Q (.bl (!decide (x=.aQ))) H):=by
 intro pins s σ H x y v u Q I rx ry h
 obtain⟨rfl,q⟩:=h
 cases ry
 refine isnot_none_gen (bo I q ?_)
 cases x <;>first
  |(cases rx;rfl)
  |(obtain⟨t,rfl⟩:=rx;rfl)
theorem aK (b:Expr) (h:op≠.In:=by decide) (h2:op≠.NotIn:=by decide):Abc op b=false:=by
 have e1:(op==CmpOp.In)=false:=by cases op <;>first|rfl|exact absurd rfl h
 have e2:(op==CmpOp.NotIn)=false:=by cases op <;>first|rfl|exact absurd rfl h2
 cases b <;>simp [Abc,e1,e2]
theorem m3 (ho:rm X (ON op) r) (ha:PE X a ta) (hb:PE X b tb) (hm:Abc op b=false):PE X (.Compare a [op] [b] pos) (tOp r ta tb):=by
 intro pins s σ H Q I h
 exact wpAny_Compare1 (WN ha hb I h fun v u s2 x y H2 I2 rx ry q=>ho pins s2 σ H2 x y v u Q I2 rx ry q) hm
def OM (t:TE):TT:=fun σ H Q=>t σ H fun x H'=>∃k,x=.bl k/\Q k H'
theorem aI (ho:rm X (ON op) r) (ha:PE X a ta) (hb:PE X b tb) (hm:Abc op b=false):PT X (.Compare a [op] [b] pos) (OM (tOp r ta tb)):=by
 intro pins s σ H Q I h
 refine wpAny_isTrue_Compare1 (dC (ha pins s σ H _ I h) fun v s1 ⟨x,H1,I1,r1,q1⟩=>dC (hb pins s1 σ H1 _ I1 q1) fun u s2 ⟨y,H2,I2,r2,q2⟩=>
  dC (ho pins s2 σ H2 x y v u _ I2 r1 r2 q2) fun c s3 ⟨z,H3,I3,r3,k,e,q3⟩=>?_) hm
 subst e
 cases r3
 exact Rs ⟨H3,I3,q3⟩
def Rw (r r':R2) (ta tb tc:TE):TE:=fun σ H Q=>ta σ H fun x H1=>tb σ H1 fun y H2=>r x y H2 fun z H3=>∃k,z=.bl k/\
 (if k=true then tc σ H3 fun w' H4=>r' y w' H4 Q else Q (.bl false) H3)
theorem GX {op':CmpOp} {r':R2} (ho:rm X (ON op) r) (Q0:rm X (ON op') r') (ha:PE X a ta) (hb:PE X b tb) (hc:PE X c tc) (hm:lastMarks [op,op'] [b,c]=false:=by with_unfolding_all rfl):PT X (.Compare a [op,op'] [b,c] pos) (OM (Rw r r' ta tb tc)):=by
 intro pins s σ H Q I h
 refine isTrue_chain (dC (ha pins s σ H _ I h) fun v s1 ⟨x,H1,I1,r1,q1⟩=>test_link (dC (hb pins s1 σ H1 _ I1 q1) fun u s2 ⟨y,H2,I2,r2,q2⟩=>
  dC (ho pins s2 σ H2 x y v u _ I2 r1 r2 q2) fun d s3 ⟨z,H3,I3,r3,k,e,q3⟩=>?_)) hm
 subst e
 cases r3
 refine Rs ?_
 cases k with
 |false=>
  obtain⟨k',e',q'⟩:=q3
  cases e'
  exact ite_ff ⟨H3,I3,q'⟩
 |true=>
  refine ite_tt (test_last (dC (hc pins s3 σ H3 _ I3 q3) fun w' s4 ⟨z',H4,I4,r4,q4⟩=>dC (Q0 pins s4 σ H4 y z' u w' _ I4 r2 r4 q4) fun d' s5 ⟨z2,H5,I5,r5,k2,e2,q5⟩=>?_))
  subst e2
  cases r5
  exact Rs ⟨H5,I5,q5⟩
def G0 (K:At) (x:V) (H:Hp) (k:Bool):Prop:=
 match x with
 | .aQ=>k=false
 | .bl b=>k=b
 | .int i=>k=(i !=0)
 | .str y=>y.length<=EM/\k=((y.length:Int) !=0)
 | .Lx y=>y.size<=EM/\k=((y.size:Int) !=0)
 | .ref p=>(∃xs,gD K H p xs/\k=!xs.isEmpty)\/(∃xs,zZ K H p xs/\k=!xs.isEmpty)\/∃kvs,H p=some (.dK kvs)/\k=!kvs.isEmpty
 |_=>False
theorem Ir {κ:Type} {kvs:List (κ × V)} {vs:List (κ × Value)} (r:KV kvs vs):(!vs.isEmpty)=!kvs.isEmpty:=by
 cases r <;>rfl
theorem Bl {aZ:List Value} (r:Vals xs aZ):(!aZ.toArray.isEmpty)=!xs.isEmpty:=by
 cases r <;>simp
theorem yB:(EM:Nat)<2^63:=by rw [AaM];decide
theorem Zi:ag9 X (fun x H Q=>∃k,G0 X.K x H k/\Q k H):=by
 intro pins s σ H x v Q I rx h
 obtain⟨k,e,q⟩:=h
 have hl:=yB
 have hs:EM=16777216:=AaM
 cases x with
 |aQ=>
  cases rx
  have e':k=false:=e
  subst e'
  exact truthy_none ⟨H,I,q⟩
 |bl b=>
  cases rx
  have e':k=b:=e
  subst e'
  exact Rs ⟨H,I,q⟩
 |int i=>
  obtain⟨t,rfl⟩:=rx
  have e':k=(i !=0):=e
  subst e'
  exact PySem.P.truthy_int ⟨H,I,q⟩
 |str y=>
  obtain⟨t,rfl⟩:=rx
  obtain⟨hy,e'⟩:y.length<=EM/\k=((y.length:Int) !=0):=e
  subst e'
  exact PySem.P.truthy_str (by omega) ⟨H,I.tok _,q⟩
 |Lx y=>
  obtain⟨t,rfl⟩:=rx
  obtain⟨hy,e'⟩:y.size<=EM/\k=((y.size:Int) !=0):=e
  subst e'
  exact PySem.W.truthy_bytes (by omega) ⟨H,I.tok _,q⟩
 |ref p=>
  cases rx
  have e':(∃xs,gD X.K H p xs/\k=!xs.isEmpty)\/(∃xs,zZ X.K H p xs/\k=!xs.isEmpty)\/∃kvs,H p=some (.dK kvs)/\k=!kvs.isEmpty:=e
  rcases e' with⟨xs,hx,e'⟩|⟨xs,hx,e'⟩|⟨kvs,hx,e'⟩
  . subst e'
    obtain⟨aZ,r,pl,hz⟩:=I.list hx
    have hlen:=r.length
    exact wpAny_truthy_list pl.isList (by simp only [Cn];omega) ⟨H,I.tok _,by rw [Bl r];exact q⟩
  . subst e'
    obtain⟨aZ,r,pl,hz⟩:=I.tuple hx
    have hlen:=r.length
    exact truthy_tuple pl (by simp only [Cn];omega) ⟨H,I.tok _,by rw [Bl r];exact q⟩
  . subst e'
    obtain⟨hz,hS,vs,r,m⟩:kvs.length<=EM/\(p==Th)=false/\∃vs,KV kvs vs/\s.heap.DictOf (bf X.prog X.w) p vs:=I.bb p _ hx
    have hlen:kvs.length=vs.length:=AbP r
    exact wpAny_truthy_dict hS m (by omega) ⟨H,I.tok _,by rw [Ir r];exact q⟩
 |_=>exact(show False from e).elim
theorem bI (ha:PE X a ta) (he:∀whole,isTrue a X.env whole=(do let v <-whole;Abk a.pos;Abl [v] (truthy v))):
 PT X a (fun σ H Q=>ta σ H fun x H'=>∃k,G0 X.K x H' k/\Q k H'):=by
 intro pins s σ H Q I h
 exact isTrue_plain (dC (ha pins s σ H _ I h) fun v s1 ⟨x,H1,I1,r1,q1⟩=>Zi pins s1 σ H1 x v Q I1 r1 q1) (he _)
theorem JE:rm X (YE .Add) (fun x y H Q=>∃i j,x=.str i/\y=.str j/\i.length+j.length<=EM/\Q (.str (i++j)) H):=by
 intro pins s σ H x y v u Q I rx ry h
 obtain⟨i,j,rfl,rfl,hz,q⟩:=h
 obtain⟨t,rfl⟩:=rx
 obtain⟨t',rfl⟩:=ry
 exact add_str (fun t' tk=>⟨.str (i++j),H,I.tok _,⟨_,rfl⟩,q⟩) hz
theorem vals1 {x:V} (r:Vals [x] us):∃u,us=[u]/\RelV x u:=by
 cases r with
 |cons r1 r2=>cases r2;exact⟨_,rfl,r1⟩
theorem vals2 {x y:V} (r:Vals [x,y] us):∃u w',us=[u,w']/\RelV x u/\RelV y w':=by
 cases r with
 |cons r1 r2=>
  cases r2 with
  |cons r3 r4=>cases r4;exact⟨_,_,rfl,r1,r3⟩
theorem Nr (hc:X.calm=true):iL X (.builtin "max") (fun xs H Q=>∃i j,xs=[.int i,.int j]/\Q (.int (if j>i then j else i)) H):=by
 intro pins s σ H xs us Q I r h
 obtain⟨i,j,rfl,q⟩:=h
 obtain⟨u,w',rfl,⟨t,rfl⟩,⟨t',rfl⟩⟩:=vals2 r
 refine max_two_ints (I.ok.hd hc) fun h' tk k=>⟨_,H,I.kept k,?_,q⟩
 by_cases hj:j>i
 . rw [if_pos hj,if_pos hj];exact⟨_,rfl⟩
 . rw [if_neg hj,if_neg hj];exact⟨_,rfl⟩
theorem M5 (hc:X.calm=true):iL X (.builtin "min") (fun xs H Q=>∃i j,xs=[.int i,.int j]/\Q (.int (if j<i then j else i)) H):=by
 intro pins s σ H xs us Q I r h
 obtain⟨i,j,rfl,q⟩:=h
 obtain⟨u,w',rfl,⟨t,rfl⟩,⟨t',rfl⟩⟩:=vals2 r
 refine min_two_ints (I.ok.hd hc) fun h' tk k=>⟨_,H,I.kept k,?_,q⟩
 by_cases hj:j<i
 . rw [if_pos hj,if_pos hj];exact⟨_,rfl⟩
 . rw [if_neg hj,if_neg hj];exact⟨_,rfl⟩
end
structure JQ (h:Heap) (x dx C:Addr) (mA:Str->Option Value):Prop where
 obj:h.get? x=some (Tl C dx)
 ns:h.Ns1 dx mA
 ne:dx≠x
theorem NB {mA:Str->Option Value} (n:h.Ns1 dx mA):∃od,h.get? dx=some od/\∀name,AbB name od=some (mA name):=by
 obtain⟨o,es,ep,ho,hd,hk,_,hm⟩:=n
 refine⟨o,ho,fun name=>?_⟩
 have e:=hm name
 unfold nsFind findBy at e
 rw [<-Array.find?_toList] at e
 unfold AbB
 rw [hd]
 dsimp only
 split
 . rename_i y q
   rw [q] at e
   exact congrArg some e
 . rename_i q
   rw [q] at e
   have a:es.toList.any (·.refKey)=false:=by
    rw [List.any_eq_false]
    intro y hy
    obtain⟨z,t,afI⟩:=hk y (Array.mem_toList_iff.mp hy)
    simp [DictEntry.refKey,afI]
   have a':¬es.toList.any (·.refKey)=true:=by rw [a];exact FM
   rw [if_neg a']
   exact congrArg some e
theorem JQ.look {x:Addr} {mA:Str->Option Value} (I:JQ h x dx C mA):∃od,PySem.W.InstAt h x (Tl C dx) C (some od)/\∀name,AbB name od=some (mA name):=
 let ⟨od,ho,hl⟩:=NB I.ns
 ⟨od,⟨I.obj,rfl,rfl,ho⟩,hl⟩
section
variable {prog:Fk} {x f:Addr} {mA:Str->Option Value} {name:Str} {v:Value}
theorem get_map {expr:Bool} (X:K.In s.heap) (I:JQ s.heap x dx C mA) (hg:Aam K C name=true) (hh:AaN K C=true) (ha:AT K (.ref C) name=some none) (hv:mA name=some v) (hv':PySem.W.handedIn v=true) (h:Q v {s with toks:=s.toks+1}):
 wpAny (model prog w) A (getAttr (.ref x) name expr) Q E s:=by
 obtain⟨od,J,hl⟩:=I.look
 exact PySem.W.get_value X J (Abm hg).1 (PySem.W.findObj_own hh ha rfl (by rw [hl,hv])) hv' h
theorem QL {Q:Value × List Value->AM->Prop} (X:K.In s.heap) (I:JQ s.heap x dx C mA) (hg:Aam K C name=true) (hf:AT K (.ref C) name=some (some (.ref f))) (ht:PySem.W.isFn K (.ref f)=true) (hv:mA name=none) (h:Q (.ref f,[.ref x]) s):
 wpAny (model prog w) A (Aaj (.ref x) name pl) Q E s:=by
 obtain⟨od,J,hl⟩:=I.look
 exact PySem.W.method_fn X J (Abm hg).1 (Abm hg).2 hf (beq_iff_eq.mp ht) (by show(AbB name od).map (·.isSome)=some false;rw [hl,hv];rfl) h
theorem Tp {ns:List Str} {Q:Unit->AM->Prop} (X:K.In s.heap) (I:JQ s.heap x dx C mA) (hs:AT K (.ref C) "__setattr__"=some (some (.builtin "object.__setattr__"))) (hp:AbH K C=true) (ht:PySem.W.takerIn K C name=some none) (hh:AaN K C=true) (hw:PySem.Within mA ns) (hsz:ns.length<=EM) (h:∀h',JQ h' x dx C (fun y=>if y=name then some v else mA y)->Abt dx s.heap h'->Q () {s with heap:=h',toks:=s.toks+2}):
 wpAny (model prog w) A (setAttr (.ref x) name v) Q E s:=by
 obtain⟨od,J,hl⟩:=I.look
 refine PySem.W.set_plain X J hs (PySem.W.osa_open (s:={s with toks:=s.toks+1}) (r:=none) X J hp ht fun b=>?_)
 obtain⟨cd,hc,rl⟩:=PySem.W.any_some hh
 have hx:s.heap.get? x=some ⟨.ref C,some dx,.plain,#[]⟩:=I.obj
 refine BS (GS (BS (BS (wpAny_loadPart hx (BS (PySem.W.Looks.here (s:={s with toks:=s.toks+1}) (PySem.W.looks_clsIn X hc) ?_))))))
 rw [rl]
 refine GS (a:=some dx) (BS (GS (BS ?_)))
 refine wpAny_nsSet1 (s:={s with toks:=s.toks+1}) I.ns fun h' mR Cz=>?_
 obtain⟨oD,esD,epD,hoD,hdD,hcD⟩:=mR.count (PySem.Within.cons name v hw)
 refine BS (wpAny_lookBehind hoD (by rw [hdD];exact pastItsLine_dict (Mo hcD (by rw [FF];omega))) ?_)
 exact GS (h _ ⟨(Cz.2 _ (Me I.ne)).trans I.obj,mR,I.ne⟩ Cz)
theorem Rq {R:Result->AM->Prop} {vs:List Value} (X:K.In s.heap) (hm:Sa K C=true) (hi:AT K (.ref C) "__init__"=some (some (.ref f))) (hf:PySem.W.typeIn K (.ref f)=some (.type "function")) (h:AbQ (model prog w) (A.under (.builtin "type.__call__" ⟨.ref C::vs,kw⟩)) (.call (.ref f) ⟨.ref (s.heap.objs.size+1)::vs,kw⟩) (PySem.W.InitBack (s.heap.objs.size+1) R)
  {s with heap:=(s.heap.push Po).push (Tl C s.heap.objs.size)}):
 AbQ (model prog w) A (.call (.ref C) ⟨vs,kw⟩) R s:=by
 obtain⟨hh,g,d,t,os⟩:=s
 exact PySem.W.make_core (PySem.W.makes_of X hm) (PySem.W.looks_findIn X hi) (fun self=>PySem.W.bind_fn X self hf) (.inl rfl) h
end
def kX (f:Str) (v:V):List (Str × V)->List (Str × V)
 |[]=>[(f,v)]
 |(g,x)::r=>if g=f then (g,v)::r else (g,x)::kX f v r
theorem zj (f g:Str) (v:V):∀fs:List (Str × V),(kX f v fs).lookup g=if g=f then some v else fs.lookup g
 |[]=>by
  show Zp g [(f,v)]=_
  by_cases h:g=f
  . have hb:(g==f)=true:=beq_iff_eq.mpr h
    simp only [Zp,hb,if_pos h]
  . have hb:(g==f)=false:=beq_eq_false_iff_ne.mpr h
    simp only [Zp,hb,if_neg h]
 |(k,x)::r=>by
  have ih:=zj f g v r
  rw [show kX f v ((k,x)::r)=(if k=f then (k,v)::r else (k,x)::kX f v r) from rfl]
  by_cases hk:k=f
  . rw [if_pos hk]
    by_cases h:g=k
    . have hb:(g==k)=true:=beq_iff_eq.mpr h
      simp only [Zp,hb,if_pos (h.trans hk)]
    . have hb:(g==k)=false:=beq_eq_false_iff_ne.mpr h
      simp only [Zp,hb,if_neg (fun e:g=f=>h (e.trans hk.symm))]
  . rw [if_neg hk]
    by_cases h:g=k
    . have hb:(g==k)=true:=beq_iff_eq.mpr h
      simp only [Zp,hb,if_neg (fun e:g=f=>hk (h.symm.trans e))]
    . have hb:(g==k)=false:=beq_eq_false_iff_ne.mpr h
      simp only [Zp,hb]
      exact ih
theorem yu (f:Str) (v:V):∀fs:List (Str × V),f∈(kX f v fs).map (·.1)/\∀g,g∈fs.map (·.1)->g∈(kX f v fs).map (·.1)
 |[]=>⟨by simp [kX],fun g h=>by simp at h⟩
 |(k,x)::r=>by
  obtain⟨i1,i2⟩:=yu f v r
  rw [show kX f v ((k,x)::r)=(if k=f then (k,v)::r else (k,x)::kX f v r) from rfl]
  by_cases hk:k=f
  . rw [if_pos hk]
    subst hk
    exact⟨by simp,fun g h=>by simpa using h⟩
  . rw [if_neg hk]
    refine⟨?_,fun g h=>?_⟩
    . rw [EN]
      exact AL _ i1
    . rw [EN] at h ⊢
      rcases AD.mp h with e|e
      . exact AD.mpr (.inl e)
      . exact AL _ (i2 g e)
theorem zm (f:Str) (v:V):∀fs:List (Str × V),(kX f v fs).length<=fs.length+1
 |[]=>by simp [kX]
 |(k,x)::r=>by
  have ih:=zm f v r
  rw [show kX f v ((k,x)::r)=(if k=f then (k,v)::r else (k,x)::kX f v r) from rfl]
  by_cases hk:k=f
  . rw [if_pos hk,FF,FF];omega
  . rw [if_neg hk,FF,FF];omega
theorem pQ.some_of {o:Option Value} (r:pQ (some v) o):∃u,o=some u/\RelV v u:=by
 cases o with
 |none=>exact(show False from r).elim
 |some u=>exact⟨u,rfl,r⟩
theorem pQ.none_of {o:Option Value} (r:pQ none o):o=none:=by
 cases o with
 |none=>rfl
 |some u=>exact(show False from r).elim
theorem Nw (r:RelV v u):PySem.W.handedIn u=true:=by
 cases v with
 |aQ=>cases (show u=Of from r);rfl
 |bl b=>cases (show u=Ab0 b from r);rfl
 |int i=>obtain⟨t,e⟩:=(show ∃t,u=AbD i t from r);cases e;rfl
 |str x=>obtain⟨t,e⟩:=(show ∃t,u=AbU x t from r);cases e;rfl
 |Lx b=>obtain⟨t,e⟩:=(show ∃t,u=Value.bytes b t from r);cases e;rfl
 |WQ b=>obtain⟨t,e⟩:=(show ∃t,u=Value.float b t from r);cases e;rfl
 |ref a=>cases (show u=LS a from r);rfl
 |ty n=>cases (show u=Aas n from r);rfl
section
variable {H':Hp} {fs fs':List (Str × V)}
theorem Ac (bb:rh P w H h) (e:H a=some (.ins C dx fs)):∃mA,JQ h a dx C mA/\(∀f,pQ (fs.lookup f) (mA f))/\PySem.Within mA (fs.map (·.1))/\fs.length<=1000/\H dx=some (.own a):=by
 obtain⟨d,z,ne,ob,mA,n,r,q⟩:=(show c6 P w H h a (.ins C dx fs) from bb a _ e)
 exact⟨mA,⟨ob,n,ne⟩,r,q,z,d⟩
end
structure ug (K:At) (C:Addr):Prop where
 pg:Aam K C AbX=true
 hd:AaN K C=true
 po:AbH K C=true
 sa:AT K (.ref C) "__setattr__"=some (some (.builtin "object.__setattr__"))
theorem ug.get (c:ug K C) (f:Str):Aam K C f=true:=c.pg
def aJ (K:At) (C:Addr) (f:Str):Prop:=AT K (.ref C) f=some none
theorem aJ.abT {f:Str} (n:aJ K C f):PySem.W.takerIn K C f=some none:=by
 unfold PySem.W.takerIn
 rw [show AT K (.ref C) f=some none from n]
 rfl
structure Meth (K:At) (C:Addr) (m:Str) (f:Addr):Prop where
 at_:AT K (.ref C) m=some (some (.ref f))
 fn:PySem.W.isFn K (.ref f)=true
 kp:ES K (.ref f)=true
section
variable {fs:List (Str × V)} {f:Str}
theorem IE {b:Bool} (I:Inv X pins σ H s) (e:H a=some (.ins C dx fs)) (c:ug X.K C) (n:aJ X.K C f) (l:fs.lookup f=some v) (h:∀u s',Inv X pins σ H s'->RelV v u->Q u s'):wpAny (model X.prog X.w) A (getAttr (.ref a) f b) Q E s:=by
 obtain⟨mA,O,r,_,_,_⟩:=Ac I.bb e
 obtain⟨u,hu,ru⟩:=pQ.some_of (v:=v) (o:=mA f) (by rw [<-l];exact r f)
 exact get_map I.vS O (c.get f) c.hd n hu (Nw ru) (h u _ (I.tok _) ru)
theorem B5 {m:Str} {g:Addr} {Q:Value × List Value->AM->Prop} (I:Inv X pins σ H s) (e:H a=some (.ins C dx fs)) (c:ug X.K C) (k:Meth X.K C m g) (l:fs.lookup m=none) (h:Q (.ref g,[.ref a]) s):wpAny (model X.prog X.w) A (Aaj (.ref a) m pl) Q E s:=by
 obtain⟨mA,O,r,_,_,_⟩:=Ac I.bb e
 have hn:mA m=none:=pQ.none_of (by rw [<-l];exact r m)
 exact QL I.vS O (c.get m) k.at_ k.fn hn h
theorem Jt {y:V} {Q:Unit->AM->Prop} (I:Inv X pins σ H s) (e:H a=some (.ins C dx fs)) (c:ug X.K C) (n:aJ X.K C f) (hl:fs.length<1000) (ry:RelV y u) (h:∀s',Inv X pins σ (upd H a (.ins C dx (kX f y fs))) s'->Q () s'):wpAny (model X.prog X.w) A (setAttr (.ref a) f u) Q E s:=by
 obtain⟨mA,O,r,wi,_,ho⟩:=Ac I.bb e
 have hz:(fs.map (·.1)).length<=EM:=by rw [AE,AaM];omega
 refine Tp I.vS O c.sa c.po n.abT c.hd wi hz fun h' O' sb=>h _ ?_
 have hd:∃o,h'.get? dx=some o:=let ⟨o,_,_,e',_⟩:=O'.ns;⟨o,e'⟩
 refine I.write (x:=a) (e:=dx) (by rw [e];exact US) (.inr ho) (fun b q hb z=>(sb.2 b hb).trans z) hd ?_
 refine⟨by rw [az O.ne];exact ho,?_,O.ne,O'.obj,_,O'.ns,fun g=>?_,fun g hg=>?_⟩
 . have:=zm f y fs;omega
 . show pQ ((kX f y fs).lookup g) (if g=f then some u else mA g)
   rw [zj]
   by_cases q:g=f
   . rw [if_pos q,if_pos q];exact ry
   . rw [if_neg q,if_neg q];exact r g
 . by_cases q:g=f
   . rw [q];exact(yu f y fs).1
   . refine(yu f y fs).2 g (wi g fun z=>hg ?_)
     show(if g=f then some u else mA g)=none
     rw [if_neg q];exact z
theorem Inv.made (I:Inv X pins σ H s):Inv X pins σ (upd (upd H s.heap.objs.size (.own (s.heap.objs.size+1))) (s.heap.objs.size+1) (.ins C s.heap.objs.size []))
 {s with heap:=(s.heap.push Po).push (Tl C s.heap.objs.size)}:=by
 have e1:(s.heap.push Po).get? s.heap.objs.size=some Po:=Ev s.heap rfl
 have e2:((s.heap.push Po).push (Tl C s.heap.objs.size)).get? (s.heap.objs.size+1)=some (Tl C s.heap.objs.size):=by
  have:=Ev (s.heap.push Po) (o:=Tl C s.heap.objs.size) rfl
  rwa [WJ] at this
 have e3:(s.heap.push Po).Ns s.heap.objs.size (fun _=>none):=⟨Po,#[],_,e1,rfl,(fun e he=>absurd he (by simp)),fun _=>rfl⟩
 have I1:=I.laid (a:=s.heap.objs.size) (o:=.own (s.heap.objs.size+1)) (h':=s.heap.push Po) (t':=s.toks) (fun b u q=>BY _ q) (BN _) ⟨_,e1⟩
 refine I1.laid (a:=s.heap.objs.size+1) (o:=.ins C s.heap.objs.size []) (t':=s.toks) (fun b u q=>BY _ q) (Nat.le_of_eq (WJ _ _)) ?_
 have ne:s.heap.objs.size≠s.heap.objs.size+1:=ET (Aan _)
 refine⟨by rw [az ne,av],KF _,ne,e2,fun _=>none,(Heap.Ns1.of_empty e3).at fun o q=>BY _ q,fun _=>US,fun y hy=>absurd rfl hy⟩
theorem Tg {prog:Fk} {env:Env} {f:Str} (hb:WE e f env (eval e env)=eval e env) (h:wpAny (model prog w) A (eval e env) (fun o s₁=>wpAny (model prog w) A (getAttr o f true) Q E s₁) E s):wpAny (model prog w) A (eval (.Attribute e f pos) env) Q E s:=
 Attribute_any_ h (by rw [arm_eval_Attribute,hb])
end
def Z9 (K:At) (ta:TE) (f:Str):TE:=fun σ H Q=>ta σ H fun x H1=>∃a C dx fs v,x=.ref a/\H1 a=some (.ins C dx fs)/\ug K C/\aJ K C f/\fs.lookup f=some v/\Q v H1
def acm (K:At) (ta tv:TE) (f:Str):TS:=fun D σ H=>tv σ H fun y H1=>ta σ H1 fun x H2=>∃a C dx fs,x=.ref a/\H2 a=some (.ins C dx fs)/\ug K C/\aJ K C f/\fs.length<1000/\
 D.nx σ (upd H2 a (.ins C dx (kX f y fs)))
section
variable {o value:Expr} {f:Str} {pos' R1:Pos} {tv:TE}
theorem au (he:PE X e ta) (hb:WE e f X.env (eval e X.env)=eval e X.env):PE X (.Attribute e f pos) (Z9 X.K ta f):=by
 intro pins s σ H Q I h
 refine Tg hb (dC (he pins s σ H _ I h) fun u s1 ⟨x,H1,I1,rx,a,C,dx,fs,v,ex,ea,c,n,l,q⟩=>?_)
 subst ex
 obtain rfl:u=LS a:=rx
 exact IE I1 ea c n l fun u' s2 I2 ru=>⟨v,H1,I2,ru,q⟩
theorem aV (ha:PE X o ta) (hv:PE X value tv) (hs:swapsWith value (some (.Attribute o f pos')) pos.line X.env=pure false):PS X (.Assign [.Attribute o f pos'] value pos) (acm X.K ta tv f):=by
 intro pins s σ H D I h
 refine plainObj_wpAny_Assign_Attribute (dC (hv pins s σ H _ I h) fun u s1 ⟨y,H1,I1,ry,q⟩=>dC (ha pins s1 σ H1 _ I1 q) fun ov s2 ⟨x,H2,I2,rx,a,C,dx,fs,ex,ea,c,n,l,q2⟩=>?_) hs
 subst ex
 obtain rfl:ov=LS a:=rx
 exact Jt I2 ea c n l ry fun s3 I3=>⟨σ,_,I3,q2⟩
end
section
variable {c:Value} {b:Bool}
inductive wB (K:At) (H:Hp):V->Value->Prop where
 |aQ:wB K H .aQ (.type "NoneType")
 |bl (x:Bool):wB K H (.bl x) (.type "bool")
 |int (i:Int):wB K H (.int i) (.type "int")
 |str (x:Str):wB K H (.str x) (.type "str")
 |WQ (x:UInt64):wB K H (.WQ x) (.type "float")
 |lst {a:Addr} {xs:List V} (e:H a=some (.lst xs)):wB K H (.ref a) (.type "list")
 |sS {a:Addr} {o:Obj} {xs:List V} (e:H a=some (.sS o (.lst xs))):wB K H (.ref a) (.type "list")
 |tup {a:Addr} {xs:List V} (e:H a=some (.tup xs)):wB K H (.ref a) (.type "tuple")
 |dK {a:Addr} {kvs:List (Key × V)} (e:H a=some (.dK kvs)):wB K H (.ref a) (.type "dict")
 |dT {a:Addr} {kvs:List (List Key × V)} (e:H a=some (.dT kvs)):wB K H (.ref a) (.type "dict")
 |ins {a C dx:Addr} {fs:List (Str × V)} (e:H a=some (.ins C dx fs)) (cl:ug K C) (ha:AT K (.ref C) "__class__"=some (some (.builtin "object.__class__")))
  (hn:UV K (.builtin "object.__class__") "__get__"=some (some (.builtin "getset_descriptor.__get__"))) (GJ:PySem.W.takesIn K (.builtin "object.__class__")=some true)
  (hm:PySem.W.mroIn K C (.type "object")=some true):wB K H (.ref a) (.ref C)
theorem MT {x:V} {t:Value} (I:Inv X pins σ H s) (rx:RelV x u) (ty:wB X.K H x t) (e:PySem.W.kitOne X.K t c=some b) (h:∀tk,Q (.bool b) {s with toks:=tk}):
 wpAny (model X.prog X.w) A (call (.builtin "isinstance") [u,c]) Q E s:=by
 cases ty with
 |aQ=>cases (show u=Of from rx);exact Pe PySem.W.kitx_none I.vS US e (fun z=>nomatch z) h
 |bl y=>cases (show u=Ab0 y from rx);exact Pe PySem.W.kitx_bool I.vS US e (fun z=>nomatch z) h
 |int i=>obtain⟨t,q⟩:=(show ∃t,u=AbD i t from rx);cases q;exact Pe PySem.W.kitx_int I.vS US e (fun z=>nomatch z) h
 |str y=>obtain⟨t,q⟩:=(show ∃t,u=AbU y t from rx);cases q;exact Pe PySem.W.kitx_str I.vS US e (fun z=>nomatch z) h
 |WQ y=>obtain⟨t,q⟩:=(show ∃t,u=Value.float y t from rx);cases q;exact Pe PySem.W.kitx_float I.vS US e (fun z=>nomatch z) h
 |@lst a xs ea=>
  cases (show u=LS a from rx)
  obtain⟨_,_,n,_,h1⟩:=(show c6 X.prog X.w H s.heap a (.lst xs) from I.bb a _ ea)
  exact Pe PySem.W.kitx_list I.vS ⟨_,h1,rfl⟩ e (fun z=>nomatch z) h
 |@sS a ob xs ea=>
  cases (show u=LS a from rx)
  obtain⟨_,_,_,n,_,h1⟩:=(show c6 X.prog X.w H s.heap a (.sS ob (.lst xs)) from I.bb a _ ea)
  exact Pe PySem.W.kitx_list I.vS ⟨_,h1,rfl⟩ e (fun z=>nomatch z) h
 |@tup a xs ea=>
  cases (show u=LS a from rx)
  obtain⟨_,_,_,p⟩:=(show c6 X.prog X.w H s.heap a (.tup xs) from I.bb a _ ea)
  obtain⟨o,h1,h2,_⟩:=p
  exact Pe PySem.W.kitx_tuple I.vS ⟨o,h1,h2⟩ e (fun z=>nomatch z) h
 |@dK a kvs ea=>
  cases (show u=LS a from rx)
  obtain⟨_,_,vs,_,p⟩:=(show c6 X.prog X.w H s.heap a (.dK kvs) from I.bb a _ ea)
  obtain⟨o,es,ep,h1,h2,_⟩:=p
  exact Pe PySem.W.kitx_dict I.vS ⟨o,h1,h2.1⟩ e (fun z=>nomatch z) h
 |@dT a kvs ea=>
  cases (show u=LS a from rx)
  obtain⟨_,_,xs,_,o,es,ep,h1,h2,_⟩:=(show c6 X.prog X.w H s.heap a (.dT kvs) from I.bb a _ ea)
  exact Pe PySem.W.kitx_dict I.vS ⟨o,h1,h2.1⟩ e (fun z=>nomatch z) h
 |@ins a C dx fs ea cl ha hn GJ hm=>
  cases (show u=LS a from rx)
  obtain⟨mA,O,_⟩:=Ac I.bb ea
  obtain⟨od,J,_⟩:=O.look
  exact Pe (PySem.W.kitx_own (cl.get _) cl.hd ha hn GJ hm) I.vS J e (fun z=>nomatch z) h
end
structure cO (k:Nat) (A:IS):Prop where
 hd:A.handled=none
 dp:A.depth+3*k+5<recursionLimit
 un:A.units+16*k+200<cLine
theorem cO.mono {j k:Nat} (r:cO k A) (h:j<=k):cO j A:=⟨r.hd,by have:=r.dp;omega,by have:=r.un;omega⟩
theorem cO.deeper {k:Nat} (r:cO (k+1) A) (env:Env):cO k (A.deeper env):=
 ⟨r.hd,by have:=r.dp;show A.depth+1+3*k+5<_;omega,by have:=r.un;show A.units+3+16*k+200<_;omega⟩
theorem cO.in1 {k:Nat} (r:cO (k+1) A):cO k A.in1:=
 ⟨r.hd,by have:=r.dp;show A.depth+3*k+5<_;omega,by have:=r.un;show A.units+1+16*k+200<_;omega⟩
theorem Jj:(A.under (.builtin "type.__call__" ⟨.ref C::us,kw⟩)).depth=A.depth+1:=by
 first|rfl|simp [IS.under,Code.weight,Code.isCreation,Code.isGuard,Code.isCaller,Code.frames,Code.isFrame,guardIds]
theorem IB:(A.under (.builtin "type.__call__" ⟨.ref C::us,kw⟩)).units=A.units+1:=by
 first|rfl|simp [IS.under,Code.cUnits,Code.frames,Code.isFrame]
theorem cO.make {k:Nat} (r:cO (k+1) A) (C:Addr) (us:List Value) (kw:List (Str × Value)):cO k (A.under (.builtin "type.__call__" ⟨.ref C::us,kw⟩)):=
 ⟨r.hd,by have:=r.dp;rw [Jj];omega,by have:=r.un;rw [IB];omega⟩
theorem cO.depth {k:Nat} (r:cO k A):A.depth<recursionLimit:=by have:=r.dp;omega
theorem cO.units {k:Nat} (r:cO k A):A.units+64<cLine:=by have:=r.un;omega
def Ge:TA:=fun _ H Q=>Q [] H
def Rl (ta:TE) (tr:TA):TA:=fun σ H Q=>ta σ H fun x H1=>tr σ H1 fun xs H2=>Q (x::xs) H2
section
theorem af:PA X [] Ge:=fun _ _ _ _ H Q I h=>AbI ⟨[],H,I,.nil,h⟩
theorem ae (ha:PE X e te) (hr:PA X es t) (hs:DO (e::es) X.env=(false,eval e X.env)::DO es X.env:=by rfl):PA X (e::es) (Rl te t):=by
 intro pos pins s σ H Q I h
 rw [hs]
 show wpAny _ _ (spliced ((false,eval e X.env)::SS pos (DO es X.env))) _ _ s
 refine Abu (dC (ha pins s σ H _ I h) fun u s1 ⟨x,H1,I1,r1,q1⟩=>?_)
 exact dC (hr pos pins s1 σ H1 _ I1 q1) fun us s2 ⟨xs,H2,I2,r2,q2⟩=>⟨x::xs,H2,I2,.cons r1 r2,q2⟩
def afU (t:TA):TE:=fun σ H Q=>t σ H fun xs H1=>xs.length<=EM/\∀p,H1 p=none->Q (.ref p) (upd H1 p (.tup xs))
def agf (t:TA):TE:=fun σ H Q=>t σ H fun xs H1=>xs.length<=EM/\∀p,H1 p=none->Q (.ref p) (upd H1 p (.lst xs))
theorem Y8 {x1} (h:PA X es t):PE X (.Tuple es x1 pos) (afU t):=by
 intro pins s σ H Q I hq
 refine wpAny_Tuple_spliced (dC (h pos pins s σ H _ I hq) fun us s1 ⟨xs,H1,I1,r,z,q⟩=>⟨by rw [<-r.length];exact z,?_⟩)
 have hf:H1 s1.heap.objs.size=none:=I1.bb.fresh (BN _)
 refine⟨.ref s1.heap.objs.size,upd H1 s1.heap.objs.size (.tup xs),I1.laid (t':=s1.toks) (fun b u e=>BY _ e) (BN _) ?_,rfl,q _ hf⟩
 exact⟨z,us,r,⟨_,Ev _ rfl,rfl,_,rfl⟩⟩
theorem YY (h:PA X es t):PE X (.List es pos) (agf t):=by
 intro pins s σ H Q I hq
 refine wpAny_List_spliced (dC (h pos pins s σ H _ I hq) fun us s1 ⟨xs,H1,I1,r,z,q⟩=>⟨by rw [<-r.length];exact z,?_⟩)
 have hf:H1 s1.heap.objs.size=none:=I1.bb.fresh (BN _)
 refine⟨.ref s1.heap.objs.size,upd H1 s1.heap.objs.size (.lst xs),I1.laid (t':=s1.toks) (fun b u e=>BY _ e) (BN _) ?_,rfl,q _ hf⟩
 exact⟨z,us,0,r,Ev _ rfl⟩
end
abbrev Sp:=List V->Hp->VK->XK->Prop
variable {sp:Sp}
abbrev Gr:=List Env->Hp->AM->XK->Value->AM->Prop
variable {CX:Gr}
structure C2 (P:Fk) (w:World) (K:At) (mg:Str->Option Value) (base:Heap) (A:IS) (outer:List Env) (s:AM) (H:Hp):Prop where
 frames:A.frames=some outer
 mod:Mod K mg base
 bs:∀b o,base.get? b=some o->s.heap.get? b=some o/\H b=none
 Oe:base.objs.size<=s.heap.objs.size
 xh:s.heap.FunFrames base outer
 U8:∀b∈Nq outer,H b=none
 bb:rh P w H s.heap
 bare:AbW s.gens
def CE (outer:List Env) (P:Fk) (w:World) (H:Hp) (s:AM) (Q:VK) (u:Value) (s':AM):Prop:=
 ∃v H',s'.os=s.os/\AbW s'.gens/\Un (Nq outer) [] H H' s.heap s'.heap/\rh P w H' s'.heap/\RelV v u/\Q v H'
def CR (CX:Gr) (outer:List Env) (P:Fk) (w:World) (H:Hp) (s:AM) (Q:VK) (E:XK) (r:Result) (s':AM):Prop:=
 match r with
 | .ok (.ret u)=>CE outer P w H s Q u s'
 | .ok _=>False
 | .error e=>CX outer H s E e s'
structure aP (P:Fk) (w:World) (K:At) (mg:Str->Option Value) (base:Heap) (CX:Gr) (k:Nat) (f:Addr) (fd:Cs) (ps:List Str) (sp:Sp):Prop where
 len:∀vs H Q E,sp vs H Q E->vs.length=ps.length
 run:∀(A:IS) (outer:List Env) (s:AM) (H:Hp) (args:Args) (us:List Value) (vs:List V) (Q:VK) (E:XK),cO k A->C2 P w K mg base A outer s H->BindsTo s fd args (ps.zip us)->Vals vs us->sp vs H Q E->
  AbQ (model P w) A (.call (.ref f) args) (CR CX outer P w H s Q E) s
theorem aP.mono {j k:Nat} {f:Addr} (F:aP P w K mg base CX j f fd ps sp) (h:j<=k):
 aP P w K mg base CX k f fd ps sp:=⟨F.len,fun A outer s H args us vs Q E hr=>F.run A outer s H args us vs Q E (hr.mono h)⟩
theorem C2.make (e:C2 P w K mg base A outer s H) (C:Addr) (us:List Value) (kw:List (Str × Value)):
 C2 P w K mg base (A.under (.builtin "type.__call__" ⟨.ref C::us,kw⟩)) outer s H:=⟨by first|exact e.frames|(simpa [IS.under,Code.envs,Code.isFrame,pushEnvs] using e.frames),e.mod,e.bs,e.Oe,e.xh,e.U8,e.bb,e.bare⟩
theorem C2.in1 (e:C2 P w K mg base A outer s H):
 C2 P w K mg base A.in1 outer s H:=⟨e.frames,e.mod,e.bs,e.Oe,e.xh,e.U8,e.bb,e.bare⟩
section
variable {s':AM}
theorem Inv.WW (I:Inv X pins σ H s):C2 X.prog X.w X.K X.mg X.base X.A X.stack s H:=
 ⟨I.ok.frames,I.ok.mod,I.bs,Mo I.ok.Oe I.sz,I.stack,I.Km,I.bb,I.bare⟩
theorem Inv.after {Q:VK} (I:Inv X pins σ H s) (h:CE X.stack X.prog X.w H s Q u s'):EP X pins σ Q u s':=by
 obtain⟨v,H',os,bare,un,bb,r,q⟩:=h
 obtain⟨hh,g,d,t,os'⟩:=s'
 obtain rfl:os'=s.os:=os
 exact⟨v,H',I.call (h':=hh) (g':=g) (d':=d) (t':=t) (ch:=[]) un bb bare (fun b z=>absurd z (by simp)),r,q⟩
end
def Df (sp:Sp) (eI:List V) (E:XK) (t:TA):TE:=fun σ H Q=>t σ H fun vs H1=>sp (vs++eI) H1 Q E
def Dz (C:Addr) (m:Str) (sp:Sp) (eI:List V) (E:XK) (ta:TE) (t:TA):TE:=fun σ H Q=>ta σ H fun x H1=>∃a dx fs,x=.ref a/\H1 a=some (.ins C dx fs)/\fs.lookup m=none/\
 t σ H1 fun vs H2=>sp (x::(vs++eI)) H2 Q E
def Hz (C:Addr) (sp:Sp) (eI:List V) (E:XK) (t:TA):TE:=fun σ H Q=>t σ H fun vs H1=>∀x dx,H1 x=none->H1 dx=none->dx≠x->
 sp (.ref x::(vs++eI)) (upd (upd H1 dx (.own x)) x (.ins C dx [])) (fun v H2=>v=.aQ/\Q (.ref x) H2) E
def Binds (K:At) (fd:Cs) (ps:List Str) (ds:List Value):Prop:=
 ∀(s:AM) (us:List Value),K.In s.heap->(us++ds).length=ps.length->BindsTo s fd ⟨us,[]⟩ (ps.zip (us++ds))
theorem Binds.all (h:∀us:List Value,us.length=ps.length->bindArgs fd ⟨us,[]⟩=pure (ps.zip us)):Binds K fd ps []:=fun s us _ hl=>by
 rw [NG] at hl ⊢
 exact .of_eq (h us hl)
def Passes (CX:Gr) (X:Cx) (E:XK):Prop:=∀(pins:List (Addr × Obj)) (σ:St) (H:Hp) (s:AM) (e:Value) (s':AM),Inv X pins σ H s->CX X.stack H s E e s'->X.xe e s'
section
variable {k:Nat} {f:Addr} {eI:List V} {ds:List Value} {E:XK} {m:Str} {p apos:Pos} {o:Expr}
theorem Fw {Q:VK} (F:aP X.prog X.w X.K X.mg X.base CX k f fd ps sp) (hr:cO k X.A) (hb:Binds X.K fd ps ds) (hd:Vals eI ds) (hx:Passes CX X E) (I:Inv X pins σ H s) (r:Vals vs us) (h:sp (vs++eI) H Q E):wpAny (model X.prog X.w) X.A (call (.ref f) us) (EP X pins σ Q) X.xe s:=by
 have r2:Vals (vs++eI) (us++ds):=r.append hd
 have hl:(us++ds).length=ps.length:=by rw [<-r2.length];exact F.len _ _ _ _ h
 refine wpAny_call (Abv (F.run X.A X.stack s H ⟨us,[]⟩ (us++ds) (vs++eI) Q E hr I.WW (hb s us I.vS hl) r2 h) fun r s' hq=>?_)
 cases r with
 |error e=>exact hx pins σ H s e s' I hq
 |ok fl=>
  cases fl with
  |ret u=>exact I.after hq
  |next=>exact RI hq
  |brk=>exact RI hq
  |cont=>exact RI hq
theorem SU (F:aP X.prog X.w X.K X.mg X.base CX k f fd ps sp) (hr:cO k X.A) (hg:Gl X x) (hm:X.mg x=some (.ref f)) (hk:ES X.K (.ref f)=true) (hb:Binds X.K fd ps ds) (hd:Vals eI ds) (hx:Passes CX X E) (ha:PA X (e::es) t) (zR:(x==("__debug__":Str))=false:=by decide) (he:DO (e::es) X.env=(false,eval e X.env)::DO es X.env:=by rfl) (vO:(SS pos (DO es X.env)).any (·.1)=false:=by rfl):
 PE X (.Call (.Name x p) (e::es) [] pos) (Df sp eI E t):=by
 intro pins s σ H Q I h
 refine Sk (xP I hg hm ?_ zR)
 refine Aav (h₀:=X.base) I.ok.mod.kin hk (dC (ha pos pins s σ H _ I h) fun us s1 ⟨vs,H1,I1,r,q⟩=>⟨I1.vS,?_⟩) he vO
 exact Fw F hr hb hd hx I1 r q
theorem Vg (he:PE X o ta) (c:ug X.K C) (hm:Meth X.K C m f) (F:aP X.prog X.w X.K X.mg X.base CX k f fd ps sp) (hr:cO k X.A) (hb:Binds X.K fd ps ds) (hd:Vals eI ds) (hx:Passes CX X E) (ha:PA X (e::es) t) (uh:DO (e::es) X.env=(false,eval e X.env)::DO es X.env:=by rfl) (vO:(SS pos (DO es X.env)).any (·.1)=false:=by rfl) (ht:eval (.Call (.Attribute o m apos) (e::es) [] pos) X.env=(do
  let ov <-eval o X.env
  Abk apos.atName
  let (f,first) <-Abl [ov] (Aaj ov m pl)
  Abw pos f first (SS pos (DO (e::es) X.env)) (Aao pos (SI [] X.env))):=by rfl):
 PE X (.Call (.Attribute o m apos) (e::es) [] pos) (Dz C m sp eI E ta t):=by
 intro pins s σ H Q I h
 refine AaW (pl:=pl) (dC (he pins s σ H _ I h) fun u s1 ⟨x,H1,I1,rx,a,dx,fs,ex,ea,l,q⟩=>?_) ht
 subst ex
 obtain rfl:u=LS a:=rx
 refine B5 I1 ea c hm l ?_
 refine Aav (first:=[.ref a]) (h₀:=X.base) I.ok.mod.kin hm.kp (dC (ha pos pins s1 σ H1 _ I1 q) fun us s2 ⟨vs,H2,I2,r,q2⟩=>⟨I2.vS,?_⟩) uh vO
 exact Fw (us:=.ref a::us) (vs:=.ref a::vs) F hr hb hd hx I2 (.cons rfl r) q2
theorem R0 (he:PE X o ta) (c:ug X.K C) (hm:Meth X.K C m f) (F:aP X.prog X.w X.K X.mg X.base CX k f fd ps sp) (hr:cO k X.A) (hb:Binds X.K fd ps ds) (hd:Vals eI ds) (hx:Passes CX X E) (ht:eval (.Call (.Attribute o m apos) [] [] pos) X.env=(do
  let ov <-eval o X.env
  Abk apos.atName
  let (f,first) <-Abl [ov] (Aaj ov m pl)
  Abw pos f first (SS pos (DO [] X.env)) (Aao pos (SI [] X.env))):=by rfl):
 PE X (.Call (.Attribute o m apos) [] [] pos) (Dz C m sp eI E ta Ge):=by
 intro pins s σ H Q I h
 refine AaW (pl:=pl) (dC (he pins s σ H _ I h) fun u s1 ⟨x,H1,I1,rx,a,dx,fs,ex,ea,l,q⟩=>?_) ht
 subst ex
 obtain rfl:u=LS a:=rx
 refine B5 I1 ea c hm l ?_
 exact PySem.W.callWith_K0 (first:=[.ref a]) I1.vS hm.kp (Fw (us:=[.ref a]) (vs:=[.ref a]) F hr hb hd hx I1 (.cons rfl .nil) q)
structure Mk (K:At) (C f:Addr):Prop where
 makes:Sa K C=true
 init:AT K (.ref C) "__init__"=some (some (.ref f))
 fn:PySem.W.isFn K (.ref f)=true
 kp:ES K (.ref C)=true
theorem HJ {Q:VK} (M:Mk X.K C f) (F:aP X.prog X.w X.K X.mg X.base CX k f fd ps sp) (hr:cO (k+1) X.A) (hb:Binds X.K fd ps ds) (hd:Vals eI ds) (hx:Passes CX X E) (I:Inv X pins σ H s) (r:Vals vs us) (h:∀x dx,H x=none->H dx=none->dx≠x->sp (.ref x::(vs++eI)) (upd (upd H dx (.own x)) x (.ins C dx [])) (fun v H2=>v=.aQ/\Q (.ref x) H2) E):
 wpAny (model X.prog X.w) X.A (call (.ref C) us) (EP X pins σ Q) X.xe s:=by
 have hq:=h (s.heap.objs.size+1) s.heap.objs.size (I.bb.fresh (Zs _)) (I.bb.fresh (BN _)) (ET (Aan _))
 have I2:=Inv.made (C:=C) I
 have r2:Vals (V.ref (s.heap.objs.size+1)::(vs++eI)) (LS (s.heap.objs.size+1)::(us++ds)):=.cons rfl (r.append hd)
 have hl:(LS (s.heap.objs.size+1)::us++ds).length=ps.length:=by
  have e:=r2.length
  rw [F.len _ _ _ _ hq] at e
  exact e.symm
 refine wpAny_call (Rq (f:=f) I.vS M.makes M.init (beq_iff_eq.mp M.fn) (Abv (F.run _ X.stack _ _ ⟨LS (s.heap.objs.size+1)::us,[]⟩ (LS (s.heap.objs.size+1)::(us++ds)) _ _ E (hr.make C us [])
  (I2.WW.make C us []) (hb _ (LS (s.heap.objs.size+1)::us) I2.vS hl) r2 hq) fun r s' vP=>?_))
 cases r with
 |error e=>exact hx pins σ _ _ e s' I2 vP
 |ok fl=>
  cases fl with
  |ret u=>
   obtain⟨v,H',I3,rv,ev,q3⟩:=I2.after vP
   subst ev
   exact⟨rv,⟨V.ref (s.heap.objs.size+1),H',I3,rfl,q3⟩⟩
  |next=>exact RI vP
  |brk=>exact RI vP
  |cont=>exact RI vP
theorem TC (M:Mk X.K C f) (F:aP X.prog X.w X.K X.mg X.base CX k f fd ps sp) (hr:cO (k+1) X.A) (hg:Gl X x) (hm:X.mg x=some (.ref C)) (hb:Binds X.K fd ps ds) (hd:Vals eI ds) (hx:Passes CX X E) (ha:PA X (e::es) t) (zR:(x==("__debug__":Str))=false:=by decide) (he:DO (e::es) X.env=(false,eval e X.env)::DO es X.env:=by rfl) (vO:(SS pos (DO es X.env)).any (·.1)=false:=by rfl):
 PE X (.Call (.Name x p) (e::es) [] pos) (Hz C sp eI E t):=by
 intro pins s σ H Q I h
 refine Sk (xP I hg hm ?_ zR)
 refine Aav (h₀:=X.base) I.ok.mod.kin M.kp (dC (ha pos pins s σ H _ I h) fun us s1 ⟨vs,H1,I1,r,q⟩=>⟨I1.vS,?_⟩) he vO
 exact HJ M F hr hb hd hx I1 r q
theorem OV (M:Mk X.K C f) (F:aP X.prog X.w X.K X.mg X.base CX k f fd ps sp) (hr:cO (k+1) X.A) (hg:Gl X x) (hm:X.mg x=some (.ref C)) (hb:Binds X.K fd ps ds) (hd:Vals eI ds) (hx:Passes CX X E) (zR:(x==("__debug__":Str))=false:=by decide):PE X (.Call (.Name x p) [] [] pos) (Hz C sp eI E Ge):=by
 intro pins s σ H Q I h
 refine Sk (xP I hg hm ?_ zR)
 exact PySem.W.callWith_K0 I.vS M.kp (HJ (us:=[]) M F hr hb hd hx I .nil h)
end
def PK (X:Cx) (kws:List Keyword) (t:TA):Prop:=
 ∀(pos:Pos) (pins:List (Addr × Obj)) (s:AM) (σ:St) (H:Hp) (Q:List V->Hp->Prop),Inv X pins σ H s->t σ H Q->wpAny (model X.prog X.w) X.A (evalAll ((Aao pos (SI kws X.env)).map (·.2))) (AP X pins σ Q) X.xe s
section
variable {k:Nat} {f:Addr} {ks:List Str} {E:XK} {m:Str} {p apos TL:Pos} {o:Expr} {kws:List Keyword} {tk:TA} {nm:Option Str}
theorem W4:PK X [] Ge:=fun _ _ _ _ H Q I h=>wpAny_evalAll_nil ⟨[],H,I,.nil,h⟩
theorem Va (ha:PE X e te) (hr:PK X kws t):PK X (⟨nm,e,TL⟩::kws) (Rl te t):=by
 intro pos pins s σ H Q I h
 show wpAny _ _ (evalAll ((do let v <-eval e X.env;Abk pos;pure v)::(Aao pos (SI kws X.env)).map (·.2))) _ _ s
 refine wpAny_evalAll_cons (BS (dC (ha pins s σ H _ I h) fun u s1 ⟨x,H1,I1,r1,q1⟩=>BS (wpAny_standAt (GS ?_))))
 exact dC (hr pos pins s1 σ H1 _ I1 q1) fun us s2 ⟨xs,H2,I2,r2,q2⟩=>⟨x::xs,H2,I2,.cons r1 r2,q2⟩
variable {g:List Value->List Value->List Value} {gV:List V->List V->List V}
end
structure aw (N P:List Str) (sc:Scope):Prop where
 kind:sc.kind=.function
 co:sc.isCoroutine=false
 gen:sc.isGenerator=false
 nd:N.Nodup
 pre:N.take P.length=P
 par:∀x∈P,sc.names.lookup x=some .local\/sc.names.lookup x=some .cell
 YJ:∀y∈sc.names,y.2≠.free
theorem DG {kindOf:Str->Option Ab8} {x:Str}:∀{binds:List (Str × Value)} {m:Str->Option Value},(∀v,(x,v)∉binds)->bindL kindOf binds m x=m x
 |[],_,_=>rfl
 |(n,v)::r,m,h=>by
  unfold bindL
  rw [DG fun w hw=>h w (AL _ hw)]
  split
  . have:x≠n:=by rintro rfl;exact h v BC
    simp [this]
  . rfl
theorem Ef {kindOf:Str->Option Ab8} {x:Str}:∀{binds:List (Str × Value)} {m:Str->Option Value},(∀v,(x,v)∉binds)->bindC kindOf binds m x=m x
 |[],_,_=>rfl
 |(n,v)::r,m,h=>by
  unfold bindC
  rw [Ef fun w hw=>h w (AL _ hw)]
  split
  . rfl
  . have:x≠n:=by rintro rfl;exact h v BC
    simp [this]
theorem DU {kindOf:Str->Option Ab8} {x:Str} {v:Value}:∀{P:List Str} {vs:List Value} {i:Nat} {m:Str->Option Value},P.Nodup->P[i]? =some x->vs[i]? =some v->kindOf x=some .local->
 bindL kindOf (P.zip vs) m x=some v
 |[],_,_,_,_,h,_,_=>by simp at h
 |_::_,[],_,_,_,_,h,_=>by simp at h
 |p::P,w::vs,0,m,nd,h1,h2,hk=>by
  simp at h1 h2;subst h1;subst h2
  show bindL kindOf ((p,w)::P.zip vs) m p=_
  unfold bindL
  rw [DG fun v hv=>(EO.mp nd).1 (List.of_mem_zip hv).1,if_pos hk]
  simp
 |p::P,w::vs,i+1,m,nd,h1,h2,hk=>by
  show bindL kindOf ((p,w)::P.zip vs) m x=_
  unfold bindL
  exact DU (i:=i) (EO.mp nd).2 (by simpa using h1) (by simpa using h2) hk
theorem DS {kindOf:Str->Option Ab8} {x:Str} {v:Value}:∀{P:List Str} {vs:List Value} {i:Nat} {m:Str->Option Value},P.Nodup->P[i]? =some x->vs[i]? =some v->kindOf x≠some .local->
 bindC kindOf (P.zip vs) m x=some v
 |[],_,_,_,_,h,_,_=>by simp at h
 |_::_,[],_,_,_,_,h,_=>by simp at h
 |p::P,w::vs,0,m,nd,h1,h2,hk=>by
  simp at h1 h2;subst h1;subst h2
  show bindC kindOf ((p,w)::P.zip vs) m p=_
  unfold bindC
  rw [Ef fun v hv=>(EO.mp nd).1 (List.of_mem_zip hv).1,if_neg hk]
  simp
 |p::P,w::vs,i+1,m,nd,h1,h2,hk=>by
  show bindC kindOf ((p,w)::P.zip vs) m x=_
  unfold bindC
  exact DS (i:=i) (EO.mp nd).2 (by simpa using h1) (by simpa using h2) hk
def start (N:List Str) (vs:List V):St:=vs.map some++Mn (N.length - vs.length) none
def Ng (CX:Gr) (P:Fk) (w:World) (K:At) (mg:Str->Option Value) (base:Heap) (N:List Str) (qual:Str) (scope:Scope) (f:Addr) (cd:Value) (A:IS) (outer:List Env) (s:AM) (H:Hp) (E:XK):Cx where
 prog:=P
 w:=w
 K:=K
 mg:=mg
 base:=base
 A:=A.deeper (envOfC qual scope s.heap.objs.size f cd)
 N:=N
 jk:=s
 IV:=H
 env:=envOfC qual scope s.heap.objs.size f cd
 outer:=outer
 stack:=envOfC qual scope s.heap.objs.size f cd::outer
 ex:=[]
 calm:=true
 fn:=fun _=>true
 pn:=[]
 xe:=fun e s'=>wpAny (model P w) (A.deeper (envOfC qual scope s.heap.objs.size f cd)) («leaving» (envOfC qual scope s.heap.objs.size f cd) e) (fun _ s''=>CX outer H s E e s'') (fun e' s''=>CX outer H s E e' s'') s'
theorem Hq {sc:Scope} (h:sc.names.lookup x=some .cell):∃c,(cellsFrom n sc.names []).lookup x=some c:=by
 have q:=PySem.W.cellsFrom_some sc.names n [] (.inl h)
 exact VT.mp q
theorem Nj {N:List Str} {qual:Str} {f:Addr} {cd:Value} {s1:AM} {E:XK} (S:aw N ps scope) (hd:A.handled=none) (e0:C2 P w K mg base A outer s H) (hl:vs.length=ps.length) (r:Vals vs us) (x:InCallC s s.heap.objs.size (bindL (envOfC qual scope s.heap.objs.size f cd).kindOf (ps.zip us) fun _=>none) (cellsFrom (s.heap.objs.size+1) scope.names []) (bindC (envOfC qual scope s.heap.objs.size f cd).kindOf (ps.zip us) fun _=>none) s1):
 Inv (Ng CX P w K mg base N qual scope f cd A outer s H E) [] (start N vs) H s1:=by
 have vO:ps.length<=N.length:=by have:=congrArg Abn S.pre;rw [KM] at this;omega
 obtain⟨h1,tk,rfl,hk⟩:=x.done
 have noA:∀b:Addr,b∉(Ng CX P w K mg base N qual scope f cd A outer s H E).ex:=fun b z=>absurd (show b∈([]:List Addr) from z) (by simp)
 refine⟨⟨e0.mod,S.kind,rfl,rfl,BN _,fun y z c h1 h2=>?_,fun y hy=>?_,fun y c _ h=>?_,fun _=>hd,IS.frames_deeper e0.frames,.inr ⟨rfl,rfl⟩,fun b z=>absurd z (noA b),e0.bs,e0.Oe,fun b _ _=>noA b,fun b z=>absurd z (noA b),e0.xh,e0.U8⟩,
  rfl,e0.bare,Un.kept hk,⟨_,x.toInCall.ns,fun i y v h1 h2 h3=>?_⟩,fun y c h=>⟨_,x.cell y c h⟩,e0.bb.fresh (BN _),fun y c h=>?_,fun p hp=>absurd (show p∈([]:List (Addr × Obj)) from hp) (by simp),e0.bb.kept hk,?_⟩
 . exact name_of_addr x.apart (WF h1) (WF h2)
 . have hy:scope.names.lookup y=some .cell\/scope.names.lookup y=some .free:=hy
   rcases hy with hy|hy
   . exact Hq hy
   . exact absurd rfl (S.YJ _ (WF hy))
 . exact Aat (x.above y c (WF h))
 . have hi:i<vs.length:=by
    unfold start at h2
    by_cases hi:i<vs.length
    . exact hi
    . rw [Re (by simpa using hi)] at h2
      rw [Aaw] at h2
      split at h2 <;>cases h2
   have ha:vs[i]? =some v:=by
    unfold start at h2
    rw [Aak (by simpa using hi),Fa] at h2
    cases e:vs[i]? with
    |none=>rw [e] at h2;cases h2
    |some a=>rw [e] at h2;cases h2;rfl
   obtain⟨u,hu,rv⟩:=r.get ha
   have hp:ps[i]? =some y:=by
    rw [<-S.pre,List.getElem?_take_of_lt (by omega)];exact h1
   have ndP:ps.Nodup:=by rw [<-S.pre];exact S.nd.sublist (List.take_sublist _ _)
   refine⟨u,rv,?_⟩
   rcases S.par y (Cf hp) with k|k
   . exact .inl ⟨k,DU ndP hp hu k⟩
   . obtain⟨c,e⟩:=Hq (n:=s.heap.objs.size+1) k
     refine .inr ⟨.inl k,c,e,?_⟩
     have q:=x.cell y c e
     rw [DS ndP hp hu (by show scope.names.lookup y≠_;rw [k];decide)] at q
     exact q
 . exact e0.bb.fresh (Aat (x.above y c (WF h)))
 . unfold start
   show _=N.length
   rw [Da,AE,ZB]
   omega
theorem adE {k:Nat} {f:Addr} {name qual:Str} {params:AbY} {dV kV doc pm c7 ct oc:Value} {an od:Option Addr} {TY:Array (Option Value)} {N:List Str} (lk:K.lookup f=some ⟨oc,od,.func (AaX name qual params body scope dV kV doc pm an c7 ct),TY⟩) (N9:PySem.W.codeIn K c7 qual=true) (S:aw N ps scope) (len:∀vs H Q E,sp vs H Q E->vs.length=ps.length) (DV:∀(A:IS) (outer:List Env) (s:AM) (H:Hp) (vs:List V) (Q:VK) (E:XK),cO k (A.deeper (envOfC qual scope s.heap.objs.size f c7))->sp vs H Q E->
  ∃t,J4 (Ng CX P w K mg base N qual scope f c7 A outer s H E) body t/\t {nx:=fun _ H'=>Q .aQ H',rt:=Q} (start N vs) H):
 aP P w K mg base CX (k+1) f (AaX name qual params body scope dV kV doc pm an c7 ct) ps sp:=by
 refine⟨len,fun A outer s H args us vs Q E hr e0 hb r Og=>?_⟩
 have hl:=len _ _ _ _ Og
 have KX:K.In s.heap:=e0.mod.kin.keeps fun b o e=>(e0.bs b o e).1
 have lim:s.heap.NoLimit:=e0.mod.nolimit.keeps fun b o e=>(e0.bs b o e).1
 have acy:∀y∈ps.zip us,scope.names.lookup y.1=some .local\/(scope.names.lookup y.1=some .cell/\((cellsFrom (s.heap.objs.size+1) scope.names []).lookup y.1).isSome=true):=fun⟨n,v⟩ hy=>by
  rcases S.par n (List.of_mem_zip hy).1 with q|q
  . exact .inl q
  . exact .inr ⟨q,PySem.W.cellsFrom_some _ _ _ (.inl q)⟩
 refine codeAny_call_function hr.depth (KX _ _ lk) rfl S.co S.gen rfl (PySem.W.codeRec_of KX N9) (hb _ _ _ _ ?_)
 refine wpAny_newFunctionEnv_cells S.kind acy fun env he s1 x=>?_
 subst he
 refine⟨lim.keeps x.toInCall.keep,codeAny_func ?_⟩
 obtain⟨t,ht,hq⟩:=DV A outer s H vs Q E (hr.deeper _) Og
 have I:Inv (Ng CX P w K mg base N qual scope f c7 A outer s H E) [] (start N vs) H s1:=Nj S hr.hd e0 hl r x
 refine Pc (ht [] s1 (start N vs) H _ I hq) (fun fl s' hs=>?_) fun e s' hs=>hs
 have fin:∀{σ':St} {H':Hp} {v:V} {u:Value},Inv (Ng CX P w K mg base N qual scope f c7 A outer s H E) [] σ' H' s'->RelV v u->Q v H'->CE outer P w H s Q u s':=
  fun {σ' H' v u} J rv q=>⟨v,H',J.os,J.bare,J.base,J.bb,rv,q⟩
 cases fl with
 |ret u=>
  obtain⟨v,σ',H',J,rv,q⟩:=hs
  exact fin J rv q
 |next=>
  obtain⟨σ',H',J,q⟩:=hs
  exact fin (v:=V.aQ) (u:=Of) J rfl q
 |brk=>
  obtain⟨_,_,_,q⟩:=hs
  exact RI q
 |cont=>
  obtain⟨_,_,_,q⟩:=hs
  exact RI q
section
variable {p:Pos} {id T:String} {r:List V->Hp->VK->Prop}
def tCB (r:List V->Hp->VK->Prop) (t:TA):TE:=fun σ H Q=>t σ H fun vs H1=>r vs H1 Q
theorem aU (hc:iL X (.builtin id) r) (hg:Gl X x) (hm:X.mg x=none) (hv:AaV x=some (.builtin id)) (ha:PA X (e::es) t) (hn:x≠"__name__":=by decide) (zR:(x==("__debug__":Str))=false:=by decide) (he:DO (e::es) X.env=(false,eval e X.env)::DO es X.env:=by rfl) (vO:(SS pos (DO es X.env)).any (·.1)=false:=by rfl):PE X (.Call (.Name x p) (e::es) [] pos) (tCB r t):=by
 intro pins s σ H Q I h
 refine Sk (u9 I hg hm hv ?_ hn zR)
 exact PyProof.Rows.callWith_builtin1 (dC (ha pos pins s σ H _ I h) fun us s1 ⟨vs,H1,I1,r1,q1⟩=>hc pins s1 σ H1 vs us Q I1 r1 q1) he vO
theorem DR (hc:iL X (.type T) r) (hg:Gl X x) (hm:X.mg x=none) (hv:AaV x=some (.type T)) (ha:PA X (e::es) t) (hn:x≠"__name__":=by decide) (zR:(x==("__debug__":Str))=false:=by decide) (he:DO (e::es) X.env=(false,eval e X.env)::DO es X.env:=by rfl) (vO:(SS pos (DO es X.env)).any (·.1)=false:=by rfl):PE X (.Call (.Name x p) (e::es) [] pos) (tCB r t):=by
 intro pins s σ H Q I h
 refine Sk (u9 I hg hm hv ?_ hn zR)
 exact Zl (dC (ha pos pins s σ H _ I h) fun us s1 ⟨vs,H1,I1,r1,q1⟩=>hc pins s1 σ H1 vs us Q I1 r1 q1) he vO
end
end L2
namespace L2
open PySem PySem.Spec PyProof.Rows
variable {n t':Nat} {α:Type} {pins:List (Addr × Obj)} {σ:St} {H:Hp} {s:AM} {o:Option V} {u:Value} {y:V} {P:Fk} {w:World} {kvs:List (List Key × V)} {xs:List (List Key × Addr × Value)} {a:Addr} {Q E:Value->AM->Prop} {A:IS} {pos:Pos} {X:Cx}
abbrev TO:=St->Hp->(Option Int->Hp->Prop)->Prop
def K8 (n:Nat) (i:Int):Option Nat:=if 0<=i then (if i<n then some i.toNat else none) else if -(n:Int)<=i then some (i+n).toNat else none
def t5 {α:Type} (xs:List α) (i:Int):Option α:=(K8 xs.length i).bind fun j=>xs[j]?
theorem U1 {i:Int} {j:Nat} (h:K8 n i=some j):seqIndex? i n=some j/\j<n/\-(n:Int)<=i/\i<n:=by
 unfold K8 at h
 by_cases h0:0<=i
 . rw [if_pos h0] at h
   by_cases h1:i<n
   . rw [if_pos h1] at h
     have e:i.toNat=j:=Do h
     exact⟨by rw [seqIndex_of h0 h1,e],by omega,by omega,h1⟩
   . rw [if_neg h1] at h;cases h
 . rw [if_neg h0] at h
   by_cases h1:-(n:Int)<=i
   . rw [if_pos h1] at h
     have e:(i+n).toNat=j:=Do h
     exact⟨by rw [seqIndex_neg (by omega) h1,e],by omega,h1,by omega⟩
   . rw [if_neg h1] at h;cases h
theorem Ex {α:Type} {xs:List α} {i:Int} {v:α} (h:t5 xs i=some v):∃j,seqIndex? i xs.length=some j/\xs[j]? =some v/\j<xs.length/\-(xs.length:Int)<=i/\i<xs.length:=by
 unfold t5 at h
 cases e:K8 xs.length i with
 |none=>rw [e] at h;cases h
 |some j=>
  rw [e] at h
  obtain⟨h1,h2,h3,h4⟩:=U1 e
  exact⟨j,h1,h,h2,h3,h4⟩
theorem xg {α:Type} {xs:List α} {j:Nat} {v:α} (h:xs[j]? =some v):t5 xs (j:Int)=some v:=by
 have hj:j<xs.length:=(AS.mp h).1
 have e:K8 xs.length (j:Int)=some j:=by
  unfold K8
  rw [if_pos (by omega),if_pos (by omega)];simp
 unfold t5;rw [e];exact h
theorem Be (xs:List α) (v:α):t5 (xs++[v]) (-1)=some v:=by
 have hl:(xs++[v]).length=xs.length+1:=by simp
 have e:K8 (xs++[v]).length (-1)=some xs.length:=by
  unfold K8
  rw [hl,if_neg (by decide),if_pos (by omega)]
  congr 1
  omega
 unfold t5
 rw [e]
 show(xs++[v])[xs.length]? =some v
 simp
def UG (b:Expr):Prop:=∀o i,subscripted b false o i=operate [o,i] (getItem o i)
def Oa (X:Cx) (r:R2):Prop:=
 ∀(value slice:Expr) (pins:List (Addr × Obj)) (s:AM) (σ:St) (H:Hp) (x y:V) (v u:Value) (Q:VK),Inv X pins σ H s->RelV x v->RelV y u->r x y H Q->
  subscripted slice false v u=operate [v,u] (getItem v u)->wpAny (model X.prog X.w) X.A (subscriptTail value slice v u) (EP X pins σ Q) X.xe s
def MtR (X:Cx) (id:String) (r:V->List V->Hp->VK->Prop):Prop:=
 ∀(pins:List (Addr × Obj)) (s:AM) (σ:St) (H:Hp) (x:V) (xs:List V) (v:Value) (us:List Value) (Q:VK),Inv X pins σ H s->RelV x v->Vals xs us->r x xs H Q->
  wpAny (model X.prog X.w) X.A (call (.builtin id) (v::us)) (EP X pins σ Q) X.xe s
section
variable {a b:Expr} {ta tb:TE}
theorem Oa.or {r r':R2} (h:Oa X r) (h':Oa X r'):Oa X (fun x y H Q=>r x y H Q\/r' x y H Q):=by
 intro value slice pins s σ H x y v u Q I rx ry q hs
 rcases q with q|q
 . exact h value slice pins s σ H x y v u Q I rx ry q hs
 . exact h' value slice pins s σ H x y v u Q I rx ry q hs
theorem bG {r:R2} (hr:Oa X r) (ha:PE X a ta) (hb:PE X b tb) (hs:UG b):PE X (.Subscript a b pos) (tOp r ta tb):=by
 intro pins s σ H Q I h
 exact Subscript_ (WN ha hb I h fun v u s2 x y H2 I2 rx ry q=>hr a b pins s2 σ H2 x y v u Q I2 rx ry q (hs _ _))
def W8 (K:At):R2:=fun x y H Q=>∃p xs i v,x=.ref p/\y=.int i/\gD K H p xs/\t5 xs i=some v/\Q v H
def acp (K:At):R2:=fun x y H Q=>∃p xs i v,x=.ref p/\y=.int i/\zZ K H p xs/\t5 xs i=some v/\Q v H
def Xy:R2:=fun x y H Q=>∃z i c,x=.str z/\y=.int i/\z.length<=EM/\t5 z.cps.toList i=some c/\Q (.str ⟨#[c]⟩) H
theorem K4:Oa X (W8 X.K):=by
 intro value slice pins s σ H x y v u Q I rx ry h hs
 obtain⟨p,xs,i,z,rfl,rfl,hq,he,q⟩:=h
 cases rx
 obtain⟨t,rfl⟩:=ry
 obtain⟨aZ,r,pl,hz⟩:=I.list hq
 obtain⟨j,h1,h2,h3,h4,h5⟩:=Ex he
 obtain⟨w,ew,Gb⟩:=r.get h2
 have hl:=r.length
 have hn:=yB
 have fin:EP X pins σ Q w s:=⟨z,H,I,Gb,q⟩
 by_cases h0:0<=i
 . have hj:i.toNat=j:=by
    rw [seqIndex_of h0 h5] at h1
    exact Do h1
   exact item_listR pl.isList h0 (by omega) (by rw [hj];simpa using ew) fin hs
 . have hj:(i+(aZ.toArray.size:Int)).toNat=j:=by
    rw [seqIndex_neg (by omega) h4] at h1
    rw [Cn,<-hl]
    exact Do h1
   exact subscriptTail_builtinR (x:=w) pl.isList.typeIs slot_list_getitem.lookup
    (wpAny_getItem_list_neg (Q:=fun r s'=>r=w/\EP X pins σ Q r s') pl.isList (by omega) (by rw [Cn] <;>omega) (by omega) (by rw [hj];simpa using ew) ⟨rfl,fin⟩) hs
theorem Xt:Oa X (acp X.K):=by
 intro value slice pins s σ H x y v u Q I rx ry h hs
 obtain⟨p,xs,i,z,rfl,rfl,hq,he,q⟩:=h
 cases rx
 obtain⟨t,rfl⟩:=ry
 obtain⟨aZ,r,pl,hz⟩:=I.tuple hq
 obtain⟨j,h1,h2,h3,h4,h5⟩:=Ex he
 obtain⟨w,ew,Gb⟩:=r.get h2
 have hl:=r.length
 have hn:=yB
 have fin:EP X pins σ Q w s:=⟨z,H,I,Gb,q⟩
 exact subscriptTail_builtinR (x:=w) pl.typeIs slot_tuple_getitem.lookup
  (getItem_tuple (j:=j) (Q:=fun r s'=>r=w/\EP X pins σ Q r s') pl (by omega) (by omega) (by rw [Cn,<-hl];exact h1) (by simpa using ew) ⟨rfl,fin⟩) hs
theorem aaf:Oa X Xy:=by
 intro value slice pins s σ H x y v u Q I rx ry h hs
 obtain⟨z,i,c,rfl,rfl,hz,he,q⟩:=h
 obtain⟨t,rfl⟩:=rx
 obtain⟨t',rfl⟩:=ry
 obtain⟨j,h1,h2,h3,h4,h5⟩:=Ex he
 have hl:z.cps.toList.length=z.length:=by simp [Str.length]
 rw [hl] at h1 h4 h5
 have hn:=yB
 exact tail_any (typeIs_str s z t) slot_str_getitem.lookup (getItem_str (c:=c) (by
  have e1:decide (i< -(2^63:Int))=false:=decide_eq_false (by omega)
  have e2:decide (i≥2^63)=false:=decide_eq_false (by omega)
  rw [e1,e2,Bool.or_false]) (by rw [h1];simpa using h2) ⟨.str ⟨#[c]⟩,H,I.tok _,⟨_,rfl⟩,q⟩) hs
def rIx (K:At):R2:=fun x y H Q=>W8 K x y H Q\/acp K x y H Q\/Xy x y H Q
theorem Ye:Oa X (rIx X.K):=K4.or (Xt.or aaf)
theorem qg:iL X (.builtin "len") (fun xs H Q=>∃p ys,xs=[.ref p]/\(gD X.K H p ys\/zZ X.K H p ys)/\Q (.int ys.length) H):=by
 intro pins s σ H xs us Q I r h
 obtain⟨p,ys,rfl,hq,q⟩:=h
 obtain⟨u,rfl,rx⟩:=vals1 r
 cases rx
 have hn:=yB
 rcases hq with hq|hq
 . obtain⟨aZ,r',pl,hz⟩:=I.list hq
   have hlen:=r'.length
   exact Calls.call_len_list pl.isList (by simp only [Cn] <;>omega) ⟨.int ys.length,H,I.tok _,⟨s.toks+1,by rw [Cn,hlen]⟩,q⟩
 . obtain⟨aZ,r',pl,hz⟩:=I.tuple hq
   have hlen:=r'.length
   exact len_tuple pl (by simp only [Cn] <;>omega) ⟨.int ys.length,H,I.tok _,⟨s.toks+1,by rw [Cn,hlen]⟩,q⟩
theorem ER:iL X (.builtin "len") (fun xs H Q=>∃z,xs=[.str z]/\z.length<=EM/\Q (.int z.length) H):=by
 intro pins s σ H xs us Q I r h
 obtain⟨z,rfl,hz,q⟩:=h
 obtain⟨u,rfl,t,rfl⟩:=vals1 r
 have hn:=yB
 exact len_str (by omega) ⟨.int z.length,H,I.tok _,⟨_,rfl⟩,q⟩
theorem FU:iL X (.type "list") (fun xs H Q=>∃p ys,xs=[.ref p]/\(gD X.K H p ys\/zZ X.K H p ys)/\∀l,H l=none->Q (.ref l) (upd H l (.lst ys))):=by
 intro pins s σ H xs us Q I r h
 obtain⟨p,ys,rfl,hq,q⟩:=h
 obtain⟨u,rfl,rx⟩:=vals1 r
 cases rx
 have fin:∀(aZ:List Value),Vals ys aZ->ys.length<=EM->∀(h':Heap) (c':Nat),(∀b o',s.heap.get? b=some o'->h'.get? b=some o')->
  h'.get? s.heap.objs.size=some {cls:=.type "list",dict:=none,data:=.seq aZ.toArray c',slots:=#[]}->EP X pins σ Q (.ref s.heap.objs.size) {s with heap:=h'}:=fun aZ r' hz h' c' kp e=>
  ⟨.ref s.heap.objs.size,_,I.laid (t':=s.toks) kp (BN _) (show c6 X.prog X.w _ h' _ (.lst ys) from⟨hz,aZ,c',r',e⟩),rfl,q _ (I.bb.fresh (BN _))⟩
 rcases hq with hq|hq
 . obtain⟨aZ,r',pl,hz⟩:=I.list hq
   have hlen:=r'.length
   obtain⟨o,ho,hc,n,hd⟩:=pl.isList
   exact call_list_seq p (.inl rfl) ho hc hd (fun h' c' kp e=>fin aZ r' hz h' c' kp e) (by simp only [Cn] <;>omega)
 . obtain⟨aZ,r',pl,hz⟩:=I.tuple hq
   have hlen:=r'.length
   obtain⟨o,ho,hc,n,hd⟩:=pl
   exact call_list_seq p (.inr rfl) ho hc hd (fun h' c' kp e=>fin aZ r' hz h' c' kp e) (by simp only [Cn] <;>omega)
def TQ (K:At) (T:String) (x:V) (H:Hp):Prop:=match x with
 | .str _=>T="str"
 | .int _=>T="int"
 | .ref p=>(T="list"/\∃xs,gD K H p xs)\/(T="tuple"/\∃o,K.lookup p=some o/\o.cls=.type "tuple"/\o.dict=none)\/
  (T="dict"/\((∃kvs,H p=some (.dK kvs))\/∃kvs,H p=some (.dT kvs)))\/(T="set"/\∃S n,H p=some (.set S n))
 |_=>False
theorem Er {T:String} {x:V} {v:Value} (I:Inv X pins σ H s) (r:RelV x v) (ty:TQ X.K T x H):
 s.TypeIs v T/\∀a,v=.ref a->∃ob,s.heap.get? a=some ob/\ob.dict=none:=by
 cases x with
 |str z=>
  obtain⟨t,rfl⟩:=r
  cases (show T="str" from ty)
  exact⟨typeIs_str s z t,fun _ e=>nomatch e⟩
 |int i=>
  obtain⟨t,rfl⟩:=r
  cases (show T="int" from ty)
  exact⟨typeIs_int s i t,fun _ e=>nomatch e⟩
 |ref p=>
  cases r
  rcases ty with⟨rfl,xs,hq⟩|⟨rfl,o,hk,hc,hd⟩|⟨rfl,hk⟩|⟨rfl,S,n,hk⟩
  . obtain⟨aZ,_,pl,_⟩:=I.list hq
    refine⟨pl.isList.typeIs,fun a e=>?_⟩
    cases e
    obtain⟨o,n,e,c,hd,_⟩:=pl
    exact⟨o,e,hd⟩
  . refine⟨⟨o,I.vS p o hk,hc⟩,fun a e=>?_⟩
    cases e
    exact⟨o,I.vS _ o hk,hd⟩
  . have z:∃o,s.heap.get? p=some o/\o.ExactDict:=by
     rcases hk with⟨kvs,hk⟩|⟨kvs,hk⟩
     . obtain⟨_,_,_,_,o,_,_,e,ex,_⟩:=I.bb p _ hk
       exact⟨o,e,ex⟩
     . obtain⟨_,_,_,_,o,_,_,e,ex,_⟩:=I.bb p _ hk
       exact⟨o,e,ex⟩
    obtain⟨o,e,ex⟩:=z
    refine⟨⟨o,e,ex.1⟩,fun a e2=>?_⟩
    cases e2
    exact⟨o,e,ex.2.1⟩
  . obtain⟨o,_,_,_,e,ex,_⟩:=I.bb p _ hk
    refine⟨⟨o,e,ex.1⟩,fun a e2=>?_⟩
    cases e2
    exact⟨o,e,ex.2.1⟩
 |_=>exact RI ty
def ade (K:At) (T:String) (r:V->List V->Hp->VK->Prop) (to:TE):TE:=fun σ H Q=>to σ H fun x H1=>TQ K T x H1/\r x [] H1 Q
def tBM (K:At) (T:String) (r:V->List V->Hp->VK->Prop) (to:TE) (t:TA):TE:=fun σ H Q=>to σ H fun x H1=>TQ K T x H1/\t σ H1 fun xs H2=>r x xs H2 Q
variable {o e:Expr} {es:List Expr} {to:TE} {t:TA} {name:Str} {apos jw:Pos} {T id:String} {r:V->List V->Hp->VK->Prop}
theorem P2 (pa:PlainAttrs T) (slot:Slot T name id) (hty:typeOf (.builtin id)=pure (.type "method_descriptor")) (hm:MtR X id r) (ho:PE X o to) (BO:WE o name X.env (eval o X.env)=eval o X.env:=by rfl) (hline:(apos.endLine==jw.line)=true:=by rfl):PE X (.Call (.Attribute o name apos) [] [] jw) (ade X.K T r to):=by
 intro pins s σ H Q I h
 refine Aax BO hline (dC (ho pins s σ H _ I h) fun v s1 ⟨x,H1,I1,r1,ty,q1⟩=>?_)
 obtain⟨h1,h2⟩:=Er I1 r1 ty
 exact⟨T,id,pa,slot,hty,h1,h2,TD rfl (Abo (hm pins s1 σ H1 x [] v [] Q I1 r1 .nil q1))⟩
theorem iy (pa:PlainAttrs T) (slot:Slot T name id) (hty:typeOf (.builtin id)=pure (.type "method_descriptor")) (hm:MtR X id r) (ho:PE X o to) (ha:PA X (e::es) t) (BO:WE o name X.env (eval o X.env)=eval o X.env:=by rfl) (afT:((SS jw (DO (e::es) X.env)).all (fun x=>!x.1)&&(Aao jw (SI [] X.env)).all (fun x=>x.1.isSome)
  &&decide ((e::es).length+([]:List Keyword).length+(if ([]:List Keyword).isEmpty then 0 else 1)<30))=true:=by rfl) (hline:(apos.endLine==jw.line)=true:=by rfl) (hs:DO (e::es) X.env=(false,eval e X.env)::DO es X.env:=by rfl) (ZI:(SS jw (DO es X.env)).any (·.1)=false:=by rfl):
 PE X (.Call (.Attribute o name apos) (e::es) [] jw) (tBM X.K T r to t):=by
 intro pins s σ H Q I h
 refine wpAny_Call_method_late BO afT hline rfl (dC (ho pins s σ H _ I h) fun v s1 ⟨x,H1,I1,r1,ty,q1⟩=>?_)
 obtain⟨h1,h2⟩:=Er I1 r1 ty
 refine⟨T,id,pa,slot,hty,h1,h2,?_⟩
 have hA:=ha jw pins s1 σ H1 _ I1 q1
 rw [hs] at hA ⊢
 refine TD (by show(false||(SS jw (DO es X.env)).any (·.1))=false;rw [ZI] <;>rfl) (Calls.evalArgs_plain ?_)
 exact dC hA fun us s2 ⟨vs,H2,I2,r2,q2⟩=>hm pins s2 σ H2 x vs v us Q I2 r1 r2 q2
end
def MtM (X:Cx) (id:String) (r:V->List V->Hp->VK->Prop):Prop:=
 ∀(pins:List (Addr × Obj)) (s:AM) (σ:St) (H:Hp) (x:V) (xs:List V) (v:Value) (us:List Value) (Q:VK),Inv X pins σ H s->RelV x v->Vals xs us->r x xs H Q->
  wpAny (model X.prog X.w) X.A (call (.builtin id) (v::us)) (EP X pins σ Q) X.xe s
theorem Vals.one:∀{x:V} {us:List Value},Vals [x] us->∃u,us=[u]/\RelV x u
 |_,_,.cons r .nil=>⟨_,rfl,r⟩
theorem Vals.zero:∀{us:List Value},Vals [] us->us=[]
 |_,.nil=>rfl
theorem Vals.dropLast {xs:List V} {us:List Value} (h:Vals xs us):Vals xs.dropLast us.dropLast:=by
 induction h with
 |nil=>exact .nil
 |cons r t ih=>
  cases t with
  |nil=>exact .nil
  |cons q t'=>exact .cons r ih
theorem Vals.eraseIdx:∀{xs:List V} {us:List Value} (i:Nat),Vals xs us->Vals (xs.eraseIdx i) (us.eraseIdx i)
 |_,_,_,.nil=>.nil
 |_,_,0,.cons _ t=>t
 |_,_,i+1,.cons r t=>.cons r (Vals.eraseIdx i t)
theorem IG (l:List α):l.eraseIdx (l.length - 1)=l.dropLast:=by
 induction l with
 |nil=>rfl
 |cons a r ih=>
  cases r with
  |nil=>rfl
  |cons b r=>
   have e:(a::b::r).length - 1=((b::r).length - 1)+1:=by
    have h1:(a::b::r).length=r.length+2:=rfl
    have h2:(b::r).length=r.length+1:=rfl
    omega
   rw [e,Aay,ih]
   all_goals rfl
theorem DC {α:Type}:∀(l:List α) (i:Nat),(l.eraseIdx i).length<=l.length
 |[],_=>BN _
 |_::_,0=>Zs _
 |_::r,i+1=>Nat.succ_le_succ (DC r i)
section
variable {l b:Addr} {xs ys zs:List V}
theorem Inv.QS {aZ its':List Value} {f:Array Value->Array Value} (I:Inv X pins σ H s) (hH:H l=some (.lst xs)) (e:s.heap.get? l=some {cls:=.type "list",data:=.seq aZ.toArray n}) (hf:f aZ.toArray=its'.toArray) (hv:Vals ys its') (hz:ys.length<=EM):
 Inv X pins σ (upd H l (.lst ys)) {s with heap:=s.heap.update l (LH f),toks:=t'}:=by
 have q:=PySem.IsL.update e f
 rw [hf] at q
 refine I.write (x:=l) (e:=l) (by rw [hH];exact trivial) (.inl rfl) (fun b' u hb hu=>(WS s.heap (LH f) (Me hb)).trans hu) ⟨_,q⟩ ?_
 exact⟨hz,its',_,hv,q⟩
theorem Inv.agv {aZ:List Value} (I:Inv X pins σ H s) (hv:Vals ys aZ) (hz:ys.length<=EM):
 Inv X pins σ (upd H s.heap.objs.size (.lst ys)) {s with heap:=s.heap.push {cls:=.type "list",data:=.seq aZ.toArray},toks:=t'}:=
 I.laid (fun _ _ q=>BY _ q) (BN _) ⟨hz,aZ,0,hv,Ev _ rfl⟩
theorem Inv.fresh (I:Inv X pins σ H s):H s.heap.objs.size=none:=I.bb.fresh (BN _)
theorem Inv.GC (I:Inv X pins σ H s) (hH:H l=some (.lst xs)):xs.length<=EM/\∃(aZ:List Value) (n:Nat),Vals xs aZ/\xs.length=aZ.length/\s.heap.get? l=some {cls:=.type "list",data:=.seq aZ.toArray n}:=by
 obtain⟨z,aZ,n,r,e⟩:=I.bb l _ hH
 exact⟨z,aZ,n,r,r.length,e⟩
theorem QA (h:n<=EM):Aau n=false:=by
 unfold Aau
 exact decide_eq_false (by omega)
end
section
def EV:V->List V->Hp->VK->Prop:=fun x vs H Q=>∃l xs y,x=.ref l/\vs=[y]/\H l=some (.lst xs)/\xs.length<EM/\Q .aQ (upd H l (.lst (xs++[y])))
theorem lj:MtM X "list.append" EV:=by
 intro pins s σ H x vs v us Q I rx rv h
 obtain⟨l,xs,y,rfl,rfl,hH,hz,q⟩:=h
 cases rx
 obtain⟨u,rfl,ru⟩:=rv.one
 obtain⟨z,aZ,n,r,hl,e⟩:=I.GC hH
 refine Ab2 F.slot_list_append ⟨_,e,rfl⟩ F.entry_list_append (F.args_list_append_2 _ _) (PySem.list_append l aZ.toArray n u (by rw [Cn];omega)) ⟨e,?_⟩
 refine⟨.aQ,_,I.QS (its':=aZ++[u]) hH e (by simp) (r.append (.cons ru .nil)) ?_,rfl,q⟩
 rw [Da,AaY]
 omega
def Kk:V->List V->Hp->VK->Prop:=fun x vs H Q=>∃l b xs zs,x=.ref l/\vs=[.ref b]/\H l=some (.lst xs)/\H b=some (.lst zs)/\xs.length+zs.length<=EM/\Q .aQ (upd H l (.lst (xs++zs)))
theorem oM:MtM X "list.extend" Kk:=by
 intro pins s σ H x vs v us Q I rx rv h
 obtain⟨l,b,xs,zs,rfl,rfl,hH,hB,hz,q⟩:=h
 cases rx
 obtain⟨u,rfl,ru⟩:=rv.one
 cases ru
 obtain⟨z,aZ,n,r,hl,e⟩:=I.GC hH
 obtain⟨z2,HE,n2,r2,Kp,e2⟩:=I.GC hB
 have hsz:aZ.toArray.size+HE.toArray.size<=EM:=by rw [Cn,Cn];omega
 have adl:¬(!aZ.toArray.isEmpty&&Aau (aZ.toArray.size+HE.toArray.size))=true:=by
  rw [QA hsz,Bool.and_false]
  exact FM
 refine Ab2 F.slot_list_extend ⟨_,e,rfl⟩ F.entry_list_extend (F.args_list_extend_2 _ _)
  (AutoSeq1.list_extend_list_list_0 l aZ.toArray n b HE.toArray n2 adl (by rw [Cn];omega) (by omega)) ⟨e,e2,?_⟩
 refine⟨.aQ,_,I.QS (its':=aZ++HE) hH e (by simp) (r.append r2) ?_,rfl,q⟩
 rw [Da]
 omega
def aa1:V->List V->Hp->VK->Prop:=fun x vs H Q=>∃l xs y,x=.ref l/\vs=[]/\H l=some (.lst xs)/\xs[xs.length - 1]? =some y/\Q y (upd H l (.lst xs.dropLast))
theorem XH:MtM X "list.pop" aa1:=by
 intro pins s σ H x vs v us Q I rx rv h
 obtain⟨l,xs,y,rfl,rfl,hH,hy,q⟩:=h
 cases rx
 have EX:=rv.zero
 subst EX
 obtain⟨z,aZ,n,r,hl,e⟩:=I.GC hH
 obtain⟨u,hu,ru⟩:=r.get hy
 have LI:aZ.toArray[aZ.toArray.size - 1]? =some u:=by
  show aZ.toArray[aZ.length - 1]? =some u
  rw [<-Array.getElem?_toList,<-hl]
  exact hu
 refine Ab2 F.slot_list_pop ⟨_,e,rfl⟩ F.entry_list_pop (F.args_list_pop_1 _) (MeetsSeq.list_pop_last l aZ.toArray n u LI (by rw [Cn];omega)) ⟨e,?_⟩
 refine⟨y,_,I.QS (its':=aZ.dropLast) hH e ?_ r.dropLast ?_,ru,q⟩
 . show aZ.toArray.eraseIdxIfInBounds (aZ.toArray.size - 1)=aZ.dropLast.toArray
   rw [Cn,AaO,IG]
 . rw [List.length_dropLast]
   omega
def Rr:V->List V->Hp->VK->Prop:=fun x vs H Q=>∃l xs i k y,x=.ref l/\vs=[.int i]/\H l=some (.lst xs)/\-(2^63)<=i/\i<2^63/\seqIndex? i xs.length=some k/\xs[k]? =some y/\Q y (upd H l (.lst (xs.eraseIdx k)))
theorem Oy:MtM X "list.pop" Rr:=by
 intro pins s σ H x vs v us Q I rx rv h
 obtain⟨l,xs,i,k,y,rfl,rfl,hH,h1,h2,hk,hy,q⟩:=h
 cases rx
 obtain⟨u,rfl,ru⟩:=rv.one
 obtain⟨t,rfl⟩:=ru
 obtain⟨z,aZ,n,r,hl,e⟩:=I.GC hH
 obtain⟨w,hw,Gb⟩:=r.get hy
 refine Ab2 F.slot_list_pop ⟨_,e,rfl⟩ F.entry_list_pop (F.args_list_pop_2 _ _)
  (MeetsSeq.list_pop_at l aZ.toArray n i t k w (fitsIndex_both h1 h2) (by rw [Cn,<-hl];exact hk) (by rw [<-Array.getElem?_toList];exact hw) (by rw [Cn];omega)) ⟨e,?_⟩
 refine⟨y,_,I.QS (its':=aZ.eraseIdx k) hH e ?_ (r.eraseIdx k) ?_,Gb,q⟩
 . show aZ.toArray.eraseIdxIfInBounds k=(aZ.eraseIdx k).toArray
   rw [AaO]
 . have:=DC xs k
   omega
def abN:R2:=fun x y H Q=>∃l b xs zs,x=.ref l/\y=.ref b/\H l=some (.lst xs)/\H b=some (.lst zs)/\xs.length+zs.length<=EM/\∀p,H p=none->Q (.ref p) (upd H p (.lst (xs++zs)))
theorem JO:rm X (YE .Add) abN:=by
 intro pins s σ H x y v u Q I rx ry h
 obtain⟨l,b,xs,zs,rfl,rfl,hH,hB,hz,q⟩:=h
 cases rx
 cases ry
 obtain⟨z,aZ,n,r,hl,e⟩:=I.GC hH
 obtain⟨z2,HE,n2,r2,Kp,e2⟩:=I.GC hB
 refine PySem.P.add_list e e2 ?_ (by rw [Cn,Cn];omega)
 have ea:aZ.toArray++HE.toArray=(aZ++HE).toArray:=by simp
 rw [ea]
 exact⟨.ref _,_,I.agv (t':=s.toks) (r.append r2) (by rw [Da];omega),rfl,q _ I.fresh⟩
end
section
variable {prog:Fk}
set_option maxRecDepth 100000 in
end
section
variable {κ:Type} [DecidableEq κ]
def kU (kvs:List (κ × V)) (k:κ):Option V:=(kvs.find? fun kv=>decide (kv.1=k)).map (·.2)
def putK (kvs:List (κ × V)) (k:κ) (v:V):List (κ × V):=
 if (kvs.any fun kv=>decide (kv.1=k))=true then kvs.map (fun kv=>if kv.1=k then (kv.1,v) else kv) else kvs++[(k,v)]
def lT (kvs:List (κ × V)) (k:κ):List (κ × V):=kvs.filter fun kv=>decide (kv.1≠k)
theorem oR {p:κ × V} {r:List (κ × V)} {k:κ} (e:p.1=k):kU (p::r) k=some p.2:=by simp [kU,Sc,e]
theorem lS {p:κ × V} {r:List (κ × V)} {k:κ} (e:¬p.1=k):kU (p::r) k=kU r k:=by simp [kU,Sc,e]
theorem BW (k:κ):∀kvs:List (κ × V),(kvs.any fun kv=>decide (kv.1=k))=(kU kvs k).isSome
 |[]=>rfl
 |p::r=>by
  rw [Abd]
  by_cases e:p.1=k
  . simp only [oR e,decide_eq_true e,Bool.true_or,Option.isSome_some]
  . rw [lS e,decide_eq_false e,Bool.false_or];exact BW k r
theorem y8 (kvs:List (κ × V)) (k:κ) (v:V):(putK kvs k v).length<=kvs.length+1:=by
 unfold putK
 split
 . rw [AE];omega
 . rw [Da,FF,Aaz];omega
theorem pQ.oP {u:Option Value} (r:pQ o u):o.isSome=u.isSome:=by
 cases o with
 |none=>cases u with
  |none=>rfl
  |some _=>exact(show False from r).elim
 |some _=>cases u with
  |none=>exact(show False from r).elim
  |some _=>rfl
theorem pQ.getD {u:Option Value} {d:V} {d':Value} (r:pQ o u) (rd:RelV d d'):RelV (o.getD d) (u.getD d'):=by
 cases o with
 |none=>cases u with
  |none=>exact rd
  |some _=>exact(show False from r).elim
 |some _=>cases u with
  |none=>exact(show False from r).elim
  |some _=>exact r
theorem KV.val {kvs:List (κ × V)} {vs:List (κ × Value)} (r:KV kvs vs) (k:κ):pQ (kU kvs k) (Ab5 vs k):=by
 unfold KV at r
 induction r with
 |nil=>exact US
 |@cons p q ps qs h t ih=>
  obtain⟨h1,h2⟩:=h
  by_cases e:p.1=k
  . have e':q.1=k:=h1.symm.trans e
    have b:Ab5 (q::qs) k=some q.2:=by simp [Ab5,Sc,e']
    rw [oR e,b];exact h2
  . have e':¬q.1=k:=fun z=>e (h1.trans z)
    have b:Ab5 (q::qs) k=Ab5 qs k:=by simp [Ab5,Sc,e']
    rw [lS e,b];exact ih
theorem KV.any {kvs:List (κ × V)} {vs:List (κ × Value)} (r:KV kvs vs) (k:κ):(kvs.any fun kv=>decide (kv.1=k))=vs.any fun kv=>decide (kv.1=k):=by
 unfold KV at r
 induction r with
 |nil=>rfl
 |cons h t ih=>rw [Abd,Abd,ih,h.1]
theorem KV.repl {kvs:List (κ × V)} {vs:List (κ × Value)} (r:KV kvs vs) (k:κ) (ry:RelV y u):
 KV (kvs.map fun kv=>if kv.1=k then (kv.1,y) else kv) (vs.map fun kv=>if kv.1=k then (kv.1,u) else kv):=by
 unfold KV at r ⊢
 induction r with
 |nil=>exact .nil
 |@cons p q ps qs h t ih=>
  rw [EN,EN]
  refine .cons ?_ ih
  obtain⟨h1,h2⟩:=h
  by_cases e:p.1=k
  . rw [if_pos e,if_pos (h1.symm.trans e)];exact⟨h1,ry⟩
  . rw [if_neg e,if_neg (fun z=>e (h1.trans z))];exact⟨h1,h2⟩
theorem KV.put {kvs:List (κ × V)} {vs:List (κ × Value)} (r:KV kvs vs) (k:κ) (ry:RelV y u):KV (putK kvs k y) (stored vs k u):=by
 unfold putK stored
 rw [r.any k]
 by_cases e:(vs.any fun kv=>decide (kv.1=k))=true
 . rw [if_pos e,if_pos e];exact r.repl k ry
 . rw [if_neg e,if_neg e];exact AbT.snoc r ⟨rfl,ry⟩
theorem KV.drop {kvs:List (κ × V)} {vs:List (κ × Value)} (r:KV kvs vs) (k:κ):KV (lT kvs k) (without vs k):=by
 unfold KV at r ⊢
 unfold lT without
 induction r with
 |nil=>exact .nil
 |@cons p q ps qs h t ih=>
  obtain⟨h1,h2⟩:=h
  rw [Op,Op]
  by_cases e:p.1=k
  . have a:¬decide (p.1≠k)=true:=by simp [e]
    have b:¬decide (q.1≠k)=true:=by simp [h1.symm.trans e]
    rw [if_neg a,if_neg b];exact ih
  . have e':¬q.1=k:=fun z=>e (h1.trans z)
    have a:decide (p.1≠k)=true:=by simp [e]
    have b:decide (q.1≠k)=true:=by simp [e']
    rw [if_pos a,if_pos b];exact .cons ⟨h1,h2⟩ ih
theorem KV.length {kvs:List (κ × V)} {vs:List (κ × Value)} (r:KV kvs vs):kvs.length=vs.length:=AbP r
theorem PL (kvs:List (κ × V)) (k:κ):(lT kvs k).length<=kvs.length:=JJ _ _
end
theorem Cp {k:Key} (r:RelV (kV k) u):(bf P w).is k u=true:=by
 cases k with
 |inl i=>obtain⟨t,e⟩:=(show ∃t,u=AbD i t from r);subst e;exact Gp P w i t
 |inr x=>obtain⟨t,e⟩:=(show ∃t,u=AbU x t from r);subst e;exact HL P w x t
theorem Eg {P:Fk} {w:World}:∀{ks:List Key} {us:List Value},Vals (ks.map kV) us->ItemsAre (bf P w) ks us
 |[],_,r=>by rw [AaZ] at r;cases r;exact .nil
 |k::ks,_,r=>by
  rw [EN] at r
  cases r with
  |cons h t=>exact .cons (Cp h) (Eg t)
abbrev KT (H:Hp):List (List Key × V)->List (List Key × Addr × Value)->Prop:=AbT fun p q=>p.1=q.1/\H q.2.1=some (.tup (p.1.map kV))/\RelV p.2 q.2.2
theorem KT.val (r:KT H kvs xs) (k:List Key):pQ (kU kvs k) ((atKey xs k).map (·.2)):=by
 induction r with
 |nil=>exact US
 |@cons p q ps qs h t ih=>
  obtain⟨h1,_,h2⟩:=h
  by_cases e:p.1=k
  . have e':q.1=k:=h1.symm.trans e
    have b:atKey (q::qs) k=some q.2:=by simp [atKey,Sc,e']
    rw [oR e,b];exact h2
  . have e':¬q.1=k:=fun z=>e (h1.trans z)
    have b:atKey (q::qs) k=atKey qs k:=by simp [atKey,Sc,e']
    rw [lS e,b];exact ih
theorem KT.repl (r:KT H kvs xs) (k:List Key) (ry:RelV y u):
 KT H (kvs.map fun kv=>if kv.1=k then (kv.1,y) else kv) (xs.map (putAt k u)):=by
 induction r with
 |nil=>exact .nil
 |@cons p q ps qs h t ih=>
  rw [EN,EN]
  refine .cons ?_ ih
  obtain⟨h1,h2,h3⟩:=h
  unfold putAt
  by_cases e:p.1=k
  . rw [if_pos e,if_pos (h1.symm.trans e)];exact⟨h1,h2,ry⟩
  . rw [if_neg e,if_neg (fun z=>e (h1.trans z))];exact⟨h1,h2,h3⟩
theorem KT.put (r:KT H kvs xs) (k:List Key) {b:Addr} (hb:H b=some (.tup (k.map kV))) (ry:RelV y u):
 KT H (putK kvs k y) (storedH xs k b u):=by
 have e:(kvs.any fun kv=>decide (kv.1=k))=(atKey xs k).isSome:=by
  rw [BW,(r.val k).oP,AbJ]
 unfold putK storedH
 rw [e]
 by_cases q:(atKey xs k).isSome=true
 . rw [if_pos q,if_pos q];exact r.repl k ry
 . rw [if_neg q,if_neg q];exact AbT.snoc r ⟨rfl,hb,ry⟩
theorem KT.keeps {H':Hp} (r:KT H kvs xs) (ht:∀b ys,H b=some (.tup ys)->H' b=some (.tup ys)):KT H' kvs xs:=
 AbT.aaj r fun _ _ z=>⟨z.1,ht _ _ z.2.1,z.2.2⟩
section
variable {h:Heap}
theorem Wi {u:HO} (ok:rh P w H h) (e:Rd H a u):c6 P w H h a u:=e.ok ok
theorem B2 {kvs:List (Key × V)} (ok:rh P w H h) (e:Rd H a (.dK kvs)):kvs.length<=EM/\(a==Th)=false/\∃vs,KV kvs vs/\h.DictOf (bf P w) a vs:=
 show c6 P w H h a (.dK kvs) from Wi ok e
theorem VU {kvs:List (Key × V)} (ok:rh P w H h) (e:H a=some (.dK kvs)):kvs.length<=EM/\(a==Th)=false/\∃vs,KV kvs vs/\h.DictOf (bf P w) a vs:=B2 ok (.inl e)
theorem x6 {ks:List Key} (ok:rh P w H h) (e:H a=some (.tup (ks.map kV))):(AbV (bf P w)).is h ks a:=by
 obtain⟨_,aZ,r,o,h1,h2,n,h3⟩:=(show c6 P w H h a (.tup (ks.map kV)) from ok a _ e)
 exact⟨o,aZ.toArray,n,h1,h2,h3,by simpa using Eg r⟩
theorem BA (ok:rh P w H h) (e:Rd H a (.dT kvs)):kvs.length<=EM/\(a==Th)=false/\
 ∃xs,KT H kvs xs/\h.DictOfH (AbV (bf P w)) a xs:=by
 obtain⟨z,y,xs,r,o,es,ep,h1,h2,h3,h4,h5⟩:=(show c6 P w H h a (.dT kvs) from Wi ok e)
 refine⟨z,y,xs,r,o,es,ep,h1,h2,h3,h4,fun x hx=>?_,h5⟩
 have all:∀{l:List (List Key × V)} {m:List (List Key × Addr × Value)},KT H l m->∀x∈m,(AbV (bf P w)).is h x.1 x.2.1:=by
  intro l m q
  induction q with
  |nil=>intro x hx;exact nomatch hx
  |@cons p q ps qs hq t ih=>
   intro x hx
   rcases AD.mp hx with e|hx
   . subst e
     exact x6 ok (by rw [<-hq.1];exact hq.2.1)
   . exact ih x hx
 exact all r x hx
theorem adu (ok:rh P w H h) (e:H a=some (.dT kvs)):kvs.length<=EM/\(a==Th)=false/\
 ∃xs,KT H kvs xs/\h.DictOfH (AbV (bf P w)) a xs:=BA ok (.inl e)
end
def ie (H:Hp) (a:Addr) (y:V) (r:Option V):Prop:=
 (∃kvs k,Rd H a (.dK kvs)/\y=kV k/\r=kU kvs k)\/∃kvs k b,Rd H a (.dT kvs)/\y=.ref b/\H b=some (.tup (k.map kV))/\r=kU kvs k
def CL (H:Hp) (a:Addr) (y v:V) (H':Hp):Prop:=
 (∃kvs k,H a=some (.dK kvs)/\y=kV k/\kvs.length<EM/\H'=upd H a (.dK (putK kvs k v)))\/
 ∃kvs k b,H a=some (.dT kvs)/\y=.ref b/\H b=some (.tup (k.map kV))/\kvs.length<EM/\H'=upd H a (.dT (putK kvs k v))
theorem ie.k {kvs:List (Key × V)} {k:Key} (e:H a=some (.dK kvs)):ie H a (kV k) (kU kvs k):=.inl ⟨kvs,k,.inl e,rfl,rfl⟩
theorem CL.k {kvs:List (Key × V)} {k:Key} {v:V} (e:H a=some (.dK kvs)) (hl:kvs.length<EM):CL H a (kV k) v (upd H a (.dK (putK kvs k v))):=.inl ⟨kvs,k,e,rfl,hl,rfl⟩
section
variable {v:V} {r:Value}
theorem Inv.big (I:Inv X pins σ H s):Th<s.heap.objs.size:=by
 have h:FB<s.heap.objs.size:=(I.mod.glob.keeps I.bk).lt
 exact Nat.lt_trans (by decide) h
theorem MS (hu:A.units+1<cLine) (I:Inv X pins σ H s) (g:ie H a y (some v)) (ry:RelV y u) (h:∀w' s',Inv X pins σ H s'->RelV v w'->Q w' s'):
 wpAny (model X.prog X.w) A (getItem (.ref a) u) Q E s:=by
 rcases g with⟨kvs,k,e,ey,l⟩|⟨kvs,k,b,e,ey,eb,l⟩
 . subst ey
   obtain⟨z,hd,vs,rel,dd⟩:=B2 I.bb e
   obtain⟨w',hw,Gb⟩:=pQ.some_of (v:=v) (o:=Ab5 vs k) (by rw [l];exact rel.val k)
   exact wpAny_getItem_of (Cp ry) dd.mapOf hw (h w' _ (I.tok _) Gb)
 . subst ey
   cases (show u=LS b from ry)
   obtain⟨z,hd,xs,rel,dd⟩:=BA I.bb e
   obtain⟨w',hw,Gb⟩:=pQ.some_of (v:=v) (o:=(atKey xs k).map (·.2)) (by rw [l];exact rel.val k)
   obtain⟨p,hp,MH⟩:=NO.mp hw
   refine wpAny_getItem_heap (YI hu) (x6 I.bb eb) dd hp ?_
   rw [MH]
   exact h w' _ (I.tok _) Gb
theorem ag7 (hu:A.units+1<cLine) (I:Inv X pins σ H s) (g:ie H a y o) (ry:RelV y u) (h:∀s',Inv X pins σ H s'->Q (.bool o.isSome) s'):
 wpAny (model X.prog X.w) A (ON .In u (.ref a)) Q E s:=by
 rcases g with⟨kvs,k,e,ey,l⟩|⟨kvs,k,b,e,ey,eb,l⟩
 . subst ey
   obtain⟨z,hd,vs,rel,dd⟩:=B2 I.bb e
   refine wpAny_in_of (Cp ry) hd dd.mapOf ?_
   rw [<-(rel.val k).oP,<-l]
   exact h _ (I.tok _)
 . subst ey
   cases (show u=LS b from ry)
   obtain⟨z,hd,xs,rel,dd⟩:=BA I.bb e
   refine wpAny_in_heap (YI hu) (x6 I.bb eb) hd dd ?_
   have q:=(rel.val k).oP
   rw [AbJ] at q
   rw [<-q,<-l]
   exact h _ (I.tok _)
theorem UR (hu:A.units+1<cLine) (I:Inv X pins σ H s) (g:ie H a y o) (ry:RelV y u) (h:∀s',Inv X pins σ H s'->Q (.bool (!o.isSome)) s'):
 wpAny (model X.prog X.w) A (ON .NotIn u (.ref a)) Q E s:=by
 rcases g with⟨kvs,k,e,ey,l⟩|⟨kvs,k,b,e,ey,eb,l⟩
 . subst ey
   obtain⟨z,hd,vs,rel,dd⟩:=B2 I.bb e
   refine wpAny_notIn_of (Cp ry) hd dd.mapOf ?_
   rw [<-(rel.val k).oP,<-l]
   exact h _ (I.tok _)
 . subst ey
   cases (show u=LS b from ry)
   obtain⟨z,hd,xs,rel,dd⟩:=BA I.bb e
   refine wpAny_notIn_heap (YI hu) (x6 I.bb eb) hd dd ?_
   have q:=(rel.val k).oP
   rw [AbJ] at q
   rw [<-q,<-l]
   exact h _ (I.tok _)
theorem Em {h':Heap} {ob:HO} (I:Inv X pins σ H s) (mu:Mut (H a)) (hs:Abt a s.heap h') (he:∃q,h'.get? a=some q) (new:c6 X.prog X.w (upd H a ob) h' a ob):
 Inv X pins σ (upd H a ob) {s with heap:=h',toks:=t'}:=
 I.write (x:=a) (e:=a) mu (.inl rfl) (fun b q hb z=>(hs.2 b hb).trans z) he new
theorem Pt {H':Hp} {h':Heap} {kvs:List (Key × V)} {vs:List (Key × Value)} (z:kvs.length<=EM) (hd:(a==Th)=false) (rel:KV kvs vs) (dd:h'.DictOf (bf P w) a vs):
 c6 P w H' h' a (.dK kvs):=⟨z,hd,vs,rel,dd⟩
theorem N2 {H':Hp} {Q:Unit->AM->Prop} (hu:A.units+1<cLine) (I:Inv X pins σ H s) (g:CL H a y v H') (ry:RelV y u) (rv:RelV v r) (h:∀s',Inv X pins σ H' s'->Q () s'):
 wpAny (model X.prog X.w) A (setItem (.ref a) u r) Q E s:=by
 rcases g with⟨kvs,k,e,ey,l,eH⟩|⟨kvs,k,b,e,ey,eb,l,eH⟩
 . subst ey eH
   obtain⟨z,hd,vs,rel,dd⟩:=VU I.bb e
   have hz:vs.length<=EM:=by rw [<-rel.length];exact z
   have hl:(putK kvs k v).length<=EM:=by have:=y8 kvs k v;omega
   refine wpAny_setItem_pairs (hsz:=hz) (Cp ry) dd fun h' Xa hs=>h _ ?_
   have he:∃q,h'.get? a=some q:=let ⟨q,_,_,hq,_⟩:=Xa;⟨q,hq⟩
   exact Em I (by rw [e];exact US) hs he (Pt hl hd (rel.put k rv) Xa)
 . subst ey eH
   cases (show u=LS b from ry)
   obtain⟨z,hd,xs,rel,dd⟩:=adu I.bb e
   have hz:xs.length<=EM:=by rw [<-AbP rel];exact z
   have hl:(putK kvs k v).length<=EM:=by have:=y8 kvs k v;omega
   refine wpAny_setItem_heap (hsz:=hz) (YI hu) (x6 I.bb eb) dd fun h' Xa hs=>h _ ?_
   obtain⟨q,es,ep,hq,h2,h3,h4,_,h5⟩:=Xa
   refine Em I (by rw [e];exact US) hs ⟨q,hq⟩ ⟨hl,hd,_,(rel.put k eb rv).keeps fun c ys ec=>?_,q,es,ep,hq,h2,h3,h4,h5⟩
   rw [az (pB ec e (fun z=>nomatch z))]
   exact ec
end
section
variable {kvs:List (Key × V)} {k:Key}
theorem ac3 {v:V} {more:List Value} (I:Inv X pins σ H s) (e:H a=some (.dK kvs)) (ry:RelV (kV k) u) (l:kU kvs k=some v) (hm:more=[]\/∃x,more=[x]) (h:∀w' s',Inv X pins σ (upd H a (.dK (lT kvs k))) s'->RelV v w'->Q w' s'):wpAny (model X.prog X.w) A (call (.builtin "dict.pop") (.ref a::u::more)) Q E s:=by
 obtain⟨z,hd,vs,rel,dd⟩:=VU I.bb e
 obtain⟨w',hw,Gb⟩:=pQ.some_of (v:=v) (o:=Ab5 vs k) (by rw [<-l];exact rel.val k)
 have hp:(keyPart u).isSome=true:=by
  cases k with
  |inl i=>obtain⟨t,q⟩:=(show ∃t,u=AbD i t from ry);subst q;rfl
  |inr x=>obtain⟨t,q⟩:=(show ∃t,u=AbU x t from ry);subst q;rfl
 have ha:argsOk "dict.pop" ⟨.ref a::u::more,[]⟩:=by
  rcases hm with q|⟨x,q⟩
  . subst q;exact PySem.F.args_dict_pop_2 _ _
  . subst q;exact PySem.F.args_dict_pop_3 _ _ _
 refine Abx On dd.typeIs PySem.F.entry_dict_pop ha (meets_dict_pop_there (bf X.prog X.w) a (Cp ry) more hm hp)
  ⟨vs,w',dd,by rw [<-rel.length];exact z,hw,fun h' Xa hs=>h w' _ ?_ Gb⟩
 have he:∃q,h'.get? a=some q:=let ⟨q,_,_,hq,_⟩:=Xa;⟨q,hq⟩
 exact Em I (by rw [e];exact US) hs he (Pt (Mo (PL kvs k) z) hd (rel.drop k) Xa)
end
def abd (i:Expr):Prop:=∀ov iv,subscripted i false ov iv=operate [ov,iv] (getItem ov iv)
theorem Uh {prog:Fk} {env:Env} {value slice:Expr} {T id:String} (hl:typeLookup (.type T) "__getitem__"=pure (some (.builtin id))) (hs:abd slice) (h:wpAny (model prog w) A (eval value env) (fun o s₁=>wpAny (model prog w) A (eval slice env) (fun i s₂=>s₂.TypeIs o T/\wpAny (model prog w) A (getItem o i) Q E s₂) E s₁) E s):
 wpAny (model prog w) A (eval (.Subscript value slice pos) env) Q E s:=by
 refine Subscript_ (Pc h (fun o s₁ h₁=>Pc h₁ (fun i s₂ h₂=>?_) fun _ _ x=>x) fun _ _ x=>x)
 obtain⟨hT,h₂⟩:=h₂
 unfold subscriptTail
 refine BS ?_
 rw [getitemInPython_of_ne hT.not_modules]
 refine BS (wpAny_specialOf hT hl ?_)
 have fin:wpAny (model prog w) A (subscripted slice false o i) (fun r s₃=>wpAny (model prog w) A (letTemporaryGo value o r>>=fun _=>pure r) Q E s₃) E s₂:=by
  rw [hs o i]
  exact wpAny_operating (Pc h₂ (fun r s₃ h₃=>BS (wpAny_letTemporaryGo (GS h₃))) fun _ _ x=>x)
 first
  |exact GS (BS fin)
  |exact BS (GS (BS fin))
  |exact BS fin
theorem GZ (I:Inv X pins σ H s) (g:ie H a y o):s.TypeIs (.ref a) "dict":=by
 rcases g with⟨kvs,k,e,_,_⟩|⟨kvs,k,b,e,_,_,_⟩
 . obtain⟨_,_,vs,_,dd⟩:=B2 I.bb e
   exact dd.typeIs
 . obtain⟨_,_,xs,_,dd⟩:=BA I.bb e
   exact dd.typeIs
def Wg (td ty:TE):TE:=fun σ H Q=>td σ H fun x H1=>ty σ H1 fun y H2=>∃a v,x=.ref a/\ie H2 a y (some v)/\Q v H2
def acV (ty td:TE):TE:=fun σ H Q=>ty σ H fun y H1=>td σ H1 fun x H2=>∃a o,x=.ref a/\ie H2 a y o/\Q (.bl o.isSome) H2
def Lc (ty td:TE):TE:=fun σ H Q=>ty σ H fun y H1=>td σ H1 fun x H2=>∃a o,x=.ref a/\ie H2 a y o/\Q (.bl (!o.isSome)) H2
def VM (td ty tv:TE):TS:=fun D σ H=>tv σ H fun v H1=>td σ H1 fun x H2=>ty σ H2 fun y H3=>∃a H4,x=.ref a/\CL H3 a y v H4/\D.nx σ H4
section
variable {o i e value:Expr} {pos' R1:Pos} {td ty tv:TE}
theorem mM (hu:X.A.units+1<cLine) (ho:PE X o td) (hi:PE X i ty) (hs:abd i):PE X (.Subscript o i pos) (Wg td ty):=by
 intro pins s σ H Q I h
 refine Uh PySem.F.slot_dict_getitem.lookup hs (dC (ho pins s σ H _ I h) fun u s1 ⟨x,H1,I1,rx,q1⟩=>dC (hi pins s1 σ H1 _ I1 q1) fun iv s2 ⟨y,H2,I2,ry,a,v,ex,g,q2⟩=>?_)
 subst ex
 obtain rfl:u=LS a:=rx
 exact⟨GZ I2 g,MS hu I2 g ry fun w' s3 I3 Gb=>⟨v,H2,I3,Gb,q2⟩⟩
theorem R5 (hu:X.A.units+1<cLine) (hi:PE X i ty) (ho:PE X o td):PC X .In i o (acV ty td):=by
 intro pins s σ H Q I h
 refine dC (hi pins s σ H _ I h) fun iv s1 ⟨y,H1,I1,ry,q1⟩=>dC (ho pins s1 σ H1 _ I1 q1) fun u s2 ⟨x,H2,I2,rx,a,ov,ex,g,q2⟩=>?_
 subst ex
 obtain rfl:u=LS a:=rx
 exact ag7 hu I2 g ry fun s3 I3=>⟨.bl ov.isSome,H2,I3,rfl,q2⟩
theorem DH (hu:X.A.units+1<cLine) (hi:PE X i ty) (ho:PE X o td):PC X .NotIn i o (Lc ty td):=by
 intro pins s σ H Q I h
 refine dC (hi pins s σ H _ I h) fun iv s1 ⟨y,H1,I1,ry,q1⟩=>dC (ho pins s1 σ H1 _ I1 q1) fun u s2 ⟨x,H2,I2,rx,a,ov,ex,g,q2⟩=>?_
 subst ex
 obtain rfl:u=LS a:=rx
 exact UR hu I2 g ry fun s3 I3=>⟨.bl (!ov.isSome),H2,I3,rfl,q2⟩
theorem t6 (hu:X.A.units+1<cLine) (ho:PE X o td) (hi:PE X i ty) (hv:PE X value tv) (hs:swapsWith value (some (.Subscript o i pos')) pos.line X.env=pure false):
 PS X (.Assign [.Subscript o i pos'] value pos) (VM td ty tv):=by
 intro pins s σ H D I h
 refine wpAny_Assign_Subscript (dC (hv pins s σ H _ I h) fun r s1 ⟨v,H1,I1,rv,q1⟩=>dC (ho pins s1 σ H1 _ I1 q1) fun u s2 ⟨x,H2,I2,rx,q2⟩=>dC (hi pins s2 σ H2 _ I2 q2) fun iv s3 ⟨y,H3,I3,ry,a,H4,ex,g,q3⟩=>?_) hs
 subst ex
 obtain rfl:u=LS a:=rx
 exact N2 hu I3 g ry rv fun s4 I4=>⟨σ,H4,I4,q3⟩
end
theorem O7 (h:Heap) (hb:Th<h.objs.size):c6 P w H (h.push {cls:=.type "dict",data:=.dict #[]}) h.objs.size (.dK []):=
 ⟨KF _,beq_eq_false_iff_ne.mpr (Me (ET hb)),[],.nil,Heap.DictOf.new h⟩
def Qu:TE:=fun _ H Q=>∀p,H p=none->Q (.ref p) (upd H p (.dK []))
section
theorem lU:PE X (.Dict [] [] pos) Qu:=fun pins s σ H Q I h=>
 wpAny_Dict_empty ⟨.ref s.heap.objs.size,_,I.laid (a:=s.heap.objs.size) (o:=.dK []) (t':=s.toks) (fun _ _ q=>BY _ q) (BN _) (O7 s.heap I.big),rfl,h _ (I.bb.fresh (BN _))⟩
end
structure M1 (X:Cx) (o:Expr) (m:Str) (apos:Pos) (e:Expr) (jw:Pos):Prop where
 base:WE o m X.env (eval o X.env)=eval o X.env
 few:((SS jw (DO [e] X.env)).all (fun x=>!x.1)&&(Aao jw (SI [] X.env)).all (fun x=>x.1.isSome)
  &&decide (([e]:List Expr).length+([]:List Keyword).length+(if ([]:List Keyword).isEmpty then 0 else 1)<30))=true
 line:(apos.endLine==jw.line)=true
 trees:SS jw (DO [e] X.env)=[(false,eval e X.env)]
def IsD (H:Hp) (a:Addr):Prop:=(∃kvs,Rd H a (.dK kvs))\/∃kvs,Rd H a (.dT kvs)
theorem Zr (I:Inv X pins σ H s) (d:IsD H a):
 s.TypeIs (.ref a) "dict"/\(∀b,LS a=.ref b->∃ob,s.heap.get? b=some ob/\ob.dict=none)/\(a==Th)=false:=by
 rcases d with⟨kvs,e⟩|⟨kvs,e⟩
 . obtain⟨_,hd,vs,_,dd⟩:=B2 I.bb e
   refine⟨dd.typeIs,fun b q=>?_,hd⟩
   cases q
   obtain⟨ob,_,_,h1,h2,_⟩:=dd
   exact⟨ob,h1,h2.2.1⟩
 . obtain⟨_,hd,xs,_,dd⟩:=BA I.bb e
   refine⟨dd.typeIs,fun b q=>?_,hd⟩
   cases q
   obtain⟨ob,_,_,h1,h2,_⟩:=dd
   exact⟨ob,h1,h2.2.1⟩
section
variable {d:V} {r:Value}
theorem Xw (hu:A.units+1<cLine) (I:Inv X pins σ H s) (g:ie H a y o) (ry:RelV y u) (h:∀w' s',Inv X pins σ H s'->RelV (o.getD .aQ) w'->Q w' s'):
 wpAny (model X.prog X.w) A (call (.builtin "dict.get") [.ref a,u]) Q E s:=by
 rcases g with⟨kvs,k,e,ey,l⟩|⟨kvs,k,b,e,ey,eb,l⟩
 . subst ey
   obtain⟨z,hd,vs,rel,dd⟩:=B2 I.bb e
   refine Abx Aa0 dd.typeIs PySem.F.entry_dict_get (PySem.F.args_dict_get_2 _ _) (meets_dict_get (bf X.prog X.w) a (Cp ry) hd) ⟨_,dd.mapOf,h _ _ (I.tok _) ?_⟩
   rw [l]
   exact(rel.val k).getD rfl
 . subst ey
   cases (show u=LS b from ry)
   obtain⟨z,hd,xs,rel,dd⟩:=BA I.bb e
   refine Abx Aa0 dd.typeIs PySem.F.entry_dict_get (PySem.F.args_dict_get_2 _ _) (meetsH_dict_get (AbV (bf X.prog X.w)) a b hd) ⟨YI hu,k,xs,x6 I.bb eb,dd,h _ _ (I.tok _) ?_⟩
   rw [l]
   exact(rel.val k).getD rfl
end
def Qf (td ty:TE):TE:=fun σ H Q=>td σ H fun x H1=>∃a,x=.ref a/\IsD H1 a/\ty σ H1 fun y H2=>∃o,ie H2 a y o/\Q (o.getD .aQ) H2
section
variable {o e f:Expr} {apos jw:Pos} {td ty tx:TE}
theorem R6 (hu:X.A.units+1<cLine) (ho:PE X o td) (he:PE X e ty) (m:M1 X o "get" apos e jw):PE X (.Call (.Attribute o "get" apos) [e] [] jw) (Qf td ty):=by
 intro pins s σ H Q I h
 refine wpAny_Call_method m.base m.few m.line Lu Aa0 PySem.F.type_dict_get (dC (ho pins s σ H _ I h) fun u s1 ⟨x,H1,I1,rx,a,ex,d,q1⟩=>?_)
 subst ex
 obtain rfl:u=LS a:=rx
 obtain⟨t1,t2,_⟩:=Zr I1 d
 refine⟨t1,t2,?_⟩
 rw [m.trees]
 refine TD rfl (Calls.evalArgs_plain (Abu (dC (he pins s1 σ H1 _ I1 q1) fun iv s2 ⟨y,H2,I2,ry,ov,g,q2⟩=>AbI ?_)))
 exact Xw hu I2 g ry fun w' s3 I3 Gb=>⟨_,H2,I3,Gb,q2⟩
end
end L2
namespace Att
open PySem PySem.W PySem.Calls PyProof.Rows
variable {l:OpenLaw}
theorem zF {P:Params} {h:Heap}:∀(ns:List Int) (vs:List Value),WellAll P h vs (ns.map WData.int)->IntsAre vs ns:=by
 intro ns
 induction ns with
 |nil=>
  intro vs w
  rw [AaZ] at w
  cases w
  exact .nil
 |cons n ns ih=>
  intro vs w
  rw [EN] at w
  cases w with
  |cons a b=>
   cases a
   exact .cons _ _ (ih _ b)
theorem MI {n:Nat} (hn:l.most=some n) {P:Params} {h:Heap} {args:List WData} {vals:List Value} (Us:l.row.toRowW.claim.pre args=true) (hwl:WellAll P h vals args):
 ∃a vs ns,vals=[LS a]/\args=[WData.list (ns.map WData.int)]/\h.get? a=some {cls:=.type "list",data:=.seq vs.toArray}/\IntsAre vs ns/\ns.length<=n:=by
 have hsh:WShape.hasAll [] args [.list .int]=true:=(pre_splitW Us).1
 have hc:l.pre.holds [] {args:=args}=true:=(pre_splitW Us).2
 obtain⟨d,r,rfl,h1,h2⟩:=hasAllW_cons hsh
 obtain rfl:=hasAllW_nil h2
 obtain⟨xs,rfl,h3⟩:=hasW_list h1
 obtain⟨ns,rfl⟩:=items_int h3
 have hlen:ns.length<=n:=by
  unfold OpenLaw.pre at hc
  have h4:(WTm.not (.lt (.lit (.int (n:Int))) (.len (.arg 0)))).holds [] {args:=[.list (ns.map .int)]}=true:=by
   have h4:=(holds_andW hc).1
   rw [hn] at h4
   exact h4
  have h5:=condW_of h4 (w_not (w_lt w_lit (w_len_list (w_arg rfl))))
  rw [AE] at h5
  refine Nat.le_of_not_lt fun q=>?_
  have q':(n:Int)<((ns.length:Nat):Int):=by omega
  first
   |(rw [decide_eq_true q'] at h5;exact absurd h5 (by decide))
   |(simp at h5;omega)
 cases hwl with
 |cons w1 w2=>
  cases w2
  cases w1 with
  |list ho agF=>exact⟨_,_,ns,rfl,rfl,ho,zF ns _ agF,hlen⟩
theorem LX (l:OpenLaw) (args:List WData):l.row.toRowW.claim.post args (.bool true) args=true:=
 postW_of (r:=l.row.toRowW) (X:=(true==true))
  (show WShape.has [] (.bool true) .bool=true by first|rfl|decide|simp [WShape.has,WShape.arms,WShape.armsAll])
  (show(WTm.eq .res (.lit (.bool true))).value [] {args:=args,res:=some (.bool true),after:=args}=some (.bool (true==true)) from w_eq_bool (w_res rfl) w_lit) rfl
theorem GO {n:Nat} {q:Fk} {loose:List Str} {XP:(Str->Option Value)->Heap->Prop} {YP:World->Heap->Prop} {d:DefRec} (hn:l.most=some n) (hdf:d.params.defaults=[]) (call:∀(w:World) (jk s₁:AM) (mg mb:Str->Option Value) (fa:Addr) (o:Obj) (pm cd doc:Value) (a:Addr) (vs:List Value) (ns:List Int),
  Ground q loose [] XP w jk mg mb s₁.heap->YP w s₁.heap->
  s₁.heap.get? fa=some o->o.data=.func (docDef d.name d.params d.body d.scope pm cd doc)->s₁.heap.CodeRec cd d.name->mg d.name=some (.ref fa)->
  s₁.heap.get? a=some {cls:=.type "list",data:=.seq vs.toArray}->IntsAre vs ns->ns.length<=n->s₁.gens=#[]->
  AbQ (model l.prog w) Ab6 (.call (.ref fa) ⟨[.ref a],[]⟩) (fun r s'=>r=.ok (.ret (.bool true))/\OldK s₁.heap s'.heap/\s'.os=s₁.os/\AbW s'.gens) s₁):
 WalkO q loose XP YP l.row.toRowW d [] (fun f vs=>PySem.call f vs):=by
 intro w jk s₁ mg mb G Y fa o pm cd doc dV kV ho hd N9 hD hmg hg args vals as Us abX hrd hwl hlo
 obtain rfl:dV=.none:=Dflts.none hD hdf
 obtain rfl:kV=.none:=Dflts.noKw hD
 obtain⟨a,vs,ns,rfl,rfl,YW,hints,hlen⟩:=MI hn Us hwl
 refine enter_call (Abv (call w jk s₁ mg mb fa o pm cd doc a vs ns G Y ho (fd_plain hd) N9 hmg YW hints hlen hg) fun r s' hq=>?_)
 obtain⟨rfl,h2,h3,h4⟩:=hq
 exact⟨.inl ⟨.bool true,.bool true,[],rfl,fun _=>rfl,.bool true,LX l _,fun _=>⟨AbK,fun _ hm=>(nomatch hm)⟩⟩,h2,h3,h4⟩
end Att
namespace L2
open PySem PySem.Spec PyProof.Rows
variable {K:At} {CX:Gr} {a C p:Addr} {fd:Cs} {x f:Str} {sp:Sp} {ns:List Int} {l:PySem.W.OpenLaw} {loose ps:List Str} {XP:(Str->Option Value)->Heap->Prop} {YP:World->Heap->Prop} {X:Cx} {pos:Pos} {H:Hp} {xs eI:List V} {i:Int} {ds:List BB} {E:XK} {e:Expr} {es:List Expr} {t:TA} {pl:Sem Bool} {st:Stmt} {dV:Value} {te ta:TE} {v:V} {g:Int->Int->V} {Q:VK} {b:Bool} {R:Bool->Prop} {d:BB} {pre:List V->Prop} {tb:TS} {σ:St} {D:Ends}
theorem Di:∀{vs:List Value} {ns:List Int},IntsAre vs ns->Vals (ns.map V.int) vs
 |_,_,.nil=>.nil
 |_,_,.cons n t h=>.cons ⟨t,rfl⟩ (Di h)
def TK (H:Hp):Prop:=∀b,H b=none\/∃o xs,H b=some (.sS o (.lst xs))
theorem QH {P:Fk} {w:World} {mg mb:Str->Option Value} {k:Nat} {fa:Addr} {s₁:AM} {vs:List Value} (KX:K.In s₁.heap) (ML:s₁.heap.Ns FB mg) (hb:s₁.heap.Ns Ab1 mb) (YS:∀x:Str,x≠"__name__"->mb x=AaV x) (Fy:s₁.heap.NoLimit) (hg:s₁.gens=#[]) (ha:s₁.heap.get? a=some {cls:=.type "list",data:=.seq vs.toArray}) (hi:IntsAre vs ns) (hl:ns.length<=EM) (hr:cO k Ab6) (F:∀base:Heap,K.In base->base.Ns FB mg->aP P w K mg base CX k fa fd [x] sp) (ac9:∀(s:AM) (u:Value),BindsTo s fd ⟨[u],[]⟩ [(x,u)]) (Og:∀H:Hp,TK H->gD K H a (ns.map V.int)->sp [.ref a] H (fun v _=>v=.bl true) fun _ _ _=>False) (hCX:∀H e s',CX [] H s₁ (fun _ _ _=>False) e s'->False):
 AbQ (model P w) Ab6 (.call (.ref fa) ⟨[.ref a],[]⟩) (fun r s'=>r=.ok (.ret (.bool true))/\OldK s₁.heap s'.heap/\s'.os=s₁.os/\AbW s'.gens) s₁:=by
 have rv:=Di hi
 have ag2:=hi.length
 have core:∀H:Hp,TK H->gD K H a (ns.map V.int)->rh P w H s₁.heap->(∀b,H b≠none->b=a)->(H a≠none->K.lookup a=none)->
  AbQ (model P w) Ab6 (.call (.ref fa) ⟨[.ref a],[]⟩) (fun r s'=>r=.ok (.ret (.bool true))/\OldK s₁.heap s'.heap/\s'.os=s₁.os/\AbW s'.gens) s₁:=by
  intro H hO hS bb hA hK
  have KA:∀{b:Addr} {o:Obj},s₁.heap.get? b=some o->H b=none->(Fx s₁.heap H).get? b=some o:=fun e n=>QC e n
  have noA:∀{b:Addr} {o:Obj} {es:Array DictEntry} {ep:Nat},s₁.heap.get? b=some o->o.data=.dict es ep->H b=none:=fun {b o es ep} e d=>by
   cases q:H b with
   |none=>rfl
   |some u=>
    have e':b=a:=hA b (by rw [q];simp)
    subst e'
    rw [ha] at e;cases e
    have d':Data.seq vs.toArray _=Data.dict es ep:=d
    cases d'
  have nsK:∀{b:Addr} {m:Str->Option Value},s₁.heap.Ns b m->(Fx s₁.heap H).Ns b m:=fun {b m} ⟨o,es,ep,e,d,r⟩=>⟨o,es,ep,KA e (noA e d),d,r⟩
  have hKb:K.In (Fx s₁.heap H):=fun b o e=>KA (KX b o e) (by
   cases q:H b with
   |none=>rfl
   |some u=>
    have e':b=a:=hA b (by rw [q];simp)
    subst e'
    rw [hK (by rw [q];simp)] at e;cases e)
  have hM:Mod K mg (Fx s₁.heap H):=⟨hKb,nsK ML,⟨mb,nsK hb,YS⟩,let ⟨mc,h1,h2⟩:=Fy;⟨mc,nsK h1,h2⟩⟩
  have e0:C2 P w K mg (Fx s₁.heap H) Ab6 [] s₁ H:=⟨rfl,hM,fun b o e=>Sy e,Nat.le_of_eq (NW _ _),trivial,fun b hb=>absurd (show b∈([]:List Addr) from hb) (by simp),bb,.of_eq hg⟩
  refine Abv ((F _ hKb (nsK ML)).run Ab6 [] s₁ H ⟨[.ref a],[]⟩ [.ref a] [.ref a] _ _ hr e0 (ac9 s₁ (.ref a)) (.cons rfl .nil) (Og H hO hS)) fun r s' h=>?_
  cases r with
  |error e=>exact(hCX H e s' h).elim
  |ok fl=>
   cases fl with
   |next=>exact RI h
   |brk=>exact RI h
   |cont=>exact RI h
   |ret u=>
    obtain⟨v,H',os,bare,un,ahq,r',q⟩:=h
    have q':v=.bl true:=q
    subst q'
    obtain rfl:u=Ab0 true:=r'
    refine⟨rfl,OldK.of_keep fun b o e=>?_,os,bare⟩
    cases q:H b with
    |none=>exact un.keep b o e q (by intro z;exact absurd (show b∈([]:List Addr) from z) (by simp)) (by simp)
    |some u=>
     rcases hO b with z|⟨ob,xs,z⟩
     . rw [q] at z;cases z
     . have z2:=un.uk b ob _ z
       obtain⟨e1,_⟩:=bb b _ z
       obtain⟨e2,_⟩:=ahq b _ z2
       rw [e] at e1;cases e1
       exact e2
 cases hk:K.lookup a with
 |some o=>
  have e:=KX a o hk
  rw [ha] at e
  cases e
  refine core (fun _=>none) (fun _=>.inl rfl) (.inr ⟨_,vs.toArray,_,hk,rfl,rfl,rfl,by rw [Cn,ag2];exact hl,by simpa using rv⟩) (fun b u z=>by have z':(none:Option HO)=some u:=z;cases z') (fun b z=>absurd rfl z) fun z=>absurd rfl z
 |none=>
  refine core (fun b=>if b=a then some (.sS {cls:=.type "list",data:=.seq vs.toArray} (.lst (ns.map V.int))) else none) (fun b=>?_) (.inl (.inr ⟨{cls:=.type "list",data:=.seq vs.toArray},if_pos rfl⟩)) (fun b u z=>?_) (fun b z=>?_) fun _=>hk
  . by_cases hb:b=a
    . exact .inr ⟨_,_,if_pos hb⟩
    . exact .inl (if_neg hb)
  . by_cases hb:b=a
    . have z':=(if_pos hb).symm.trans z
      cases z'
      subst hb
      exact⟨ha,by rw [AE];exact hl,vs,_,rv,ha⟩
    . have z':=(if_neg hb).symm.trans z
      cases z'
  . by_cases hb:b=a
    . exact hb
    . exact absurd (if_neg hb) z
abbrev KOf {K:At} {h:Heap} (_:K.In h):At:=K
theorem T3 {n k:Nat} {q:Fk} {d:DefRec} {K:Params->At} {CX:World->Gr} {sp:World->Sp} (hn:l.most=some n) (mR:n<=EM) (hdf:d.params.defaults=[]) (hr:cO k Ab6) (hY:∀(w:World) (h:Heap),YP w h->(K w.params).In h) (F:∀(w:World) (mg:Str->Option Value) (fa:Addr) (h:Heap),(K w.params).In h->h.Ns FB mg->mg d.name=some (.ref fa)->
  ∃fd:Cs,(∀(s:AM) (u:Value),BindsTo s fd ⟨[u],[]⟩ [(x,u)])/\
   ∀base:Heap,(K w.params).In base->base.Ns FB mg->aP l.prog w (K w.params) mg base (CX w) k fa fd [x] (sp w)) (Og:∀(w:World) (H:Hp) (a:Addr) (ns:List Int),ns.length<=n->TK H->gD (K w.params) H a (ns.map V.int)->sp w [.ref a] H (fun v _=>v=.bl true) fun _ _ _=>False) (hCX:∀(w:World) (H:Hp) (s:AM) (e:Value) (s':AM),CX w [] H s (fun _ _ _=>False) e s'->False):
 PySem.W.WalkO q loose XP YP l.row.toRowW d [] (fun f vs=>PySem.call f vs):=by
 refine Att.GO hn hdf fun w jk s₁ mg mb fa o pm cd doc a vs ns G Y ho hd N9 hmg YW hints hlen hg=>?_
 have KX:=hY w _ Y
 obtain⟨fd,hb,hF⟩:=F w mg fa _ KX G.T.g hmg
 exact QH KX G.T.g G.T.b G.T.builtins G.T.nolimit hg YW hints (Mo hlen mR) hr hF hb (fun H hO hS=>Og w H a ns hlen hO hS) fun H e s'=>hCX w H s₁ e s'
theorem Qd {n k:Nat} {q:Fk} {d:DefRec} {K:Params->At} {sp:At->Sp} (hn:l.most=some n) (mR:n<=EM) (hdf:d.params.defaults=[]) (hr:cO k Ab6) (hY:∀(w:World) (h:Heap),YP w h->(K w.params).In h) (F:∀(w:World) (mg:Str->Option Value) (fa:Addr) (h:Heap),(K w.params).In h->h.Ns FB mg->mg d.name=some (.ref fa)->
  ∃fd:Cs,(∀(s:AM) (u:Value),BindsTo s fd ⟨[u],[]⟩ [(x,u)])/\
   ∀base:Heap,(K w.params).In base->base.Ns FB mg->aP l.prog w (K w.params) mg base CX k fa fd [x] (sp (K w.params))) (Og:∀(K:At) (H:Hp) (a:Addr) (ns:List Int),ns.length<=n->TK H->gD K H a (ns.map V.int)->sp K [.ref a] H (fun v _=>v=.bl true) fun _ _ _=>False) (hCX:∀(H:Hp) (s:AM) (e:Value) (s':AM),CX [] H s (fun _ _ _=>False) e s'->False):
 PySem.W.WalkO q loose XP YP l.row.toRowW d [] (fun f vs=>PySem.call f vs):=
 T3 (K:=K) (CX:=fun _=>CX) (sp:=fun w=>sp (K w.params)) hn mR hdf hr hY F (fun w H a ns h1 h2 h3=>Og (K w.params) H a ns h1 h2 h3) fun _ H s e s'=>hCX H s e s'
def inClass (s:Stmt) (j:Nat):Stmt:=match s with
 | .ClassDef _ _ _ body _ _ _ _ _ _ _=>body.getD j (.Pass ⟨0,0,0,0⟩)
 |_=>.Pass ⟨0,0,0,0⟩
def Am (s:Stmt):AbY:=match s with
 | .FunctionDef _ a _ _ _ _ _ _ _ _=>a
 |_=>{posonlyargs:=[],args:=[],vararg:=none,kwonlyargs:=[],kw_defaults:=[],kwarg:=none,defaults:=[]}
def we (s:Stmt):List Stmt:=match s with
 | .FunctionDef _ _ b _ _ _ _ _ _ _=>b
 |_=>[]
def ao (s:Stmt):Scope:=match s with
 | .FunctionDef _ _ _ _ _ _ sc _ _ _=>sc
 |_=>{kind:=.function,names:=[],isGenerator:=false,isCoroutine:=false}
abbrev eG:Gr:=fun _ _ _ _ _ _=>False
abbrev E0:XK:=fun _ _ _=>False
theorem Dy:Passes eG X E0:=fun _ _ _ _ _ _ _ h=>h.elim
theorem iz {A:IS} {k:Nat} (hr:cO k A):A.units+1<cLine:=Aby (Nat.add_le_add_left (by decide:1<=64) _) hr.units
section
theorem pv (i:Nat) (hN:X.N[i]? =some x:=by rfl) (hv:Vis X.env.scope x:=by first|exact FS rfl|exact Or.inr (FS rfl)|exact Or.inr (Or.inr rfl)) (hd:(x==("__debug__":Str))=false:=by decide) (N9:(x==("__classdict__":Str))=false:=by decide):PE X (.Name x pos) (Z1 i):=Ze hN hv hd N9
end
theorem afq {A B:Prop} (h:B):if false=true then A else B:=by
 rw [if_neg FM]
 exact h
theorem afu {A B:Prop} (h:A):if true=true then A else B:=by
 rw [if_pos rfl]
 exact h
def ay (H H':Hp):Prop:=∀b o,H b=some o->H' b=some o
theorem ay.refl (H:Hp):ay H H:=fun _ _ h=>h
theorem ay.trans {H1 H2:Hp} (a:ay H H1) (b:ay H1 H2):ay H H2:=fun c o h=>b c o (a c o h)
theorem ay.seq {H':Hp} (e:ay H H') (h:gD K H a xs):gD K H' a xs:=by
 rcases h with(h|⟨o,h⟩)|h
 . exact .inl (.inl (e _ _ h))
 . exact .inl (.inr ⟨o,e _ _ h⟩)
 . exact .inr h
section
def Lj (i j:Int):Prop:=i.natAbs<2^2000/\j.natAbs<2^2000
theorem Lj.ok {j:Int} (h:Lj i j):IntMulOk i j:=by
 have h1:Ll i<=2000:=PyProof.Rows.intBits_le h.1
 have h2:Ll j<=2000:=PyProof.Rows.intBits_le h.2
 have h3:Aa1 ((Ll i+Ll j:Nat):Int)=false:=by
  unfold Aa1
  have:(bitsLine:Nat)=134217728:=rfl
  refine decide_eq_false ?_
  omega
 unfold IntMulOk
 have h4:Aa1 (Ll i+Ll j)=false:=by
  have e:((Ll i:Int)+(Ll j:Int))=((Ll i+Ll j:Nat):Int):=by omega
  rw [e];exact h3
 rw [h4]
 simp
theorem EA:rm X (YE .Mult) (rI Lj fun i j=>.int (i*j)):=opI fun _ _ _ _ _ _ _ hc q=>mul_int q hc.ok
def VJ (_ j:Int):Prop:=0<j/\j.natAbs<2^2000
theorem bH:rm X (YE .FloorDiv) (rI VJ fun i j=>.int (i / j)):=opI fun i j _ _ _ _ _ hc q=>by
 have e:i.fdiv j=i / j:=Int.fdiv_eq_ediv_of_nonneg _ (OP hc.1)
 have hl:j.natAbs.log2<9000:=by
  have h0:j.natAbs≠0:=by have:=hc.1;omega
  have h2:j.natAbs.log2<2000:=(Nat.log2_lt h0).mpr hc.2
  omega
 refine floordiv_int (by have:=hc.1;omega) ?_ (.inl (PyProof.noPylong_of_log2 hl))
 rw [e];exact q
inductive YH:V->Value->Prop where
 |ty (n:String):YH (.ty n) (.type n)
 |ref (C:Addr):YH (.ref C) (.ref C)
def Ik (K:At):List V->Hp->VK->Prop:=fun xs H Q=>∃x c cv t b,xs=[x,c]/\YH c cv/\wB K H x t/\PySem.W.kitOne K t cv=some b/\Q (.bl b) H
theorem jZ:iL X (.builtin "isinstance") (Ik X.K):=by
 intro pins s σ H xs us Q I r h
 obtain⟨x,c,cv,t,b,rfl,hc,ty,e,q⟩:=h
 obtain⟨u,w',rfl,r1,r2⟩:=vals2 r
 have ew:w'=cv:=by cases hc <;>exact r2
 subst ew
 exact MT I r1 ty e fun tk=>⟨.bl b,H,I.tok tk,rfl,q⟩
structure Ds (K:At) (C:Addr) (m:Str) (f:Addr):Prop where
 ga:UV K (.ref C) "__getattribute__"=some (some (.builtin "type.__getattribute__"))
 rd:Abp K C (.type "type")=true
 fd:Abq K (.ref C) (.type "type") m=some (.val (.ref f))
 kp:ES K (.ref f)=true
theorem SA {k:Nat} {f:Addr} {ds:List Value} {m:Str} {p apos:Pos} (hg:Gl X x) (hm:X.mg x=some (.ref C)) (B:Ds X.K C m f) (F:aP X.prog X.w X.K X.mg X.base CX k f fd ps sp) (hr:cO k X.A) (hb:Binds X.K fd ps ds) (hd:Vals eI ds) (hx:Passes CX X E) (ha:PA X (e::es) t) (zR:(x==("__debug__":Str))=false:=by decide) (uh:DO (e::es) X.env=(false,eval e X.env)::DO es X.env:=by rfl) (vO:(SS pos (DO es X.env)).any (·.1)=false:=by rfl) (ht:eval (.Call (.Attribute (.Name x p) m apos) (e::es) [] pos) X.env=(do
  let ov <-eval (.Name x p) X.env
  Abk apos.atName
  let (f,first) <-Abl [ov] (Aaj ov m pl)
  Abw pos f first (SS pos (DO (e::es) X.env)) (Aao pos (SI [] X.env))):=by rfl):
 PE X (.Call (.Attribute (.Name x p) m apos) (e::es) [] pos) (Df sp eI E t):=by
 intro pins s σ H Q I h
 refine AaW (pl:=pl) (xP I hg hm ?_ zR) ht
 refine PySem.W.method_cls I.vS B.ga ?_
 refine PySem.W.cls_value I.vS B.rd B.fd rfl ?_
 have I':Inv X pins σ H {s with toks:=s.toks+1}:=I.tok _
 refine Aav (first:=[]) (h₀:=X.base) I.ok.mod.kin B.kp (dC (ha pos pins _ σ H _ I' h) fun us s2 ⟨vs,H2,I2,r,q2⟩=>⟨I2.vS,?_⟩) uh vO
 exact Fw F hr hb hd hx I2 r q2
end
mutual
inductive ya (K:At) (H:Hp):V->BB->Prop where
 |aQ:ya K H .aQ .none
 |bl (b:Bool):ya K H (.bl b) (.bool b)
 |int (i:Int):ya K H (.int i) (.int i)
 |str (x:Str):ya K H (.str x) (.str x)
 |tup {a:Addr} {xs:List V} {ds:List BB} (h:zZ K H a xs) (r:sA K H xs ds):ya K H (.ref a) (.tuple ds)
 |lst {a:Addr} {xs:List V} {ds:List BB} (h:gD K H a xs) (r:sA K H xs ds):ya K H (.ref a) (.list ds)
inductive sA (K:At) (H:Hp):List V->List BB->Prop where
 |nil:sA K H [] []
 |cons {x:V} {d:BB} {xs:List V} {ds:List BB} (h:ya K H x d) (r:sA K H xs ds):sA K H (x::xs) (d::ds)
end
theorem zZ.keeps {H':Hp} (e:ay H H') (h:zZ K H a xs):zZ K H' a xs:=by
 rcases h with(h|⟨o,h⟩)|h
 . exact .inl (.inl (e _ _ h))
 . exact .inl (.inr ⟨o,e _ _ h⟩)
 . exact .inr h
section
variable {pins:List (Addr × Obj)} {s:AM}
mutual
theorem ya.reads (I:Inv X pins σ H s):∀{v:V} {d:BB} {u:Value},ya X.K H v d->RelV v u->∃as,Reads s.heap u d as
 |_,_,_,.aQ,r=>by cases r;exact⟨_,.none⟩
 |_,_,_,.bl b,r=>by cases r;exact⟨_,.bool b⟩
 |_,_,_,.int i,r=>by obtain⟨t,rfl⟩:=r;exact⟨_,.int i t⟩
 |_,_,_,.str x,r=>by obtain⟨t,rfl⟩:=r;exact⟨_,.str x t⟩
 |_,_,_,.tup h q,r=>by
  cases r
  obtain⟨aZ,rv,⟨o,h1,h2,n,h3⟩,_⟩:=I.tuple h
  obtain⟨as,ra⟩:=sA.reads I q rv
  exact⟨_,.tuple h1 h2 h3 (by simpa using ra)⟩
 |_,_,_,.lst h q,r=>by
  cases r
  obtain⟨aZ,rv,⟨o,n,h1,h2,_,h3⟩,_⟩:=I.list h
  obtain⟨as,ra⟩:=sA.reads I q rv
  exact⟨_,.list h1 h2 h3 (by simpa using ra)⟩
theorem sA.reads (I:Inv X pins σ H s):∀{vs:List V} {ds:List BB} {us:List Value},sA X.K H vs ds->Vals vs us->∃as,ReadsAll s.heap us ds as
 |_,_,_,.nil,r=>by cases r;exact⟨_,.nil⟩
 |_,_,_,.cons h q,r=>by
  cases r with
  |cons r1 r2=>
   obtain⟨as,ra⟩:=ya.reads I h r1
   obtain⟨bs,rb⟩:=sA.reads I q r2
   exact⟨_,.cons ra rb⟩
end
end
section
def abi (K:At) (f:Bool->Bool):R2:=fun x y H Q=>∃d e,ya K H x d/\ya K H y e/\d.canLay0=true/\e.canLay0=true/\d.depth<=8/\Q (.bl (f (Sm d e))) H
theorem XU (hu:X.A.units+8<cLine):rm X (ON .Eq) (abi X.K id):=by
 intro pins s σ H x y v u Q I rx ry h
 obtain⟨d,e,hd,he,c1,c2,hn,q⟩:=h
 obtain⟨as,ra⟩:=hd.reads I rx
 obtain⟨bs,rb⟩:=he.reads I ry
 exact SeqAt.compareEq_reads ra rb c1 c2 (by have:=Nat.min_le_left d.depth e.depth;omega) ⟨.bl _,H,I,rfl,q⟩
theorem aae (hu:X.A.units+8<cLine):rm X (ON .NotEq) (abi X.K not):=by
 intro pins s σ H x y v u Q I rx ry h
 obtain⟨d,e,hd,he,c1,c2,hn,q⟩:=h
 obtain⟨as,ra⟩:=hd.reads I rx
 obtain⟨bs,rb⟩:=he.reads I ry
 exact SeqAt.compareNe_reads ra rb c1 c2 (by have:=Nat.min_le_left d.depth e.depth;omega) ⟨.bl _,H,I,rfl,q⟩
end
structure df (P:Fk) (w:World) (K:At) (mg:Str->Option Value) (base:Heap) (k:Nat) (f:Addr) (ps:List Str) (eI:List V) (sp:Sp):Prop where
 ex:∃(fd:Cs) (ds:List Value),aP P w K mg base eG k f fd ps sp/\Binds K fd ps ds/\Vals eI ds
section
variable {k:Nat} {f:Addr} {m:Str} {p apos:Pos} {o:Expr}
theorem U0 (c:df X.prog X.w X.K X.mg X.base k f ps eI sp) (hr:cO k X.A) (hg:Gl X x) (hm:X.mg x=some (.ref f)) (hk:ES X.K (.ref f)=true) (ha:PA X (e::es) t) (zR:(x==("__debug__":Str))=false:=by decide) (he:DO (e::es) X.env=(false,eval e X.env)::DO es X.env:=by rfl) (vO:(SS pos (DO es X.env)).any (·.1)=false:=by rfl):
 PE X (.Call (.Name x p) (e::es) [] pos) (Df sp eI E0 t):=by
 obtain⟨fd,ds,F,hb,hd⟩:=c.ex
 exact SU F hr hg hm hk hb hd Dy ha zR he vO
theorem U5 (he:PE X o ta) (c:ug X.K C) (hm:Meth X.K C m f) (F:df X.prog X.w X.K X.mg X.base k f ps eI sp) (hr:cO k X.A) (ha:PA X (e::es) t) (uh:DO (e::es) X.env=(false,eval e X.env)::DO es X.env:=by rfl) (vO:(SS pos (DO es X.env)).any (·.1)=false:=by rfl) (ht:eval (.Call (.Attribute o m apos) (e::es) [] pos) X.env=(do
  let ov <-eval o X.env
  Abk apos.atName
  let (f,first) <-Abl [ov] (Aaj ov m pl)
  Abw pos f first (SS pos (DO (e::es) X.env)) (Aao pos (SI [] X.env))):=by rfl):
 PE X (.Call (.Attribute o m apos) (e::es) [] pos) (Dz C m sp eI E0 ta t):=by
 obtain⟨fd,ds,F,hb,hd⟩:=F.ex
 exact Vg he c hm F hr hb hd Dy ha uh vO ht
theorem OC (he:PE X o ta) (c:ug X.K C) (hm:Meth X.K C m f) (F:df X.prog X.w X.K X.mg X.base k f ps eI sp) (hr:cO k X.A) (ht:eval (.Call (.Attribute o m apos) [] [] pos) X.env=(do
  let ov <-eval o X.env
  Abk apos.atName
  let (f,first) <-Abl [ov] (Aaj ov m pl)
  Abw pos f first (SS pos (DO [] X.env)) (Aao pos (SI [] X.env))):=by rfl):
 PE X (.Call (.Attribute o m apos) [] [] pos) (Dz C m sp eI E0 ta Ge):=by
 obtain⟨fd,ds,F,hb,hd⟩:=F.ex
 exact R0 he c hm F hr hb hd Dy ht
theorem Vo (M:Mk X.K C f) (F:df X.prog X.w X.K X.mg X.base k f ps eI sp) (hr:cO (k+1) X.A) (hg:Gl X x) (hm:X.mg x=some (.ref C)) (ha:PA X (e::es) t) (zR:(x==("__debug__":Str))=false:=by decide) (he:DO (e::es) X.env=(false,eval e X.env)::DO es X.env:=by rfl) (vO:(SS pos (DO es X.env)).any (·.1)=false:=by rfl):
 PE X (.Call (.Name x p) (e::es) [] pos) (Hz C sp eI E0 t):=by
 obtain⟨fd,ds,F,hb,hd⟩:=F.ex
 exact TC M F hr hg hm hb hd Dy ha zR he vO
theorem Uz (hg:Gl X x) (hm:X.mg x=some (.ref C)) (B:Ds X.K C m f) (F:df X.prog X.w X.K X.mg X.base k f ps eI sp) (hr:cO k X.A) (ha:PA X (e::es) t) (zR:(x==("__debug__":Str))=false:=by decide) (uh:DO (e::es) X.env=(false,eval e X.env)::DO es X.env:=by rfl) (vO:(SS pos (DO es X.env)).any (·.1)=false:=by rfl) (ht:eval (.Call (.Attribute (.Name x p) m apos) (e::es) [] pos) X.env=(do
  let ov <-eval (.Name x p) X.env
  Abk apos.atName
  let (f,first) <-Abl [ov] (Aaj ov m pl)
  Abw pos f first (SS pos (DO (e::es) X.env)) (Aao pos (SI [] X.env))):=by rfl):
 PE X (.Call (.Attribute (.Name x p) m apos) (e::es) [] pos) (Df sp eI E0 t):=by
 obtain⟨fd,ds,F,hb,hd⟩:=F.ex
 exact SA hg hm B F hr hb hd Dy ha zR uh vO ht
end
structure aY (K:At) (x qual:Str) (st:Stmt) (f:Addr) (dV:Value) (fd:Cs):Prop where
 ex:∃(oc:Value) (od:Option Addr) (kV doc pm:Value) (an:Option Addr) (c7 ct:Value) (TY:Array (Option Value)),
  fd=AaX x qual (Am st) (we st) (ao st) dV kV doc pm an c7 ct/\K.lookup f=some ⟨oc,od,.func fd,TY⟩/\PySem.W.codeIn K c7 qual=true
theorem Kz {qual:Str} {f:Addr} {oc:Value} {od an:Option Addr} {TY:Array (Option Value)} {kV doc pm c7 ct:Value} (l:K.lookup f=some ⟨oc,od,.func (AaX x qual (Am st) (we st) (ao st) dV kV doc pm an c7 ct),TY⟩) (c:PySem.W.codeIn K c7 qual=true):aY K x qual st f dV (AaX x qual (Am st) (we st) (ao st) dV kV doc pm an c7 ct):=⟨⟨oc,od,kV,doc,pm,an,c7,ct,TY,rfl,l,c⟩⟩
section
variable {P:Fk} {w:World} {mg:Str->Option Value} {base:Heap}
theorem aY.ok {qual:Str} {f:Addr} {N:List Str} {k:Nat} (F:aY K x qual st f dV fd) (S:aw N ps (ao st)) (len:∀vs H Q E,sp vs H Q E->vs.length=ps.length) (DV:∀(c7:Value) (A:IS) (outer:List Env) (s:AM) (H:Hp) (vs:List V) (Q:VK) (E:XK),cO k (A.deeper (envOfC qual (ao st) s.heap.objs.size f c7))->sp vs H Q E->
  ∃t,J4 (Ng eG P w K mg base N qual (ao st) f c7 A outer s H E).nox (we st) t/\t {nx:=fun _ H'=>Q .aQ H',rt:=Q} (start N vs) H):aP P w K mg base eG (k+1) f fd ps sp:=by
 obtain⟨oc,od,kV,doc,pm,an,c7,ct,TY,rfl,lk,N9⟩:=F.ex
 refine adE lk N9 S len fun A outer s H vs Q E hr Og=>?_
 obtain⟨t,h,q⟩:=DV c7 A outer s H vs Q E hr Og
 exact⟨t,h.nox,q⟩
theorem aY.binds {qual:Str} {f:Addr} {ds:List Value} (F:aY K x qual st f dV fd) (h:∀(kV doc pm:Value) (an:Option Addr) (c7 ct:Value),Binds K (AaX x qual (Am st) (we st) (ao st) dV kV doc pm an c7 ct) ps ds):Binds K fd ps ds:=by
 obtain⟨oc,od,kV,doc,pm,an,c7,ct,TY,rfl,lk,N9⟩:=F.ex
 exact h kV doc pm an c7 ct
end
structure ym (K:At) (T:Addr) (items:Array Value):Prop where
 ex:∃(o:Obj) (n:Nat),K.lookup T=some o/\o.data=.seq items n
structure aiN (K:At) (C:Addr):Prop where
 ha:AT K (.ref C) "__class__"=some (some (.builtin "object.__class__"))
 hn:UV K (.builtin "object.__class__") "__get__"=some (some (.builtin "getset_descriptor.__get__"))
 ht:PySem.W.takesIn K (.builtin "object.__class__")=some true
 hm:PySem.W.mroIn K C (.type "object")=some true
section
theorem X0 (h:D.nx σ H):OG D σ H:=h
theorem aaY (h:te σ H D.rt):ac6 te D σ H:=h
theorem Y0 (h:te σ H fun _ H1=>D.nx σ H1):V2 te D σ H:=h
theorem adg {c:TT} {t u:TS} (h:c σ H fun b H1=>if b=true then t D σ H1 else u D σ H1):aa6 c t u D σ H:=h
theorem aaT {i:Nat} (h:te σ H fun x H1=>D.nx (σ.set i (some x)) H1):RY te (lC i) D σ H:=h
theorem Rz {i:Nat} (e:σ[i]? =some (some v)) (h:Q v H):Z1 i σ H Q:=⟨v,e,h⟩
theorem r_c (h:Q v H):tC v σ H Q:=h
theorem aeW {r:R2} {tb:TE} (h:ta σ H fun x H1=>tb σ H1 fun y H2=>r x y H2 Q):tOp r ta tb σ H Q:=h
theorem aeO {r:V->Hp->VK->Prop} (h:ta σ H fun x H1=>r x H1 Q):tUn r ta σ H Q:=h
theorem aeN {j:Int} (h:Q (g i j) H):Pj g (.int i) (.int j) H Q:=⟨i,j,rfl,rfl,h⟩
theorem r_i {C:Int->Int->Prop} {j:Int} (c:C i j) (h:Q (g i j) H):rI C g (.int i) (.int j) H Q:=⟨i,j,rfl,rfl,c,h⟩
theorem r_u {g:Int->V} (h:Q (g i) H):rU g (.int i) H Q:=⟨i,rfl,h⟩
theorem Y1 {t:TE} {Q:Bool->Hp->Prop} (h:t σ H fun x H'=>∃k,x=.bl k/\Q k H'):OM t σ H Q:=h
theorem abR {t u:TT} {Q:Bool->Hp->Prop} (h:t σ H fun c H1=>if c=true then u σ H1 Q else Q false H1):adC t u σ H Q:=h
theorem ahp {t u:TT} {Q:Bool->Hp->Prop} (h:t σ H fun c H1=>if c=true then Q true H1 else u σ H1 Q):tOr t u σ H Q:=h
theorem adA {t:TT} {Q:Bool->Hp->Prop} (h:t σ H fun c H1=>Q (!c) H1):adI t σ H Q:=h
theorem X8 {tb:TE} (h:ta σ H fun x H1=>∃c,x=.bl c/\if c=true then tb σ H1 Q else Q (.bl false) H1):VD ta tb σ H Q:=h
theorem abP {tb:TE} (h:ta σ H fun x H1=>∃c,x=.bl c/\if c=true then Q (.bl true) H1 else tb σ H1 Q):abO ta tb σ H Q:=h
theorem Y4 (h:ta σ H fun x H1=>∃c,x=.bl c/\Q (.bl (!c)) H1):VY ta σ H Q:=h
theorem adv {t:TT} {tb:TE} (h:t σ H fun c H1=>if c=true then ta σ H1 Q else tb σ H1 Q):tIf t ta tb σ H Q:=h
theorem afZ (h:R b):∃k,V.bl b=.bl k/\R k:=⟨b,rfl,h⟩
theorem aa3 {Q:List V->Hp->Prop} (h:Q [] H):Ge σ H Q:=h
theorem YN {tr:TA} {Q:List V->Hp->Prop} (h:ta σ H fun x H1=>tr σ H1 fun xs H2=>Q (x::xs) H2):Rl ta tr σ H Q:=h
theorem afn {r:List V->Hp->VK->Prop} (h:t σ H fun vs H1=>r vs H1 Q):tCB r t σ H Q:=h
theorem SH {m:Str} {dx:Addr} {fs:List (Str × V)} {R:Prop} (hp:H p=some (.ins C dx fs)) (hl:fs.lookup m=none) (h:R):∃a dx fs,V.ref p=.ref a/\H a=some (.ins C dx fs)/\fs.lookup m=none/\R:=⟨p,dx,fs,rfl,hp,hl,h⟩
theorem aaZ (h:ta σ H fun x H1=>∃a C dx fs v,x=.ref a/\H1 a=some (.ins C dx fs)/\ug K C/\aJ K C f/\fs.lookup f=some v/\Q v H1):Z9 K ta f σ H Q:=h
theorem OO {A B:Prop} (h:A):if true=true then A else B:=by rw [if_pos rfl];exact h
theorem MX {A B:Prop} (h:B):if false=true then A else B:=by rw [if_neg FM];exact h
end
section
theorem PE.or {t u:TE} (h1:PE X e t) (h2:PE X e u):PE X e (fun σ H Q=>t σ H Q\/u σ H Q):=fun pins s σ H Q I h=>h.elim (h1 pins s σ H Q I) (h2 pins s σ H Q I)
theorem PE.weak {t u:TE} (h1:PE X e t) (h:∀σ H Q,u σ H Q->t σ H Q):PE X e u:=fun pins s σ H Q I q=>h1 pins s σ H Q I (h σ H Q q)
def mA (t:TA):TA:=fun σ H Q=>∃Q':List V->Hp->Prop,t σ H Q'/\∀v H',Q' v H'->Q v H'
theorem PA.m (h:PA X es t):PA X es (mA t):=fun pos pins s σ H Q I ⟨Q',q,m⟩=>dC (h pos pins s σ H Q' I q) fun _ _ ⟨v,H',I',r,z⟩=>⟨v,H',I',r,m v H' z⟩
end
def afh:Key->BB
 | .inl i=>.int i
 | .inr x=>.str x
mutual
inductive Dv (H:Hp):V->BB->Prop where
 |aQ:Dv H .aQ .none
 |bl (b:Bool):Dv H (.bl b) (.bool b)
 |int (i:Int):Dv H (.int i) (.int i)
 |str (x:Str):Dv H (.str x) (.str x)
 |tup {a:Addr} {xs:List V} {ds:List BB} (h:H a=some (.tup xs)) (r:dB H xs ds):Dv H (.ref a) (.tuple ds)
 |lst {a:Addr} {xs:List V} {ds:List BB} (h:Rd H a (.lst xs)) (r:dB H xs ds):Dv H (.ref a) (.list ds)
 |dct {a:Addr} {kvs:List (Key × V)} {ds:List (BB × BB)} (h:H a=some (.dK kvs)) (r:TX H kvs ds):Dv H (.ref a) (.dict ds)
inductive TX (H:Hp):List (Key × V)->List (BB × BB)->Prop where
 |nil:TX H [] []
 |cons {k:Key} {x:V} {d:BB} {xs:List (Key × V)} {ds:List (BB × BB)} (h:Dv H x d) (r:TX H xs ds):TX H ((k,x)::xs) ((afh k,d)::ds)
inductive dB (H:Hp):List V->List BB->Prop where
 |nil:dB H [] []
 |cons {x:V} {d:BB} {xs:List V} {ds:List BB} (h:Dv H x d) (r:dB H xs ds):dB H (x::xs) (d::ds)
end
mutual
theorem Dv.has {K:At} {H:Hp}:∀{v:V} {d:BB},Dv H v d->d.canLay0=true->ya K H v d
 |_,_,.aQ,_=>.aQ
 |_,_,.bl b,_=>.bl b
 |_,_,.int i,_=>.int i
 |_,_,.str x,_=>.str x
 |_,_,.tup h r,c=>.tup (.of h) (dB.has r (by simpa [LM] using c))
 |_,_,.lst h r,c=>.lst (.inl h) (dB.has r (by simpa [LM] using c))
 |_,_,.dct h r,c=>by simp [LM] at c
theorem dB.has {K:At} {H:Hp}:∀{v:List V} {d:List BB},dB H v d->AaP d=true->sA K H v d
 |_,_,.nil,_=>.nil
 |_,_,.cons h r,c=>by
  have c':=c
  simp only [AaP,SL] at c'
  exact .cons (Dv.has h c'.1) (dB.has r c'.2)
end
theorem ay.rd {H':Hp} {u:HO} (e:ay H H') (h:Rd H a u):Rd H' a u:=by
 rcases h with h|⟨o,h⟩
 . exact .inl (e _ _ h)
 . exact .inr ⟨o,e _ _ h⟩
mutual
theorem Dv.keeps {H H':Hp} (e:ay H H'):∀{v:V} {d:BB},Dv H v d->Dv H' v d
 |_,_,.aQ=>.aQ
 |_,_,.bl b=>.bl b
 |_,_,.int i=>.int i
 |_,_,.str x=>.str x
 |_,_,.tup h r=>.tup (e _ _ h) (dB.keeps e r)
 |_,_,.lst h r=>.lst (e.rd h) (dB.keeps e r)
 |_,_,.dct h r=>.dct (e _ _ h) (TX.keeps e r)
theorem TX.keeps {H H':Hp} (e:ay H H'):∀{v:List (Key × V)} {d:List (BB × BB)},TX H v d->TX H' v d
 |_,_,.nil=>.nil
 |_,_,.cons h r=>.cons (Dv.keeps e h) (TX.keeps e r)
theorem dB.keeps {H H':Hp} (e:ay H H'):∀{v:List V} {d:List BB},dB H v d->dB H' v d
 |_,_,.nil=>.nil
 |_,_,.cons h r=>.cons (Dv.keeps e h) (dB.keeps e r)
end
theorem dB.length {H:Hp}:∀{xs:List V} {ds:List BB},dB H xs ds->xs.length=ds.length
 |_,_,.nil=>rfl
 |_,_,.cons _ r=>by simp [dB.length r]
theorem dB.get {H:Hp}:∀{xs:List V} {ds:List BB} {i:Nat} {d:BB},dB H xs ds->ds[i]? =some d->∃x,xs[i]? =some x/\Dv H x d
 |_,_,_,_,.nil,e=>by simp at e
 |_,_,0,_,.cons h _,e=>by simp at e;subst e;exact⟨_,rfl,h⟩
 |_,_,i+1,x,.cons _ r,e=>by
  obtain⟨d,h1,h2⟩:=dB.get (i:=i) (d:=x) r (by simpa using e)
  exact⟨d,by simpa using h1,h2⟩
theorem dB.append {H:Hp}:∀{xs ys:List V} {ds es:List BB},dB H xs ds->dB H ys es->dB H (xs++ys) (ds++es)
 |_,_,_,_,.nil,s=>s
 |_,_,_,_,.cons r t,s=>.cons r (dB.append t s)
theorem Dv.int_inv (h:Dv H v (.int i)):v=.int i:=by cases h;rfl
theorem Dv.T6 (h:Dv H v .none):v=.aQ:=by cases h;rfl
theorem Dv.str_inv {i:Str} (h:Dv H v (.str i)):v=.str i:=by cases h;rfl
def AV (H:Hp) (d:BB) (Q:VK):Prop:=match d with
 | .none=>Q .aQ H
 | .bool b=>Q (.bl b) H
 | .int i=>Q (.int i) H
 | .str x=>Q (.str x) H
 |d=>∀v,Dv H v d->Q v H
theorem AV.use (g:AV H d Q) (h:Dv H v d):Q v H:=by
 cases h with
 |aQ=>exact g
 |bl b=>exact g
 |int i=>exact g
 |str x=>exact g
 |tup h r=>exact g _ (.tup h r)
 |lst h r=>exact g _ (.lst h r)
 |dct h r=>exact g _ (.dct h r)
theorem K6 (r:dB H xs ds) (h:t5 ds i=some d):∃x,t5 xs i=some x/\Dv H x d:=by
 unfold t5 at h ⊢
 rw [r.length]
 cases e:K8 ds.length i with
 |none=>rw [e] at h;simp at h
 |some j=>
  rw [e] at h
  have h':ds[j]? =some d:=by simpa using h
  obtain⟨x,h1,h2⟩:=r.get h'
  exact⟨x,by simpa using h1,h2⟩
def Dq (H:Hp) (v:V) (ds:List BB):Prop:=Dv H v (.tuple ds)\/Dv H v (.list ds)
def abI:R2:=fun x y H Q=>∃ds i d,y=.int i/\Dq H x ds/\t5 ds i=some d/\AV H d Q
theorem SK {x y:V} (h:abI x y H Q):rIx K x y H Q:=by
 obtain⟨ds,i,d,rfl,hs,hi,g⟩:=h
 rcases hs with hs|hs
 . cases hs with
   |tup h r=>
    obtain⟨v,h1,h2⟩:=K6 r hi
    exact .inr (.inl ⟨_,_,i,v,rfl,rfl,.of h,h1,g.use h2⟩)
 . cases hs with
   |lst h r=>
    obtain⟨v,h1,h2⟩:=K6 r hi
    exact .inl ⟨_,_,i,v,rfl,rfl,.inl h,h1,g.use h2⟩
section
def ZE:R2:=fun x y H Q=>abI x y H Q\/Xy x y H Q
theorem agt:Oa X ZE:=fun value slice pins s σ H x y v u Q I r1 r2 h=>Ye value slice pins s σ H x y v u Q I r1 r2 (h.elim SK fun z=>.inr (.inr z))
def Ou:List V->Hp->VK->Prop:=fun xs H Q=>(∃v ds,xs=[v]/\Dq H v ds/\Q (.int (ds.length:Nat)) H)\/∃z,xs=[.str z]/\z.length<=EM/\Q (.int (z.length:Nat)) H
theorem MG:iL X (.builtin "len") Ou:=fun pins s σ H xs us Q I r h=>by
 rcases h with⟨v,ds,rfl,hs,q⟩|h
 . rcases hs with hs|hs
   . cases hs with
     |tup h t=>exact qg pins s σ H _ us Q I r ⟨_,_,rfl,.inr (.of h),by rw [t.length];exact q⟩
   . cases hs with
     |lst h t=>exact qg pins s σ H _ us Q I r ⟨_,_,rfl,.inl (.inl h),by rw [t.length];exact q⟩
 . exact ER pins s σ H _ us Q I r h
def tyN:BB->String
 | .none=>"NoneType"| .bool _=>"bool"| .int _=>"int"| .str _=>"str"| .list _=>"list"| .tuple _=>"tuple"| .dict _=>"dict"
def Ov (t n:String):Option Bool:=if ((Aas t)==(Aas n))=true then some true else if PySem.W.kitMeta n=true then (PySem.fastBuiltinMro t).map (·.contains (.type n)) else none
theorem RM {t n:String} (h:Ov t n=some b):PySem.W.kitOne K (.type t) (.type n)=some b:=h
def Xn (t n:String):Bool:=t==n||(t=="bool"&&n=="int")
theorem NV:(["NoneType","bool","int","str","list","tuple","dict"].all fun t=>["int","bool","str","list","tuple","dict"].all fun n=>Ov t n==some (Xn t n))=true:=by decide+kernel
theorem Ra {t n:String} (ht:t∈["NoneType","bool","int","str","list","tuple","dict"]) (hn:n∈["int","bool","str","list","tuple","dict"]):Ov t n=some (Xn t n):=by
 have h:=List.all_eq_true.mp (List.all_eq_true.mp NV t ht) n hn
 exact beq_iff_eq.mp h
theorem Tb (d:BB):tyN d∈["NoneType","bool","int","str","list","tuple","dict"]:=by
 cases d <;>simp [tyN]
theorem Dv.ty (h:Dv H v d):wB K H v (.type (tyN d)):=by
 cases h with
 |aQ=>exact .aQ
 |bl b=>exact .bl b
 |int i=>exact .int i
 |str x=>exact .str x
 |tup h r=>exact .tup h
 |lst h r=>
  rcases h with h|⟨o,h⟩
  . exact .lst h
  . exact .sS h
 |dct h r=>exact .dK h
theorem A3 {n:String} (h:Dv H v d) (hn:n∈["int","bool","str","list","tuple","dict"]) (q:Q (.bl (Xn (tyN d) n)) H):Ik K [v,.ty n] H Q:=
 ⟨v,.ty n,.type n,_,_,rfl,.ty n,h.ty,RM (Ra (Tb d) hn),q⟩
def Jm (K:At) (f:Bool->Bool):R2:=fun x y H Q=>(TR x y=true/\Q (.bl (f (decide (x=y)))) H)\/∃d e,Dv H x d/\Dv H y e/\d.canLay0=true/\e.canLay0=true/\d.depth<=8/\Q (.bl (f (Sm d e))) H
theorem mD (hu:X.A.units+8<cLine):rm X (ON .Eq) (Jm X.K id):=fun pins s σ H x y v u Q I rx ry h=>by
 rcases h with h|⟨d,e,h1,h2,h3,h4,h5,h6⟩
 . exact acO pins s σ H x y v u Q I rx ry h
 . exact XU hu pins s σ H x y v u Q I rx ry ⟨d,e,h1.has h3,h2.has h4,h3,h4,h5,h6⟩
theorem A0 (hu:X.A.units+8<cLine):rm X (ON .NotEq) (Jm X.K not):=fun pins s σ H x y v u Q I rx ry h=>by
 rcases h with h|⟨d,e,h1,h2,h3,h4,h5,h6⟩
 . exact abM pins s σ H x y v u Q I rx ry h
 . exact aae hu pins s σ H x y v u Q I rx ry ⟨d,e,h1.has h3,h2.has h4,h3,h4,h5,h6⟩
def L6 (xs:List V) (H1:Hp) (Q:VK):Prop:=xs.length<=EM/\∃ds,dB H1 xs ds/\∀p H2,ay H1 H2->H1 p=none->H2 p=some (.tup xs)->Dv H2 (.ref p) (.tuple ds)->Q (.ref p) H2
def WV (xs:List V) (H1:Hp) (Q:VK):Prop:=xs.length<=EM/\∃ds,dB H1 xs ds/\∀p H2,ay H1 H2->H1 p=none->H2 p=some (.lst xs)->dB H2 xs ds->Dv H2 (.ref p) (.list ds)->Q (.ref p) H2
def Wa (t:TA):TE:=fun σ H Q=>t σ H fun xs H1=>L6 xs H1 Q
theorem dS {x1} (h:PA X es t):PE X (.Tuple es x1 pos) (Wa t):=PE.weak (Y8 h.m) fun σ H Q q=>⟨_,q,fun xs H1 ⟨hl,ds,hd,k⟩=>⟨hl,fun p hp=>by
 have sm:ay H1 (upd H1 p (.tup xs)):=fun b u e=>by rw [az (aA e hp)];exact e
 exact k p _ sm hp av (.tup av (hd.keeps sm))⟩⟩
def WH (t:TA):TE:=fun σ H Q=>t σ H fun xs H1=>WV xs H1 Q
theorem b9 (h:PA X es t):PE X (.List es pos) (WH t):=PE.weak (YY h.m) fun σ H Q q=>⟨_,q,fun xs H1 ⟨hl,ds,hd,k⟩=>⟨hl,fun p hp=>by
 have sm:ay H1 (upd H1 p (.lst xs)):=fun b u e=>by rw [az (aA e hp)];exact e
 exact k p _ sm hp av (hd.keeps sm) (.lst (.of av) (hd.keeps sm))⟩⟩
variable {rest:List Stmt}
def Z2 (t u:TS):TS:=fun D σ H=>∃R:St->Hp->Prop,t {D with nx:=R} σ H/\∀σ' H',R σ' H'->u D σ' H'
theorem ag {t u:TS} (h1:PS X st t) (h2:J4 X rest u):J4 X (st::rest) (Z2 t u):=by
 intro pins s σ H D I ⟨R,h,k⟩
 refine wpAny_execs_cons (dC (h1 pins s σ H {D with nx:=R} I h) fun f s1 q=>?_)
 cases f with
 |next=>
  obtain⟨σ',H',I',q⟩:=q
  exact h2 pins s1 σ' H' D I' (k _ _ q)
 |ret v=>exact q
 |brk=>exact q
 |cont=>exact q
end
section
theorem YG {t u:TS} (h:t {D with nx:=u D} σ H):Z2 t u D σ H:=⟨u D,h,fun _ _ z=>z⟩
theorem X9 (h:t σ H fun xs H1=>L6 xs H1 Q):Wa t σ H Q:=h
theorem XE (hl:xs.length<=EM) (hd:dB H xs ds) (k:∀v H2,ay H H2->Dv H2 v (.tuple ds)->Q v H2):L6 xs H Q:=⟨hl,ds,hd,fun p H2 s _ _ d=>k (.ref p) H2 s d⟩
theorem Qb (hl:xs.length<=EM) (hd:dB H xs ds) (k:∀p H2,ay H H2->H p=none->H2 p=some (.tup xs)->Q (.ref p) H2):L6 xs H Q:=⟨hl,ds,hd,fun p H2 s n e _=>k p H2 s n e⟩
theorem Yx (h:t σ H fun xs H1=>WV xs H1 Q):WH t σ H Q:=h
theorem aa9 {f:Bool->Bool} {x y:V} (e:TR x y=true) (h:Q (.bl (f (decide (x=y)))) H):Jm K f x y H Q:=.inl ⟨e,h⟩
theorem OJ {f:Bool->Bool} {x y:V} {e:BB} (h1:Dv H x d) (h2:Dv H y e) (h3:d.canLay0=true) (h4:e.canLay0=true) (h5:d.depth<=8) (h:Q (.bl (f (Sm d e))) H):Jm K f x y H Q:=.inr ⟨d,e,h1,h2,h3,h4,h5,h⟩
theorem adf {x:V} (hs:Dq H x ds) (hi:t5 ds i=some d) (g:AV H d Q):ZE x (.int i) H Q:=.inl ⟨ds,i,d,rfl,hs,hi,g⟩
theorem YL (hs:Dq H v ds) (h:Q (.int (ds.length:Nat)) H):Ou [v] H Q:=.inl ⟨v,ds,rfl,hs,h⟩
theorem UM (h:Q (.int i) H):AV H (.int i) Q:=h
theorem Vc {i:Str} (h:Q (.str i) H):AV H (.str i) Q:=h
theorem SF (h:∀v,Dv H v (.tuple ds)->Q v H):AV H (.tuple ds) Q:=h
theorem ab2 {A B:Prop} (h1:b=true->A) (h2:b=false->B):if b=true then A else B:=by
 cases b
 . exact afq (h2 rfl)
 . exact afu (h1 rfl)
end
theorem cO.F0 {k:Nat} {A:IS} (r:cO k A):A.units+8<cLine:=Aby (by omega) r.units
theorem ay.at {H':Hp} {o:HO} (s:ay H H') (h:H a=some o):H' a=some o:=s a o h
theorem cP {t:Addr} {o:HO} (h:H t=none):ay H (upd H t o):=fun b u e=>by rw [az (aA e h)];exact e
section
theorem UQ {R:St->Hp->Prop} {rt:VK} {bk ct:St->Hp->Prop} (h:rt v H):(Ends.mk R rt bk ct).rt v H:=h
end
def isInt:BB->Bool| .int _=>true| .bool _=>true|_=>false
def isBool:BB->Bool| .bool _=>true|_=>false
def isStr:BB->Bool| .str _=>true|_=>false
def Wf:BB->Bool| .list _=>true|_=>false
def isTup:BB->Bool| .tuple _=>true|_=>false
def acQ:BB->Bool| .dict _=>true|_=>false
section
theorem L7 (h:Dv H v d) (q:Q (.bl (isInt d)) H):Ik K [v,.ty "int"] H Q:=A3 h (by decide) (by cases d <;>exact q)
theorem JK (h:Dv H v d) (q:Q (.bl (isBool d)) H):Ik K [v,.ty "bool"] H Q:=A3 h (by decide) (by cases d <;>exact q)
theorem NT (h:Dv H v d) (q:Q (.bl (isStr d)) H):Ik K [v,.ty "str"] H Q:=A3 h (by decide) (by cases d <;>exact q)
theorem ND (h:Dv H v d) (q:Q (.bl (Wf d)) H):Ik K [v,.ty "list"] H Q:=A3 h (by decide) (by cases d <;>exact q)
theorem NR (h:Dv H v d) (q:Q (.bl (isTup d)) H):Ik K [v,.ty "tuple"] H Q:=A3 h (by decide) (by cases d <;>exact q)
def jF (H:Hp) (v:V) (C:Addr) (fs:List (Str × V)):Prop:=∃p dx,v=.ref p/\H p=some (.ins C dx fs)
theorem jF.keeps {H':Hp} {fs:List (Str × V)} (s:ay H H') (h:jF H v C fs):jF H' v C fs:=by
 obtain⟨p,dx,rfl,e⟩:=h;exact⟨p,dx,rfl,s _ _ e⟩
theorem aal {R:V->Prop} {fs:List (Str × V)} {x:V} (hp:jF H v C fs) (c:ug K C) (n:aJ K C f) (l:fs.lookup f=some x) (h:R x):
 ∃a C dx fs x,v=.ref a/\H a=some (.ins C dx fs)/\ug K C/\aJ K C f/\fs.lookup f=some x/\R x:=by
 obtain⟨p,dx,rfl,e⟩:=hp
 exact⟨p,C,dx,fs,x,rfl,e,c,n,l,h⟩
theorem wI {m:Str} {fs:List (Str × V)} {R:Prop} (hp:jF H v C fs) (hl:fs.lookup m=none) (h:R):∃a dx fs,v=.ref a/\H a=some (.ins C dx fs)/\fs.lookup m=none/\R:=by
 obtain⟨p,dx,rfl,e⟩:=hp
 exact⟨p,dx,fs,rfl,e,hl,h⟩
end
def look (f:Str):List (Str × V)->Option V
 |[]=>none
 |(g,v)::r=>if f=g then some v else look f r
theorem yV (f:Str):∀fs:List (Str × V),fs.lookup f=look f fs
 |[]=>rfl
 |(g,v)::r=>by
  show(match f==g with|true=>some v|false=>r.lookup f)=if f=g then some v else look f r
  by_cases h:f=g
  . subst h;rw [if_pos rfl,beq_self_eq_true]
  . rw [if_neg h,beq_eq_false_iff_ne.mpr h];exact yV f r
section
def Pq (K:At):R2:=fun x y H Q=>ZE x y H Q\/W8 K x y H Q
theorem ik:Oa X (Pq X.K):=fun value slice pins s σ H x y v u Q I r1 r2 h=>h.elim (agt value slice pins s σ H x y v u Q I r1 r2) (K4 value slice pins s σ H x y v u Q I r1 r2)
def KW (K:At):List V->Hp->VK->Prop:=fun xs H Q=>Ou xs H Q\/∃p ys,xs=[.ref p]/\gD K H p ys/\Q (.int ys.length) H
theorem iC:iL X (.builtin "len") (KW X.K):=fun pins s σ H xs us Q I r h=>by
 rcases h with h|⟨p,ys,e,hl,q⟩
 . exact MG pins s σ H xs us Q I r h
 . exact qg pins s σ H xs us Q I r ⟨p,ys,e,.inl hl,q⟩
end
section
theorem Eh {x:V} (hs:Dq H x ds) (hi:t5 ds i=some d) (g:AV H d Q):Pq K x (.int i) H Q:=.inl (adf hs hi g)
theorem GW (hs:gD K H p xs) (hi:t5 xs i=some v) (g:Q v H):Pq K (.ref p) (.int i) H Q:=.inr ⟨p,xs,i,v,rfl,rfl,hs,hi,g⟩
theorem PZ (hs:Dq H v ds) (h:Q (.int (ds.length:Nat)) H):KW K [v] H Q:=.inl (YL hs h)
theorem Ez (hs:gD K H p xs) (h:Q (.int xs.length) H):KW K [.ref p] H Q:=.inr ⟨p,xs,rfl,hs,h⟩
theorem aac {tv:TE} (h:tv σ H fun y H1=>ta σ H1 fun x H2=>∃a C dx fs,x=.ref a/\H2 a=some (.ins C dx fs)/\ug K C/\aJ K C f/\fs.length<1000/\D.nx σ (upd H2 a (.ins C dx (kX f y fs)))):acm K ta tv f D σ H:=h
theorem SY {dx:Addr} {fs fs':List (Str × V)} {y:V} (hp:H p=some (.ins C dx fs)) (c:ug K C) (n:aJ K C f) (hl:fs.length<1000) (e:kX f y fs=fs') (h:D.nx σ (upd H p (.ins C dx fs'))):
 ∃a C dx fs,V.ref p=.ref a/\H a=some (.ins C dx fs)/\ug K C/\aJ K C f/\fs.length<1000/\D.nx σ (upd H a (.ins C dx (kX f y fs))):=⟨p,C,dx,fs,rfl,hp,c,n,hl,by rw [e];exact h⟩
def Ca (C:Addr) (pre:List V->Prop) (fs:List V->List (Str × V)):Sp:=fun vs H Q _=>∃p dx args,vs=.ref p::args/\pre args/\H p=some (.ins C dx [])/\Q .aQ (upd H p (.ins C dx (fs args)))
theorem Td {fs:List V->List (Str × V)} {args:List V} (hp:pre args) (k:∀v H2,ay H H2->jF H2 v C (fs args)->Q v H2):
 ∀x dx,H x=none->H dx=none->dx≠x->Ca C pre fs (.ref x::args) (upd (upd H dx (.own x)) x (.ins C dx [])) (fun v H2=>v=.aQ/\Q (.ref x) H2) E:=by
 intro x dx hx hd ne
 refine⟨x,dx,args,rfl,hp,av,rfl,k _ _ (fun b u e=>?_) ⟨x,dx,rfl,av⟩⟩
 rw [az (aA e hx),az (aA e hx),az (aA e hd)]
 exact e
theorem WY {R:V->Prop} {dx:Addr} {fs:List (Str × V)} (hp:H p=some (.ins C dx fs)) (c:ug K C) (n:aJ K C f) (l:fs.lookup f=some v) (h:R v):
 ∃a C dx fs v,V.ref p=.ref a/\H a=some (.ins C dx fs)/\ug K C/\aJ K C f/\fs.lookup f=some v/\R v:=⟨p,C,dx,fs,v,rfl,hp,c,n,l,h⟩
theorem agl {R:Prop} (h:R):V.aQ=V.aQ/\R:=⟨rfl,h⟩
end
theorem bg (h1:-(10^200)<i) (h2:i<10^200):i.natAbs<2^2000:=by
 have:(10:Nat)^200<2^2000:=by decide+kernel
 have h3:i.natAbs<10^200:=by
  have e:((10:Nat)^200:Nat)=((10:Int)^200).toNat:=by decide+kernel
  rw [e]
  generalize (10:Int)^200=m at h1 h2 ⊢
  omega
 exact Nat.lt_trans h3 this
theorem aci {j:Int} (h1:-(10^200)<i/\i<10^200) (h2:-(10^200)<j/\j<10^200):Lj i j:=⟨bg h1.1 h1.2,bg h2.1 h2.2⟩
theorem abY {j:Int} (h1:0<j) (h2:j<10^200):VJ i j:=⟨h1,bg (Int.lt_trans (by decide) h1) h2⟩
def cell (ns:List Int) (k:Nat):Int:=ns.getD k 0
def Jp (K:At):Sp:=fun vs H Q _=>∃l ns k,vs=[.ref l,.int k]/\gD K H l (ns.map V.int)/\0<=k/\Q (.int (cell ns k.toNat)) H
theorem YV {l:Addr} {k:Int} (h:gD K H l (ns.map V.int)) (hk:0<=k) (q:Q (.int (cell ns k.toNat)) H):Jp K [.ref l,.int k] H Q E:=⟨l,ns,k,rfl,h,hk,q⟩
theorem K7 {k:Int} (h0:0<=k) (h:k<(ns.map V.int).length):t5 (ns.map V.int) k=some (.int (cell ns k.toNat)):=by
 obtain⟨n,rfl⟩:=AaA h0
 refine xg ?_
 have hn:n<ns.length:=by simpa using h
 simp [cell,hn,Lo]
theorem Vf {k:Int} (h0:0<=k) (h:¬k<(ns.map V.int).length):cell ns k.toNat=0:=by
 have:ns.length<=k.toNat:=by simp at h;omega
 simp [cell,Lo,this]
def Cy (sp:Sp) (vs:List V) (H:Hp) (Q:VK) (E:XK):Prop:=∃ws,vs=ws/\sp ws H Q E
theorem Gs (sp:Sp) (vs:List V) (H:Hp) (Q:VK) (E:XK):Cy sp vs H Q E=sp vs H Q E:=propext ⟨fun⟨_,e,h⟩=>e▸h,fun h=>⟨vs,rfl,h⟩⟩
def AJ (sp:Sp) (eI:List V) (E:XK) (t:TA):TE:=fun σ H Q=>t σ H fun vs H1=>Cy sp (vs++eI) H1 Q E
theorem Eb (sp:Sp) (eI:List V) (E:XK) (t:TA):AJ sp eI E t=Df sp eI E t:=by
 funext σ H Q;unfold AJ Df;congr 1;funext vs H1;exact Gs _ _ _ _ _
def Bt (C:Addr) (m:Str) (sp:Sp) (eI:List V) (E:XK) (ta:TE) (t:TA):TE:=fun σ H Q=>ta σ H fun x H1=>∃a dx fs,x=.ref a/\H1 a=some (.ins C dx fs)/\fs.lookup m=none/\
 t σ H1 fun vs H2=>Cy sp (x::(vs++eI)) H2 Q E
theorem DL (C:Addr) (m:Str) (sp:Sp) (eI:List V) (E:XK) (ta:TE) (t:TA):Bt C m sp eI E ta t=Dz C m sp eI E ta t:=by
 funext σ H Q;unfold Bt Dz;congr 1;funext x H1
 have:∀H2:Hp,(fun vs H2=>Cy sp (x::(vs++eI)) H2 Q E)=fun vs H2=>sp (x::(vs++eI)) H2 Q E:=fun _=>by funext vs H2;exact Gs _ _ _ _ _
 rw [this H1]
def uq (C:Addr) (sp:Sp) (vs:List V) (H1:Hp) (Q:VK) (E:XK):Prop:=∃ws,vs=ws/\∀x dx,H1 x=none->H1 dx=none->dx≠x->
 sp (.ref x::ws) (upd (upd H1 dx (.own x)) x (.ins C dx [])) (fun v H2=>v=.aQ/\Q (.ref x) H2) E
def Bk (C:Addr) (sp:Sp) (eI:List V) (E:XK) (t:TA):TE:=fun σ H Q=>t σ H fun vs H1=>uq C sp (vs++eI) H1 Q E
theorem DE (C:Addr) (sp:Sp) (eI:List V) (E:XK) (t:TA):Bk C sp eI E t=Hz C sp eI E t:=by
 funext σ H Q;unfold Bk Hz uq;congr 1;funext vs H1
 exact propext ⟨fun⟨_,e,h⟩=>by subst e;exact h,fun h=>⟨_,rfl,h⟩⟩
section
variable {k:Nat} {f:Addr} {m:Str} {p apos:Pos} {o:Expr}
theorem dA (c:df X.prog X.w X.K X.mg X.base k f ps eI sp) (hr:cO k X.A) (hg:Gl X x) (hm:X.mg x=some (.ref f)) (hk:ES X.K (.ref f)=true) (ha:PA X (e::es) t) (zR:(x==("__debug__":Str))=false:=by decide) (he:DO (e::es) X.env=(false,eval e X.env)::DO es X.env:=by rfl) (vO:(SS pos (DO es X.env)).any (·.1)=false:=by rfl):
 PE X (.Call (.Name x p) (e::es) [] pos) (AJ sp eI E0 t):=by rw [Eb];exact U0 c hr hg hm hk ha zR he vO
theorem aB (he:PE X o ta) (c:ug X.K C) (hm:Meth X.K C m f) (F:df X.prog X.w X.K X.mg X.base k f ps eI sp) (hr:cO k X.A) (ha:PA X (e::es) t) (uh:DO (e::es) X.env=(false,eval e X.env)::DO es X.env:=by rfl) (vO:(SS pos (DO es X.env)).any (·.1)=false:=by rfl) (ht:eval (.Call (.Attribute o m apos) (e::es) [] pos) X.env=(do
  let ov <-eval o X.env
  Abk apos.atName
  let (f,first) <-Abl [ov] (Aaj ov m pl)
  Abw pos f first (SS pos (DO (e::es) X.env)) (Aao pos (SI [] X.env))):=by rfl):
 PE X (.Call (.Attribute o m apos) (e::es) [] pos) (Bt C m sp eI E0 ta t):=by rw [DL];exact U5 he c hm F hr ha uh vO ht
theorem eF (he:PE X o ta) (c:ug X.K C) (hm:Meth X.K C m f) (F:df X.prog X.w X.K X.mg X.base k f ps eI sp) (hr:cO k X.A) (ht:eval (.Call (.Attribute o m apos) [] [] pos) X.env=(do
  let ov <-eval o X.env
  Abk apos.atName
  let (f,first) <-Abl [ov] (Aaj ov m pl)
  Abw pos f first (SS pos (DO [] X.env)) (Aao pos (SI [] X.env))):=by rfl):
 PE X (.Call (.Attribute o m apos) [] [] pos) (Bt C m sp eI E0 ta Ge):=by rw [DL];exact OC he c hm F hr ht
theorem mX (M:Mk X.K C f) (F:df X.prog X.w X.K X.mg X.base k f ps eI sp) (hr:cO (k+1) X.A) (hg:Gl X x) (hm:X.mg x=some (.ref C)) (ha:PA X (e::es) t) (zR:(x==("__debug__":Str))=false:=by decide) (he:DO (e::es) X.env=(false,eval e X.env)::DO es X.env:=by rfl) (vO:(SS pos (DO es X.env)).any (·.1)=false:=by rfl):
 PE X (.Call (.Name x p) (e::es) [] pos) (Bk C sp eI E0 t):=by rw [DE];exact Vo M F hr hg hm ha zR he vO
theorem EF (hg:Gl X x) (hm:X.mg x=some (.ref C)) (B:Ds X.K C m f) (F:df X.prog X.w X.K X.mg X.base k f ps eI sp) (hr:cO k X.A) (ha:PA X (e::es) t) (zR:(x==("__debug__":Str))=false:=by decide) (uh:DO (e::es) X.env=(false,eval e X.env)::DO es X.env:=by rfl) (vO:(SS pos (DO es X.env)).any (·.1)=false:=by rfl) (ht:eval (.Call (.Attribute (.Name x p) m apos) (e::es) [] pos) X.env=(do
  let ov <-eval (.Name x p) X.env
  Abk apos.atName
  let (f,first) <-Abl [ov] (Aaj ov m pl)
  Abw pos f first (SS pos (DO (e::es) X.env)) (Aao pos (SI [] X.env))):=by rfl):
 PE X (.Call (.Attribute (.Name x p) m apos) (e::es) [] pos) (AJ sp eI E0 t):=by rw [Eb];exact Uz hg hm B F hr ha zR uh vO ht
end
section
theorem SX (h:t σ H fun vs H1=>Cy sp (vs++eI) H1 Q E):AJ sp eI E t σ H Q:=h
theorem J2 {vs ws:List V} (e:vs=ws) (h:sp ws H Q E):Cy sp vs H Q E:=⟨ws,e,h⟩
theorem Vx {m:Str} (h:ta σ H fun x H1=>∃a dx fs,x=.ref a/\H1 a=some (.ins C dx fs)/\fs.lookup m=none/\t σ H1 fun vs H2=>Cy sp (x::(vs++eI)) H2 Q E):Bt C m sp eI E ta t σ H Q:=h
theorem U9 (h:t σ H fun vs H1=>uq C sp (vs++eI) H1 Q E):Bk C sp eI E t σ H Q:=h
theorem vT {fs:List V->List (Str × V)} {us args:List V} (e:us=args) (hp:pre args) (k:∀v H2,ay H H2->jF H2 v C (fs args)->Q v H2):uq C (Ca C pre fs) us H Q E:=⟨args,e,Td hp k⟩
theorem Xs (h:R b):∃k,G0 K (.bl b) H k/\R k:=⟨b,rfl,h⟩
end
theorem VW {n:Nat} (h:Nat.ble n 64=true):n<=EM:=Mo (LF h) (by decide)
theorem Ab (h:∀v,Dv H v d->Q v H):AV H d Q:=by
 cases d with
 |none=>exact h _ .aQ
 |bool b=>exact h _ (.bl b)
 |int i=>exact h _ (.int i)
 |str x=>exact h _ (.str x)
 |list l=>exact h
 |tuple l=>exact h
 |dict l=>exact h
section
variable {rest:List Stmt}
def V9 (t u:TS):TS:=Z2 t u
theorem cN {t u:TS} (h1:PS X st t) (h2:J4 X rest u):J4 X (st::rest) (V9 t u):=ag h1 h2
end
section
theorem gw {t u:TS} (R:St->Hp->Prop) (h:t {D with nx:=R} σ H) (k:∀σ' H',R σ' H'->u D σ' H'):V9 t u D σ H:=⟨R,h,k⟩
def VC (K:At) (x:V) (g:TG) (tb:TS) (D:Ends) (σ:St) (H1:Hp):Prop:=∃a,x=.ref a/\(∃xs,gD K H1 a xs)/\∃W:Nat->Nat->St->Hp->Prop,(∃m,W 0 m σ H1)/\∀i m σ H,W i m σ H->
 ((PN K a).stop i H/\D.nx σ H)\/((PN K a).go i H/\∃N:St->Hp->Prop,(∀σ' H',N σ' H'->∃m',m'<m/\W (i+1) m' σ' H')/\∀x H',(PN K a).Sf i H x H'->g x σ H' fun σ2 H2=>tb {D with nx:=N,ct:=N,bk:=D.nx} σ2 H2)
theorem ac2 {tl:TE} {g:TG} (h:tl σ H fun x H1=>VC K x g tb D σ H1):QP (RV K tl) g tb D σ H:=h
theorem forL {g:TG} (hl:gD K H a xs) (Pv:Nat->St->Hp->Prop) (h0:Pv 0 σ H) (hk:∀i σ H,i<=xs.length->Pv i σ H->gD K H a xs) (hs:∀i x σ H,xs[i]? =some x->Pv i σ H->g x σ H fun σ2 H2=>tb {D with nx:=Pv (i+1),ct:=Pv (i+1),bk:=D.nx} σ2 H2) (hd:∀σ H,Pv xs.length σ H->D.nx σ H):VC K (.ref a) g tb D σ H:=
 ⟨a,rfl,⟨xs,hl⟩,Oo Pv h0 hk hs hd⟩
def aft (lo:Int) (n:Nat) (g:TG) (tb:TS) (D:Ends) (σ:St) (H1:Hp):Prop:=∃W:Nat->Nat->St->Hp->Prop,(∃m,W 0 m σ H1)/\∀i m σ H,W i m σ H->
 ((S3 lo n).stop i H/\D.nx σ H)\/((S3 lo n).go i H/\∃N:St->Hp->Prop,(∀σ' H',N σ' H'->∃m',m'<m/\W (i+1) m' σ' H')/\∀x H',(S3 lo n).Sf i H x H'->g x σ H' fun σ2 H2=>tb {D with nx:=N,ct:=N,bk:=D.nx} σ2 H2)
theorem Vn {ta:TA} {g:TG} (h:ta σ H fun vs H1=>∃i j:Int,vs=[.int i,.int j]/\(-(2^62)<=i/\i<2^62/\-(2^62)<=j/\j<2^62)/\aft i (j - i).toNat g tb D σ H1):QP (VL ta) g tb D σ H:=h
end
section
def Ww:List V->Hp->VK->Prop:=fun xs H Q=>∃i j,xs=[.int i,.int j]/\∀k,(k=i\/k=j)->k<=i->k<=j->Q (.int k) H
theorem NF (hc:X.calm=true):iL X (.builtin "min") Ww:=fun pins s σ H xs us Q I r ⟨i,j,e,h⟩=>M5 hc pins s σ H xs us Q I r ⟨i,j,e,by
 split
 . exact h _ (.inr rfl) (by omega) (by omega)
 . exact h _ (.inl rfl) (by omega) (by omega)⟩
def Wx:List V->Hp->VK->Prop:=fun xs H Q=>∃i j,xs=[.int i,.int j]/\∀k,(k=i\/k=j)->i<=k->j<=k->Q (.int k) H
theorem yO (hc:X.calm=true):iL X (.builtin "max") Wx:=fun pins s σ H xs us Q I r ⟨i,j,e,h⟩=>Nr hc pins s σ H xs us Q I r ⟨i,j,e,by
 split
 . exact h _ (.inr rfl) (by omega) (by omega)
 . exact h _ (.inl rfl) (by omega) (by omega)⟩
def Wc:R2:=fun x y H Q=>∃i j,x=.int i/\y=.int j/\0<j/\(0<=i % j->i % j<j->Q (.int (i % j)) H)
theorem cG:rm X (YE .Mod) Wc:=fun pins s σ H x y v u Q I rx ry ⟨i,j,e1,e2,hj,h⟩=>Xv pins s σ H x y v u Q I rx ry ⟨i,j,e1,e2,hj,h (Int.emod_nonneg _ (by omega)) (AaB _ hj)⟩
end
section
theorem ZC {j:Int} (h:∀k,(k=i\/k=j)->k<=i->k<=j->Q (.int k) H):Ww [.int i,.int j] H Q:=⟨i,j,rfl,h⟩
theorem aag {j:Int} (h:∀k,(k=i\/k=j)->i<=k->j<=k->Q (.int k) H):Wx [.int i,.int j] H Q:=⟨i,j,rfl,h⟩
theorem Zu {j:Int} (hj:0<j) (h:0<=i % j->i % j<j->Q (.int (i % j)) H):Wc (.int i) (.int j) H Q:=⟨i,j,rfl,rfl,hj,h⟩
end
section
def WC (Pv:Nat->St->Hp->Prop) (m:Nat) (tb:TS) (D:Ends) (σ:St) (H1:Hp):Prop:=∃N:St->Hp->Prop,(∀σ' H',N σ' H'->∃m',m'<m/\Pv m' σ' H')/\tb {D with nx:=N,ct:=N,bk:=D.nx} σ H1
theorem Xq {Pv:Nat->St->Hp->Prop} {m:Nat} (h:tb {D with nx:=fun σ' H'=>∃m',m'<m/\Pv m' σ' H',ct:=fun σ' H'=>∃m',m'<m/\Pv m' σ' H',bk:=D.nx} σ H):WC Pv m tb D σ H:=⟨_,fun _ _ h=>h,h⟩
theorem tW {c:TT} (Pv:Nat->St->Hp->Prop) (h0:∃m,Pv m σ H) (hs:∀m σ H,Pv m σ H->c σ H fun b H1=>if b=true then WC Pv m tb D σ H1 else D.nx σ H1):O5 c tb D σ H:=⟨Pv,h0,hs⟩
end
end L2
namespace L2
theorem VB {n:Nat} (h:Nat.blt n 1000=true):n<1000:=by
 unfold Nat.blt at h
 exact LF h
end L2
namespace L2
open PySem PySem.Spec PyProof.Rows
section
variable {X:Cx}
def aeT (f:Bool->Bool):R2:=fun x y H Q=>∃b c,x=.bl b/\y=.bl c/\Q (.bl (f (b==c))) H
theorem Xb:rm X (ON .Is) (aeT id):=by
 intro pins s σ H x y v u Q I rx ry h
 obtain⟨b,c,rfl,rfl,q⟩:=h
 cases rx;cases ry
 exact is_bool (bo I q rfl)
end
theorem Z7 {H:Hp} {Q:VK} {i j p:Int} (c:Ta i j) (e:i^j.toNat=p) (h:Q (.int p) H):rI Ta (fun i j=>.int (i^j.toNat)) (.int i) (.int j) H Q:=⟨i,j,rfl,rfl,c,by show Q (.int (i^j.toNat)) H;rw [e];exact h⟩
section
variable {X:Cx} {e:Expr}
def abr (t u:TE):TE:=fun σ H Q=>t σ H Q\/u σ H Q
theorem x5 {t u:TE} (h1:PE X e t) (h2:PE X e u):PE X e (abr t u):=PE.or h1 h2
end
section
variable {σ:St} {H:Hp} {Q:VK} {D:Ends} {K:At}
def adi (K:At) (x:V) (i j:Nat) (D:Ends) (σ:St) (H:Hp):Prop:=Ii K 2 (uP (lC i) (uP (lC j) M3)) x σ H D.nx
theorem W6 {te:TE} {i j:Nat} (h:te σ H fun x H1=>adi K x i j D σ H1):RY te (Ii K 2 (uP (lC i) (uP (lC j) M3))) D σ H:=h
end
end L2
namespace L2
open PySem PySem.Spec PyProof.Rows PySem.W
variable {p:Array Nat} {Q:Nat × Array Nat->AM->Prop} {H':Hp} {s' s:AM} {xs:List V} {A:IS} {E:Value->AM->Prop} {P:PySem.Fin->AM->Prop} {X:Cx} {pins:List (Addr × Obj)} {σ:St} {f:Addr} {ps:List Str} {sp:Sp} {kf:V->Int × Str}
structure Swo (lt:Nat->Nat->Bool):Prop where
 irr:∀a,lt a a=false
 asy:∀a b,lt a b=true->lt b a=false
 Sj:∀a b c,lt a b=false->lt b c=false->lt a c=false
section
variable {lt:Nat->Nat->Bool} {n:Nat} {S:AM->Prop} {cmp:Nat->Nat->(Bool->AM->Prop)->AM->Prop}
def Up (lt:Nat->Nat->Bool) (p:Array Nat) (k:Nat):Prop:=∀i j,i<j->j<k->lt (p.getD j 0) (p.getD i 0)=false
def Down (lt:Nat->Nat->Bool) (p:Array Nat) (k:Nat):Prop:=∀i j,i<j->j<k->lt (p.getD i 0) (p.getD j 0)=false
def Alike (lt:Nat->Nat->Bool) (p:Array Nat) (a b:Nat):Prop:=∀i j,a<=i->i<b->a<=j->j<b->lt (p.getD i 0) (p.getD j 0)=false
structure Ix (n:Nat) (p:Array Nat):Prop where
 sz:p.size=n
 pm:p.toList.Perm (AbF n)
theorem Ix.low (h:Ix n p) {i:Nat} (hi:i<n):p.getD i 0<n:=by
 have Nh:i<p.size:=by rw [h.sz];exact hi
 have e:p.getD i 0=p[i]:=by simp [Array.getD,Nh]
 rw [e]
 have:p[i]∈p.toList:=by simp
 exact AbA.mp (h.pm.mem_iff.mp this)
theorem Ix.perm {q:Array Nat} (h:Ix n p) (hq:q.Perm p):Ix n q:=⟨hq.size_eq.trans h.sz,(Array.perm_iff_toList_perm.mp hq).trans h.pm⟩
theorem j3 {i j:Nat} (hj:j<=p.size) (k:Nat):(kas_rev p i j).getD k 0=if i<=k/\k<j then p.getD (i+j - 1 - k) 0 else p.getD k 0:=by
 unfold kas_rev
 rw [Na,getElem?_mirror_all hj k]
 by_cases h:i<=k/\k<j
 . rw [if_pos h,if_pos h,Na]
 . rw [if_neg h,if_neg h,Na]
theorem B7 (h:Ix n p) (i j:Nat):Ix n (kas_rev p i j):=h.perm (mirror_perm _ _ _ _)
theorem HV {k d:Nat} (hk:k<p.size) (hd:d<=k) (i:Nat):(bubble p k d).getD i 0=if i=k - d then p.getD k 0 else if k - d<i/\i<=k then p.getD (i - 1) 0 else p.getD i 0:=by
 rw [Na,getElem?_bubble hk d hd i]
 by_cases h:i=k - d
 . rw [if_pos h,if_pos h,Na]
 . rw [if_neg h,if_neg h]
   by_cases h2:k - d<i/\i<=k
   . rw [if_pos h2,if_pos h2,Na]
   . rw [if_neg h2,if_neg h2,Na]
def U4 (n:Nat) (lt:Nat->Nat->Bool) (S:AM->Prop) (cmp:Nat->Nat->(Bool->AM->Prop)->AM->Prop):Prop:=
 ∀i j C s,i<n->j<n->S s->(∀s',S s'->C (lt i j) s')->cmp i j C s
variable (w:Swo lt) (ha:U4 n lt S cmp)
include w ha
theorem J7 {p:Array Nat} (hp:Ix n p) {Q:Nat->AM->Prop}:∀(f k:Nat),1<=k->k+f<=n->Up lt p k->(∀m s,S s->k<=m->m<=k+f->Up lt p m->(m=k+f\/(m<k+f/\lt (p.getD m 0) (p.getD (m - 1) 0)=true))->Q m s)->∀s,S s->(kas_asc p f k).kasWp cmp Q s
 |0,k,_,_,hu,hq,s,hs=>hq k s hs (BN _) (BN _) hu (.inl rfl)
 |f+1,k,h1,hf,hu,hq,s,hs=>by
  refine ha _ _ _ _ (hp.low (by omega)) (hp.low (by omega)) hs fun s' HU=>?_
  cases e:lt (p.getD k 0) (p.getD (k - 1) 0) with
  |true=>exact hq k s' HU (BN _) (by omega) hu (.inr ⟨by omega,e⟩)
  |false=>
   refine J7 hp f (k+1) (by omega) (by omega) (fun i j vX hj=>?_) (fun m s hs a b c d=>hq m s hs (by omega) (by omega) c (by rcases d with d|d;exact .inl (by omega);exact .inr ⟨by omega,d.2⟩)) s' HU
   by_cases Vs:j<k
   . exact hu i j vX Vs
   . have:j=k:=by omega
     subst this
     by_cases hi:i=j - 1
     . rw [hi];exact e
     . exact w.Sj _ _ _ e (hu i (j - 1) (by omega) (by omega))
theorem Ah {Q:Array Nat × Nat × Nat->AM->Prop}:∀(f:Nat) (p:Array Nat) (k q:Nat),Ix n p->k+f<=n->q+1<=k->Down lt p k->Alike lt p (k - (q+1)) k->
 (∀p' k' q' s,S s->Ix n p'->k<=k'->k'<=k+f->q'+1<=k'->Down lt p' k'->Alike lt p' (k' - (q'+1)) k'->Q (p',k',q') s)->∀s,S s->(kas_desc f p k q).kasWp cmp Q s
 |0,p,k,q,hp,_,h1,hd,hl,hq,s,hs=>hq p k q s hs hp (BN _) (BN _) h1 hd hl
 |f+1,p,k,q,hp,hf,h1,hd,hl,hq,s,hs=>by
  refine ha _ _ _ _ (hp.low (by omega)) (hp.low (by omega)) hs fun s' HU=>?_
  cases e:lt (p.getD k 0) (p.getD (k - 1) 0) with
  |true=>
   have JX:∀i,i<k->lt (p.getD i 0) (p.getD k 0)=false:=fun i hi=>by
    by_cases h:i=k - 1
    . rw [h];exact w.asy _ _ e
    . exact w.Sj _ _ _ (hd i (k - 1) (by omega) (by omega)) (w.asy _ _ e)
   by_cases h0:q>0
   . simp only [if_true,if_pos h0]
     have hk:k<=p.size:=by rw [hp.sz];omega
     refine Ah f _ (k+1) 0 (B7 hp _ _) (by omega) (by omega) (fun i j vX hj=>?_) (fun i j a b c d=>?_) (fun p' k' q' s hs a b c d e f=>hq p' k' q' s hs a (by omega) (by omega) d e f) s' HU
     . rw [j3 hk,j3 hk]
       by_cases Vs:j=k
       . subst Vs
         rw [if_neg (show ¬(j - (q+1)<=j/\j<j) by omega)]
         by_cases hi:j - (q+1)<=i/\i<j
         . rw [if_pos hi];exact JX _ (by omega)
         . rw [if_neg hi];exact JX _ vX
       . by_cases hi:k - (q+1)<=i/\i<k
         . rw [if_pos hi,if_pos (show k - (q+1)<=j/\j<k by omega)]
           exact hl _ _ (by omega) (by omega) (by omega) (by omega)
         . rw [if_neg hi]
           by_cases Ol:k - (q+1)<=j/\j<k
           . rw [if_pos Ol];exact hd _ _ (by omega) (by omega)
           . rw [if_neg Ol];exact hd _ _ vX (by omega)
     . have:i=k:=by omega
       have:j=k:=by omega
       subst_vars
       exact w.irr _
   . simp only [if_true,if_neg h0]
     refine Ah f _ (k+1) 0 hp (by omega) (by omega) (fun i j vX hj=>?_) (fun i j a b c d=>?_) (fun p' k' q' s hs a b c d e f=>hq p' k' q' s hs a (by omega) (by omega) d e f) s' HU
     . by_cases Vs:j=k
       . subst Vs;exact JX _ vX
       . exact hd _ _ vX (by omega)
     . have:i=k:=by omega
       have:j=k:=by omega
       subst_vars
       exact w.irr _
  |false=>
   simp only [IF,if_false]
   refine ha _ _ _ _ (hp.low (by omega)) (hp.low (by omega)) HU fun s2 Cz=>?_
   cases e2:lt (p.getD (k - 1) 0) (p.getD k 0) with
   |true=>simp only [if_true];exact hq p k q s2 Cz hp (BN _) (by omega) h1 hd hl
   |false=>
    simp only [IF,if_false]
    refine Ah f _ (k+1) (q+1) hp (by omega) (by omega) (fun i j vX hj=>?_) (fun i j a b c d=>?_) (fun p' k' q' s hs a b c d e f=>hq p' k' q' s hs a (by omega) (by omega) d e f) s2 Cz
    . by_cases Vs:j=k
      . subst Vs
        by_cases h:i=j - 1
        . rw [h];exact e2
        . exact w.Sj _ _ _ (hd i (j - 1) (by omega) (by omega)) e2
      . exact hd _ _ vX (by omega)
    . by_cases hi:i=k
      . by_cases hj:j=k
        . rw [hi,hj];exact w.irr _
        . rw [hi];exact w.Sj _ _ _ e (hl _ _ (by omega) (by omega) (by omega) (by omega))
      . by_cases hj:j=k
        . rw [hj];exact w.Sj _ _ _ (hl _ _ (by omega) (by omega) (by omega) (by omega)) e2
        . exact hl _ _ (by omega) (by omega) (by omega) (by omega)
theorem GK {k:Nat} (hp:Ix n p) (h1:1<=k) (hk:k<=n) (hd:Down lt p k) (hq:∀m p' s,S s->Ix n p'->1<=m->m<=n->Up lt p' m->Q (m,p') s) (s:AM) (hs:S s):(kas_tail3 k n p).kasWp cmp Q s:=by
 unfold kas_tail3
 rw [AaC]
 have JM:k<=p.size:=by rw [hp.sz];exact hk
 refine J7 w ha (B7 hp 0 k) (n - k) k h1 (by omega) (fun i j vX hj=>?_) (fun m s hs a b c _=>hq m _ s hs (B7 hp _ _) (by omega) (by omega) c) s hs
 rw [j3 JM,j3 JM,if_pos (by omega),if_pos (by omega)]
 exact hd _ _ (by omega) (by omega)
theorem zf {k:Nat} (hp:Ix n p) (h1:1<=k) (hk:k+1<=n) (hd:Down lt p (k+1)) (hq:∀m p' s,S s->Ix n p'->1<=m->m<=n->Up lt p' m->Q (m,p') s) (s:AM) (hs:S s):(kas_descPart k n p).kasWp cmp Q s:=by
 unfold kas_descPart
 rw [AaC]
 refine Ah w ha _ p (k+1) 0 hp (by omega) (by omega) hd (fun i j a b c d=>?_) (fun p' k' q' s hs Sg a b c rl hl=>?_) s hs
 . have:i=k:=by omega
   have:j=k:=by omega
   subst_vars
   exact w.irr _
 . by_cases h0:q'>0
   . simp only [if_pos h0]
     have JM:k'<=p'.size:=by rw [Sg.sz];omega
     refine GK w ha (B7 Sg _ _) (by omega) (by omega) (fun i j vX hj=>?_) hq s hs
     rw [j3 JM,j3 JM]
     by_cases hi:k' - (q'+1)<=i/\i<k'
     . rw [if_pos hi,if_pos (by omega)];exact hl _ _ (by omega) (by omega) (by omega) (by omega)
     . rw [if_neg hi]
       by_cases Ol:k' - (q'+1)<=j/\j<k'
       . rw [if_pos Ol];exact rl _ _ (by omega) (by omega)
       . rw [if_neg Ol];exact rl _ _ vX (by omega)
   . simp only [if_neg h0]
     exact GK w ha Sg (by omega) (by omega) rl hq s hs
theorem PO (hn:1<=n) (hp:Ix n p) (hq:∀m p' s,S s->Ix n p'->1<=m->m<=n->Up lt p' m->Q (m,p') s) (s:AM) (hs:S s):(kas_count n p).kasWp cmp Q s:=by
 unfold kas_count
 rw [AaC]
 refine J7 w ha hp (n - 1) 1 (BN _) (by omega) (fun i j _ _=>by omega) (fun m s hs a b hu hc=>?_) s hs
 by_cases hm:(m==n)=true
 . simp only [if_pos hm];exact hq m p s hs hp a (by have:=beq_iff_eq.mp hm;omega) hu
 . simp only [if_neg hm]
   have F4:m≠n:=fun z=>hm (beq_iff_eq.mpr z)
   have gP:m<n:=by omega
   have xt:lt (p.getD m 0) (p.getD (m - 1) 0)=true:=by
    rcases hc with hc|hc
    . omega
    . exact hc.2
   by_cases h1:m>1
   . simp only [if_pos h1]
     refine ha _ _ _ _ (hp.low (by omega)) (hp.low (by omega)) hs fun s2 Cz=>?_
     cases e:lt (p.getD 0 0) (p.getD (m - 1) 0) with
     |true=>simp only [if_true];exact hq m p s2 Cz hp a (by omega) hu
     |false=>
      simp only [IF,if_false]
      have hk:m<=p.size:=by rw [hp.sz];omega
      have al:∀i j,i<m->j<m->lt (p.getD i 0) (p.getD j 0)=false:=fun i j hi hj=>by
       have h1:lt (p.getD i 0) (p.getD 0 0)=false:=by
        by_cases h:i=0
        . rw [h];exact w.irr _
        . exact hu 0 i (by omega) hi
       have h2:lt (p.getD i 0) (p.getD (m - 1) 0)=false:=w.Sj _ _ _ h1 e
       by_cases h:j=m - 1
       . rw [h];exact h2
       . exact w.Sj _ _ _ h2 (hu j (m - 1) (by omega) (by omega))
      refine zf w ha (B7 hp _ _) a (by omega) (fun i j vX hj=>?_) hq s2 Cz
      rw [j3 hk,j3 hk,if_pos (by omega)]
      by_cases hjm:j<m
      . rw [if_pos (by omega)];exact al _ _ (by omega) (by omega)
      . rw [if_neg (by omega)]
        have:j=m:=by omega
        subst this
        exact w.Sj _ _ _ (al _ (j - 1) (by omega) (by omega)) (w.asy _ _ xt)
   . simp only [if_neg h1]
     refine zf w ha hp a (by omega) (fun i j vX hj=>?_) hq s hs
     have h1:m=1:=by omega
     have hi:i=m - 1:=by omega
     have hj:j=m:=by omega
     rw [hi,hj]
     exact w.asy _ _ xt
theorem Cv {p:Array Nat} {k:Nat} (hp:Ix n p) (hk:k<n) (hu:Up lt p k) {Q:Nat->AM->Prop}:∀(f l r:Nat),l<=r->r<=k->r - l<=f->(∀i,i<l->lt (p.getD k 0) (p.getD i 0)=false)->(∀i,r<=i->i<k->lt (p.getD k 0) (p.getD i 0)=true)->
 (∀l s,S s->l<=k->(∀i,i<l->lt (p.getD k 0) (p.getD i 0)=false)->(∀i,l<=i->i<k->lt (p.getD k 0) (p.getD i 0)=true)->Q l s)->∀s,S s->(kas_place p k f l r).kasWp cmp Q s
 |0,l,r,hlr,hr,hf,h1,h2,hq,s,hs=>hq l s hs (by omega) h1 (fun i a b=>h2 i (by omega) b)
 |f+1,l,r,hlr,hr,hf,h1,h2,hq,s,hs=>by
  unfold kas_place
  by_cases h:l≥r
  . rw [if_pos h];exact hq l s hs (by omega) h1 (fun i a b=>h2 i (by omega) b)
  . rw [if_neg h]
    refine ha _ _ _ _ (hp.low hk) (hp.low (by omega)) hs fun s' HU=>?_
    cases e:lt (p.getD k 0) (p.getD ((l+r) / 2) 0) with
    |true=>
     simp only [if_true]
     refine Cv hp hk hu f l ((l+r) / 2) (by omega) (by omega) (by omega) h1 (fun i a b=>?_) hq s' HU
     by_cases hi:i=(l+r) / 2
     . rw [hi];exact e
     . cases e3:lt (p.getD k 0) (p.getD i 0) with
       |true=>rfl
       |false=>rw [w.Sj _ _ _ e3 (hu ((l+r) / 2) i (by omega) b)] at e;exact e
    |false=>
     simp only [IF,if_false]
     refine Cv hp hk hu f ((l+r) / 2+1) r (by omega) (by omega) (by omega) (fun i a=>?_) h2 hq s' HU
     by_cases hi:i=(l+r) / 2
     . rw [hi];exact e
     . exact w.Sj _ _ _ e (hu i ((l+r) / 2) (by omega) (by omega))
theorem Qg {Q:Array Nat->AM->Prop}:∀(f:Nat) (p:Array Nat) (k:Nat),Ix n p->k+f=n->Up lt p k->(∀p' s,S s->Ix n p'->Up lt p' n->Q p' s)->∀s,S s->(kas_bin f p k).kasWp cmp Q s
 |0,p,k,hp,hf,hu,hq,s,hs=>by
  have:k=n:=by omega
  subst this
  exact hq p s hs hp hu
 |f+1,p,k,hp,hf,hu,hq,s,hs=>by
  unfold kas_bin
  rw [AaC]
  refine Cv w ha hp (by omega) hu k 0 k (by omega) (BN _) (by omega) (fun i h=>by omega) (fun i a b=>by omega) (fun l s hs hl h1 h2=>?_) s hs
  have hk:k<p.size:=by rw [hp.sz];omega
  refine Qg f _ (k+1) (hp.perm (bubble_perm _ _ _)) (by omega) (fun i j vX hj=>?_) hq s hs
  rw [HV hk (by omega),HV hk (by omega)]
  have el:k - (k - l)=l:=by omega
  rw [el]
  by_cases hjl:j=l
  . rw [if_pos hjl,if_neg (by omega),if_neg (by omega)];exact h1 i (by omega)
  . rw [if_neg hjl]
    by_cases Rf:i=l
    . rw [if_pos Rf,if_pos (by omega)];exact w.asy _ _ (h2 _ (by omega) (by omega))
    . rw [if_neg Rf]
      by_cases J1:l<i/\i<=k
      . rw [if_pos J1,if_pos (by omega)];exact hu _ _ (by omega) (by omega)
      . rw [if_neg J1]
        by_cases Ol:l<j/\j<=k
        . rw [if_pos Ol];exact hu _ _ (by omega) (by omega)
        . rw [if_neg Ol];exact hu _ _ vX (by omega)
theorem Kg {Q:Array Nat->AM->Prop} (hn:1<=n) (hq:∀p' s,S s->Ix n p'->Up lt p' n->Q p' s) (s:AM) (hs:S s):(kas_sort n).kasWp cmp Q s:=by
 unfold kas_sort
 rw [AaC]
 refine PO w ha hn ⟨by simp,by simp⟩ (fun m p' s hs hp h1 hm hu=>?_) s hs
 by_cases h:m<n
 . simp only [if_pos h]
   have:max m 1=m:=by omega
   rw [this]
   exact Qg w ha _ p' m hp (by omega) hu hq s hs
 . simp only [if_neg h]
   have:m=n:=by omega
   subst this
   exact hq p' s hs hp hu
end
section
variable {H:Hp} {a:Addr}
theorem Inv.Fs {f:Obj->Obj} (I:Inv X pins σ H s) (fa:iI X pins H a):Inv X pins σ H {s with heap:=s.heap.update a f}:=
 I.turned (t':=s.toks) (fun b o hb e=>by rw [Abr _ _ _ _ hb];exact e) fa.1 fa.2.1 fa.2.2.2.1 fa.2.2.2.2.1 fa.2.2.2.2.2
theorem Inv.zg {o:Obj} (I:Inv X pins σ H s):Inv X pins σ H {s with heap:=s.heap.push o}:=I.kept (t':=s.toks) fun b u e=>BY _ e
theorem iI.keep (fa:iI X pins H a) (h:H' a=none):iI X pins H' a:=⟨h,fa.2⟩
theorem Inv.Qe {acc:List V} {aZ:List Value} {n:Nat} (I:Inv X pins σ H s) (fa:iI X pins H a) (F2:X.jk.heap.objs.size<=a) (hl:acc.length<=EM) (r:Vals acc aZ) (hd:s.heap.get? a=some {cls:=.type "list",data:=.seq aZ.toArray n}):
 Inv X pins σ (upd H a (.lst acc)) s:=by
 have ne:∀b u,H b=some u->b≠a:=fun b u e=>aA e fa.1
 have old:∀b o,X.jk.heap.get? b=some o->b≠a:=fun b o e=>ET (DD (Db e) F2)
 have U:=I.base
 refine⟨I.ok,I.os,I.bare,⟨U.keep,U.slot,fun b o e n hx=>?_,U.there,fun b xs e=>?_,fun b o u e=>?_,fun b ps e=>?_⟩,I.loc,I.cell,?_,fun x c e=>?_,fun p hp=>?_,fun b u e=>?_,I.len⟩
 . rw [az (old b o e)];exact U.free b o e n hx
 . rw [az (ne b _ (U.wW b xs e))];exact U.wW b xs e
 . rw [az (ne b _ (U.uk b o u e))];exact U.uk b o u e
 . obtain⟨more,q⟩:=U.zM b ps e
   exact⟨more,by rw [az (ne b _ q)];exact q⟩
 . rw [az (Me fa.2.1)];exact I.free
 . rw [az (fa.2.2.2.2.1 x c e)];exact I.mY x c e
 . obtain⟨e1,e2,e3⟩:=I.pin p hp
   exact⟨e1,by rw [az (fa.2.2.2.2.2 p hp)];exact e2,e3⟩
 . by_cases hb:b=a
   . subst hb
     rw [av] at e
     cases e
     exact⟨hl,aZ,n,r,hd⟩
   . rw [az hb] at e
     exact(I.bb b u e).qW (fun c v _ q=>q) (fun c q=>by rw [az (ne c _ q)];exact q) fun c xs q=>by rw [az (ne c _ q)];exact q
end
def D0 (a b:Str):Bool:=decide (a.cps.toList<b.cps.toList)
def aW (a b:Int × Str):Bool:=decide (a.1<b.1)||(decide (a.1=b.1)&&D0 a.2 b.2)
theorem FW (a:Str):D0 a a=false:=decide_eq_false (List.lt_irrefl _)
theorem TF {a b:Str} (h:D0 a b=true):D0 b a=false:=decide_eq_false (List.lt_asymm (of_decide_eq_true h))
theorem Kf {a b c:Str} (h:D0 a b=false) (h2:D0 b c=false):D0 a c=false:=by
 unfold D0 at*
 have Sd:b.cps.toList<=a.cps.toList:=AbR.mp (of_decide_eq_false h)
 have ZA:c.cps.toList<=b.cps.toList:=AbR.mp (of_decide_eq_false h2)
 exact decide_eq_false (AbR.mpr (List.le_trans ZA Sd))
theorem TV {a b:Str} (h:a.cps.toList=b.cps.toList):a=b:=by
 cases a;cases b
 simp only at h
 rw [Array.toList_inj.mp h]
theorem FX {a b:Str} (h:D0 a b=false) (h2:D0 b a=false):a=b:=by
 unfold D0 at*
 have Sd:b.cps.toList<=a.cps.toList:=AbR.mp (of_decide_eq_false h)
 have ZA:a.cps.toList<=b.cps.toList:=AbR.mp (of_decide_eq_false h2)
 exact TV (List.le_antisymm ZA Sd)
theorem GV {a b:Int × Str}:aW a b=true↔a.1<b.1\/(a.1=b.1/\D0 a.2 b.2=true):=by
 unfold aW;simp
theorem fT {a b:Int × Str}:aW a b=false↔¬a.1<b.1/\(a.1=b.1->D0 a.2 b.2=false):=by
 unfold aW;simp
theorem gI (a:Int × Str):aW a a=false:=fT.mpr ⟨by omega,fun _=>FW _⟩
theorem Bj {a b:Int × Str} (h:aW a b=true):aW b a=false:=by
 rcases GV.mp h with h|⟨h,h2⟩
 . exact fT.mpr ⟨by omega,fun _=>by omega⟩
 . exact fT.mpr ⟨by omega,fun _=>TF h2⟩
theorem BE {a b c:Int × Str} (h:aW a b=false) (h2:aW b c=false):aW a c=false:=by
 obtain⟨h1,h3⟩:=fT.mp h
 obtain⟨h4,h5⟩:=fT.mp h2
 refine fT.mpr ⟨by omega,fun e=>?_⟩
 exact Kf (h3 (by omega)) (h5 (by omega))
theorem Gk {a b:Int × Str} (h:aW a b=false) (h2:aW b a=false):a=b:=by
 obtain⟨h1,h3⟩:=fT.mp h
 obtain⟨h4,h5⟩:=fT.mp h2
 have e:a.1=b.1:=by omega
 exact Ab3 e (FX (h3 e) (h5 e.symm))
section
variable {prog:Fk} {w:World}
theorem T2 {x y:Addr} {i j:Int} {t u t2 u2:Tok} {c d:Str} {Q:Bool->AM->Prop} (hx:IsTup s.heap x #[.int i t,.str c t2]) (hy:IsTup s.heap y #[.int j u,.str d u2]) (h:Q (aW (i,c) (j,d)) s):
 wpAny (model prog w) A (keyLt' (tuples' true) (.ref x) (.ref y)) Q E s:=by
 obtain⟨ox,hox,cx,nx,dx⟩:=hx
 obtain⟨oy,hoy,cy,ny,dy⟩:=hy
 refine kat_lt hox dx hoy dy ?_
 refine kat_cons (Aal ?_)
 by_cases e:i=j
 . rw [show(i==j)=true from beq_iff_eq.mpr e]
   refine kat_yes (kat_cons (wpAny_eqBool_str ?_))
   by_cases e2:c=d
   . rw [decide_eq_true e2]
     refine kat_yes (kat_nil ?_)
     have:aW (i,c) (j,d)=false:=by rw [e,e2];exact gI _
     rw [this] at h
     exact h
   . rw [decide_eq_false e2]
     refine kat_no (kat_one _ _ (lt_str ?_))
     have:aW (i,c) (j,d)=D0 c d:=by unfold aW;simp [e]
     rw [this] at h
     exact h
 . rw [show(i==j)=false from beq_eq_false_iff_ne.mpr e]
   refine kat_no (oneLt_int ?_)
   have:aW (i,c) (j,d)=decide (i<j):=by unfold aW;simp [e]
   rw [this] at h
   exact h
end
def JI (sp:Sp) (kf:V->Int × Str) (H:Hp) (xs:List V):Prop:=∀v∈xs,∀H',ay H H'->sp [v] H' (fun y H2=>ay H' H2/\Dv H2 y (.tuple [.int (kf v).1,.str (kf v).2])) E0
def EL {α:Type} (lt:α->α->Bool) (kf:V->α) (ys xs:List V):Prop:=ys.Perm xs/\ys.Pairwise fun x y=>lt (kf y) (kf x)=false
section
variable {H:Hp} {k:Nat} {fd:Cs}
theorem Uc {v:V} {u:Value} {pl:List (Addr × Obj)} (F:aP X.prog X.w X.K X.mg X.base eG k f fd ps sp) (hb:Binds X.K fd ps []) (hr:cO (k+2) X.A) (I:Inv X pl σ H' s') (r:RelV v u) (hs:sp [v] H' (fun y H2=>ay H' H2/\Dv H2 y (.tuple [.int (kf v).1,.str (kf v).2])) E0):
 wpAny (model X.prog X.w) X.A.in1.in1 (call (.ref f) [u]) (EP X pl σ fun y H2=>ay H' H2/\Dv H2 y (.tuple [.int (kf v).1,.str (kf v).2])) (fun _ _=>False) s':=by
 have r2:Vals [v] [u]:=.cons r .nil
 have hl:([u]++[]).length=ps.length:=by have:=F.len _ _ _ _ hs;simpa using this
 have xK:=hb s' [u] I.vS hl
 refine wpAny_call (Abv (F.run X.A.in1.in1 X.stack s' H' ⟨[u],[]⟩ [u] [v] _ E0 (cO.in1 (cO.in1 hr)) (I.WW.in1.in1) (by simpa using xK) r2 hs) fun r s2 hq=>?_)
 cases r with
 |error e=>exact hq.elim
 |ok fl=>
  cases fl with
  |ret u=>exact I.after hq
  |next=>exact RI hq
  |brk=>exact RI hq
  |cont=>exact RI hq
structure Z5 (X:Cx) (pins:List (Addr × Obj)) (σ:St) (H:Hp) (kf:V->Int × Str) (a kS:Addr) (oa:Obj) (xs:List V) (s':AM):Prop where
 mk::
 ex:∃H' us e ys,Inv X pins σ H' s'/\ay H H'/\H' a=none/\H' kS=none/\s'.heap.get? a=some oa/\s'.heap.get? kS=some (MW "list" (ID us) e)/\Vals ys us/\dB H' ys (xs.map fun v=>.tuple [.int (kf v).1,.str (kf v).2])
theorem Dr {kS:Addr} {oa:Obj} {body:Value->PUnit->Sem (ForInStep PUnit)} {E:Value->AM->Prop} (F:aP X.prog X.w X.K X.mg X.base eG k f fd ps sp) (hb:Binds X.K fd ps []) (hr:cO (k+2) X.A) (hoa:∀v,oa.data≠.cell v)
 (DV:∀x (s':AM) (R:AM->Prop),wpAny (model X.prog X.w) X.A.in1.in1 (call (.ref f) [x]) (fun k s2=>∃us e,s2.heap.get? kS=some (MW "list" (ID us) e)/\us.length<64/\R {s2 with heap:=s2.heap.update kS (LH (·.push k))}) (fun _ _=>False) s'->
  wpAny (model X.prog X.w) X.A.in1.in1 (body x ⟨⟩) (fun r s2=>r=.yield ⟨⟩/\R s2) E s')
 (fa:iI X pins H a) (fk:iI X pins H kS) (Sr:a≠kS):∀(rx:List V) (r:List Value) (xs:List V) (s':AM),Vals rx r->JI sp kf H rx->xs.length+rx.length<64->Z5 X pins σ H kf a kS oa xs s'->
  wpAny (model X.prog X.w) X.A.in1.in1 (forIn r PUnit.unit body) (fun _ s2=>Z5 X pins σ H kf a kS oa (xs++rx) s2) E s'
 |[],_,xs,s',hv,_,_,hK=>by
  cases hv
  rw [List.forIn_nil,NG]
  exact GS hK
 |v::rx,_,xs,s',.cons (b:=u) (l₂:=r) hu hv,hkr,hlen,⟨H',us,e,ys,I,sm,ha,hk,oaE,okE,rv,dv⟩=>by
  rw [List.forIn_cons]
  have fa':=fa.keep (H':=H') ha
  have fk':=fk.keep (H':=H') hk
  have I':Inv X (pins++[(a,oa),(kS,MW "list" (ID us) e)]) σ H' s':=by
   refine I.t8 fun p hp=>?_
   rcases Co.mp hp with hp|hp
   . exact I.pin p (CC _ hp)
   . rcases AD.mp hp with rfl|hp
     . exact⟨oaE,ha,fa.2.1,fa.2.2.1,hoa⟩
     . have:p=(kS,MW "list" (ID us) e):=by simpa using hp
       subst this
       exact⟨okE,hk,fk.2.1,fk.2.2.1,fun v z=>by cases z⟩
  have Wz:us.length=xs.length:=by rw [<-rv.length,dv.length,AE]
  refine BS (Pc (DV u s' (fun s2=>Z5 X pins σ H kf a kS oa (xs++[v]) s2) (Pc (Uc F hb hr I' hu (hkr v BC H' sm)) (fun kv s2 hq=>?_) fun _ _ z=>z)) (fun q s2 hq=>?_) fun _ _ z=>z)
  . obtain⟨y,H2,I2,ry,jK,dy⟩:=hq
    have p1:=I2.pin (a,oa) (CC _ (CC _ BC))
    have p2:=I2.pin (kS,MW "list" (ID us) e) (CC _ (CC _ (AL _ BC)))
    have I3:Inv X pins σ H2 s2:=I2.xi
    refine⟨us,e,p2.1,by simp at hlen;omega,?_⟩
    obtain⟨c,hc⟩:∃c,(s2.heap.update kS (LH (·.push kv))).get? kS=some (MW "list" (ID (us++[kv])) c):=by
     have ea:(ID us).push kv=ID (us++[kv]):=by simp
     rw [<-ea]
     exact⟨_,Aaa p2.1 (·.push kv)⟩
    refine⟨H2,us++[kv],c,ys++[y],I3.Fs (fk.keep p2.2.1),sm.trans jK,p1.2.1,p2.2.1,?_,hc,rv.append (.cons ry .nil),?_⟩
    . show(s2.heap.update kS _).get? a=some oa
      rw [Abr _ _ _ _ Sr];exact p1.1
    . rw [CS]
      exact(dv.keeps jK).append (.cons dy .nil)
  . obtain⟨rfl,hq⟩:=hq
    have:=Dr F hb hr hoa DV fa fk Sr rx r (xs++[v]) s2 hv (fun z hz=>hkr z (AL _ hz)) (by simp at hlen ⊢;omega) hq
    rw [Os] at this
    exact this
theorem Gd {α:Type} {lt:α->α->Bool} {kf:V->α} (hp:Ix xs.length p) (hu:Up (fun i j=>lt (kf (xs.getD i .aQ)) (kf (xs.getD j .aQ))) p xs.length):EL lt kf (p.toList.map fun i=>xs.getD i .aQ) xs:=by
 refine⟨?_,?_⟩
 . have h:=hp.pm.map fun i=>xs.getD i .aQ
   have e:(AbF xs.length).map (fun i=>xs.getD i .aQ)=xs:=by
    refine AaQ fun i=>?_
    rw [Fa]
    by_cases hi:i<xs.length
    . rw [List.getElem?_range hi];simp [hi]
    . rw [Ps (by simpa using hi),Ps (by simpa using hi)];rfl
   rw [e] at h
   exact h
 . rw [Nl,NJ]
   intro i j hi hj vX
   have hsz:p.toList.length=xs.length:=by simp [hp.sz]
   have:=hu i j vX (by omega)
   have gi:p.getD i 0=p.toList[i]:=by simp [Array.getD,show i<p.size by rw [hp.sz];omega]
   have gj:p.getD j 0=p.toList[j]:=by simp [Array.getD,show j<p.size by rw [hp.sz];omega]
   rw [gi,gj] at this
   exact this
theorem tZ:∀{xs:List V} {us:List Value} (i:Nat),Vals xs us->RelV (xs.getD i .aQ) (us.getD i Of)
 |_,_,_,.nil=>rfl
 |_,_,0,.cons r _=>r
 |_,_,i+1,.cons _ t=>by simpa using tZ i t
theorem yt {xs:List V} {us:List Value} (r:Vals xs us):∀l:List Nat,Vals (l.map fun i=>xs.getD i .aQ) (l.map fun i=>us.getD i Of)
 |[]=>.nil
 |i::l=>.cons (tZ i r) (yt r l)
theorem Bn {H:Hp} {g:V->BB}:∀{ys:List V} {xs:List V} {i:Nat},dB H ys (xs.map g)->i<xs.length->Dv H (ys.getD i .aQ) (g (xs.getD i .aQ))
 |_,[],_,_,h=>by simp at h
 |_,_::_,0,.cons h _,_=>h
 |_,_::_,i+1,.cons _ t,hi=>by simpa using Bn (i:=i) t (by simpa using hi)
def wD (X:Cx) (pins:List (Addr × Obj)) (σ:St) (H:Hp) {α:Type} (lt:α->α->Bool) (kf:V->α) (xs:List V) (Q:VK):Prop:=
 ∀a ys H',ay H H'->H a=none->H' a=none->EL lt kf ys xs->Q (.ref a) (upd H' a (.lst ys))
theorem DQ {ys:List V} {us:List Value} (I:Inv X pins σ H' s') (rv:Vals ys us) (dv:dB H' ys (xs.map fun v=>.tuple [.int (kf v).1,.str (kf v).2])):
 U4 xs.length (fun i j=>aW (kf (xs.getD i .aQ)) (kf (xs.getD j .aQ))) (fun z=>z=s') (kas_ask X.prog X.w A (tuples' true) us):=by
 intro i j C z hi hj hz hC
 subst hz
 have one:∀i,i<xs.length->∃x t t2,us.getD i Of=.ref x/\IsTup z.heap x #[.int (kf (xs.getD i .aQ)).1 t,.str (kf (xs.getD i .aQ)).2 t2]:=fun i hi=>by
  have d:=Bn dv hi
  have r:=tZ i rv
  generalize ys.getD i .aQ=y at d r
  generalize us.getD i Of=u at r
  cases d with
  |tup h q=>
   have r':u=.ref _:=r
   obtain⟨aZ,rr,tt,_⟩:=I.tuple (.of h)
   cases q with
   |cons h1 q=>
    cases q with
    |cons h2 q=>
     cases q
     cases h1;cases h2
     cases rr with
     |cons r1 rr=>
      cases rr with
      |cons r2 rr=>
       cases rr
       obtain⟨t1,rfl⟩:=r1
       obtain⟨t2,rfl⟩:=r2
       exact⟨_,t1,t2,r',tt⟩
 obtain⟨x,t,t2,e1,hx⟩:=one i hi
 obtain⟨y,u,u2,e2,hy⟩:=one j hj
 show wpAny (model X.prog X.w) A (keyLt' (tuples' true) (us.getD i Of) (us.getD j Of)) C (fun _ _=>False) z
 rw [e1,e2]
 exact T2 hx hy (hC _ rfl)
theorem uZ {H':Hp} {s':AM}:∀{xs ys:List V} {us:List Value},Inv X pins σ H' s'->Vals ys us->dB H' ys (xs.map fun v=>.tuple [.int (kf v).1,.str (kf v).2])->
 ∃fs,KatTups s'.heap us fs/\fs.length=us.length/\∀v∈fs,Looks (model X.prog X.w) s'.heap (typeOf v) (.type "int")
 |[],_,_,I,rv,dv=>by
  cases dv
  cases rv
  exact⟨[],trivial,rfl,fun _ z=>nomatch z⟩
 |x::xs,_,_,I,rv,dv=>by
  cases dv with
  |cons d dv=>
   cases rv with
   |cons r rv=>
    obtain⟨fs,h1,h2,h3⟩:=uZ I rv dv
    cases d with
    |tup h q=>
     obtain⟨aZ,rr,tt,_⟩:=I.tuple (.of h)
     cases q with
     |cons q1 q=>
      cases q with
      |cons q2 q=>
       cases q
       cases q1;cases q2
       cases rr with
       |cons r1 rr=>
        cases rr with
        |cons r2 rr=>
         cases rr
         obtain⟨t1,rfl⟩:=r1
         obtain⟨t2,rfl⟩:=r2
         cases r
         obtain⟨o,ho,hc,n,hd⟩:=tt
         refine⟨_::fs,KatTups.cons ho hc hd rfl h1,by simp [h2],fun v hv=>?_⟩
         rcases AD.mp hv with rfl|hv
         . exact .now
         . exact h3 v hv
end
section
variable {H:Hp} {k:Nat} {fd:Cs}
theorem DW {a kS:Addr} {e e1:Nat} {us out:List Value} {ys:List V} {st:SortSt} (I:Inv X pins σ H' s') (fa:iI X pins H' a) (fk:iI X pins H' kS) (Sr:a≠kS) (F2:X.jk.heap.objs.size<=a) (oa:s'.heap.get? a=some (MW "list" #[] e1)) (ok:s'.heap.get? kS=some (MW "list" (ID us) e)) (hz:us.length<64) (X2:(arrOf st).map (·.2)=ID out) (ho:out.length<64) (hf:failedOf st=none) (rv:Vals ys out) (h:∀s2,Inv X pins σ (upd H' a (.lst ys)) s2->P (.done (.ret .none)) s2):wpAny (model X.prog X.w) A (ksk_tail a false e1 (.ref kS) st) P E s':=by
 have V1:(64:Nat)<=EM:=by decide
 unfold ksk_tail
 dsimp only
 rw [X2]
 refine BS (Aaf ok rfl ?_ (by rw [Cn];omega) (KF _))
 refine BS (wpAny_letGo ?_)
 have oa1:(s'.heap.update kS (LH fun _=>(#[]:Array Value))).get? a=some (MW "list" #[] e1):=by rw [Abr _ _ _ _ Sr];exact oa
 have I1:Inv X pins σ H' {s' with heap:=s'.heap.update kS (LH fun _=>(#[]:Array Value))}:=I.Fs fk
 refine BS (AbS oa1 rfl ?_)
 refine BS (Aaf oa1 rfl ?_ (KF _) (by show(ID out).size<=_;rw [Cn];omega))
 rw [hf]
 simp only [bne_self_eq_false,IF,if_false]
 refine GS (h _ ?_)
 have I2:=I1.Fs (f:=LH fun _=>ID out) fa
 exact I2.Qe fa F2 (by rw [rv.length];omega) rv (Aaa oa1 fun _=>ID out)
theorem QN {a kS:Addr} {e e1:Nat} {us vs:List Value} {ys:List V} {Q:VK} (sm:ay H H') (hHa:H a=none) (I:Inv X pins σ H' s') (fa:iI X pins H' a) (fk:iI X pins H' kS) (Sr:a≠kS) (F2:X.jk.heap.objs.size<=a) (oa:s'.heap.get? a=some (MW "list" #[] e1)) (ok:s'.heap.get? kS=some (MW "list" (ID us) e)) (h64:xs.length<64) (rx:Vals xs vs) (ry:Vals ys us) (dv:dB H' ys (xs.map fun v=>.tuple [.int (kf v).1,.str (kf v).2])) (fin:wD X pins σ H aW kf xs Q) (h:∀s2,EP X pins σ Q (.ref a) s2->P (.done (.ret .none)) s2):wpAny (model X.prog X.w) A (ksk_end a false vs.toArray e1 (.ref kS) (ID us)) P E s':=by
 have lx:=rx.length
 have ly:=ry.length
 have ld:=dv.length
 rw [AE] at ld
 unfold ksk_end
 simp only [IF,if_false]
 by_cases h2:vs.toArray.size<2
 . rw [if_pos h2,if_pos h2]
   refine BS (GS ?_)
   rw [StateT.run_pure]
   refine BS (GS ?_)
   refine DW (out:=vs) (ys:=xs) I fa fk Sr F2 oa ok (by omega) ?_ (by omega) rfl rx (fun s2 I2=>h s2 ⟨.ref a,_,I2,rfl,fin a xs H' sm hHa fa.1 ⟨AbC _,?_⟩⟩)
   . show((ID us).zip vs.toArray).map (·.2)=ID vs
     apply Array.toList_inj.mp
     have:us.length=vs.length:=by omega
     simp [List.map_snd_zip,this]
   . rw [Cn] at h2
     match xs,lx with
     |[],_=>exact .nil
     |[_],_=>exact List.pairwise_singleton _ _
     |_::_::_,lx=>simp at lx;omega
 . rw [if_neg h2,if_neg h2]
   rw [Cn] at h2
   obtain⟨fs,k1,k2,k3⟩:=uZ I ry dv
   refine BS (kat_kind k1 (by omega) k3 (by decide) ?_)
   have CD:us.length=vs.length:=by omega
   refine BS (Pc (kat_run (Q:=fun C3 s2=>s2=s'/\∃p:Array Nat,Ix xs.length p/\arrOf C3=p.map (kas_item ((ID us).zip (ID vs)))/\failedOf C3=none/\Up (fun i j=>aW (kf (xs.getD i .aQ)) (kf (xs.getD j .aQ))) p xs.length)
    (G:=fun p s2=>s2=s'/\Ix xs.length p/\Up (fun i j=>aW (kf (xs.getD i .aQ)) (kf (xs.getD j .aQ))) p xs.length) CD (by omega) (by omega) (fun p C3 s2 a1 a2 a3 ⟨a4,a5,a6⟩=>⟨a4,p,a5,a2,a3,a6⟩) ?_) ?_ fun _ _ z=>z)
   . rw [show vs.length=xs.length by omega]
     refine Kg (lt:=fun i j=>aW (kf (xs.getD i .aQ)) (kf (xs.getD j .aQ))) (S:=fun z=>z=s') ⟨fun _=>gI _,fun _ _=>Bj,fun _ _ _=>BE⟩ (DQ I ry dv) (by omega) (fun p s2 hs hp hu=>⟨hs,hp,hu⟩) s' rfl
   . rintro⟨⟨⟩,C3⟩ s2 ⟨rfl,p,hp,har,hf,hu⟩
     dsimp only
     refine DW (out:=p.toList.map fun i=>vs.getD i Of) (ys:=p.toList.map fun i=>xs.getD i .aQ) I fa fk Sr F2 oa ok (by omega) (kat_snds CD har) (by simp [hp.sz];omega) hf (yt rx _) (fun s3 I3=>h s3 ⟨.ref a,_,I3,rfl,fin a _ H' sm hHa fa.1 (Gd hp hu)⟩)
theorem Jd {l:Addr} {Q:VK} (I:Inv X pins σ H s) (hl:gD X.K H l xs) (h64:xs.length<64) (F:aP X.prog X.w X.K X.mg X.base eG k f fd ps sp) (hb:Binds X.K fd ps []) (hr:cO (k+2) X.A) (hk:JI sp kf H xs) (fin:wD X pins σ H aW kf xs Q):wpAny (model X.prog X.w) X.A (call (.builtin "sorted") [.ref l] [(Q4 "key",.ref f)]) (EP X pins σ Q) E s:=by
 have V1:(64:Nat)<=EM:=by decide
 obtain⟨vs,rv,p,hz⟩:=I.list hl
 have lx:=rv.length
 refine call_function_entry_kw kind_sorted plain_sorted entry_sorted (ksk_s1 _ _) ?_
 unfold YU.«sorted»
 refine BS (m:=checkCount "sorted" 1 1 _) (GS ?_)
 refine BS (collect_list p.isList ?_ (by omega))
 refine BS (Abe ?_ (by omega))
 have fp0:iI X pins H s.heap.objs.size:=I.xY (BN _) (I.bb.fresh (BN _))
 have I2:Inv X pins σ H {s with heap:=(s.heap.push (MW "list" #[] 0)).update s.heap.objs.size (LH (·++vs.toArray))}:=(I.zg (o:=MW "list" #[] 0)).Fs fp0
 have hsz:((s.heap.push (MW "list" #[] 0)).update s.heap.objs.size (LH (·++vs.toArray))).objs.size=s.heap.objs.size+1:=by rw [Heap.size_update,size_push']
 generalize hG:(s.heap.push (MW "list" #[] 0)).update s.heap.objs.size (LH (·++vs.toArray))=h2 at I2 hsz ⊢
 have J9:(h2.push (MW "list" vs.toArray 0)).get? h2.objs.size=some (MW "list" vs.toArray 0):=Ev _ rfl
 have I3:Inv X pins σ H {s with heap:=h2.push (MW "list" vs.toArray 0)}:=I2.zg
 have fa:iI X pins H h2.objs.size:=I2.xY (BN _) (I2.bb.fresh (BN _))
 have F2:X.jk.heap.objs.size<=h2.objs.size:=I2.sz
 show wpAny _ _ _ _ _ {s with heap:=h2.push (MW "list" vs.toArray 0)}
 generalize h2.objs.size=a at*
 refine BS (AaD (wpAny_call_entry_kw slot_list_sort ⟨_,J9,rfl⟩ entry_list_sort ?body (ksk_l1 _ _)))
 case body=>
  show wpAny (model X.prog X.w) X.A.in1.in1 (YU.«list.sort» ⟨[.ref a],[(Q4 "key",.ref f)]⟩) _ _ _
  rw [ksk_t1]
  generalize h2.push (MW "list" vs.toArray 0)=h3 at*
  unfold ksk_tree
  refine BS (listItems_at J9 rfl ?_)
  refine BS (Aaf J9 rfl ?_ (by rw [Cn];omega) (KF _))
  have I4:Inv X pins σ H {s with heap:=h3.update a (LH fun _=>(#[]:Array Value))}:=I3.Fs fa
  obtain⟨e1,oa⟩:∃e1,(h3.update a (LH fun _=>(#[]:Array Value))).get? a=some (MW "list" #[] e1):=⟨_,Aaa J9 fun _=>#[]⟩
  generalize h3.update a (LH fun _=>(#[]:Array Value))=h4 at*
  refine BS (AbS oa rfl ?_)
  refine BS (wpAny_newTuple ?_ (by show vs.length<=_;omega))
  have I5:Inv X pins σ H {s with heap:=h4.push (MW "tuple" vs.toArray 0)}:=I4.zg
  have oa5:(h4.push (MW "tuple" vs.toArray 0)).get? a=some (MW "list" #[] e1):=BY _ oa
  show wpAny _ _ _ _ _ {s with heap:=h4.push (MW "tuple" vs.toArray 0)}
  generalize h4.push (MW "tuple" vs.toArray 0)=h5 at*
  refine BS (Abe ?_ (KF _))
  have I6:Inv X pins σ H {s with heap:=h5.push (MW "list" #[] 0)}:=I5.zg
  have fk:iI X pins H h5.objs.size:=I5.xY (BN _) (I5.bb.fresh (BN _))
  have VI:(h5.push (MW "list" #[] 0)).get? a=some (MW "list" #[] e1):=BY _ oa5
  have ok6:(h5.push (MW "list" #[] 0)).get? h5.objs.size=some (MW "list" #[] 0):=Ev _ rfl
  have Sr:a≠h5.objs.size:=ET (Db oa5)
  show wpAny _ _ _ _ _ {s with heap:=h5.push (MW "list" #[] 0)}
  show wpAny _ _ (Abl [_,.ref h5.objs.size] (ksk_rest a (.ref f) false vs.toArray e1 (.ref h5.objs.size))) _ _ _
  generalize h5.objs.size=kS at*
  generalize h5.push (MW "list" #[] 0)=h6 at*
  refine AaD ?_
  unfold ksk_rest
  refine BS (wpAny_rule ?_)
  first
   |rw [List.forIn_toArray]
   |(rw [<-Array.forIn_toList];simp only [List.toList_toArray])
  refine BS (Pc (Dr (kf:=kf) F hb hr (oa:=MW "list" #[] e1) (fun v z=>by cases z) (fun x s' R hx=>?_) fa fk Sr xs vs [] {s with heap:=h6} rv hk (by simpa using h64) ⟨H,[],0,[],I6,ay.refl _,fa.1,fk.1,VI,ok6,.nil,.nil⟩) (fun _ s7 hK=>?_) fun _ _ z=>z)
  . refine BS (wpAny_attempt (Pc hx (fun kv s2 hq=>?_) fun _ _ z=>z.elim))
    obtain⟨us,e,ok,gP,hR⟩:=hq
    dsimp only
    refine BS (Aaf ok rfl ?_ (by rw [Cn];omega) (by rw [Array.size_push,Cn];omega))
    exact GS ⟨rfl,hR⟩
  . obtain⟨H',us,e,ys,I7,sm,ha7,Ya,oa7,ok7,ry,dv⟩:=hK
    try dsimp only
    refine BS (listItems_at ok7 rfl ?_)
    refine QN sm fa.1 I7 (fa.keep ha7) (fk.keep Ya) Sr F2 oa7 ok7 h64 rv ry (by simpa using dv) fin (fun s8 h8=>⟨_,rfl,GS ⟨_,rfl,h8⟩⟩)
end
def Pp (sp:Sp) (K:At) (vs:List V) (H:Hp) (Q:VK):Prop:=∃a xs kf,vs=[.ref a]/\gD K H a xs/\xs.length<64/\JI sp kf H xs/\∀l ys H',ay H H'->H l=none->H' l=none->EL aW kf ys xs->Q (.ref l) (upd H' l (.lst ys))
def Rn (K:At) (sp:Sp) (t:TA):TE:=fun σ H Q=>t σ H fun vs H1=>Pp sp K vs H1 Q
section
variable {k:Nat} {e:Expr} {t:TA} {x:Str} {p p2 pos TL:Pos}
theorem PX (c:df X.prog X.w X.K X.mg X.base k f ps [] sp) (hr:cO (k+2) X.A) (hg:Gl X "sorted") (hm:X.mg "sorted"=none) (hf:PE X (.Name x p2) (tC (.ref f))) (ha:PA X [e] t) (uh:SS pos (DO [e] X.env)=(false,eval e X.env)::SS pos (DO [] X.env):=by rfl) (vO:(SS pos (DO [e] X.env)).any (·.1)=false:=by rfl):PE X (.Call (.Name "sorted" p) [e] [⟨some "key",.Name x p2,TL⟩] pos) (Rn X.K sp t):=by
 intro pins s σ H Q I h
 obtain⟨fd,ds,F,hb,hd⟩:=c.ex
 cases hd
 refine Sk (u9 I hg hm boot_sorted ?_)
 refine callWith_kw (dC (ha pos pins s σ H _ I h) fun us s1 ⟨vs,H1,I1,r1,q1⟩=>?_) uh vO
 refine dC (Va hf W4 pos pins s1 σ H1 (fun zs H2=>zs=[.ref f]/\H2=H1) I1 ⟨rfl,rfl⟩) fun ws s2 ⟨zs,H2,I2,rz,q2,q3⟩=>?_
 subst q2;subst q3
 obtain⟨a,xs,kf,e1,hl,h64,hk,fin⟩:=q1
 subst e1
 obtain⟨u,rfl,ru⟩:=vals1 r1
 obtain⟨w',rfl,Gb⟩:=vals1 rz
 have e1:u=.ref a:=ru
 have e2:w'=.ref f:=Gb
 subst e1;subst e2
 exact Jd I2 hl h64 F hb hr hk (fun a ys H'=>fin a ys H')
end
end L2
namespace L2
open PySem PySem.Spec PyProof.Rows
variable {scope:Scope} {env:Env} {s:AM} {ifs:List Expr} {pos:Pos} {X:Cx} {pins:List (Addr × Obj)} {H:Hp} {cl:List (Str × Addr)} {fp:List Addr}
theorem A9 (h:∀x∈scope.names,x.2=.free->∃c,env.cells.lookup x.1=some c):
 ∃cl,closureFor scope env=pure cl/\(∀x c,cl.lookup x=some c->env.cells.lookup x=some c)/\∀x∈scope.names,x.2=.free->∃c,cl.lookup x.1=some c:=by
 have key:∀(l:List (Str × Ab8)) (acc:List (Str × Addr)),(∀x∈l,x.2=.free->∃c,env.cells.lookup x.1=some c)->(∀x c,acc.lookup x=some c->env.cells.lookup x=some c)->
  ∃cl,(forIn l acc (fun(x:Str × Ab8) (r:List (Str × Addr))=>(match x with
   |(name,kind)=>if (kind==WI)=true then (do let c <-cellOf env name;pure (Aab ((name,c)::r))) else pure (Aab r):Sem (ForInStep (List (Str × Addr))))):Sem _)=pure cl/\
   (∀x c,cl.lookup x=some c->env.cells.lookup x=some c)/\(∀x∈l,x.2=.free->∃c,cl.lookup x.1=some c)/\∀x,(∃c,acc.lookup x=some c)->∃c,cl.lookup x=some c:=by
  intro l
  induction l with
  |nil=>intro acc _ ha;exact⟨acc,rfl,ha,fun _ z=>(nomatch z),fun _ z=>z⟩
  |cons p r ih=>
   intro acc hl ha
   obtain⟨n,k⟩:=p
   rw [List.forIn_cons]
   by_cases hk:k=.free
   . subst hk
     obtain⟨c,hc⟩:=hl (n,.free) BC rfl
     have Dt:cellOf env n=pure c:=by unfold cellOf;rw [hc]
     obtain⟨cl,e,h1,h2,h3⟩:=ih ((n,c)::acc) (fun x hx=>hl x (AL _ hx)) (fun x d hd=>by
      rw [LP] at hd
      by_cases hx:x=n
      . subst hx;rw [beq_self_eq_true] at hd;cases hd;exact hc
      . rw [beq_eq_false_iff_ne.mpr hx] at hd;exact ha x d hd)
     refine⟨cl,?_,h1,fun x hx hf=>?_,fun x ⟨d,hd⟩=>h3 x ?_⟩
     . simp only [beq_self_eq_true,if_true,Dt]
       exact e
     . rcases AD.mp hx with rfl|hx
       . exact h3 n ⟨c,by rw [LP,beq_self_eq_true]⟩
       . exact h2 x hx hf
     . rw [LP]
       by_cases hx:x=n
       . subst hx;rw [beq_self_eq_true];exact⟨c,rfl⟩
       . rw [beq_eq_false_iff_ne.mpr hx];exact⟨d,hd⟩
   . obtain⟨cl,e,h1,h2,h3⟩:=ih acc (fun x hx=>hl x (AL _ hx)) ha
     refine⟨cl,?_,h1,fun x hx hf=>?_,h3⟩
     . have:(k==WI)=false:=by simpa using hk
       simp only [this,IF,if_false]
       exact e
     . rcases AD.mp hx with rfl|hx
       . exact absurd hf hk
       . exact h2 x hx hf
 obtain⟨cl,e,h1,h2,_⟩:=key scope.names [] h (fun _ _ z=>by simp at z)
 refine⟨cl,?_,h1,h2⟩
 unfold closureFor
 show(forIn scope.names [] _>>=fun cs=>pure cs)=_
 refine Eq.trans (congrArg (·>>=_) e) rfl
theorem pI {x:Str}:(Ab7 scope env).names.lookup x=(scope.names.lookup x).map fun k=>if (k==WI&&env.scope.kind==.function&&env.kindOf x==some .cell)=true then .cell else k:=by
 unfold Ab7
 show Zp x (List.map _ scope.names)=_
 generalize scope.names=l
 induction l with
 |nil=>rfl
 |cons p r ih=>
  obtain⟨n,k⟩:=p
  rw [EN]
  dsimp only
  by_cases hx:x=n
  . subst hx
    by_cases hc:(k==WI&&env.scope.kind==.function&&env.kindOf x==some .cell)=true
    . rw [if_pos hc,LP,LP,beq_self_eq_true];simp only [Aac,if_pos hc]
    . rw [if_neg hc,LP,LP,beq_self_eq_true];simp only [Aac,if_neg hc]
  . have hb:(x==n)=false:=beq_eq_false_iff_ne.mpr hx
    by_cases hc:(k==WI&&env.scope.kind==.function&&env.kindOf n==some .cell)=true
    . rw [if_pos hc,LP,LP,hb];exact ih
    . rw [if_neg hc,LP,LP,hb];exact ih
theorem Ab4 {α:Type} {x:Str} {k:α}:∀{l:List (Str × α)},l.lookup x=some k->(x,k)∈l
 |[],h=>by simp at h
 |(n,j)::r,h=>by
  rw [LP] at h
  by_cases hx:x=n
  . subst hx;rw [beq_self_eq_true] at h;cases h;exact BC
  . rw [beq_eq_false_iff_ne.mpr hx] at h;exact AL _ (Ab4 h)
def mJ (X:Cx) (N:List Str) (scope:Scope) (cl:List (Str × Addr)) (C:Addr) (s:AM) (H:Hp) (fp:List Addr):Cx:=
 {X with N:=N,jk:=s,IV:=H,env:=compEnvC scope cl C X.env,outer:=X.stack,stack:=X.stack,ex:=fp,fn:=fun _=>false,pn:=[],xe:=fun _ _=>False}
structure tY (X:Cx) (T M:List Str) (scope:Scope):Prop where
 kind:scope.kind=.function
 cell:∀y∈scope.names,y.2≠.cell
 names:∀y∈scope.names,y.2=.local->scope.names.lookup y.1=some .local
 free:∀y∈scope.names,y.2=.free->X.env.scope.names.lookup y.1=some .cell\/X.env.scope.names.lookup y.1=some .free
 len:M.length=X.N.length
 old:∀(i:Nat) x,M[i]? =some x->X.N[i]? =some x/\scope.names.lookup x=some .free\/scope.names.lookup x=none
section
variable {σ:St} {T M:List Str}
theorem abB {C:Addr} (I:Inv X pins σ H s) (hN:tY X T M scope) (h1:∀x c,cl.lookup x=some c->X.env.cells.lookup x=some c) (h2:∀x∈scope.names,x.2=.free->∃c,cl.lookup x.1=some c) (hC:s.heap.objs.size<=C) (hf:∀b∈fp,iI X pins H b) (V8:∀b∈fp,b<s.heap.objs.size):(mJ X (T++M) scope cl C s H fp).Ok where
 mod:=I.ok.mod
 kind:=hN.kind
 glob:=I.ok.glob
 blt:=I.ok.blt
 above:=hC
 inj:=fun x y c e1 e2=>I.ok.inj x y c (h1 x c e1) (h1 y c e2)
 has:=fun x hx=>by
  have uA:(Ab7 scope X.env).names.lookup x=some .cell\/(Ab7 scope X.env).names.lookup x=some .free:=hx
  rw [pI] at uA
  cases e:scope.names.lookup x with
  |none=>rw [e] at uA;simp at uA
  |some k=>
   have hm:=Ab4 e
   have hk:k=.free:=by
    rw [e] at uA
    simp only [Aac,Aca.injEq] at uA
    by_cases hf:k=.free
    . exact hf
    . have:(k==WI)=false:=by simpa using hf
      simp only [this,Bool.false_and,IF,if_false] at uA
      rcases uA with uA|uA
      . exact absurd uA (hN.cell _ hm)
      . exact uA
   exact h2 (x,k) hm hk
 cab:=fun _ _ z=>by cases z
 hd:=I.ok.hd
 frames:=I.ok.frames
 stk:=.inl rfl
 exf:=fun b hb=>⟨ET (DD (V8 b hb) hC),fun x c e=>(hf b hb).2.2.2.2.1 x c (h1 x c e)⟩
 bs:=I.bs
 Oe:=Mo I.ok.Oe I.sz
 MR:=fun b o e hb=>by
  rcases (hf b hb).2.2.2.1 with z|z
  . exact I.ok.MR b o e z
  . exact absurd (DD (Db e) (Mo I.ok.Oe z)) (Q2 _)
 M6:=fun b hb z=>by
  rcases AD.mp (I.JT b z) with e|e
  . exact(hf b hb).2.1 e
  . exact(hf b hb).2.2.1 e
 xh:=I.stack
 U8:=I.Km
theorem OX {C:Addr} {h₁:Heap} {tk:Nat} (I:Inv X pins σ H s) (hN:tY X T M scope) (h1:∀x c,cl.lookup x=some c->X.env.cells.lookup x=some c) (h2:∀x∈scope.names,x.2=.free->∃c,cl.lookup x.1=some c) (hC:s.heap.objs.size<=C) (hf:∀b∈fp,iI X pins H b) (V8:∀b∈fp,b<s.heap.objs.size) {m:Str->Option Value} (hn:h₁.Ns C m) (old:∀b o,s.heap.get? b=some o->h₁.get? b=some o):
 Inv (mJ X (T++M) scope cl C s H fp) [] (Mn T.length none++σ) H {s with heap:=h₁,toks:=tk} where
 ok:=abB I hN h1 h2 hC hf V8
 os:=rfl
 bare:=I.bare
 base:=Un.kept old
 loc:=by
  refine⟨m,hn,fun i x v e1 e2 e3=>?_⟩
  have e1':(T++M)[i]? =some x:=e1
  by_cases hi:i<T.length
  . rw [Aak (by simpa using hi),Aaw,if_pos hi] at e2
    cases e2
  . have Nh:T.length<=i:=Nat.le_of_not_lt hi
    rw [Re Nh] at e1'
    rw [Re (by simpa using Nh),ZB] at e2
    have BD:Vis (Ab7 scope X.env) x:=e3
    rcases hN.old _ x e1' with⟨hx,N8⟩|t7
    . obtain⟨m0,F2,hl0⟩:=I.loc
      have hk:=hN.free _ (Ab4 N8) rfl
      have JM:X.env.scope.names.lookup x=some .cell\/X.env.scope.names.lookup x=some .free:=hk
      obtain⟨u,r,l⟩:=hl0 _ x v hx e2 (.inr JM)
      refine⟨u,r,.inr ?_⟩
      rcases l with⟨z,_⟩|⟨_,c,hc,Dt⟩
      . have z':X.env.scope.names.lookup x=some .local:=z
        rw [z'] at JM;rcases JM with q|q <;>cases q
      . obtain⟨c',xt⟩:=h2 _ (Ab4 N8) rfl
        have:c'=c:=by have:=h1 _ _ xt;rw [hc] at this;exact(Do this).symm
        subst this
        refine⟨?_,c',xt,?_⟩
        . show(Ab7 scope X.env).names.lookup x=some .cell\/(Ab7 scope X.env).names.lookup x=some .free
          rw [pI,N8]
          simp only [Aac,Aca.injEq]
          by_cases hc:(WI==WI&&X.env.scope.kind==.function&&X.env.kindOf x==some .cell)=true
          . left;rw [if_pos hc]
          . right;rw [if_neg hc]
        . obtain⟨o,ho,hd⟩:=Dt
          exact⟨o,old _ _ ho,hd⟩
    . unfold Vis at BD
      rw [pI,t7] at BD
      simp at BD
 cell:=fun x c e=>by
  obtain⟨v,o,ho,hd⟩:=I.cell x c (h1 x c e)
  exact⟨v,o,old _ _ ho,hd⟩
 free:=I.bb.fresh hC
 mY:=fun x c e=>I.mY x c (h1 x c e)
 pin:=fun p hp=>nomatch hp
 bb:=I.bb.kept old
 len:=by
  show(Mn T.length none++σ).length=(T++M).length
  rw [Da,Da,ZB,hN.len,I.len]
theorem Vq {C D:Addr} {s':AM} {σ':St} {H':Hp} {acc:List V} {aZ:List Value} {n:Nat} (I:Inv X pins σ H s) (I':Inv (mJ X (T++M) scope cl C s H fp) [] σ' H' s') (hf:∀b∈fp,iI X pins H b) (hD:s.heap.objs.size<=D) (hn:H' D=none) (hl:acc.length<=EM) (r:Vals acc aZ) (hd:s'.heap.get? D=some {cls:=.type "list",data:=.seq aZ.toArray n}):
 Inv X pins σ (upd H' D (.lst acc)) s':=by
 have U:Un (Nq X.stack) fp H H' s.heap s'.heap:=I'.base
 have neD:∀b o,s.heap.get? b=some o->b≠D:=fun b o e=>ET (DD (Db e) hD)
 have neT:∀b u,H' b=some u->b≠D:=fun b u e=>aA e hn
 refine I.adG (ch:=fp) I'.os ⟨U.keep,U.slot,fun b o e1 e2 e3=>?_,U.there,fun b xs e=>?_,fun b o u e=>?_,fun b ps e=>?_⟩ (fun b u e=>?_) I'.bare (fun b hb=>⟨(hf b hb).2.2.2.1,(hf b hb).2.1,(hf b hb).2.2.2.2.1,(hf b hb).2.2.2.2.2⟩)
 . rw [az (neD b o e1)];exact U.free b o e1 e2 e3
 . rw [az (neT b _ (U.wW b xs e))];exact U.wW b xs e
 . rw [az (neT b _ (U.uk b o u e))];exact U.uk b o u e
 . obtain⟨more,q⟩:=U.zM b ps e
   exact⟨more,by rw [az (neT b _ q)];exact q⟩
 . by_cases hb:b=D
   . subst hb
     rw [av] at e
     cases e
     exact⟨hl,aZ,n,r,hd⟩
   . rw [az hb] at e
     exact(I'.bb b u e).qW (fun c v _ q=>q) (fun c q=>by rw [az (neT c _ q)];exact q) fun c xs q=>by rw [az (neT c _ q)];exact q
end
theorem IM {prog:Fk} {w:World} {A:IS} {R:Result->AM->Prop} {elt target iter:Expr} {it acc:Value} (I:Nat->AM->Prop) (turn:∀n s,I n s->wpAny (model prog w) A (pyNext it) (fun r s₁=>match r with
  |none=>R (.ok .next) s₁
  |some v=>wpAny (model prog w) A (Abj target it v) (fun _ VF=>wpAny (model prog w) A (assign target env v) (fun _ s₂=>
   wpAny (model prog w) A (forIn ifs true fun c r=>if r=true then do let ok <-isTrue c env (eval c env);pure (Aab ok) else pure (Aab r)) (fun ok s₃=>
    if ok=true then wpAny (model prog w) A (eval elt env) (fun x s₄=>
     wpAny (model prog w) A (call (.builtin "list.append") [acc,x]) (fun _ s₅=>∃m,m<n/\I m s₅) (fun _ _=>False) s₄) (fun _ _=>False) s₃
    else ∃m,m<n/\I m s₃) (fun _ _=>False) s₂) (fun _ _=>False) VF) (fun _ _=>False) s₁) (fun _ _=>False) s) (n:Nat) (h:I n s):
 AbQ (model prog w) A (.compLoop (.ListComp elt [⟨target,iter,ifs,0⟩] scope pos) 0 it acc env) R s:=by
 refine codeAny_loop rfl I (fun n s hI=>?_) n h
 show wpAny _ A ((compTurn (.ListComp elt [⟨target,iter,ifs,0⟩] scope pos) 0 it acc env).onRaise (fun x=>do noteFrame x env;theTreesLotGoes x)) _ _ s
 refine wpAny_noted ?_
 rw [compTurn_list]
 refine BS (wpAny_standAt (BS (Pc (turn n s hI) (fun r s₁ h₁=>?_) fun _ _ h'=>h'.elim)))
 cases r with
 |none=>exact GS h₁
 |some v=>
  refine BS (Pc h₁ (fun _ VF adB=>?_) fun _ _ h'=>h'.elim)
  refine BS (Pc adB (fun _ s₂ h₂=>BS (Pc h₂ (fun ok s₃ h₃=>?_) fun _ _ h'=>h'.elim)) fun _ _ h'=>h'.elim)
  cases ok with
  |false=>exact GS ⟨rfl,h₃⟩
  |true=>
   exact BS (BS (Pc h₃ (fun x s₄ h₄=>BS (Pc h₄ (fun _ s₅ h₅=>GS (GS ⟨rfl,h₅⟩)) fun _ _ h'=>h'.elim)) fun _ _ h'=>h'.elim))
def PIf (X:Cx) (ifs:List Expr) (t:TT):Prop:=
 ∀(pins:List (Addr × Obj)) (s:AM) (σ:St) (H:Hp) (Q:Bool->Hp->Prop),Inv X pins σ H s->t σ H Q->
  wpAny (model X.prog X.w) X.A (forIn ifs true fun c r=>if r=true then do let ok <-isTrue c X.env (eval c X.env);pure (Aab ok) else pure (Aab r)) (TP X pins σ Q) X.xe s
def afR:TT:=fun _ H Q=>Q true H
theorem tS:PIf X [] afR:=fun _ _ _ H _ I h=>wpAny_tests_nil ⟨H,I,h⟩
theorem xM {c:Expr} {t:TT} (h:PT X c t):PIf X [c] t:=fun pins s σ H Q I q=>wpAny_tests_one (h pins s σ H Q I q)
def LCW (k:Nat) (g:TG) (tc:TT) (te:TE) (Fin:List V->Hp->Prop) (σ:St) (J:It) (H1:Hp):Prop:=
 ∃W:Nat->Nat->List V->Hp->Prop,(∃m,W 0 m [] H1)/\∀i m acc H,W i m acc H->
  (J.stop i H/\Fin acc H)\/(J.go i H/\acc.length<EM/\∀x H',J.Sf i H x H'->g x (Mn k none++σ) H' fun σ2 H2=>tc σ2 H2 fun b H3=>
   if b=true then te σ2 H3 fun y H4=>∃m',m'<m/\W (i+1) m' (acc++[y]) H4 else ∃m',m'<m/\W (i+1) m' acc H3)
section
variable {σ:St} {T M:List Str} {g:TG} {tc:TT} {te:TE} {tg elt iter:Expr}
theorem Inv.forget {σ σ':St} (I:Inv X pins σ' H s) (k:Nat) (hk:k+σ.length=σ'.length) (h:σ'.drop k=σ):Inv X pins (Mn k none++σ) H s:=by
 refine I.weak (by simp [hk]) (fun i v e=>?_)
 by_cases hi:i<k
 . rw [Aak (by simpa using hi),Aaw,if_pos hi] at e;cases e
 . rw [Re (by simpa using hi),ZB,<-h,List.getElem?_drop] at e
   have:k+(i - k)=i:=by omega
   rw [this] at e;exact e
theorem Qm {it:Addr} {tn:Nat->Heap->Prop} {J:It} {RR:Value->Addr->Result->AM->Prop} {Fin:List V->Hp->Prop} {E:Value->AM->Prop} (hN:tY X T M scope) (Dk:X.calm=true) (h1:∀x c,cl.lookup x=some c->X.env.cells.lookup x=some c) (h2:∀x∈scope.names,x.2=.free->∃c,cl.lookup x.1=some c) (hg:∀cl C s H fp,PG (mJ X (T++M) scope cl C s H fp) tg g) (hgk:∀v H Q,g v (Mn T.length none++σ) H Q->g v (Mn T.length none++σ) H fun σ2 H2=>Q σ2 H2/\T.length+σ.length=σ2.length/\σ2.drop T.length=σ) (hc:∀cl C s H fp,PIf (mJ X (T++M) scope cl C s H fp) ifs tc) (he:∀cl C s H fp,PE (mJ X (T++M) scope cl C s H fp) elt te) (I:Inv X pins σ H s) (Tn:Turn X.prog X.w X.K tg J fp it tn) (st:tn 0 s.heap) (hf:∀b∈fp,iI X pins H b) (hW:LCW T.length g tc te Fin σ J H) (hR:∀D C s' H' acc m,s.heap.objs.size<=D->s.heap.objs.size<=C->C≠D->s'.heap.Ns C m->H' C=none->H' D=none->Inv X pins σ (upd H' D (.lst acc)) s'->Fin acc H'->RR (.ref D) C (.ok .next) s'):
 wpAny (model X.prog X.w) X.A (newList []) (fun acc s₃=>wpAny (model X.prog X.w) X.A (newFunctionEnv scope X.env.globals cl [] X.env.qual none .none (some X.env)) (fun acU s₄=>
  AbQ (model X.prog X.w) X.A (.compStart (.ListComp elt [⟨tg,iter,ifs,0⟩] scope pos) 0 (.ref it) acc {acU with scope:=Ab7 scope X.env}) (RR acc acU.locals) s₄) E s₃) E s:=by
 refine wpAny_newObj_type (wpAny_newFunctionEnv hN.cell (by intro y hy;simp at hy) (fun h₁ Iu FL=>?_) hN.kind)
 dsimp only at Iu FL ⊢
 generalize hH2:s.heap.push {cls:=.type "list",dict:=none,data:=.seq ([]:List Value).toArray}=H2 at Iu FL ⊢
 have hC:H2.objs.size=s.heap.objs.size+1:=by rw [<-hH2,WJ]
 have hDC:s.heap.objs.size≠H2.objs.size:=by rw [hC];exact ET (Aan _)
 have Xr:s.heap.objs.size<=H2.objs.size:=by rw [hC];exact Zs _
 have V8:∀b∈fp,b<s.heap.objs.size:=fun b hb=>by obtain⟨o,ho,_⟩:=Tn.obj _ _ st b hb;exact Db ho
 have old:∀b o,s.heap.get? b=some o->h₁.get? b=some o:=fun b o e=>FL.extBut b o (ET (DD (Db e) Xr)) (BY _ (hH2▸BY _ e))
 have kT:h₁.PlainList s.heap.objs.size #[]:=⟨_,FL.extBut _ _ hDC (BY _ (hH2▸Ev _ rfl))⟩
 generalize XT:s.heap.objs.size=D at*
 generalize hCe:H2.objs.size=C at*
 have I0:Inv (mJ X (T++M) scope cl C s H fp) [] (Mn T.length none++σ) H {s with heap:=h₁,toks:=s.toks+([]:List (Str × Value)).length}:=
  OX I hN h1 h2 (by rw [XT];exact Xr) hf (by rw [XT];exact V8) Iu old
 have st0:tn 0 h₁:=Tn.keep _ _ _ st fun b _ o e=>old b o e
 obtain⟨W,⟨m0,w0⟩,turn⟩:=hW
 have nDf:∀b∈fp,b≠D:=fun b hb=>ET (V8 b hb)
 have stat:∀{H':Hp} {pl:List (Addr × Obj)},(∀b∈fp,H' b=none)->(∀p∈pl,p.1=D)->∀b∈fp,iI (mJ X (T++M) scope cl C s H fp) pl H' b:=fun {H' pl} hn hp b hb=>by
  have ok:=I0.ok
  refine⟨hn b hb,(ok.exf b hb).1,ok.M6 b hb,.inl hb,(ok.exf b hb).2,fun p hq=>?_⟩
  have vP:p∈pl:=hq
  rw [hp p vP];exact Me (nDf b hb)
 have loop:AbQ (model X.prog X.w) X.A (.compLoop (.ListComp elt [⟨tg,iter,ifs,0⟩] scope pos) 0 (.ref it) (.ref D) (compEnvC scope cl C X.env)) (RR (.ref D) C) {s with heap:=h₁,toks:=s.toks+([]:List (Str × Value)).length}:=by
  refine IM (fun n s'=>∃i acc H' aZ,Inv (mJ X (T++M) scope cl C s H fp) [] (Mn T.length none++σ) H' s'/\tn i s'.heap/\(∀b∈fp,H' b=none)/\s'.heap.PlainList D aZ/\H' D=none/\Vals acc aZ.toList/\acc.length<=EM/\W i n acc H') ?_ m0
   ⟨0,[],H,#[],I0,st0,fun b hb=>(hf b hb).1,kT,I.bb.fresh (by rw [XT];exact BN _),.nil,KF _,w0⟩
  rintro n s3 ⟨i,acc,H3,aZ,I3,st3,yn,⟨nn,ho⟩,hD3,hv,hlen,w3⟩
  have ae2:∀{H'} {s'} {σ'} {o:Obj},Inv (mJ X (T++M) scope cl C s H fp) [] σ' H' s'->s'.heap.get? D=some o->(∀v,o.data≠.cell v)->H' D=none->Inv (mJ X (T++M) scope cl C s H fp) [(D,o)] σ' H' s':=fun {H' s' σ' o} I' e d hn=>by
   refine I'.t8 fun p hp=>?_
   have e':p=(D,o):=by simpa using hp
   subst e'
   refine⟨e,hn,hDC,fun z=>?_,d⟩
   have z':D∈Nq X.stack:=z
   obtain⟨_,o',Q0,_⟩:=I.stack.mem z'
   exact absurd (Db Q0) (by rw [XT];exact Q2 _)
  have I3':=ae2 I3 ho (fun v z=>by cases z) hD3
  rcases turn i n acc H3 w3 with⟨stop,fin⟩|⟨go,hl,step⟩
  . refine dC (Tn.done (mJ X (T++M) scope cl C s H fp) rfl rfl rfl Dk i _ s3 _ H3 _ I3' (stat yn (by simp)) st3 stop) fun r s4 ⟨hr,I4⟩=>?_
    subst hr
    have e4:=(I4.pin (D,_) (CC _ BC)).1
    have I4':Inv (mJ X (T++M) scope cl C s H fp) [] (Mn T.length none++σ) H3 s4:=I4.t8 fun p hp=>nomatch hp
    obtain⟨m4,n4,_⟩:=I4'.loc
    exact hR D C s4 H3 acc m4 (BN _) Xr (Me hDC) n4 I4'.free hD3 (Vq I I4' hf (by rw [XT];exact BN _) hD3 hlen hv (by simpa using e4)) fin
  . refine dC (Tn.item (mJ X (T++M) scope cl C s H fp) rfl rfl rfl Dk i _ s3 _ H3 _ I3' (stat yn (by simp)) st3 go) fun r s4 ⟨u,hr,h4⟩=>?_
    subst hr
    refine dC h4 fun _ s5 ⟨x,H5,I5,r5,y5,XN,fr5⟩=>?_
    have I5':=I5.pinned (stat fr5 (by simp)) (Tn.obj _ _ XN)
    refine dC (hg _ _ _ _ _ _ s5 _ H5 x u _ I5' r5 (hgk _ _ _ (step x H5 y5))) fun _ s6 ⟨σ6,H6,I6,q6,q6a,q6b⟩=>?_
    refine dC (hc _ _ _ _ _ _ s6 σ6 H6 _ I6 q6) fun b s7 ⟨H7,I7,q7⟩=>?_
    have rest:∀{s8:AM} {H8:Hp},Inv (mJ X (T++M) scope cl C s H fp) ([(D,_)]++BV fp s5.heap) σ6 H8 s8->tn (i+1) s8.heap/\(∀b∈fp,H8 b=none)/\s8.heap.PlainList D aZ/\H8 D=none/\Inv (mJ X (T++M) scope cl C s H fp) [] (Mn T.length none++σ) H8 s8:=fun {s8 H8} I8=>by
     refine⟨Tn.keep _ _ _ XN fun b hb o e=>(I8.pin (b,o) (CC _ (CC _ (p5 hb e)))).1,fun b hb=>?_,⟨nn,(I8.pin (D,_) (CC _ (EU _ BC))).1⟩,(I8.pin (D,_) (CC _ (EU _ BC))).2.1,(I8.forget T.length q6a q6b).t8 fun p hp=>nomatch hp⟩
     obtain⟨o,e,d⟩:=Tn.obj _ _ XN b hb
     exact(I8.pin (b,o) (CC _ (CC _ (p5 hb e)))).2.1
    cases b with
    |false=>
     obtain⟨m',hm,w7⟩:=q7
     obtain⟨a1,a2,a3,a4,a5⟩:=rest I7
     exact⟨m',hm,i+1,acc,H7,aZ,a5,a1,a2,a3,a4,hv,hlen,w7⟩
    |true=>
     refine dC (he _ _ _ _ _ _ s7 σ6 H7 _ I7 q7) fun y s8 ⟨yv,H8,I8,r8,m',hm,w8⟩=>?_
     obtain⟨a1,a2,a3,a4,a5⟩:=rest I8
     have hsz:aZ.size<=EM:=by have:=hv.length;simp at this;omega
     refine wpAny_list_append_plain (hsz:=hsz) a3 fun h9 hl9 hs9=>?_
     refine⟨m',hm,i+1,acc++[yv],H8,aZ.push y,?_,?_,a2,hl9,a4,?_,by simp;omega,w8⟩
     . exact a5.turned (t':=s8.toks) (it:=D) (fun b o hb e=>(hs9.2 b hb).trans e) a4 hDC (.inr (by show s.heap.objs.size<=D;rw [XT];exact BN _)) (fun x c e z=>by
        obtain⟨v,o,ho,_⟩:=I.cell x c (h1 x c e)
        exact absurd (Db ho) (by rw [XT,z];exact Q2 _)) (fun p hp=>nomatch hp)
     . exact Tn.keep _ _ _ a1 fun b hb o e=>(hs9.2 b (nDf b hb)).trans e
     . simpa using Vals.append hv (.cons r8 .nil)
 exact codeAny_compStart_list loop (Tn.self _ _ _ _ _ st0 loop)
end
def U2 (k:Nat) (g:TG):Prop:=∀v (τ σ:St) H Q,τ.length=k->g v (τ++σ) H Q->g v (τ++σ) H fun σ2 H2=>Q σ2 H2/\∃τ',τ'.length=k/\σ2=τ'++σ
def K1 (k:Nat) (g:Px):Prop:=∀vs (τ σ:St) H Q,τ.length=k->g vs (τ++σ) H Q->g vs (τ++σ) H fun σ2 H2=>Q σ2 H2/\∃τ',τ'.length=k/\σ2=τ'++σ
theorem fX {k i:Nat} (h:i<k):U2 k (lC i):=fun v τ σ H Q hl q=>by
 have e:(τ++σ).set i (some v)=τ.set i (some v)++σ:=List.set_append_left _ _ (by omega)
 exact⟨q,τ.set i (some v),by simp [hl],e⟩
theorem D7 {k:Nat}:K1 k M3:=fun vs τ σ H Q hl ⟨e,q⟩=>⟨e,q,τ,hl,rfl⟩
theorem pP {k i:Nat} {u:Px} (h:i<k) (h2:K1 k u):K1 k (uP (lC i) u):=fun vs τ σ H Q hl ⟨v,r,e,q⟩=>by
 have e1:(τ++σ).set i (some v)=τ.set i (some v)++σ:=List.set_append_left _ _ (by omega)
 refine⟨v,r,e,?_⟩
 show u r ((τ++σ).set i (some v)) H _
 rw [e1]
 have q':u r ((τ++σ).set i (some v)) H Q:=q
 rw [e1] at q'
 exact h2 r _ σ H Q (by simp [hl]) q'
theorem Gw {K:At} {k n:Nat} {u:Px} (h:K1 k u):U2 k (Ii K n u):=fun v τ σ H Q hl ⟨a,xs,e,hq,hn,q⟩=>⟨a,xs,e,hq,hn,h xs τ σ H Q hl q⟩
def Li (Q:VK) (acc:List V) (H:Hp):Prop:=∀p,H p=none->Q (.ref p) (upd H p (.lst acc))
def tLC (k:Nat) (wi:TI) (g:TG) (tc:TT) (te:TE):TE:=fun σ H Q=>wi σ H fun J H1=>LCW k g tc te (Li Q) σ J H1
section
variable {T M:List Str} {g:TG} {tc:TT} {te:TE} {wi:TI} {tg elt iter:Expr}
theorem xH (hN:tY X T M scope) (Dk:X.calm=true) (hi:PI X tg iter wi) (hg:∀cl C s H fp,PG (mJ X (T++M) scope cl C s H fp) tg g) (hgo:U2 T.length g) (hc:∀cl C s H fp,PIf (mJ X (T++M) scope cl C s H fp) ifs tc) (he:∀cl C s H fp,PE (mJ X (T++M) scope cl C s H fp) elt te) (hs:∀x,AbG iter X.env x=pure x:=by intro _;rfl):PE X (.ListComp elt [⟨tg,iter,ifs,0⟩] scope pos) (tLC T.length wi g tc te):=by
 intro pins s σ H Q I h
 obtain⟨cl,VS,h1,h2⟩:=A9 (scope:=scope) (env:=X.env) fun x hx hf=>I.ok.has x.1 (hN.free x hx hf)
 rw [eval_ListComp]
 refine wpAny_comprehension_free (use:=none) rfl hs VS hN.kind hN.names (dC (hi pins s σ H _ I h) fun xv s1 Sd=>dC Sd fun itv s2 ZA=>?_)
 obtain⟨it,fp,tn,J,H2,e,I2,Tn,st,hf,hW⟩:=ZA
 subst e
 refine Qm (RR:=fun acc C=>compPost (model X.prog X.w) X.A X.xe none (EP X pins σ Q) acc C) hN Dk h1 h2 hg (fun v H Q q=>?_) hc he I2 Tn st hf hW ?_
 . have:=hgo v (Mn T.length none) σ H Q (by simp) q
   refine(by
    have e:(fun(σ2:St) (H2:Hp)=>Q σ2 H2/\T.length+σ.length=σ2.length/\σ2.drop T.length=σ)=fun σ2 H2=>Q σ2 H2/\∃τ':St,τ'.length=T.length/\σ2=τ'++σ:=by
     funext σ2 H2
     refine propext ⟨fun⟨a,b,c⟩=>⟨a,σ2.take T.length,by rw [KM];omega,by rw [<-c,TW]⟩,fun⟨a,τ',b,c⟩=>⟨a,by rw [c,Da,b],by rw [c,<-b,List.drop_left]⟩⟩
    rw [e];exact this)
 . intro D C s' H' acc m hD hC mS hn hHC hHD Ib fin
   refine⟨m,hn,fun h' HU=>⟨.ref D,_,?_,rfl,fin D hHD⟩⟩
   exact Ib.turned (t':=s'.toks) (it:=C) (fun b o hb e=>(HU.2 b hb).trans e) (by rw [az mS];exact hHC) (Nat.ne_of_gt (DD I2.lt hC)) (.inr (Mo I2.sz hC)) (fun x c e z=>by
    obtain⟨v,q⟩:=I2.cell x c e
    exact absurd (DD q.lt (by rw [z];exact hC)) (Q2 _)) (fun p hp z=>absurd (DD (Db (I2.pin p hp).1) (by rw [z];exact hC)) (Q2 _))
theorem Wo {i:Nat} {y:Str} {py ab9:Pos} (j9:X.N.Nodup) (Nh:X.N[i]? =some y) (hy:Loc X.env.scope y) (hN:tY X T M scope) (Dk:X.calm=true) (hi:PI X tg iter wi) (hg:∀cl C s H fp,PG (mJ X (T++M) scope cl C s H fp) tg g) (hgo:U2 T.length g) (hc:∀cl C s H fp,PIf (mJ X (T++M) scope cl C s H fp) ifs tc) (he:∀cl C s H fp,PE (mJ X (T++M) scope cl C s H fp) elt te) (hsw:swapsWith (.ListComp elt [⟨tg,iter,ifs,0⟩] scope pos) (some (.Name y py)) ab9.line X.env=pure true) (hs:∀x,AbG iter X.env x=pure x:=by intro _;rfl) (hf':X.fn y=true\/X.env.scope.names.lookup y=some .local:=by first|exact .inl rfl|exact .inr rfl|assumption):
 PS X (.Assign [.Name y py] (.ListComp elt [⟨tg,iter,ifs,0⟩] scope pos) ab9) (RY (tLC T.length wi g tc te) (lC i)):=by
 intro pins s σ H D' I h
 have h:tLC T.length wi g tc te σ H fun x H1=>D'.nx (σ.set i (some x)) H1:=h
 obtain⟨cl,VS,h1,h2⟩:=A9 (scope:=scope) (env:=X.env) fun x hx hf=>I.ok.has x.1 (hN.free x hx hf)
 rw [exec_Assign_Name_used _ _ _ _ hsw]
 refine BS (wpAny_standAt (BS ?_))
 show wpAny _ X.A (do let _ <-comprehension (.ListComp elt [⟨tg,iter,ifs,0⟩] scope pos) scope X.env _ (newList []) false (eval iter X.env) (some (assign (.Name y py) X.env))) _ _ s
 refine BS (Pc (wpAny_comprehension_free (use:=some (assign (.Name y py) X.env)) (Q:=fun _ s'=>SP X pins D' .next s') rfl hs VS hN.kind hN.names
  (dC (hi pins s σ H _ I h) fun xv s1 Sd=>dC Sd fun itv s2 ZA=>?_)) (fun _ s' hq=>GS (GS hq)) fun _ _ e=>e)
 obtain⟨it,fp,tn,J,H2,e,I2,Tn,st,hf,hW⟩:=ZA
 subst e
 refine Qm (RR:=fun acc C=>compPost (model X.prog X.w) X.A X.xe (some (assign (.Name y py) X.env)) (fun _ s'=>SP X pins D' .next s') acc C) hN Dk h1 h2 hg (fun v H Q q=>?_) hc he I2 Tn st hf hW ?_
 . have:=hgo v (Mn T.length none) σ H Q (by simp) q
   refine(by
    have e:(fun(σ2:St) (H2:Hp)=>Q σ2 H2/\T.length+σ.length=σ2.length/\σ2.drop T.length=σ)=fun σ2 H2=>Q σ2 H2/\∃τ':St,τ'.length=T.length/\σ2=τ'++σ:=by
     funext σ2 H2
     refine propext ⟨fun⟨a,b,c⟩=>⟨a,σ2.take T.length,by rw [KM];omega,by rw [<-c,TW]⟩,fun⟨a,τ',b,c⟩=>⟨a,by rw [c,Da,b],by rw [c,<-b,List.drop_left]⟩⟩
    rw [e];exact this)
 . intro D C s' H' acc m hD hC mS hn hHC hHD Ib fin
   show wpAny _ X.A (assign (.Name y py) X.env (.ref D)) _ _ _
   refine wpAny_assign_Name (DJ Ib j9 Nh hy (v:=.ref D) rfl (fun s3 I3 ⟨a,sb,ha⟩=>?_) hf')
   have hCL:C≠X.env.locals:=Nat.ne_of_gt (DD I2.lt hC)
   have hCc:∀x c,X.env.cells.lookup x=some c->c≠C:=fun x c e z=>by
    obtain⟨v,q⟩:=I2.cell x c e
    exact absurd (DD q.lt (by rw [z];exact hC)) (Q2 _)
   have hCa:C≠a:=by
    rcases ha with rfl|ha
    . exact hCL
    . exact Me (hCc _ _ ha)
   refine⟨m,hn.sameBut sb hCa,fun h' HU=>⟨_,_,?_,fin D hHD⟩⟩
   exact I3.turned (t':=s3.toks) (it:=C) (fun b o hb e=>(HU.2 b hb).trans e) (by rw [az mS];exact hHC) hCL (.inr (Mo I2.sz hC)) hCc (fun p hp z=>absurd (DD (Db (I2.pin p hp).1) (by rw [z];exact hC)) (Q2 _))
end
end L2
namespace L2
open PySem PySem.Spec PyProof.Rows PySem.W
variable {ds:List BB} {α:Type} {S:List Addr} {H H':Hp} {a p:Addr} {v:V} {xs:List V} {r:V->List V->Hp->VK->Prop} {g:TG} {X:Cx} {σ:St} {Q:VK} {D:Ends} {K:At}
mutual
def D1:BB->Bool
 | .none=>true
 | .bool _=>true
 | .int _=>true
 | .str _=>true
 | .tuple ds=>dj ds
 | .list _=>false
 | .dict _=>false
def dj:List BB->Bool
 |[]=>true
 |d::ds=>D1 d&&dj ds
end
theorem vp:∀{ds:List BB},dj ds=true↔∀d∈ds,D1 d=true
 |[]=>by simp [dj]
 |d::ds=>by simp [dj,vp (ds:=ds)]
theorem gE {es:List BB} (h1:dj ds=true) (h2:dj es=true):dj (ds++es)=true:=by
 rw [vp] at*
 intro d hd
 rcases Co.mp hd with h|h
 . exact h1 d h
 . exact h2 d h
theorem bE {f:α->BB} (h:∀x,D1 (f x)=true) (xs:List α):dj (xs.map f)=true:=by
 rw [vp]
 intro d hd
 obtain⟨x,_,rfl⟩:=AN.mp hd
 exact h x
structure Mv (S:List Addr) (H H':Hp):Prop where
 kp:∀a o,a∉S->H a=some o->H' a=some o
 tp:∀a xs,H a=some (.tup xs)->H' a=some (.tup xs)
 dm:∀a,H' a=none->H a=none
theorem Mv.refl:Mv S H H:=⟨fun _ _ _ h=>h,fun _ _ h=>h,fun _ h=>h⟩
theorem ay.mv (s:ay H H'):Mv S H H':=⟨fun a o _ h=>s a o h,fun a xs h=>s a _ h,fun a h=>by
 cases e:H a with
 |none=>rfl
 |some o=>rw [s a o e] at h;cases h⟩
theorem Mv.trans {H1 H2:Hp} (m:Mv S H H1) (m2:Mv S H1 H2):Mv S H H2:=⟨fun a o n h=>m2.kp a o n (m.kp a o n h),fun a xs h=>m2.tp a xs (m.tp a xs h),fun a h=>m.dm a (m2.dm a h)⟩
theorem Mv.step {S S1:List Addr} {H H1 H2:Hp} (m:Mv S H H1) (m2:Mv S1 H1 H2) (hs:∀a∈S1,a∈S\/H a=none):Mv S H H2:=by
 refine⟨fun a o n h=>?_,fun a xs h=>m2.tp a xs (m.tp a xs h),fun a h=>m.dm a (m2.dm a h)⟩
 refine m2.kp a o (fun z=>?_) (m.kp a o n h)
 rcases hs a z with q|q
 . exact n q
 . rw [q] at h;cases h
theorem Mv.y9 {H1 H2:Hp} (m:Mv S H H1) (s:ay H1 H2):Mv S H H2:=m.trans s.mv
theorem Mv.at {o:HO} (m:Mv S H H') (n:a∉S) (h:H a=some o):H' a=some o:=m.kp a o n h
theorem Mv.none (m:Mv S H H') (h:H' a=none):H a=none:=m.dm a h
theorem ay.none (m:ay H H') (h:H' a=none):H a=none:=(m.mv (S:=[])).dm a h
theorem Mv.aS {o u:HO} (h:H p=some u) (nt:∀xs,u≠.tup xs):Mv [p] H (upd H p o):=⟨fun a v n e=>by
 rw [az (fun z=>n (by simp [z]))];exact e,fun a xs e=>by
 rw [az (fun z=>by subst z;rw [h] at e;exact nt xs (Do e))];exact e,fun a e=>by
 by_cases z:a=p
 . subst z;rw [av] at e;cases e
 . rw [az z] at e;exact e⟩
mutual
theorem Dv.yw {H H':Hp} (t:∀a xs,H a=some (.tup xs)->H' a=some (.tup xs)):∀{v:V} {d:BB},Dv H v d->D1 d=true->Dv H' v d
 |_,_,.aQ,_=>.aQ
 |_,_,.bl b,_=>.bl b
 |_,_,.int i,_=>.int i
 |_,_,.str x,_=>.str x
 |_,_,.tup h r,c=>.tup (t _ _ h) (dB.yw t r (by simpa [D1] using c))
 |_,_,.lst h r,c=>by simp [D1] at c
 |_,_,.dct h r,c=>by simp [D1] at c
theorem dB.yw {H H':Hp} (t:∀a xs,H a=some (.tup xs)->H' a=some (.tup xs)):∀{v:List V} {d:List BB},dB H v d->dj d=true->dB H' v d
 |_,_,.nil,_=>.nil
 |_,_,.cons h r,c=>by
  have c':=c
  simp only [dj,SL] at c'
  exact .cons (Dv.yw t h c'.1) (dB.yw t r c'.2)
end
theorem Mv.dat {d:BB} (m:Mv S H H') (i:D1 d=true) (h:Dv H v d):Dv H' v d:=h.yw m.tp i
theorem Mv.IZ {v:List V} {d:List BB} (m:Mv S H H') (i:dj d=true) (h:dB H v d):dB H' v d:=h.yw m.tp i
def dg (H:Hp) (p:Addr) (ds:List BB):Prop:=∃xs,H p=some (.lst xs)/\dB H xs ds/\dj ds=true
theorem dg.dv (h:dg H p ds):Dv H (.ref p) (.list ds):=let ⟨_,e,d,_⟩:=h;.lst (.of e) d
theorem dg.keeps (s:ay H H') (h:dg H p ds):dg H' p ds:=let ⟨xs,e,d,i⟩:=h;⟨xs,s _ _ e,d.keeps s,i⟩
theorem dg.mv (m:Mv S H H') (n:p∉S) (h:dg H p ds):dg H' p ds:=let ⟨xs,e,d,i⟩:=h;⟨xs,m.at n e,m.IZ i d,i⟩
theorem dg.ne {q:Addr} (h:dg H p ds) (hn:H q=none):p≠q:=let ⟨_,e,_,_⟩:=h;aA e hn
theorem wF (hn:H p=none) (d:dB H xs ds) (i:dj ds=true):dg (upd H p (.lst xs)) p ds:=⟨xs,av,d.keeps (cP hn),i⟩
theorem Qy {q:Addr} (h:p≠q):p∉[q]:=by simpa using h
theorem small {n m:Nat} (h:n<=m) (hm:m<=4000:=by decide):n<=EM:=Mo h (Mo hm (by decide))
theorem hV {n:Nat} (h:n<=4000):n<EM:=Aby h (by decide)
section
theorem aeJ {T:String} {to:TE} {t:TA} (h:to σ H fun x H1=>TQ K T x H1/\t σ H1 fun xs H2=>r x xs H2 Q):tBM K T r to t σ H Q:=h
theorem abH {T:String} {to:TE} (h:to σ H fun x H1=>TQ K T x H1/\r x [] H1 Q):ade K T r to σ H Q:=h
theorem Qj {R:Prop} (hp:dg H p ds) (h:R):TQ K "list" (.ref p) H/\R:=let ⟨xs,e,_,_⟩:=hp;⟨.inl ⟨rfl,xs,gD.of e⟩,h⟩
theorem acs {y:V} {d:BB} (hp:dg H p ds) (hl:ds.length<=4000) (hy:Dv H y d) (hi:D1 d=true) (h:∀H2,Mv [p] H H2->dg H2 p (ds++[d])->Q .aQ H2):EV (.ref p) [y] H Q:=by
 obtain⟨xs,e,dv,i⟩:=hp
 have m:Mv [p] H (upd H p (.lst (xs++[y]))):=.aS e (by intro _ z;cases z)
 refine⟨p,xs,y,rfl,rfl,e,by rw [dv.length];exact hV hl,h _ m ⟨_,av,m.IZ (gE i (by simp [dj,hi])) (dv.append (.cons hy .nil)),gE i (by simp [dj,hi])⟩⟩
theorem XF (hl:xs.length<=EM) (hd:dB H xs ds) (hi:dj ds=true) (k:∀p H2,ay H H2->H p=none->dg H2 p ds->Q (.ref p) H2):WV xs H Q:=
 ⟨hl,ds,hd,fun p H2 s n e d _=>k p H2 s n ⟨xs,e,d,hi⟩⟩
end
theorem dB.perm {g:α->BB} {ys:List V} (p0:ys.Perm xs):∀{cs:List α},dB H xs (cs.map g)->∃Sv:List α,Sv.Perm cs/\dB H ys (Sv.map g):=by
 have p:=p0.symm
 clear p0
 induction p with
 |nil=>intro cs h;exact⟨cs,.refl _,h⟩
 |cons x _ ih=>
  intro cs h
  cases cs with
  |nil=>cases h
  |cons c cs=>
   cases h with
   |cons h r=>
    obtain⟨Sv,p',h'⟩:=ih r
    exact⟨c::Sv,p'.cons c,.cons h h'⟩
 |swap x y l=>
  intro cs h
  cases cs with
  |nil=>cases h
  |cons c cs=>
   cases h with
   |cons h r=>
    cases cs with
    |nil=>cases r
    |cons c2 cs=>
     cases r with
     |cons h2 r=>exact⟨c2::c::cs,.swap c c2 cs,.cons h2 (.cons h r)⟩
 |trans _ _ ih1 ih2=>
  intro cs h
  obtain⟨c1,p1,h1⟩:=ih1 h
  obtain⟨c2,p2,h2⟩:=ih2 h1
  exact⟨c2,p2.trans p1,h2⟩
theorem dB.pairwise {α β:Type} {H:Hp} {g:α->BB} {key:α->β} {kf:V->β} {R:β->β->Prop} (hk:∀v c,Dv H v (g c)->kf v=key c):∀{xs:List V} {cs:List α},dB H xs (cs.map g)->xs.Pairwise (fun x y=>R (kf x) (kf y))->cs.Pairwise (fun c d=>R (key c) (key d))
 |_,[],.nil,_=>.nil
 |_,c::cs,.cons h r,p=>by
  rw [OR] at p ⊢
  refine⟨fun d hd=>?_,dB.pairwise hk r p.2⟩
  obtain⟨i,hi⟩:=Aba hd
  obtain⟨x,hx,hv⟩:=r.get (i:=i) (d:=g d) (by rw [Fa,hi];rfl)
  have:=p.1 x (Cf hx)
  rw [hk _ _ h,hk _ _ hv] at this
  exact this
theorem Dv.lst_inv (h:Dv H v (.list ds)):∃a xs,v=.ref a/\(∀K:At,gD K H a xs)/\dB H xs ds:=by
 cases h with
 |lst h r=>exact⟨_,_,rfl,fun _=>.inl h,r⟩
section
theorem Rt {sp:Sp} {t:TA} (h:t σ H fun vs H1=>Pp sp K vs H1 Q):Rn K sp t σ H Q:=h
def LCT (te:TE) (N:Option V->Hp->Prop) (σ2:St) (b:Bool) (H3:Hp):Prop:=if b=true then te σ2 H3 (fun y H4=>N (some y) H4) else N none H3
theorem adk {k:Nat} {tl:TE} {tc:TT} {te:TE} (h:tl σ H fun x H1=>∃a,x=.ref a/\(∃xs,gD K H1 a xs)/\LCW k g tc te (Li Q) σ (PN K a) H1):tLC k (RV K tl) g tc te σ H Q:=h
theorem EW {k:Nat} {tc:TT} {te:TE} {cs:List α} {gd:α->BB} (pf:α->Bool) (fd:α->BB) (hl:Dv H v (.list (cs.map gd))) (hlen:cs.length<=4000) (hi:∀c,D1 (fd c)=true) (turn:∀x c H' (N:Option V->Hp->Prop),c∈cs->ay H H'->Dv H' x (gd c)->(pf c=true->∀y H4,ay H' H4->Dv H4 y (fd c)->N (some y) H4)->(pf c=false->∀H3,ay H' H3->N none H3)->
  g x (Mn k none++σ) H' fun σ2 H2=>tc σ2 H2 fun b H3=>LCT te N σ2 b H3) (kk:∀q H',ay H H'->H q=none->dg H' q ((cs.filter pf).map fd)->Q (.ref q) H'):∃a,v=.ref a/\(∃xs,gD K H a xs)/\LCW k g tc te (Li Q) σ (PN K a) H:=by
 obtain⟨p,xs,rfl,e,dv⟩:=hl.lst_inv
 have hl0:gD K H p xs:=e K
 have N7:xs.length=cs.length:=by rw [dv.length,AE]
 refine⟨p,rfl,⟨xs,hl0⟩,fun i m acc H'=>i<=cs.length/\m=cs.length - i/\ay H H'/\dB H' acc (((cs.take i).filter pf).map fd),⟨cs.length,KF _,rfl,ay.refl _,by simpa using dB.nil⟩,?_⟩
 rintro i m acc H' ⟨vR,hm,sm,kT⟩
 have CB:gD K H' p xs:=ay.seq sm hl0
 have Je:acc.length<=cs.length:=by
  rw [kT.length,AE]
  exact Mo (JJ _ _) (by rw [KM];omega)
 by_cases hc:i=cs.length
 . left
   refine⟨⟨xs,CB,by omega⟩,fun q hq=>?_⟩
   rw [hc,SO] at kT
   have jK:ay H (upd H' q (.lst acc)):=sm.trans (cP hq)
   exact kk q _ jK (sm.none hq) ⟨acc,av,kT.keeps (cP hq),bE hi _⟩
 . right
   have gP:i<cs.length:=by omega
   have ZQ:i<xs.length:=by omega
   refine⟨⟨xs,xs[i],CB,AC ZQ⟩,hV (by omega),fun x H2 hy=>?_⟩
   obtain⟨rfl,hy⟩:=hy
   have hx:=hy xs CB
   have hcs:cs[i]? =some cs[i]:=AC gP
   obtain⟨x',uA,hd⟩:=dv.get (i:=i) (d:=gd cs[i]) (by rw [Fa,hcs];rfl)
   rw [hx] at uA
   cases uA
   have GJ:cs.take (i+1)=cs.take i++[cs[i]]:=by rw [We,hcs];rfl
   exact turn x cs[i] H2 (fun o H4=>match o with|some y=>∃m',m'<m/\i+1<=cs.length/\m'=cs.length - (i+1)/\ay H H4/\dB H4 (acc++[y]) (((cs.take (i+1)).filter pf).map fd)|none=>∃m',m'<m/\i+1<=cs.length/\m'=cs.length - (i+1)/\ay H H4/\dB H4 acc (((cs.take (i+1)).filter pf).map fd))
    (Aa7 gP) sm (hd.keeps sm)
    (fun hp y H4 s4 d4=>⟨cs.length - (i+1),by omega,gP,rfl,sm.trans s4,by
     rw [GJ,Q3,CS]
     simp only [Op,hp,if_true,AaE,EN,AaZ]
     exact dB.append (kT.keeps s4) (.cons d4 .nil)⟩)
    (fun hp H3 s3=>⟨cs.length - (i+1),by omega,gP,rfl,sm.trans s3,by
     rw [GJ,Q3,CS]
     simp only [Op,hp,IF,if_false,AaE,AaZ,NG]
     exact kT.keeps s3⟩)
end
def Kd (scope sc:Scope) (N M:List Str):Bool:=
 (scope.kind==.function)&&scope.names.all (fun y=>y.2 !=.cell)&&scope.names.all (fun y=>y.2 !=.local||scope.names.lookup y.1==some .local)&&
  scope.names.all (fun y=>y.2 !=.free||(sc.names.lookup y.1==some .cell||sc.names.lookup y.1==some .free))&&(M.length==N.length)&&
  (M.zip N).all fun p=>(p.1==p.2&&scope.names.lookup p.1==some .free)||scope.names.lookup p.1==none
theorem R4 {T M:List Str} {scope:Scope} (sc:Scope) (N:List Str) (hs:X.env.scope=sc) (hN:X.N=N) (h:Kd scope sc N M=true):tY X T M scope:=by
 unfold Kd at h
 simp only [SL,List.all_eq_true,Bool.or_eq_true,bne_iff_ne,beq_iff_eq,ne_eq] at h
 obtain⟨⟨⟨⟨⟨h1,h2⟩,h3⟩,h4⟩,h5⟩,h6⟩:=h
 refine⟨h1,h2,fun y hy e=>?_,fun y hy e=>?_,by rw [hN];exact h5,fun i x hx=>?_⟩
 . rcases h3 y hy with z|z
   . exact absurd e z
   . exact z
 . rw [hs]
   rcases h4 y hy with z|z
   . exact absurd e z
   . exact z
 . have hi:i<M.length:=(AS.mp hx).1
   have hiN:i<N.length:=by omega
   have hz:(M.zip N)[i]? =some (x,N[i]):=by
    rw [List.getElem?_zip_eq_some]
    exact⟨hx,AC hiN⟩
   rcases h6 _ (Cf hz) with⟨a,b⟩|a
   . left
     refine⟨?_,b⟩
     rw [hN,AC hiN]
     have a':x=N[i]:=a
     rw [a']
   . exact .inr a
section
theorem Qh {z:Str} {i:Int} {c:Nat} (hl:z.length<=EM) (hi:t5 z.cps.toList i=some c) (h:Q (.str ⟨#[c]⟩) H):Pq K (.str z) (.int i) H Q:=.inl (.inr ⟨z,i,c,rfl,rfl,hl,hi,h⟩)
def VZ:R2:=fun x y H Q=>∃i j,x=.str i/\y=.str j/\i.length+j.length<=EM/\Q (.str (i++j)) H
theorem Um:rm X (YE .Add) VZ:=JE
theorem Ji {i j:Str} (hl:i.length+j.length<=4000) (h:Q (.str (i++j)) H):VZ (.str i) (.str j) H Q:=⟨i,j,rfl,rfl,small hl,h⟩
theorem J0 {R:Bool->Prop} (hp:Dv H v (.list ds)) (h:R (!ds.isEmpty)):∃k,G0 K v H k/\R k:=by
 obtain⟨p,xs,rfl,e,dv⟩:=hp.lst_inv
 refine⟨_,.inl ⟨xs,e K,rfl⟩,?_⟩
 have:xs.isEmpty=ds.isEmpty:=by cases dv <;>rfl
 rw [this];exact h
def Kw (K:At):List V->Hp->VK->Prop:=fun xs H Q=>∃p ys,xs=[.ref p]/\(gD K H p ys\/zZ K H p ys)/\∀l,H l=none->Q (.ref l) (upd H l (.lst ys))
theorem HK:iL X (.type "list") (Kw X.K):=FU
theorem Oq (hp:Dv H v (.list ds)) (i:dj ds=true) (k:∀q H',ay H H'->H q=none->dg H' q ds->Q (.ref q) H'):Kw K [v] H Q:=by
 obtain⟨p,xs,rfl,e,dv⟩:=hp.lst_inv
 exact⟨p,xs,rfl,.inl (e K),fun l hl=>k l _ (cP hl) hl (wF hl dv i)⟩
theorem afs {α:Type} {cs:List α} {gd:α->BB} {tb:TS} (hl:Dv H v (.list (cs.map gd))) (Pv:Nat->St->Hp->Prop) (h0:Pv 0 σ H) (hk:∀i σ H',i<=cs.length->Pv i σ H'->∀a xs,v=.ref a->gD K H a xs->gD K H' a xs) (hs:∀i c x σ H',cs[i]? =some c->Pv i σ H'->(D1 (gd c)=true->(∀a xs,H a=some (.tup xs)->H' a=some (.tup xs))->Dv H' x (gd c))->(ay H H'->Dv H' x (gd c))->g x σ H' fun σ2 H2=>tb {D with nx:=Pv (i+1),ct:=Pv (i+1),bk:=D.nx} σ2 H2) (hd:∀σ H',Pv cs.length σ H'->D.nx σ H'):VC K v g tb D σ H:=by
 obtain⟨p,xs,rfl,e,dv⟩:=hl.lst_inv
 have N7:xs.length=cs.length:=by rw [dv.length,AE]
 refine forL (e K) Pv h0 (fun i σ H' hi hp=>hk i σ H' (by omega) hp p xs rfl (e K)) (fun i x σ H' hx hp=>?_) (fun σ H' hp=>hd σ H' (by rw [<-N7];exact hp))
 have hi:i<cs.length:=by have:=(AS.mp hx).1;omega
 obtain⟨x',uA,rl⟩:=dv.get (i:=i) (d:=gd cs[i]) (by rw [Fa,AC hi];rfl)
 rw [hx] at uA
 cases uA
 exact hs i cs[i] x σ H' (AC hi) hp (fun im t=>rl.yw t im) (fun s=>rl.keeps s)
end
end L2
namespace L2
open PySem
variable {K:At} {H:Hp} {v:V} {R:Bool->Prop}
theorem RK {α β:Type} [Inhabited α] {f:α->β} {xs:List α} {i:Int} (h0:0<=i) (h1:i<xs.length):t5 (xs.map f) i=some (f (xs.getD i.toNat default)):=by
 obtain⟨m,rfl⟩:=AaA h0
 have hm:m<xs.length:=by omega
 refine xg ?_
 rw [Fa,AC hm]
 simp [hm]
theorem Zq {α:Type} {g:α->BB} {xs:List α} {Q:VK} (hs:Dv H v (.list (xs.map g))) (h:Q (.int (xs.length:Nat)) H):KW K [v] H Q:=PZ (.inr hs) (by rw [AE];exact h)
theorem U7 {i:Nat} {σ:St} {R:St->Hp->Prop} (h:R (σ.set i (some v)) H):lC i v σ H R:=h
theorem Mv.Lq {p:Addr} {H1 H2:Hp} (s:ay H H1) (m:Mv [p] H1 H2) (n:H p=Option.none):ay H H2:=fun a o e=>m.kp a o (Qy (aA e n)) (s a o e)
theorem Mv.sq {S:List Addr} {H':Hp} {a:Addr} {xs:List V} (m:Mv S H H') (n:a∉S) (h:gD K H a xs):gD K H' a xs:=by
 rcases h with(h|⟨o,h⟩)|h
 . exact .inl (.inl (m.at n h))
 . exact .inl (.inr ⟨o,m.at n h⟩)
 . exact .inr h
theorem Y3 (hp:Dv H v (.list [])) (h:R false):∃k,G0 K v H k/\R k:=J0 hp h
theorem Ym {ds:List BB} (hp:Dv H v (.list ds)) (hn:ds≠[]) (h:R true):∃k,G0 K v H k/\R k:=J0 hp (by
 cases ds with
 |nil=>exact absurd rfl hn
 |cons d ds=>exact h)
theorem Ej {α β:Type} {f:α->β} {xs:List α} {z:α}:t5 ((xs++[z]).map f) (-1)=some (f z):=by
 rw [CS];exact Be _ _
theorem oO {te:TE} {N:Option V->Hp->Prop} {σ2:St} {b:Bool} {H3:Hp} (h1:b=true->te σ2 H3 (fun y H4=>N (some y) H4)) (h2:b=false->N none H3):LCT te N σ2 b H3:=by
 unfold LCT
 cases b with
 |true=>rw [if_pos rfl];exact h1 rfl
 |false=>rw [if_neg (by simp)];exact h2 rfl
end L2
namespace L2
open PySem PySem.Spec PyProof.Rows
section
variable {X:Cx} {K:At} {a b e:Expr} {es:List Expr} {ta:TE} {pos:Pos}
theorem rN (h:X.K=K):Oa X (Pq K):=by rw [<-h];exact ik
theorem Yi (h:X.K=K) (hu:X.A.units+8<cLine):rm X (ON .Eq) (Jm K id):=by rw [<-h];exact mD hu
theorem Mt (h:X.K=K) (ha:PE X a ta) (he:∀whole,isTrue a X.env whole=(do let v <-whole;Abk a.pos;Abl [v] (truthy v))):PT X a (fun σ H Q=>ta σ H fun x H'=>∃k,G0 K x H' k/\Q k H'):=by rw [<-h];exact bI ha he
theorem KP {k:Nat} {t:Px} {n:Nat} (h:X.K=K) (hc:X.calm=true) (hs:PGs X es t) (hn:(AaL es X.env).length=n:=by rfl) (uh:(AaL es X.env).findIdx? (·.1)=none:=by rfl):PG X (.Tuple es k pos) (Ii K n t):=by rw [<-h];exact Fd hc hs hn uh
theorem Aj {f:Str} (h:X.K=K) (ha:PE X a ta) (hb:WE a f X.env (eval a X.env)=eval a X.env:=by rfl):PE X (.Attribute a f pos) (Z9 K ta f):=by rw [<-h];exact au ha hb
end
end L2
namespace L2
open PySem PySem.Spec PyProof.Rows PySem.W
variable {d:BB} {p:Addr}
inductive oA (H:Hp):List (Key × V)->List (Str × BB)->Prop where
 |nil:oA H [] []
 |cons {k:Str} {v:V} {d:BB} {kvs:List (Key × V)} {m:List (Str × BB)} (h:Dv H v d) (i:D1 d=true) (r:oA H kvs m):oA H ((.inr k,v)::kvs) ((k,d)::m)
theorem oA.yw {H H':Hp} (t:∀a xs,H a=some (.tup xs)->H' a=some (.tup xs)):∀{kvs:List (Key × V)} {m:List (Str × BB)},oA H kvs m->oA H' kvs m
 |_,_,.nil=>.nil
 |_,_,.cons h i r=>.cons (h.yw t i) i (oA.yw t r)
theorem oA.length {H:Hp}:∀{kvs:List (Key × V)} {m:List (Str × BB)},oA H kvs m->kvs.length=m.length
 |_,_,.nil=>rfl
 |_,_,.cons _ _ r=>by simp [oA.length r]
def uj (m:List (Str × BB)) (k:Str):Option BB:=(m.find? fun kv=>decide (kv.1=k)).map (·.2)
def putD (m:List (Str × BB)) (k:Str) (d:BB):List (Str × BB):=if (m.any fun kv=>decide (kv.1=k))=true then m.map (fun kv=>if kv.1=k then (kv.1,d) else kv) else m++[(k,d)]
def sg (m:List (Str × BB)) (k:Str):List (Str × BB):=m.filter fun kv=>decide (kv.1≠k)
theorem Ls {a b:Str}:((YO a:Key)=YO b)=(a=b):=propext ⟨fun h=>AaK h,fun h=>by rw [h]⟩
theorem oA.val {H:Hp} {k:Str}:∀{kvs:List (Key × V)} {m:List (Str × BB)},oA H kvs m->(∀d,uj m k=some d->∃v,kU kvs (.inr k)=some v/\Dv H v d)/\(uj m k=none->kU kvs (.inr k)=none)
 |_,_,.nil=>⟨fun d h=>by simp [uj] at h,fun _=>rfl⟩
 |_,_,.cons (k:=j) h i r=>by
  obtain⟨h1,h2⟩:=oA.val (k:=k) r
  by_cases e:j=k
  . subst e
    refine⟨fun d hd=>⟨_,oR rfl,?_⟩,fun hd=>by simp [uj] at hd⟩
    simp [uj] at hd
    subst hd;exact h
  . have e':(YO j:Key)≠.inr k:=fun z=>e (AaK z)
    have el:∀(d:BB) (m:List (Str × BB)),uj ((j,d)::m) k=uj m k:=fun d m=>by simp [uj,Sc,e]
    refine⟨fun d hd=>?_,fun hd=>?_⟩
    . rw [el] at hd
      obtain⟨v,hv,rl⟩:=h1 d hd
      exact⟨v,by rw [lS e'];exact hv,rl⟩
    . rw [el] at hd
      rw [lS e'];exact h2 hd
theorem oA.any {H:Hp} {k:Str}:∀{kvs:List (Key × V)} {m:List (Str × BB)},oA H kvs m->(kvs.any fun kv=>decide (kv.1=.inr k))=m.any fun kv=>decide (kv.1=k)
 |_,_,.nil=>rfl
 |_,_,.cons h i r=>by
  simp only [Abd,oA.any r,Ls]
theorem oA.append {H:Hp}:∀{kvs acY:List (Key × V)} {m m':List (Str × BB)},oA H kvs m->oA H acY m'->oA H (kvs++acY) (m++m')
 |_,_,_,_,.nil,s=>s
 |_,_,_,_,.cons h i r,s=>.cons h i (oA.append r s)
theorem oA.repl {H:Hp} {k:Str} {v:V} {d:BB} (hv:Dv H v d) (hi:D1 d=true):∀{kvs:List (Key × V)} {m:List (Str × BB)},oA H kvs m->oA H (kvs.map fun kv=>if kv.1=.inr k then (kv.1,v) else kv) (m.map fun kv=>if kv.1=k then (kv.1,d) else kv)
 |_,_,.nil=>.nil
 |_,_,.cons (k:=j) h i r=>by
  rw [EN,EN]
  by_cases e:j=k
  . subst e
    rw [if_pos rfl,if_pos rfl]
    exact .cons hv hi (oA.repl hv hi r)
  . rw [if_neg (fun z=>e (AaK z)),if_neg e]
    exact .cons h i (oA.repl hv hi r)
theorem oA.put {H:Hp} {k:Str} {v:V} {kvs:List (Key × V)} {m:List (Str × BB)} (r:oA H kvs m) (hv:Dv H v d) (hi:D1 d=true):oA H (putK kvs (.inr k) v) (putD m k d):=by
 unfold putK putD
 rw [r.any]
 by_cases h:(m.any fun kv=>decide (kv.1=k))=true
 . rw [if_pos h,if_pos h];exact r.repl hv hi
 . rw [if_neg h,if_neg h];exact r.append (.cons hv hi .nil)
theorem oA.drop {H:Hp} {k:Str}:∀{kvs:List (Key × V)} {m:List (Str × BB)},oA H kvs m->oA H (lT kvs (.inr k)) (sg m k)
 |_,_,.nil=>.nil
 |_,_,.cons (k:=j) h i r=>by
  by_cases e:j=k
  . subst e
    have:=oA.drop (k:=j) r
    simpa [lT,sg] using this
  . have:=oA.drop (k:=k) r
    have e':(YO j:Key)≠.inr k:=fun z=>e (AaK z)
    simp only [lT,sg,Op] at this ⊢
    rw [if_pos (by simpa using e'),if_pos (by simpa using e)]
    exact .cons h i this
def oq (H:Hp) (p:Addr) (m:List (Str × BB)):Prop:=∃kvs,H p=some (.dK kvs)/\oA H kvs m
theorem oq.keeps {H H':Hp} {m:List (Str × BB)} (s:ay H H') (h:oq H p m):oq H' p m:=let ⟨kvs,e,d⟩:=h;⟨kvs,s _ _ e,d.yw fun a xs e=>s _ _ e⟩
theorem oq.mv {S:List Addr} {H H':Hp} {m:List (Str × BB)} (v:Mv S H H') (n:p∉S) (h:oq H p m):oq H' p m:=let ⟨kvs,e,d⟩:=h;⟨kvs,v.at n e,d.yw v.tp⟩
section
variable {σ:St} {H:Hp} {Q:VK} {D:Ends} {K:At} {m:List (Str × BB)} {k:Str}
theorem Xh (h:∀p H2,ay H H2->H p=none->oq H2 p []->Q (.ref p) H2):Qu σ H Q:=fun p hp=>h p _ (cP hp) hp ⟨[],av,.nil⟩
theorem Uq {td ty tv:TE} (h:tv σ H fun v H1=>td σ H1 fun x H2=>ty σ H2 fun y H3=>∃a H4,x=.ref a/\CL H3 a y v H4/\D.nx σ H4):VM td ty tv D σ H:=h
theorem Oz {v:V} {R:Hp->Prop} (hp:oq H p m) (hl:m.length<=4000) (hv:Dv H v d) (hi:D1 d=true) (h:∀H2,Mv [p] H H2->oq H2 p (putD m k d)->R H2):∃a H4,V.ref p=.ref a/\CL H a (.str k) v H4/\R H4:=by
 obtain⟨kvs,e,dk⟩:=hp
 have mv:Mv [p] H (upd H p (.dK (putK kvs (.inr k) v))):=.aS e (by intro _ z;cases z)
 exact⟨p,_,rfl,CL.k (k:=.inr k) e (by rw [dk.length];exact hV hl),h _ mv ⟨_,av,(dk.put hv hi).yw mv.tp⟩⟩
theorem Ul {td ty:TE} (h:td σ H fun x H1=>ty σ H1 fun y H2=>∃a v,x=.ref a/\ie H2 a y (some v)/\Q v H2):Wg td ty σ H Q:=h
theorem Yo {R:V->Prop} (hp:oq H p m) (hk:uj m k=some d) (h:AV H d fun v _=>R v):∃a v,V.ref p=.ref a/\ie H a (.str k) (some v)/\R v:=by
 obtain⟨kvs,e,dk⟩:=hp
 obtain⟨v,hv,hd⟩:=(dk.val (k:=k)).1 d hk
 exact⟨p,v,rfl,by rw [<-hv];exact ie.k (k:=.inr k) e,h.use hd⟩
theorem XB {td ty:TE} (h:ty σ H fun y H1=>td σ H1 fun x H2=>∃a o,x=.ref a/\ie H2 a y o/\Q (.bl o.isSome) H2):acV ty td σ H Q:=h
theorem Ua {td ty:TE} (h:ty σ H fun y H1=>td σ H1 fun x H2=>∃a o,x=.ref a/\ie H2 a y o/\Q (.bl (!o.isSome)) H2):Lc ty td σ H Q:=h
theorem adx (hp:oq H p m) (k:Str):∃o,ie H p (.str k) o/\o.isSome=(uj m k).isSome:=by
 obtain⟨kvs,e,dk⟩:=hp
 refine⟨kU kvs (.inr k),ie.k (k:=.inr k) e,?_⟩
 obtain⟨h1,h2⟩:=dk.val (k:=k)
 cases hl:uj m k with
 |none=>rw [h2 hl];rfl
 |some d=>obtain⟨v,hv,_⟩:=h1 d hl;rw [hv];rfl
theorem ac7 {R:Option V->Prop} (hp:oq H p m) (h:∀o:Option V,o.isSome=(uj m k).isSome->R o):∃a o,V.ref p=.ref a/\ie H a (.str k) o/\R o:=by
 obtain⟨o,g,e⟩:=adx hp k
 exact⟨p,o,rfl,g,h o e⟩
theorem Tc {r r':R2} {ta tb tc:TE} (h:ta σ H fun x H1=>tb σ H1 fun y H2=>r x y H2 fun z H3=>∃k,z=.bl k/\if k=true then tc σ H3 fun u H4=>r' y u H4 Q else Q (.bl false) H3):Rw r r' ta tb tc σ H Q:=h
def ow:Option Int->V|none=>.aQ|some i=>.int i
end
end L2
namespace L2
theorem aeZ {t:TE} {σ:St} {H:Hp} {Q:Bool->Hp->Prop} (h:t σ H fun x H'=>∃k,x=.bl k/\Q k H'):tB t σ H Q:=h
end L2
namespace L2
open PySem
theorem G4 {Hb:Hp} {σ:St} {H:Hp} {D:Ends} {K:At} {v:V} {α:Type} {cs:List α} {gd:α->BB} {g:TG} {tb:TS} (hl:Dv Hb v (.list (cs.map gd))) (Pv:Nat->St->Hp->Prop) (h0:Pv 0 σ H) (hk:∀i σ H',i<=cs.length->Pv i σ H'->∀a xs,v=.ref a->gD K Hb a xs->gD K H' a xs) (hs:∀i c x σ H',cs[i]? =some c->Pv i σ H'->(D1 (gd c)=true->(∀a xs,Hb a=some (.tup xs)->H' a=some (.tup xs))->Dv H' x (gd c))->(ay Hb H'->Dv H' x (gd c))->g x σ H' fun σ2 H2=>tb {D with nx:=Pv (i+1),ct:=Pv (i+1),bk:=D.nx} σ2 H2) (hd:∀σ H',Pv cs.length σ H'->D.nx σ H'):VC K v g tb D σ H:=by
 obtain⟨p,xs,rfl,e,dv⟩:=hl.lst_inv
 have N7:xs.length=cs.length:=by rw [dv.length,AE]
 refine forL (hk 0 σ H (KF _) h0 p xs rfl (e K)) Pv h0 (fun i σ H' hi hp=>hk i σ H' (by omega) hp p xs rfl (e K)) (fun i x σ H' hx hp=>?_) (fun σ H' hp=>hd σ H' (by rw [<-N7];exact hp))
 have hi:i<cs.length:=by have:=(AS.mp hx).1;omega
 obtain⟨x',uA,rl⟩:=dv.get (i:=i) (d:=gd cs[i]) (by rw [Fa,AC hi];rfl)
 rw [hx] at uA
 cases uA
 exact hs i cs[i] x σ H' (AC hi) hp (fun im t=>rl.yw t im) (fun s=>rl.keeps s)
end L2
namespace L2
open PySem PySem.Spec PyProof.Rows PySem.W
section
variable {X:Cx}
theorem KH {H:Hp}:∀{xs:List V} {ss:List Str} {us:List Value},dB H xs (ss.map EQ)->Vals xs us->StrsAre us ss
 |_,[],_,.nil,.nil=>.nil
 |_,b::bs,_,.cons h r,.cons q t=>by
  cases h
  obtain⟨tk,rfl⟩:=q
  exact .cons _ _ (KH r t)
end
section
variable {σ:St} {H:Hp} {Q:VK} {D:Ends} {K:At} {p:Addr} {ds:List BB}
theorem dB.drop {H:Hp}:∀{xs:List V} {ds:List BB} (n:Nat),dB H xs ds->dB H (xs.drop n) (ds.drop n)
 |_,_,0,h=>h
 |_,_,_+1,.nil=>.nil
 |_,_,n+1,.cons _ r=>dB.drop n r
theorem dB.take {H:Hp}:∀{xs:List V} {ds:List BB} (n:Nat),dB H xs ds->dB H (xs.take n) (ds.take n)
 |_,_,0,_=>.nil
 |_,_,_+1,.nil=>.nil
 |_,_,n+1,.cons h r=>.cons h (dB.take n r)
theorem JU {q:Addr} {es:List BB} (hp:dg H p ds) (hq:dg H q es) (hl:ds.length+es.length<=4000) (k:∀r H',ay H H'->H r=none->dg H' r (ds++es)->Q (.ref r) H'):abN (.ref p) (.ref q) H Q:=by
 obtain⟨xs,e,dv,im⟩:=hp
 obtain⟨zs,e2,dv2,im2⟩:=hq
 refine⟨p,q,xs,zs,rfl,rfl,e,e2,by rw [dv.length,dv2.length];exact small hl,fun r hr=>?_⟩
 exact k r _ (cP hr) hr (wF hr (dv.append dv2) (gE im im2))
end
end L2
namespace L2
open PySem PySem.Spec PyProof.Rows PySem.W
variable {ss:List Str} {P:Fk} {w:World} {H:Hp} {h:Heap} {d p:Addr} {o:Obj} {kvs:List (Key × V)} {es:Array DictEntry} {ep:Nat} {K:At} {elts:List Expr} {X:Cx} {σ:St} {Q:VK}
section
def Vm (ss:List Str):Prop:=ss.Pairwise fun a b=>D0 b a=false
theorem vU:∀(r:List Str) (p:Str),risingS p r=true->(∀x∈r,D0 x p=false)/\Vm r
 |[],_,_=>⟨fun x hx=>(by cases hx),AbK⟩
 |y::r,p,h=>by
  unfold risingS at h
  rw [SL] at h
  obtain⟨h1,h2⟩:=h
  have Sd:D0 y p=false:=by
   have:ltCps y.cps.toList p.cps.toList=false:=by simpa using h1
   rw [ltCps_eq] at this
   exact this
  obtain⟨a,b⟩:=vU r y h2
  refine⟨fun x hx=>?_,OR.mpr ⟨a,b⟩⟩
  rcases AD.mp hx with rfl|hx
  . exact Sd
  . exact Kf (a x hx) Sd
theorem wJ (h:sortedS ss=true):Vm ss:=by
 cases ss with
 |nil=>exact AbK
 |cons x r=>obtain⟨a,b⟩:=vU r x h;exact OR.mpr ⟨a,b⟩
theorem DK:∀{xs ys:List Str},xs.Perm ys->Vm xs->Vm ys->xs=ys
 |[],_,hp,_,_=>Ab9.nil_eq hp
 |x::xs,[],hp,_,_=>by have:=hp.length_eq;simp at this
 |x::xs,y::ys,hp,h1,h2=>by
  have hx:=OR.mp h1
  have hy:=OR.mp h2
  have CD:x=y:=by
   have m1:y∈x::xs:=hp.mem_iff.mpr BC
   have m2:x∈y::ys:=hp.mem_iff.mp BC
   rcases AD.mp m1 with e|m1'
   . exact e.symm
   rcases AD.mp m2 with e|m2'
   . exact e
   exact FX (hy.1 x m2') (hx.1 y m1')
  subst CD
  rw [DK (Ab9.cons_inv hp) hx.2 hy.2]
def O3:List V->Hp->VK->Prop:=fun xs H Q=>∃(v:V) (ss:List Str),xs=[v]/\Dv H v (.list (ss.map EQ))/\ss.length<64/\∀(q:Addr) (H':Hp) (zO:List Str),ay H H'->H q=none->zO.Perm ss->Vm zO->dg H' q (zO.map EQ)->Q (.ref q) H'
theorem yc:∀{us:List Value} {ss:List Str},StrsAre us ss->Vals (ss.map V.str) us
 |_,_,.nil=>.nil
 |_,_,.cons _ t r=>.cons ⟨t,rfl⟩ (yc r)
theorem Ao {H:Hp}:∀(ss:List Str),dB H (ss.map V.str) (ss.map EQ)
 |[]=>.nil
 |x::r=>.cons (.str x) (Ao r)
theorem BL:iL X (.builtin "sorted") O3:=by
 intro pins s σ H xs us Q I r h
 obtain⟨v,ss,rfl,hd,hl,q⟩:=h
 obtain⟨u,rfl,ru⟩:=vals1 r
 obtain⟨p,ys,rfl,e,dv⟩:=hd.lst_inv
 obtain⟨aZ,rvs,pl,_⟩:=I.list (e X.K)
 cases ru
 have hS:=KH dv rvs
 refine sorted_strs pl.isList hS (by rw [<-rvs.length,dv.length,AE];exact hl) fun out zO h1 h2 h3=>?_
 obtain⟨ep,he⟩:=sortedAll_at s.heap aZ out
 have hq:H (s.heap.objs.size+1)=none:=I.bb.fresh (Zs _)
 refine⟨.ref (s.heap.objs.size+1),upd H (s.heap.objs.size+1) (.lst (zO.map V.str)),I.laid (t':=s.toks) (fun b ob q=>sortedAll_old q) (Zs _) ?_,rfl,q _ _ zO (cP hq) hq h2 (wJ h3) (wF hq (Ao zO) (bE (fun _=>rfl) _))⟩
 exact⟨by rw [AE,h2.length_eq];exact Aat (hV (by omega)),out.toList,ep,yc h1,by simpa [MW] using he⟩
theorem KC {H:Hp}:∀{xs:List V} {ns:List Int} {us:List Value},dB H xs (ns.map Pd)->Vals xs us->IntsAre us ns
 |_,[],_,.nil,.nil=>.nil
 |_,_::_,_,.cons h r,.cons q t=>by
  cases h
  obtain⟨tk,rfl⟩:=q
  exact .cons _ _ (KC r t)
end
section
variable {ds:List BB} {v:V}
theorem Uu (hp:Dv H v (.list (ss.map EQ))) (hl:ss.length<64) (k:∀q H' zO,ay H H'->H q=none->zO.Perm ss->Vm zO->dg H' q (zO.map EQ)->Q (.ref q) H'):O3 [v] H Q:=⟨v,ss,rfl,hp,hl,k⟩
end
section
theorem rh.sS (ok:rh P w H h) (hd:H d=some (.dK kvs)) (ho:h.get? d=some o):rh P w (upd H d (.sS o (.dK kvs))) h:=by
 intro b u q
 by_cases hb:b=d
 . subst hb
   rw [av] at q
   cases q
   exact⟨ho,ok b _ hd⟩
 . rw [az hb] at q
   refine(ok b u q).qW (fun c v _ r=>r) (fun c r=>?_) fun c xs r=>?_
   . rw [az (pB r hd (by intro z;cases z))];exact r
   . rw [az (pB r hd (by intro z;cases z))];exact r
theorem rh.Yf (ok:rh P w H h) (hd:H d=some (.sS o (.dK kvs))):rh P w (upd H d (.dK kvs)) h:=by
 intro b u q
 by_cases hb:b=d
 . subst hb
   rw [av] at q
   cases q
   exact(ok b _ hd).2
 . rw [az hb] at q
   refine(ok b u q).qW (fun c v _ r=>r) (fun c r=>?_) fun c xs r=>?_
   . rw [az (pB r hd (by intro z;cases z))];exact r
   . rw [az (pB r hd (by intro z;cases z))];exact r
end
section
variable {pins:List (Addr × Obj)} {s:AM}
theorem Inv.freeze (I:Inv X pins σ H s) (hd:H d=some (.dK kvs)) (ho:s.heap.get? d=some o):Inv X pins σ (upd H d (.sS o (.dK kvs))) s:=by
 have u:Un X.fs [] H (upd H d (.sS o (.dK kvs))) s.heap s.heap:={
  keep:=fun b u e n _ _=>e
  slot:=fun b u e n _ _=>⟨u.slots,e⟩
  free:=fun b u e n _=>by rw [az (Me (aA hd n))];exact n
  there:=fun b u e _=>⟨u,e⟩
  wW:=fun b xs e=>by rw [az (pB e hd (by intro z;cases z))];exact e
  uk:=fun b u v e=>by rw [az (pB e hd (by intro z;cases z))];exact e
  zM:=fun b ps e=>⟨#[],by rw [az (pB e hd (by intro z;cases z)),e];simp⟩}
 exact I.un (h':=s.heap) (t':=s.toks) u (I.bb.sS hd ho)
theorem Inv.Yf (I:Inv X pins σ H s) (hd:H d=some (.sS o (.dK kvs))) (h0:∀u v,X.IV d≠some (.sS u v)):Inv X pins σ (upd H d (.dK kvs)) s:=by
 have nn:∀b,H b=none->upd H d (.dK kvs) b=none:=fun b n=>by rw [az (Me (aA hd n))];exact n
 refine⟨I.ok,I.os,I.bare,⟨I.base.keep,I.base.slot,fun b u e n x=>nn b (I.base.free b u e n x),I.base.there,fun b xs e=>?_,fun b u v e=>?_,fun b ps e=>?_⟩,I.loc,I.cell,nn _ I.free,fun x c e=>nn c (I.mY x c e),fun p hp=>?_,I.bb.Yf hd,I.len⟩
 . have z:=I.base.wW b xs e
   rw [az (pB z hd (by intro q;cases q))];exact z
 . have z:=I.base.uk b u v e
   have hb:b≠d:=fun q=>h0 u v (q▸e)
   rw [az hb];exact z
 . obtain⟨m,z⟩:=I.base.zM b ps e
   exact⟨m,by rw [az (pB z hd (by intro q;cases q))];exact z⟩
 . obtain⟨a1,a2,a3⟩:=I.pin p hp
   exact⟨a1,nn _ a2,a3⟩
theorem Inv.abC (I:Inv X pins σ H s) (hd:H d=some (.dK kvs)):∀u v,X.IV d≠some (.sS u v):=fun u v z=>by
 have:=I.base.uk d u v z
 rw [hd] at this
 cases this
def V3 (t:TE):TE:=fun σ H Q=>∃d kvs,H d=some (.dK kvs)/\t σ H fun v H'=>(∃o,H' d=some (.sS o (.dK kvs)))/\Q v (upd H' d (.dK kvs))
theorem Vj {e:Expr} {t:TE} (h:PE X e t):PE X e (V3 t):=by
 intro pins s σ H Q I ⟨d,kvs,hd,ht⟩
 have h0:=I.abC hd
 exact dC (h pins s σ H _ I ht) fun v s1 ⟨x,H1,I1,r,⟨o,ho⟩,q⟩=>⟨x,_,I1.Yf ho h0,r,q⟩
end
theorem Lg (ok:rh P w H h) (hd:H d=some (.sS o (.dK kvs))) (he:o.data=.dict es ep):(d==Th)=false/\∃vs,KV kvs vs/\h.DictAt (bf P w) d vs ep:=by
 obtain⟨ho,_,hs,vs,kv,o2,Sw,ep2,a1,a2,a3,a4⟩:=ok d _ hd
 rw [ho] at a1
 cases a1
 rw [he] at a3
 cases a3
 exact⟨hs,vs,kv,_,_,ho,a2,he,a4⟩
theorem vA {α β:Type} {F:α->β->Prop}:∀{xs:List α} {ys:List β},AbT F xs ys->∀{i:Nat} {x:α},xs[i]? =some x->∃y,ys[i]? =some y/\F x y
 |_,_,.nil,i,x,h=>by simp at h
 |_,_,.cons r t,0,x,h=>by
  have e:=Do h
  exact⟨_,rfl,e▸r⟩
 |_,_,.cons r t,i+1,x,h=>by
  obtain⟨y,e,q⟩:=vA t (i:=i) (by simpa using h)
  exact⟨y,by simpa using e,q⟩
theorem HF {k:Key} {v:Value} (h:Cb k v=true):RelV (kV k) v:=by
 rcases c4 h with⟨i,t,rfl,rfl⟩|⟨x,t,rfl,rfl⟩
 . exact⟨t,rfl⟩
 . exact⟨t,rfl⟩
def DRd (H:Hp) (p:Addr) (m:List (Str × BB)):Prop:=∃kvs,Rd H p (.dK kvs)/\oA H kvs m
theorem oq.rd {m:List (Str × BB)} (h:oq H p m):DRd H p m:=let ⟨kvs,e,d⟩:=h;⟨kvs,.inl e,d⟩
theorem oA.To {H:Hp}:∀{kvs:List (Key × V)} {m:List (Str × BB)},oA H kvs m->∀{i:Nat} {kv:Key × V},kvs[i]? =some kv->∃k d,m[i]? =some (k,d)/\kv.1=.inr k/\Dv H kv.2 d
 |_,_,.nil,i,kv,h=>by simp at h
 |_,_,.cons (k:=k) (d:=d) hv _ r,0,kv,h=>by
  have e:=(Do h).symm
  subst e
  exact⟨k,d,rfl,rfl,hv⟩
 |_,_,.cons _ _ r,i+1,kv,h=>by
  obtain⟨k,d,e,q⟩:=oA.To r (i:=i) (by simpa using h)
  exact⟨k,d,by simpa using e,q⟩
section
def KQ:V->List V->Hp->VK->Prop:=fun x vs H Q=>∃a kvs k v,x=.ref a/\vs=[kV k]/\H a=some (.dK kvs)/\kU kvs k=some v/\Q v (upd H a (.dK (lT kvs k)))
theorem qm:MtM X "dict.pop" KQ:=by
 intro pins s σ H x vs v us Q I rx rv h
 obtain⟨a,kvs,k,y,rfl,rfl,hH,hv,q⟩:=h
 cases rx
 obtain⟨u,rfl,ru⟩:=rv.one
 exact ac3 I hH ru hv (.inl rfl) fun w' s' I' r=>⟨y,_,I',r,q⟩
end
section
variable {m:List (Str × BB)} {k:Str}
theorem Hx {R:Prop} (hp:oq H p m) (h:R):TQ K "dict" (.ref p) H/\R:=let ⟨kvs,e,_⟩:=hp;⟨.inr (.inr (.inl ⟨rfl,.inl ⟨kvs,e⟩⟩)),h⟩
theorem FD {d:BB} (hp:oq H p m) (hk:uj m k=some d) (h:∀v H2,Mv [p] H H2->oq H2 p (sg m k)->Q v H2):KQ (.ref p) [.str k] H Q:=by
 obtain⟨kvs,e,dk⟩:=hp
 obtain⟨v,hv,hd⟩:=(dk.val (k:=k)).1 d hk
 have mv:Mv [p] H (upd H p (.dK (lT kvs (.inr k)))):=.aS e (by intro _ z;cases z)
 refine⟨p,kvs,.inr k,v,rfl,rfl,e,hv,h v _ mv ⟨_,av,dk.drop.yw mv.tp⟩⟩
end
theorem By {u:Obj} {b:Addr} (e:(h.push o).get? b=some u) (n:b≠h.objs.size):h.get? b=some u:=by
 obtain⟨e1,e2⟩:=Heap.get?_some_iff.mp e
 refine Heap.get?_some_iff.mpr ⟨?_,e2⟩
 cases h
 simpa [Heap.push,Array.getElem?_push,n] using e1
section
variable {prog:Fk} {K:Type} [DecidableEq K] {knd:KeyKind prog w K} {A:IS} {E:Value->AM->Prop} {s:AM} {kvs:List (K × Value)}
theorem QR {R:Result->AM->Prop} (hh:A.handled=none) (hd:(d==Th)=false) (y:Addr) (c0:Nat) (hz:kvs.length<=EM) (hm:s.heap.DictAt knd d kvs ep) (hy:s.heap.get? y=some {cls:=.type "list",data:=.seq #[] c0}) (hyd:y≠d) (hR:∀s' acc c,s'.gens=s.gens->s'.drawn=s.drawn->s'.os=s.os->(∀b o,b≠y->s.heap.get? b=some o->s'.heap.get? b=some o)->s'.heap.get? y=some {cls:=.type "list",data:=.seq acc c}->ItemsOf (fun i v=>∃k x,kvs[i]? =some (k,x)/\knd.is k v=true) acc kvs.length->R (.ok (.ret .none)) s'):
 wpAny (model prog w) A.in1 (Aad (.ref y) (.ref d) .none)
  (fun f s'=>match f with| .done g=>R (.ok g) s'| .again c=>c.quiet=true/\AbQ (model prog w) A c R s') (fun e s'=>R (.error e) s') s:=by
 have hT:s.TypeIs (.ref d) "dict":=hm.dictOf.typeIs
 have hyl:y<s.heap.objs.size:=Db hy
 have hdl:d<s.heap.objs.size:=hm.lt_size
 have W:=(Walks.dictKeys (knd:=knd) (A:=A.in1) hh s.heap.objs.size d (ET hdl) kvs ep).toS
 have nf:y∉[s.heap.objs.size,d]:=by simp [hyd,ET hyl]
 unfold Aad
 refine BS (wpAny_typeOf hT ?_)
 have a1:YU.List.listSameRef (.ref y) (.ref d)=false:=by simp [YU.List.listSameRef,hyd]
 have a2:(Aas "dict"==Aas "list")=false:=by decide
 have a3:(Aas "dict"==Aas "tuple")=false:=by decide
 simp only [a1,a2,a3,Bool.or_self,IF,if_false]
 refine BS (wpAny_pyIter_dict hd hm ?_)
 refine BS (AaD ?_)
 have hT1:AM.TypeIs {s with heap:=s.heap.push {cls:=.type "dict_keyiterator",data:=.fields #[.ref d,.int 0 0,.int kvs.length 0,.int ep 0]}} (.ref d) "dict":=by
  obtain⟨o,es,e,c,_⟩:=id hm
  exact⟨o,BY _ e,c.1⟩
 unfold YU.List.listLengthHint
 refine BS (wpAny_specialOf hT1 F.slot_dict_len.lookup ?_)
 generalize hid:("dict.__len__":String)=id0
 wp_delta
 rw [show splitId id0=some ("dict","__len__") from by subst hid;decide+kernel]
 subst hid
 refine BS (wpAny_isInstance (T:="dict") (b:=true) hT1 (by rw [isSubtype_type];kernel_rfl) ?_)
 refine wpAny_ite_split (fun hab=>absurd hab (by decide)) (fun _=>?_)
 refine wpAny_ite_split (fun _=>?_) (fun hab=>absurd (by decide+kernel) hab)
 refine BS (wpAny_typeOf hT1 (GS ?_))
 show wpAny _ A.in1 (rule "list.extend.makes-room">>=fun _=>YU.List.listTouch (.ref y)>>=fun _=>
  again (.builtin "list.extend.loop" ⟨[.ref y,.ref s.heap.objs.size,.none],[]⟩)) _ _ _
 refine BS (wpAny_rule ?_)
 have hy1:=BY {cls:=.type "dict_keyiterator",data:=.fields #[.ref d,.int 0 0,.int kvs.length 0,.int ep 0]} hy
 refine BS ?_
 show wpAny _ A.in1 (updateSeq y (·.push .none)>>=fun _=>updateSeq y (·.pop)) _ _ _
 refine BS (wpAny_updateSeq hy1 rfl ?_)
 have Yn:=Aa2 (LH (·.push Of)) hy1 rfl
 refine wpAny_updateSeq (hz:=by seq_fits) Yn rfl ?_
 have hy3:=Aa2 (LH (·.pop)) Yn rfl
 have ot:∀b o,b≠y->(s.heap.push {cls:=.type "dict_keyiterator",data:=.fields #[.ref d,.int 0 0,.int kvs.length 0,.int ep 0]}).get? b=some o->(((s.heap.push {cls:=.type "dict_keyiterator",data:=.fields #[.ref d,.int 0 0,.int kvs.length 0,.int ep 0]}).update y (LH (·.push Of))).update y (LH (·.pop))).get? b=some o:=
  fun b o hb e=>(WS _ _ (Me hb)).trans ((WS _ _ (Me hb)).trans e)
 have it0:Heap.IsKeyIter (s.heap.push {cls:=.type "dict_keyiterator",data:=.fields #[.ref d,.int 0 0,.int kvs.length 0,.int ep 0]}) s.heap.objs.size d 0 kvs.length ep:=⟨_,Ev _ rfl,rfl,rfl⟩
 refine GS ⟨plainId_quiet F.plain_extend_loop _,codeAny_extend_loopS W hz _ nf _ kvs.length 0 _ _ _ rfl (KF _) ⟨it0.at fun o e=>ot _ o (Me (ET hyl)) e,(hm.push _).at' fun o e=>ot _ o (Me hyd) e⟩ hy3 (ItemsOf.nil _) fun s' acc c hmv hs kT=>?_⟩
 refine hR s' acc c hmv.gens hmv.drawn hmv.os (fun b o hb e=>hmv.heap b o ?_ (ot b o hb (BY _ e))) hs kT
 simp [hb,ET (Db e)]
theorem Bf {Q:Value->AM->Prop} (hh:A.handled=none) (hd:(d==Th)=false) (hz:kvs.length<=EM) (hm:s.heap.DictAt knd d kvs ep) (hQ:∀s' acc c,s'.gens=s.gens->s'.drawn=s.drawn->s'.os=s.os->(∀b o,s.heap.get? b=some o->s'.heap.get? b=some o)->s'.heap.get? s.heap.objs.size=some {cls:=.type "list",data:=.seq acc c}->ItemsOf (fun i v=>∃k x,kvs[i]? =some (k,x)/\knd.is k v=true) acc kvs.length->Q (.ref s.heap.objs.size) s'):
 wpAny (model prog w) A (call (.type "list") [.ref d]) Q E s:=by
 have hdl:d<s.heap.objs.size:=hm.lt_size
 refine callType_codes (Q₁:=fun u s1=>u=.ref s.heap.objs.size/\s1={s with heap:=s.heap.push {cls:=.type "list",data:=.seq #[]}}) F.called_list (F.typeCall_list_1 _) F.entry_list_init (code_list_new _ ⟨rfl,rfl⟩) fun u s1 hu=>?_
 obtain⟨rfl,rfl⟩:=hu
 have h0:(s.heap.push {cls:=.type "list",data:=.seq #[]}).get? s.heap.objs.size=some {cls:=.type "list",data:=.seq #[]}:=Ev _ rfl
 refine⟨⟨_,h0,rfl⟩,F.args_list_init_2 _ _,?_⟩
 show wpAny _ _ (YU.List.listItems (.ref s.heap.objs.size)>>=fun old=>YU.List.listUpdate (.ref s.heap.objs.size) (fun _=>#[])>>=fun _=>letGo old.toList.reverse>>=fun _=>Aad (.ref s.heap.objs.size) (.ref d) .none) _ _ _
 refine BS ?_
 unfold YU.List.listItems
 refine BS (wpAny_seqItems h0 rfl (GS (BS ?_)))
 refine wpAny_updateSeq h0 rfl (BS (wpAny_letGo ?_))
 have h2:=Aa2 (LH (fun _=>(#[]:Array Value))) h0 rfl
 have ot:∀b o,b≠s.heap.objs.size->s.heap.get? b=some o->((s.heap.push {cls:=.type "list",data:=.seq #[]}).update s.heap.objs.size (LH (fun _=>(#[]:Array Value)))).get? b=some o:=fun b o hb e=>by
  rw [WS _ _ (Me hb)]
  exact BY _ e
 refine QR (A:=A.in1) hh hd _ _ hz (hm.at' fun o e=>ot d o (ET hdl) e) h2 (Me (ET hdl)) fun s' acc c e1 e2 e3 Ug hs kT=>?_
 exact⟨rfl,hQ s' acc c e1 e2 e3 (fun b o e=>Ug b o (ET (Db e)) (ot b o (ET (Db e)) e)) hs kT⟩
end
section
def RP:List V->Hp->VK->Prop:=fun xs H Q=>∃p kvs,xs=[.ref p]/\Rd H p (.dK kvs)/\∀q,H q=none->Q (.ref q) (upd H q (.lst (kvs.map fun kv=>kV kv.1)))
theorem Bc {vs:List (Key × Value)} {acc:Array Value} (kv:KV kvs vs) (h:ItemsOf (fun i v=>∃k x,vs[i]? =some (k,x)/\(bf P w).is k v=true) acc vs.length):Vals (kvs.map fun kv=>kV kv.1) acc.toList:=by
 obtain⟨h0,h1⟩:=h
 have key:∀(kvs:List (Key × V)) (vs:List (Key × Value)),KV kvs vs->∀l:List Value,l.length=vs.length->(∀(i:Nat) (v:Value),l[i]? =some v->∃k x,vs[i]? =some (k,x)/\(bf P w).is k v=true)->Vals (kvs.map fun kv=>kV kv.1) l:=by
  intro kvs vs r
  induction r with
  |nil=>
   intro l hl _
   cases l with
   |nil=>exact .nil
   |cons=>simp at hl
  |cons r t ih=>
   intro l hl hi
   cases l with
   |nil=>simp at hl
   |cons v l=>
    refine .cons ?_ (ih l (by simpa using hl) fun i v e=>?_)
    . obtain⟨k,x,e,hk⟩:=hi 0 v rfl
      have e':=Do e
      dsimp only
      rw [r.1,e']
      exact HF hk
    . exact hi (i+1) v (by simpa using e)
 exact key kvs vs kv acc.toList (by simpa using h0) fun i v e=>h1 i v (by simpa using e)
theorem IQ (hc:X.calm=true):iL X (.type "list") RP:=by
 intro pins s σ H xs us Q I rv h
 obtain⟨p,kvs,rfl,hH,q⟩:=h
 obtain⟨u,rfl,ru⟩:=rv.one
 cases ru
 have ob:c6 X.prog X.w H s.heap p (.dK kvs):=by
  rcases hH with e|⟨o,e⟩
  . exact I.bb p _ e
  . exact(I.bb p _ e).2
 obtain⟨hz,hs,vs,kv,dof⟩:=ob
 obtain⟨ep,da⟩:=dof.dictAt
 have hlen:vs.length=kvs.length:=kv.length.symm
 refine Bf (I.ok.hd hc) hs (by rw [hlen];exact hz) da fun s' acc c eg ed eo hk HU kT=>?_
 obtain⟨h',g',d',tk',os'⟩:=s'
 have eg:g'=s.gens:=eg
 have ed:d'=s.drawn:=ed
 have eo:os'=s.os:=eo
 subst eg;subst ed;subst eo
 refine⟨.ref s.heap.objs.size,_,I.laid (t':=tk') (o:=.lst (kvs.map fun kv=>kV kv.1)) (fun b ob e=>hk b ob e) (BN _) ?_,rfl,q _ (I.bb.fresh (BN _))⟩
 exact⟨by rw [AE];exact hz,acc.toList,c,Bc kv kT,by simpa using HU⟩
end
section
variable {m:List (Str × BB)}
theorem oA.keys {H H':Hp}:∀{kvs:List (Key × V)} {m:List (Str × BB)},oA H kvs m->dB H' (kvs.map fun kv=>kV kv.1) ((m.map (·.1)).map EQ)
 |_,_,.nil=>.nil
 |_,_,.cons _ _ r=>.cons (.str _) (oA.keys r)
theorem zC:∀ss:List Str,dj (ss.map EQ)=true
 |[]=>rfl
 |_::r=>by rw [EN,dj,zC r];rfl
theorem Tw (hp:DRd H p m) (k:∀q H',ay H H'->H q=none->dg H' q ((m.map (·.1)).map EQ)->Q (.ref q) H'):RP [.ref p] H Q:=by
 obtain⟨kvs,e,dk⟩:=hp
 exact⟨p,kvs,rfl,e,fun q hq=>k q _ (cP hq) hq (wF hq dk.keys (zC _))⟩
end
theorem ui:entryFor table "dict_itemiterator.__iter__"=some YU.«dict_keyiterator.__iter__»:=
 PySem.W.kcp_entry
def Iti (d:Addr) (o:Obj) (kvs:List (Key × V)):It:=⟨fun i H=>i<kvs.length/\H d=some (.sS o (.dK kvs)),fun i H v H'=>∃t kv,kvs[i]? =some kv/\v=.ref t/\H t=none/\H'=upd H t (.tup [kV kv.1,kv.2]),fun i H=>i=kvs.length/\H d=some (.sS o (.dK kvs))⟩
theorem Jr {x1} {pos:Pos} {it:Addr} (he:o.data=.dict es ep) (mS:d≠it):
 Turn P w K (.Tuple elts x1 pos) (Iti d o kvs) [it] it (fun i h=>∃ok ov,IsItemIter h it d i kvs.length ep ok ov) where
 mem:=by simp
 obj:=fun i h st b hb=>by
  have e:b=it:=by simpa using hb
  subst e
  obtain⟨ok,ov,e⟩:=st
  exact⟨_,e,fun v z=>by cases z⟩
 keep:=fun i h h' st k=>let ⟨ok,ov,e⟩:=st;⟨ok,ov,k it (by simp) _ e⟩
 item:=by
  intro X hP hw hK hc i pins s σ H E I hf st hg
  subst hP hw hK
  obtain⟨f0,f1,f2,f3,f4,f5⟩:=hf it (by simp)
  obtain⟨hi,hd⟩:=hg
  obtain⟨_,vs,kv,da⟩:=Lg I.bb hd he
  have hl:vs.length=kvs.length:=kv.length.symm
  obtain⟨ok,ov,st⟩:=st
  obtain⟨q,hq⟩:∃q,kvs[i]? =some q:=⟨_,AC hi⟩
  obtain⟨⟨k,v⟩,hy,Yn⟩:=vA kv hq
  have Rf:it<s.heap.objs.size:=Db st
  have hn:H s.heap.objs.size=none:=I.bb.fresh (BN _)
  refine wpAny_pyNext_items_item (knd:=bf X.prog X.w) (by rw [hl];exact st) da hy fun key h' hk hit ht hz kk=>?_
  rw [hl] at hit
  refine⟨_,rfl,wpAny_letOwnedTupleGo_items (s:={s with heap:=h'}) hit fun h2 af3 sb=>?_⟩
  have I1:Inv X pins σ (upd H s.heap.objs.size (.tup [kV q.1,q.2])) {s with heap:=s.heap.push {cls:=.type "tuple",data:=.seq #[key,v]}}:=
   I.laid (t':=s.toks) (fun b u e=>BY _ e) (BN _) (show c6 X.prog X.w _ _ _ (.tup [kV q.1,q.2]) from⟨by rw [AaM];simp,[key,v],.cons (by rw [Yn.1];exact HF hk) (.cons Yn.2 .nil),IsTup.new _ _⟩)
  have hni:upd H s.heap.objs.size (.tup [kV q.1,q.2]) it=none:=by rw [az (ET Rf)];exact f0
  have I2:Inv X pins σ (upd H s.heap.objs.size (.tup [kV q.1,q.2])) {s with heap:=h2}:=by
   refine Inv.turned (s:={s with heap:=s.heap.push {cls:=.type "tuple",data:=.seq #[key,v]}}) (h':=h2) (t':=s.toks) (it:=it) I1 (fun b u hb e=>?_) hni f1 f3 f4 f5
   by_cases WD:b=s.heap.objs.size
   . subst WD
     have e0:(s.heap.push {cls:=.type "tuple",data:=.seq #[key,v]}).get? s.heap.objs.size=some {cls:=.type "tuple",data:=.seq #[key,v]}:=Ev _ rfl
     have e1:=e0.symm.trans e
     cases e1
     exact(sb.2 _ hb).trans ht
   . exact(sb.2 _ hb).trans (kk b u hb (By e WD))
  refine⟨.ref s.heap.objs.size,_,I2,rfl,⟨_,q,hq,rfl,hn,rfl⟩,⟨_,_,af3⟩,fun b hb=>?_⟩
  have e:b=it:=by simpa using hb
  rw [e]
  exact hni
 done:=by
  intro X hP hw hK hc i pins s σ H E I hf st hg
  subst hP hw hK
  obtain⟨f0,f1,f2,f3,f4,f5⟩:=hf it (by simp)
  obtain⟨hi,hd⟩:=hg
  obtain⟨_,vs,kv,da⟩:=Lg I.bb hd he
  have hl:vs.length=kvs.length:=kv.length.symm
  obtain⟨ok,ov,st⟩:=st
  refine wpAny_pyNext_items_end (knd:=bf X.prog X.w) (I.ok.hd hc) (by rw [hl];exact st) da (by rw [hi,<-hl];simp) fun h' hx=>⟨rfl,I.turned (t':=s.toks) (fun b u hb e=>hx b u hb e) f0 f1 f3 f4 f5⟩
 self:=fun A i s Q E st q=>by
  obtain⟨ok,ov,st⟩:=st
  have hT:s.TypeIs (.ref it) "dict_itemiterator":=⟨_,st,rfl⟩
  refine AbL hT F.slot_dict_itemiterator_iter (Aap F.slot_dict_itemiterator_iter hT ui ?_ (F.args_dict_itemiterator_iter_1 _))
  show wpAny _ _ (ret (.ref it)) _ _ s
  exact GS ⟨_,rfl,"dict_itemiterator",_,hT,F.slot_dict_itemiterator_next.lookup,q⟩
def Pz (tl:TE):TI:=fun σ H R=>tl σ H fun v H1=>∃d kvs,v=.ref d/\H1 d=some (.dK kvs)/\∀o,R (Iti d o kvs) (upd H1 d (.sS o (.dK kvs)))
theorem Qv {x1} {R1:Pos} {l:Expr} {tl:TE} {apos jw:Pos} (hl:PE X l tl) (BO:WE l "items" X.env (eval l X.env)=eval l X.env:=by rfl) (hline:(apos.endLine==jw.line)=true:=by rfl):PI X (.Tuple elts x1 R1) (.Call (.Attribute l "items" apos) [] [] jw) (Pz tl):=by
 intro pins s σ H R I h
 refine Aax BO hline (dC (hl pins s σ H _ I h) fun v s1 ⟨y,H1,I1,r1,q1⟩=>?_)
 obtain⟨d,kvs,rfl,hd,q⟩:=q1
 obtain⟨h1,h2⟩:=Er I1 (T:="dict") r1 (.inr (.inr (.inl ⟨rfl,.inl ⟨kvs,hd⟩⟩)))
 cases r1
 refine⟨"dict","dict.items",Lu,PySem.F.slot_dict_items,PySem.F.type_dict_items,h1,h2,TD rfl (Abo ?_)⟩
 obtain⟨_,hs,vs,kv,o,es,ep,ho,a2,a3,a4⟩:=(show c6 X.prog X.w H1 s1.heap d (.dK kvs) from I1.bb d _ hd)
 have da:s1.heap.DictAt (bf X.prog X.w) d vs ep:=⟨o,es,ho,a2,a3,a4⟩
 have gP:d<s1.heap.objs.size:=Db ho
 have hlen:vs.length=kvs.length:=kv.length.symm
 refine Abx PySem.F.slot_dict_items da.dictOf.typeIs PySem.F.entry_dict_items (PySem.F.args_dict_items_1 _) (meets_dict_items (bf X.prog X.w) d hs) ⟨⟨vs,da.dictOf⟩,?_⟩
 refine wpAny_pyIter_items (v:=s1.heap.objs.size) ⟨_,Ev _ rfl,rfl,rfl⟩ (da.push _) ?_
 have I2:=I1.freeze hd ho
 have hsz:(s1.heap.push {cls:=.type "dict_items",data:=.fields #[.ref d]}).objs.size=s1.heap.objs.size+1:=WJ ..
 refine⟨_,[_],_,_,_,rfl,I2.kept (t':=s1.toks) fun b u e=>BY _ (BY _ e),Jr a3 (ET (by rw [hsz];exact Wp gP)),⟨_,_,by rw [<-hlen];exact Ev _ rfl⟩,fun b hb=>?_,q o⟩
 have e:b=(s1.heap.push {cls:=.type "dict_items",data:=.fields #[.ref d]}).objs.size:=by simpa using hb
 subst e
 exact I2.xY (by rw [hsz];exact Zs _) (I2.bb.fresh (by rw [hsz];exact Zs _))
section
theorem ED {x:V} {i j:Nat} {d1 d2:BB} {R:St->Hp->Prop} (hd:Dv H x (.tuple [d1,d2])) (h:∀v1 v2,Dv H v1 d1->Dv H v2 d2->R ((σ.set i (some v1)).set j (some v2)) H):
 Ii K 2 (uP (lC i) (uP (lC j) M3)) x σ H R:=by
 cases hd with
 |tup ha r=>
  cases r with
  |cons h1 r=>
   cases r with
   |cons h2 r=>
    cases r
    exact⟨_,_,rfl,.of ha,rfl,_,_,rfl,_,_,rfl,rfl,h _ _ h1 h2⟩
end
end L2
namespace L2
open PySem
set_option maxRecDepth 100000
end L2
namespace L2
open PySem PySem.Spec PyProof.Rows
section
variable {prog:Fk} {w:World} {A:IS} {E:Value->AM->Prop} {s:AM}
set_option maxRecDepth 100000 in
set_option maxHeartbeats 3200000 in
end
end L2
namespace L2
open PySem PySem.Spec PyProof.Rows PySem.W
variable {elts:List Expr}
section
variable {X:Cx} {pins:List (Addr × Obj)} {σ:St} {H:Hp} {s:AM} {h':Heap}
theorem Inv.Tz {t':Nat} {i1 i2:Addr} (I:Inv X pins σ H s) (k:∀b o,b≠i1->b≠i2->s.heap.get? b=some o->h'.get? b=some o) (f1:iI X pins H i1) (f2:iI X pins H i2):Inv X pins σ H {s with heap:=h',toks:=t'}:=by
 have Yg:∀b u,H b=some u->b≠i1/\b≠i2:=fun b u e=>⟨fun z=>(by rw [z,f1.1] at e;cases e),fun z=>(by rw [z,f2.1] at e;cases e)⟩
 have nc:∀{b:Addr},b∉[i1,i2]->b≠i1/\b≠i2:=fun {b} h=>by simpa using h
 refine I.step (g':=s.gens) (d':=s.drawn) (ch:=[i1,i2]) (fun b hb=>?_) (fun b o _ _ hc e _=>k b o (nc hc).1 (nc hc).2 e) (fun b o _ _ hc e _=>⟨o.slots,k b o (nc hc).1 (nc hc).2 e⟩) (fun _ _ _ _ n=>n)
  (fun b o hc e=>⟨o,k b o (nc hc).1 (nc hc).2 e⟩) (fun _ _ e=>e) (fun _ _ _ e=>e) (fun b ps e=>⟨#[],by rw [e];simp⟩) (fun m hm=>?_) (fun b u e=>?_) I.bare
 . have e:b=i1\/b=i2:=by simpa using hb
   rcases e with rfl|rfl
   . exact⟨f1.2.2.2.1,f1.2.1,f1.2.2.2.2.1,f1.2.2.2.2.2⟩
   . exact⟨f2.2.2.2.1,f2.2.1,f2.2.2.2.2.1,f2.2.2.2.2.2⟩
 . obtain⟨o,es,ep,ho,r⟩:=hm
   exact⟨o,es,ep,k _ o (Me f1.2.1) (Me f2.2.1) ho,r⟩
 . refine(I.bb b u e).qW (fun c v hc q=>k c v ?_ ?_ q) (fun _ q=>q) fun _ _ q=>q
   . rcases hc with z|z
     . rw [z];exact(Yg b u e).1
     . exact(Yg c _ z).1
   . rcases hc with z|z
     . rw [z];exact(Yg b u e).2
     . exact(Yg c _ z).2
end
theorem qK:entryFor table "enumerate.__iter__"=some YU.«dict_keyiterator.__iter__»:=
 entryFor_alias (id':="dict_keyiterator.__iter__") (by kernel_rfl) rfl (by decide+kernel) (by kernel_rfl)
def Itn (K:At) (a:Addr):It:=⟨fun i H=>∃xs x,gD K H a xs/\xs[i]? =some x,fun i H v H'=>∃t x,(∀xs,gD K H a xs->xs[i]? =some x)/\v=.ref t/\H t=none/\H'=upd H t (.tup [.int i,x]),fun i H=>∃xs,gD K H a xs/\xs.length<=i⟩
theorem Mm {P:Fk} {w:World} {K:At} {x1} {pos:Pos} {e it a:Addr} (mS:e≠it):
 Turn P w K (.Tuple elts x1 pos) (Itn K a) [e,it] e (fun i h=>(∃old,IsEnum h e it (i:Nat) old)/\h.IsListIter it a i) where
 mem:=by simp
 obj:=fun i h st b hb=>by
  have e':b=e\/b=it:=by simpa using hb
  obtain⟨⟨old,q⟩,o,e1,c,d⟩:=st
  rcases e' with rfl|rfl
  . exact⟨_,q,fun v z=>by cases z⟩
  . exact⟨o,e1,fun v z=>by rw [d] at z;cases z⟩
 keep:=fun i h h' st k=>⟨let ⟨old,q⟩:=st.1;⟨old,k e (by simp) _ q⟩,st.2.at fun o q=>k it (by simp) o q⟩
 item:=by
  intro X hP hw hK hc i pins s σ H E I hf st hg
  subst hP hw hK
  have fe:=hf e (by simp)
  have fi:=hf it (by simp)
  obtain⟨xs,x,hq,hx⟩:=hg
  obtain⟨aZ,rv,p,hz⟩:=I.list hq
  obtain⟨u,hu,ru⟩:=rv.get hx
  obtain⟨⟨old,he⟩,hit⟩:=st
  have hel:e<s.heap.objs.size:=Db he
  have Rf:it<s.heap.objs.size:=by obtain⟨o,ho,_⟩:=id hit;exact Db ho
  have hn:H s.heap.objs.size=none:=I.bb.fresh (BN _)
  refine wpAny_pyNext_enum_item he hit p.isList (x:=u) (by simpa using hu) mS fun h' V0 ahh ht hz' kk=>?_
  refine⟨_,rfl,wpAny_letOwnedTupleGo_enum (s:={s with heap:=h',toks:=s.toks+1}) V0 fun h2 he2 sb=>?_⟩
  replace sb:Abt e h' h2:=sb
  let tb:Obj:={cls:=.type "tuple",data:=.seq #[.int i s.toks,u]}
  have I1:Inv X pins σ (upd H s.heap.objs.size (.tup [.int i,x])) {s with heap:=s.heap.push tb}:=
   I.laid (t':=s.toks) (fun b u e=>BY _ e) (BN _) (show c6 X.prog X.w _ _ _ (.tup [.int i,x]) from⟨by rw [AaM];simp,[.int i s.toks,u],.cons ⟨_,rfl⟩ (.cons ru .nil),IsTup.new _ _⟩)
  have Zz:upd H s.heap.objs.size (.tup [.int i,x]) e=none:=by rw [az (ET hel)];exact fe.1
  have acx:upd H s.heap.objs.size (.tup [.int i,x]) it=none:=by rw [az (ET Rf)];exact fi.1
  have I2:Inv X pins σ (upd H s.heap.objs.size (.tup [.int i,x])) {s with heap:=h2,toks:=s.toks+1}:=by
   refine Inv.Tz (s:={s with heap:=s.heap.push tb}) (h':=h2) (t':=s.toks+1) (i1:=e) (i2:=it) I1 (fun b u' Ke Ih q=>?_) ⟨Zz,fe.2⟩ ⟨acx,fi.2⟩
   by_cases WD:b=s.heap.objs.size
   . subst WD
     have e0:(s.heap.push tb).get? s.heap.objs.size=some tb:=Ev _ rfl
     have e1:=e0.symm.trans q
     cases e1
     exact(sb.2 _ Ke).trans ht
   . exact(sb.2 _ Ke).trans (kk b u' Ke Ih (By q WD))
  refine⟨.ref s.heap.objs.size,_,I2,rfl,⟨_,x,fun ys hy=>by rw [I.Gg hy hq];exact hx,rfl,hn,rfl⟩,⟨⟨_,he2⟩,ahh.at fun o q=>(sb.2 it (Me mS)).trans q⟩,fun b hb=>?_⟩
  have e':b=e\/b=it:=by simpa using hb
  rcases e' with rfl|rfl
  . exact Zz
  . exact acx
 done:=by
  intro X hP hw hK hc i pins s σ H E I hf st hg
  subst hP hw hK
  obtain⟨f0,f1,f2,f3,f4,f5⟩:=hf it (by simp)
  obtain⟨xs,hq,hx⟩:=hg
  obtain⟨aZ,rv,p,hz⟩:=I.list hq
  have hl:=rv.length
  obtain⟨⟨old,he⟩,hit⟩:=st
  exact wpAny_pyNext_enum_end (I.ok.hd hc) he hit p.isList (by simp;omega) fun h' eb=>⟨rfl,I.turned (t':=s.toks) (fun b o hb e=>eb b o hb e) f0 f1 f3 f4 f5⟩
 self:=fun A i s Q E st q=>by
  obtain⟨⟨old,he⟩,hit⟩:=st
  have hT:s.TypeIs (.ref e) "enumerate":=⟨_,he,rfl⟩
  refine AbL hT Aae (Aap Aae hT qK ?_ (F.args_enumerate_iter_1 _))
  show wpAny _ _ (ret (.ref e)) _ _ s
  exact GS ⟨_,rfl,"enumerate",_,hT,F.slot_enumerate_next.lookup,q⟩
def VH (K:At) (ta:TA):TI:=fun σ H R=>ta σ H fun vs H1=>∃a,vs=[.ref a]/\(∃xs,gD K H1 a xs)/\R (Itn K a) H1
theorem UX {X:Cx} {x1} {R1:Pos} {a:Expr} {ta:TA} {p pos:Pos} (hg:Gl X "enumerate") (hm:X.mg "enumerate"=none) (ha:PA X [a] ta) (hs:DO [a] X.env=[(false,eval a X.env)]:=by rfl):
 PI X (.Tuple elts x1 R1) (.Call (.Name "enumerate" p) [a] [] pos) (VH X.K ta):=by
 intro pins s σ H R I h
 refine Call_ (u9 I hg hm boot_enumerate (Zl (dC (ha pos pins s σ H _ I h) fun us s1 ⟨vs,H1,I1,r1,q1⟩=>?_) hs rfl))
 obtain⟨l,e,⟨xs,hq⟩,q⟩:=q1
 subst e
 cases r1 with
 |cons r rr=>
  cases rr
  cases r
  obtain⟨aZ,rv,p,hz⟩:=I1.list hq
  refine call_enumerate_list p.isList fun h' he hit hsz hk=>?_
  have hT:(⟨h',s1.gens,s1.drawn,s1.toks,s1.os⟩:AM).TypeIs (.ref (s1.heap.objs.size+1)) "enumerate":=⟨_,he,rfl⟩
  refine AbL hT Aae (Aap Aae hT qK ?_ (F.args_enumerate_iter_1 _))
  show wpAny _ _ (ret (.ref (s1.heap.objs.size+1))) _ _ _
  refine GS ⟨_,rfl,"enumerate",_,hT,F.slot_enumerate_next.lookup,?_⟩
  refine⟨s1.heap.objs.size+1,[s1.heap.objs.size+1,s1.heap.objs.size],_,_,H1,rfl,I1.kept (t':=s1.toks) hk,Mm (a:=l) (Nat.succ_ne_self _),⟨⟨_,he⟩,hit⟩,fun b hb=>?_,q⟩
  have e:b=s1.heap.objs.size+1\/b=s1.heap.objs.size:=by simpa using hb
  rcases e with rfl|rfl
  . exact I1.xY (Zs _) (I1.bb.fresh (Zs _))
  . exact I1.xY (BN _) (I1.bb.fresh (BN _))
end L2
namespace L2
open PySem PySem.Spec PyProof.Rows PySem.W
variable {kvs:List (Key × V)} {ns:List Int} {te:TE} {p:Addr} {H:Hp} {v:V} {xs:List V} {kf:V->Int × Str} {Q:VK} {E:Value->AM->Prop} {ks:List (Int × Str)} {g:TG} {pins:List (Addr × Obj)} {σ:St} {s:AM} {X:Cx} {K:At}
theorem EE (num:Nat->Int):∀k,argBest (fun i j=>decide (num i<num j)) k<=k/\∀j,j<=k->num (argBest (fun i j=>decide (num i<num j)) k)<=num j
 |0=>⟨Nat.le_refl _,fun j hj=>by have:j=0:=by omega
                                 subst this;exact AaR _⟩
 |k+1=>by
  obtain⟨h1,h2⟩:=EE num k
  unfold argBest
  by_cases h:num (k+1)<num (argBest (fun i j=>decide (num i<num j)) k)
  . rw [if_pos (decide_eq_true h)]
    refine⟨BN _,fun j hj=>?_⟩
    by_cases hk:j=k+1
    . subst hk;exact AaR _
    . exact Int.le_trans (OP h) (h2 j (by omega))
  . rw [if_neg (by simpa using h)]
    refine⟨by omega,fun j hj=>?_⟩
    by_cases hk:j=k+1
    . subst hk;omega
    . exact h2 j (by omega)
section
theorem Ka {H1:Hp} {vs:List (Key × Value)} {m:List (Str × BB)} {i:Nat} {k:Key} {v:Value} (hlen:vs.length=kvs.length) (kv:KV kvs vs) (dk:oA H1 kvs m) (F4:m.map (·.2)=ns.map Pd) (hv:vs[i]? =some (k,v)):∃t,v=.int (ns.getD i 0) t:=by
 have hnl:ns.length=kvs.length:=by
  have:=congrArg Abn F4
  rw [AE,AE] at this
  rw [<-this];exact dk.length.symm
 have hi:i<kvs.length:=by rw [<-hlen];exact(AS.mp hv).1
 obtain⟨y,hy,Yn⟩:=vA kv (AC hi)
 rw [hv] at hy
 cases hy
 obtain⟨k',dd,Ug,hkc,hdv⟩:=dk.To (AC hi)
 have Ic:i<ns.length:=by omega
 have hdd:dd=.int (ns.getD i 0):=by
  have e1:(m.map (·.2))[i]? =some dd:=by rw [Fa,Ug];rfl
  rw [F4,Fa,AC Ic] at e1
  rw [Lo,AC Ic]
  exact(Do e1).symm
 subst hdd
 have hq:=hdv.int_inv
 have r2:=Yn.2
 rw [hq] at r2
 obtain⟨t,ht⟩:=r2
 exact⟨t,ht⟩
def RO:V->Hp->VK->Prop:=fun x H Q=>∃(p:Addr) (m:List (Str × BB)) (ns:List Int),x=.ref p/\oq H p m/\m.map (·.2)=ns.map Pd/\0<ns.length/\∀k∈ns,(∀j∈ns,k<=j)->Q (.int k) H
def Wt (te:TE):TE:=fun σ H Q=>te σ H fun x H1=>RO x H1 Q
theorem Tf {e:Expr} {p pos apos jw:Pos} (he:PE X e te) (hc:X.calm=true) (hg:Gl X "min") (hm:X.mg "min"=none) (BO:WE e "values" X.env (eval e X.env)=eval e X.env:=by rfl) (hline:(apos.endLine==jw.line)=true:=by rfl) (h2:DO [.Call (.Attribute e "values" apos) [] [] jw] X.env=(false,eval (.Call (.Attribute e "values" apos) [] [] jw) X.env)::DO [] X.env:=by rfl):
 PE X (.Call (.Name "min" p) [.Call (.Attribute e "values" apos) [] [] jw] [] pos) (Wt te):=by
 intro pins s σ H Q I h
 refine Sk (u9 I hg hm boot_min ?_ (by decide) (by decide))
 refine PyProof.Rows.callWith_builtin1 ?_ h2 rfl
 rw [h2]
 show wpAny _ _ (spliced ((false,eval (.Call (.Attribute e "values" apos) [] [] jw) X.env)::SS pos (DO [] X.env))) _ _ s
 refine Abu (Aax BO hline (dC (he pins s σ H _ I h) fun v s1 ⟨y,H1,I1,r1,q1⟩=>?_))
 obtain⟨d,m,ns,rfl,⟨kvs,hd,dk⟩,F4,abU,q⟩:=q1
 obtain⟨h1,h2⟩:=Er I1 (T:="dict") r1 (.inr (.inr (.inl ⟨rfl,.inl ⟨kvs,hd⟩⟩)))
 cases r1
 refine⟨"dict","dict.values",Lu,PySem.F.slot_dict_values,PySem.F.type_dict_values,h1,h2,TD rfl (Abo ?_)⟩
 obtain⟨_,hs,vs,kv,o,es,ep,ho,a2,a3,a4⟩:=(show c6 X.prog X.w H1 s1.heap d (.dK kvs) from I1.bb d _ hd)
 have da:s1.heap.DictAt (bf X.prog X.w) d vs ep:=⟨o,es,ho,a2,a3,a4⟩
 have gP:d<s1.heap.objs.size:=Db ho
 have hlen:vs.length=kvs.length:=kv.length.symm
 refine Abx PySem.F.slot_dict_values da.dictOf.typeIs PySem.F.entry_dict_values (PySem.F.args_dict_values_1 _) (meets_dict_values (bf X.prog X.w) d hs) ⟨⟨vs,da.dictOf⟩,?_⟩
 refine AbI ?_
 have hsz:(s1.heap.push {cls:=.type "dict_values",data:=.fields #[.ref d]}).objs.size=s1.heap.objs.size+1:=WJ ..
 have hA:X.A.in1.handled=none:=I1.ok.hd hc
 have hnl:ns.length=kvs.length:=by
  have:=congrArg Abn F4
  rw [AE,AE] at this
  rw [<-this];exact dk.length.symm
 refine call_min_walk (wpAny_pyIter_values (v:=s1.heap.objs.size) ⟨_,Ev _ rfl,rfl,rfl⟩ (da.push _) ?_)
 refine⟨_,_,_,_,_,_,fun i j=>decide (ns.getD i 0<ns.getD j 0),rfl,Walks.dictValues (knd:=bf X.prog X.w) hA _ d (ET (by rw [hsz];exact Wp gP)) vs ep,⟨⟨_,Ev _ rfl,rfl,rfl⟩,(da.push _).push _⟩,?_,by omega,CmpOf.ints_lt (fun i=>ns.getD i 0) ?_,?_⟩
 . intro b hb
   rw [WJ]
   have:b=(s1.heap.push {cls:=.type "dict_values",data:=.fields #[.ref d]}).objs.size\/b=d:=by simpa using hb
   rcases this with rfl|rfl
   . exact Aan _
   . rw [hsz];exact Wp (Wp gP)
 . rintro i v ⟨k,hv⟩
   exact Ka hlen kv dk F4 hv
 . rintro v h' tk ⟨k,hv⟩ hk
   have b:=EE (fun i=>ns.getD i 0) (vs.length - 1)
   generalize argBest (fun i j=>decide (ns.getD i 0<ns.getD j 0)) (vs.length - 1)=ix at b hv
   obtain⟨b1,b2⟩:=b
   obtain⟨t,rfl⟩:=Ka hlen kv dk F4 hv
   have I2:Inv X pins σ H1 {s1 with heap:=s1.heap.push {cls:=.type "dict_values",data:=.fields #[.ref d]}}:=I1.kept (t':=s1.toks) fun b o e=>BY _ e
   have fp:=I2.xY (H':=H1) (BN _) (I2.bb.fresh (BN _))
   have I3:=I2.turned (t':=tk) (h':=h') (it:=(s1.heap.push {cls:=.type "dict_values",data:=.fields #[.ref d]}).objs.size) (fun b o hb e=>hk b o (by simpa using hb) (BY _ e)) fp.1 fp.2.1 fp.2.2.2.1 fp.2.2.2.2.1 fp.2.2.2.2.2
   have hb:ix<ns.length:=by omega
   refine⟨.int _,H1,I3,⟨t,rfl⟩,q _ ?_ ?_⟩
   . rw [Lo,AC hb];exact Aa7 hb
   . intro k hk
     obtain⟨j,hj,rfl⟩:=Pf hk
     have:=b2 j (by omega)
     rwa [Lo (i:=j),AC hj] at this
end
section
theorem UK (h:te σ H fun x H1=>RO x H1 Q):Wt te σ H Q:=h
theorem Z6 {m:List (Str × BB)} (hp:oq H p m) (hm:m.map (·.2)=ns.map Pd) (hl:0<ns.length) (h:∀k∈ns,(∀j∈ns,k<=j)->Q (.int k) H):RO (.ref p) H Q:=⟨p,m,ns,rfl,hp,hm,hl,h⟩
end
def pairD (k:Int × Str):BB:=.tuple [.int k.1,.str k.2]
def kfH (H:Hp):V->Int × Str
 | .ref a=>match H a with
   |some (.tup [.int i,.str x])=>(i,x)
   |_=>(0,AbX)
 |_=>(0,AbX)
theorem QE {k:Int × Str} (h:Dv H v (pairD k)):kfH H v=k:=by
 unfold pairD at h
 cases h with
 |tup ha r=>
  cases r with
  |cons h1 r=>
   cases r with
   |cons h2 r=>
    cases r
    cases h1;cases h2
    simp only [kfH,ha]
theorem LA {H:Hp}:∀{xs:List V} {ks:List (Int × Str)},dB H xs (ks.map pairD)->dB H xs (xs.map fun v=>.tuple [.int (kfH H v).1,.str (kfH H v).2])
 |_,[],.nil=>.nil
 |_,_::_,.cons h r=>.cons (by show Dv H _ (.tuple [.int (kfH H _).1,.str (kfH H _).2]);rw [QE h];exact h) (LA r)
section
theorem A4 {l:Addr} (I:Inv X pins σ H s) (hl:gD X.K H l xs) (h64:xs.length<64) (hkk:∀{s':AM} {us:List Value},Inv X pins σ H s'->Vals xs us->∃fs,KatTups s'.heap us fs/\fs.length=us.length/\∀v∈fs,Looks (model X.prog X.w) s'.heap (typeOf v) (.type "int")) (YD:∀{s':AM} {us:List Value} {A:IS},Inv X pins σ H s'->Vals xs us->U4 xs.length (fun i j=>aW (kf (xs.getD i .aQ)) (kf (xs.getD j .aQ))) (fun z=>z=s') (kas_ask X.prog X.w A (tuples' true) us)) (fin:wD X pins σ H aW kf xs Q):
 wpAny (model X.prog X.w) X.A (call (.builtin "sorted") [.ref l]) (EP X pins σ Q) E s:=by
 have V1:(64:Nat)<=EM:=by decide
 obtain⟨vs,rv,p,hz⟩:=I.list hl
 have lx:=rv.length
 refine Calls.call_function_entry kind_sorted plain_sorted entry_sorted (args_sorted1 _) ?_
 unfold YU.«sorted»
 refine BS (m:=checkCount "sorted" 1 1 _) (GS ?_)
 refine BS (collect_list p.isList ?_ (by omega))
 refine BS (Abe ?_ (by omega))
 have fp0:iI X pins H s.heap.objs.size:=I.xY (BN _) (I.bb.fresh (BN _))
 have I2:Inv X pins σ H {s with heap:=(s.heap.push (MW "list" #[] 0)).update s.heap.objs.size (LH (·++vs.toArray))}:=(I.zg (o:=MW "list" #[] 0)).Fs fp0
 have hsz:((s.heap.push (MW "list" #[] 0)).update s.heap.objs.size (LH (·++vs.toArray))).objs.size=s.heap.objs.size+1:=by rw [Heap.size_update,size_push']
 generalize hG:(s.heap.push (MW "list" #[] 0)).update s.heap.objs.size (LH (·++vs.toArray))=h2 at I2 hsz ⊢
 have J9:(h2.push (MW "list" vs.toArray 0)).get? h2.objs.size=some (MW "list" vs.toArray 0):=Ev _ rfl
 have I3:Inv X pins σ H {s with heap:=h2.push (MW "list" vs.toArray 0)}:=I2.zg
 have fa:iI X pins H h2.objs.size:=I2.xY (BN _) (I2.bb.fresh (BN _))
 have F2:X.jk.heap.objs.size<=h2.objs.size:=I2.sz
 show wpAny _ _ _ _ _ {s with heap:=h2.push (MW "list" vs.toArray 0)}
 generalize h2.objs.size=a at*
 refine BS (AaD (Aap slot_list_sort ⟨_,J9,rfl⟩ entry_list_sort ?body (args_list_sort _)))
 case body=>
  show wpAny (model X.prog X.w) X.A.in1.in1 (YU.«list.sort» ⟨[.ref a],[]⟩) _ _ _
  rw [list_sort_plain]
  generalize h2.push (MW "list" vs.toArray 0)=h3 at*
  refine BS (listItems_at J9 rfl ?_)
  refine BS (Aaf J9 rfl ?_ (by rw [Cn];omega) (KF _))
  have I4:Inv X pins σ H {s with heap:=h3.update a (LH fun _=>(#[]:Array Value))}:=I3.Fs fa
  obtain⟨e1,oa⟩:∃e1,(h3.update a (LH fun _=>(#[]:Array Value))).get? a=some (MW "list" #[] e1):=⟨_,Aaa J9 fun _=>#[]⟩
  generalize h3.update a (LH fun _=>(#[]:Array Value))=h4 at*
  refine BS (AbS oa rfl ?_)
  refine BS (wpAny_newTuple ?_ (by show vs.length<=_;omega))
  have I5:Inv X pins σ H {s with heap:=h4.push (MW "tuple" vs.toArray 0)}:=I4.zg
  have oa5:(h4.push (MW "tuple" vs.toArray 0)).get? a=some (MW "list" #[] e1):=BY _ oa
  show wpAny _ _ _ _ _ {s with heap:=h4.push (MW "tuple" vs.toArray 0)}
  generalize h4.push (MW "tuple" vs.toArray 0)=h5 at*
  refine BS (Abe ?_ (KF _))
  have I6:Inv X pins σ H {s with heap:=h5.push (MW "list" #[] 0)}:=I5.zg
  have VI:(h5.push (MW "list" #[] 0)).get? a=some (MW "list" #[] e1):=BY _ oa5
  refine AaD ?_
  show wpAny _ _ _ _ _ {s with heap:=h5.push (MW "list" #[] 0)}
  generalize h5.push (MW "list" #[] 0)=h6 at*
  dsimp only
  by_cases gP:vs.toArray.size<2
  . rw [if_pos gP,if_pos gP]
    refine BS (GS ?_)
    rw [StateT.run_pure]
    refine BS (GS ?_)
    dsimp only
    have X2:(arrOf (SortSt.mk' general' (vs.toArray.zip vs.toArray) #[] 7 none)).map (·.2)=ID vs:=by
     show(vs.toArray.zip vs.toArray).map (·.2)=ID vs
     apply Array.toList_inj.mp
     simp [List.map_snd_zip]
    rw [X2]
    refine BS (AbS VI rfl ?_)
    refine BS (Aaf VI rfl ?_ (KF _) (by show(ID vs).size<=_;rw [Cn];omega))
    simp only [bne_self_eq_false,IF,if_false]
    have I7:=(I6.Fs (f:=LH fun _=>ID vs) fa).Qe fa F2 (by rw [rv.length];omega) rv (Aaa VI fun _=>ID vs)
    refine GS ⟨_,rfl,GS ⟨_,rfl,.ref a,_,I7,rfl,fin a xs H (ay.refl _) fa.1 fa.1 ⟨AbC _,?_⟩⟩⟩
    rw [Cn] at gP
    match xs,lx with
    |[],_=>exact .nil
    |[_],_=>exact List.pairwise_singleton _ _
    |_::_::_,lx=>simp at lx;omega
  . rw [if_neg gP,if_neg gP]
    rw [Cn] at gP
    obtain⟨fs,k1,k2,k3⟩:=hkk I6 rv
    refine BS (kat_kind k1 (by omega) k3 (by decide) ?_)
    refine BS (Pc (kat_run (Q:=fun C3 s2=>s2={s with heap:=h6}/\∃p:Array Nat,Ix xs.length p/\arrOf C3=p.map (kas_item ((ID vs).zip (ID vs)))/\failedOf C3=none/\Up (fun i j=>aW (kf (xs.getD i .aQ)) (kf (xs.getD j .aQ))) p xs.length)
     (G:=fun p s2=>s2={s with heap:=h6}/\Ix xs.length p/\Up (fun i j=>aW (kf (xs.getD i .aQ)) (kf (xs.getD j .aQ))) p xs.length) rfl (by omega) (by omega) (fun p C3 s2 a1 a2 a3 ⟨a4,a5,a6⟩=>⟨a4,p,a5,a2,a3,a6⟩) ?_) ?_ fun _ _ z=>z)
    . rw [show vs.length=xs.length by omega]
      refine Kg (lt:=fun i j=>aW (kf (xs.getD i .aQ)) (kf (xs.getD j .aQ))) (S:=fun z=>z={s with heap:=h6}) ⟨fun _=>gI _,fun _ _=>Bj,fun _ _ _=>BE⟩ (YD I6 rv) (by omega) (fun p s2 hs hp hu=>⟨hs,hp,hu⟩) _ rfl
    . rintro⟨⟨⟩,C3⟩ s2 ⟨rfl,p,hp,har,hf,hu⟩
      dsimp only
      rw [kat_snds rfl har]
      have ho:(p.toList.map fun i=>vs.getD i Of).length<64:=by simp [hp.sz];omega
      refine BS (AbS VI rfl ?_)
      refine BS (Aaf VI rfl ?_ (KF _) (by show(ID (p.toList.map fun i=>vs.getD i Of)).size<=_;rw [Cn];omega))
      rw [hf]
      simp only [bne_self_eq_false,IF,if_false]
      have Ig:=yt rv p.toList
      have I7:=(I6.Fs (f:=LH fun _=>ID (p.toList.map fun i=>vs.getD i Of)) fa).Qe fa F2 (by rw [Ig.length];omega) Ig (Aaa VI fun _=>ID (p.toList.map fun i=>vs.getD i Of))
      exact GS ⟨_,rfl,GS ⟨_,rfl,.ref a,_,I7,rfl,fin a _ H (ay.refl _) fa.1 fa.1 (Gd hp hu)⟩⟩
theorem EH {l:Addr} (I:Inv X pins σ H s) (hl:gD X.K H l xs) (h64:xs.length<64) (dv:dB H xs (xs.map fun v=>.tuple [.int (kf v).1,.str (kf v).2])) (fin:wD X pins σ H aW kf xs Q):
 wpAny (model X.prog X.w) X.A (call (.builtin "sorted") [.ref l]) (EP X pins σ Q) E s:=
 A4 I hl h64 (fun I r=>uZ I r dv) (fun I r=>DQ I r dv) fin
def RB:List V->Hp->VK->Prop:=fun xs H Q=>∃(v:V) (ks:List (Int × Str)),xs=[v]/\Dv H v (.list (ks.map pairD))/\ks.length<64/\∀q H' (Fh:List (Int × Str)),ay H H'->H q=none->Fh.Perm ks->Fh.Pairwise (fun c d=>aW d c=false)->dg H' q (Fh.map pairD)->Q (.ref q) H'
theorem Ij:iL X (.builtin "sorted") RB:=by
 intro pins s σ H xs us Q I r h
 obtain⟨v,ks,rfl,hd,hl,q⟩:=h
 obtain⟨u,rfl,ru⟩:=vals1 r
 obtain⟨p,ys,rfl,e,dv⟩:=hd.lst_inv
 cases ru
 refine EH I (e X.K) (by rw [dv.length,AE];exact hl) (LA dv) fun a zs H' sm hn hn' ord=>?_
 obtain⟨pm,pw⟩:=ord
 obtain⟨Fh,pc,dv'⟩:=dv.perm pm
 have jK:ay H (upd H' a (.lst zs)):=sm.trans (cP hn')
 exact q a _ Fh jK hn pc (dB.pairwise (R:=fun a b=>aW b a=false) (key:=fun k=>k) (fun v c hv=>QE hv) dv' pw) ⟨zs,av,dv'.keeps jK,bE (fun _=>rfl) _⟩
end
section
theorem Uk (hp:Dv H v (.list (ks.map pairD))) (hl:ks.length<64) (h:∀q H' (Fh:List (Int × Str)),ay H H'->H q=none->Fh.Perm ks->Fh.Pairwise (fun c d=>aW d c=false)->dg H' q (Fh.map pairD)->Q (.ref q) H'):RB [v] H Q:=⟨v,ks,rfl,hp,hl,h⟩
end
section
variable {m:List (Str × BB)} {k:Str}
theorem ab5 {n:Nat} {tl:TE} {tc:TT} (hp:oq H p m) (htl:∀R:V->Hp->Prop,R (.ref p) H->tl σ H R) (pf:Str × BB->Bool) (fd:Str × BB->BB) (hlen:m.length<=4000) (hi:∀c,D1 (fd c)=true) (turn:∀x c Hf H' (N:Option V->Hp->Prop),c∈m->Mv [p] H Hf->DRd Hf p m->ay Hf H'->Dv H' x (.tuple [.str c.1,c.2])->(pf c=true->∀y H4,ay H' H4->Dv H4 y (fd c)->N (some y) H4)->(pf c=false->∀H3,ay H' H3->N none H3)->
  g x (Mn n none++σ) H' fun σ2 H2=>tc σ2 H2 fun b H3=>LCT te N σ2 b H3) (kk:∀q H',ay H H'->H q=none->dg H' q ((m.filter pf).map fd)->Q (.ref q) H'):V3 (tLC n (Pz tl) g tc te) σ H Q:=by
 obtain⟨kvs,e,dk⟩:=hp
 refine⟨p,kvs,e,htl _ ⟨p,kvs,rfl,e,fun o=>?_⟩⟩
 have mv:Mv [p] H (upd H p (.sS o (.dK kvs))):=.aS e (by intro _ z;cases z)
 have rd:DRd (upd H p (.sS o (.dK kvs))) p m:=⟨kvs,.inr ⟨o,av⟩,dk.yw mv.tp⟩
 have hl:kvs.length=m.length:=dk.length
 refine⟨fun i j acc H'=>i<=m.length/\j=m.length - i/\ay (upd H p (.sS o (.dK kvs))) H'/\dB H' acc (((m.take i).filter pf).map fd),⟨m.length,KF _,rfl,ay.refl _,by simpa using dB.nil⟩,?_⟩
 rintro i j acc H' ⟨vR,rfl,sm,kT⟩
 have hfz:H' p=some (.sS o (.dK kvs)):=sm _ _ av
 have Je:acc.length<=m.length:=by
  rw [kT.length,AE]
  refine Mo (JJ _ _) ?_
  rw [KM]
  omega
 by_cases hc:i=m.length
 . left
   refine⟨⟨by omega,hfz⟩,fun q hq=>?_⟩
   have hpq:p≠q:=aA hfz hq
   have tk:m.take i=m:=List.take_of_length_le (by omega)
   rw [tk] at kT
   have ups:upd (upd H' q (.lst acc)) p (.dK kvs) q=some (.lst acc):=by rw [az (Me hpq),av]
   refine⟨⟨o,by rw [az hpq];exact hfz⟩,kk q _ (fun a u z=>?_) ?_ ⟨acc,ups,kT.yw (fun a xs z=>?_) (bE hi _),bE hi _⟩⟩
   . by_cases ha:a=p
     . subst ha;rw [e] at z;cases z;exact av
     . have z1:H' a=some u:=sm _ _ (by rw [az ha];exact z)
       rw [az ha,az (aA z1 hq)];exact z1
   . cases hz:H q with
     |none=>rfl
     |some u=>
      have:H' q=some u:=sm _ _ (by rw [az (Me hpq)];exact hz)
      rw [hq] at this;cases this
   . rw [az (pB z hfz (by intro y;cases y)),az (aA z hq)];exact z
 . right
   have gP:i<m.length:=by omega
   refine⟨⟨by omega,hfz⟩,hV (by omega),fun x H2 hy=>?_⟩
   obtain⟨t,kv,hkv,rfl,ht,rfl⟩:=hy
   obtain⟨c,d,hm,hkc,hdv⟩:=dk.To hkv
   have GJ:m.take (i+1)=m.take i++[(c,d)]:=by rw [We,hm];rfl
   have smt:ay H' (upd H' t (.tup [kV kv.1,kv.2])):=cP ht
   have agb:Dv H' kv.2 d:=((dk.yw mv.tp).yw (fun a xs z=>sm a _ z)).To hkv |> fun⟨c',d',Ug,_,h'⟩=>by
    rw [hm] at Ug;cases Ug;exact h'
   have hx:Dv (upd H' t (.tup [kV kv.1,kv.2])) (.ref t) (.tuple [.str c,d]):=by
    have e1:kV kv.1=.str c:=by rw [hkc];rfl
    rw [e1] at smt ⊢
    exact .tup av (.cons (.str _) (.cons (agb.keeps smt) .nil))
   have jK:=sm.trans smt
   refine turn (.ref t) (c,d) _ _ (fun r H4=>match r with|some y=>∃j',j'<m.length - i/\i+1<=m.length/\j'=m.length - (i+1)/\ay (upd H p (.sS o (.dK kvs))) H4/\dB H4 (acc++[y]) (((m.take (i+1)).filter pf).map fd)|none=>∃j',j'<m.length - i/\i+1<=m.length/\j'=m.length - (i+1)/\ay (upd H p (.sS o (.dK kvs))) H4/\dB H4 acc (((m.take (i+1)).filter pf).map fd))
    (Cf hm) mv rd jK hx (fun hb y H4 s4 d4=>⟨m.length - (i+1),by omega,gP,rfl,jK.trans s4,?_⟩) (fun hb H3 s3=>⟨m.length - (i+1),by omega,gP,rfl,jK.trans s3,?_⟩)
   . rw [GJ,Q3,CS]
     simp only [Op,hb,if_true,AaE,EN,AaZ]
     exact dB.append (kT.keeps (smt.trans s4)) (.cons d4 .nil)
   . rw [GJ,Q3,CS]
     simp only [Op,hb,IF,if_false,AaE,AaZ,NG]
     exact kT.keeps (smt.trans s3)
theorem Kj {R:Bool->Prop} (hp:oq H p m) (h:R (!m.isEmpty)):∃b,G0 K (.ref p) H b/\R b:=by
 obtain⟨kvs,e,dk⟩:=hp
 refine⟨_,.inr (.inr ⟨kvs,e,rfl⟩),?_⟩
 have:kvs.isEmpty=m.isEmpty:=by
  have:=dk.length
  cases kvs <;>cases m <;>simp_all
 rw [this];exact h
theorem Rc {td ty:TE} (h:td σ H fun x H1=>∃a,x=.ref a/\IsD H1 a/\ty σ H1 fun y H2=>∃o,ie H2 a y o/\Q (o.getD .aQ) H2):Qf td ty σ H Q:=h
theorem Vr {R:Addr->Prop} (hp:oq H p m) (h:R p):∃a,V.ref p=.ref a/\IsD H a/\R a:=by
 obtain⟨kvs,e,_⟩:=hp
 exact⟨p,rfl,.inl ⟨kvs,.inl e⟩,h⟩
theorem Rk (hp:oq H p m) (h1:∀d,uj m k=some d->∀v,Dv H v d->Q v H) (h2:uj m k=none->Q .aQ H):∃o,ie H p (.str k) o/\Q (o.getD .aQ) H:=by
 obtain⟨kvs,e,dk⟩:=hp
 refine⟨kU kvs (.inr k),.inl ⟨kvs,.inr k,.inl e,rfl,rfl⟩,?_⟩
 obtain⟨g1,g2⟩:=dk.val (k:=k)
 cases hl:uj m k with
 |none=>rw [g2 hl];exact h2 hl
 |some d=>obtain⟨v,hv,hd⟩:=g1 d hl;rw [hv];exact h1 d hl v hd
end
section
variable {D:Ends}
def adj (K:At) (vs:List V) (g:TG) (tb:TS) (D:Ends) (σ:St) (H1:Hp):Prop:=∃a,vs=[.ref a]/\(∃xs,gD K H1 a xs)/\∃W:Nat->Nat->St->Hp->Prop,(∃m,W 0 m σ H1)/\∀i m σ H,W i m σ H->
 ((Itn K a).stop i H/\D.nx σ H)\/((Itn K a).go i H/\∃N:St->Hp->Prop,(∀σ' H',N σ' H'->∃m',m'<m/\W (i+1) m' σ' H')/\∀x H',(Itn K a).Sf i H x H'->g x σ H' fun σ2 H2=>tb {D with nx:=N,ct:=N,bk:=D.nx} σ2 H2)
theorem X4 {ta:TA} {tb:TS} (h:ta σ H fun vs H1=>adj K vs g tb D σ H1):QP (VH K ta) g tb D σ H:=h
end
section
theorem WX {y:V} (e:H p=some (.lst xs)) (hl:xs.length<=4000) (h:Q .aQ (upd H p (.lst (xs++[y])))):EV (.ref p) [y] H Q:=⟨p,xs,y,rfl,rfl,e,hV hl,h⟩
end
section
def t9 {α:Type} (xs:List α) (k:Nat) (y:α):List α:=xs.take k++y::xs.drop k
theorem HW {α:Type} (xs:List α) (k:Nat) (y:α):(t9 xs k y).length=xs.length+1:=by
 unfold t9
 rw [Da,FF,KM,List.length_drop]
 omega
theorem Vals.ins {xs:List V} {us:List Value} {y:V} {u:Value} (r:Vals xs us) (ry:RelV y u) (k:Nat):Vals (t9 xs k y) (t9 us k u):=(r.take k).append (.cons ry (r.drop k))
def KZ:V->List V->Hp->VK->Prop:=fun x vs H Q=>∃l xs i y,x=.ref l/\vs=[.int i,y]/\H l=some (.lst xs)/\0<=i/\i<=xs.length/\xs.length<EM/\Q .aQ (upd H l (.lst (t9 xs i.toNat y)))
theorem Nn:MtM X "list.insert" KZ:=by
 intro pins s σ H x vs v us Q I rx rv h
 obtain⟨l,xs,i,y,rfl,rfl,hH,h0,h1,hz,q⟩:=h
 cases rx
 cases rv with
 |cons ri rv=>
  obtain⟨t,rfl⟩:=ri
  obtain⟨u,rfl,ru⟩:=Vals.one rv
  obtain⟨z,aZ,n,r,hl,e⟩:=I.GC hH
  have Cz:EM<=2^62:=by decide
  have agG:YU.List.listFitsIndex i=true:=fitsIndex_both (by omega) (by omega)
  refine Ab2 F.slot_list_insert ⟨_,e,rfl⟩ F.entry_list_insert (F.args_list_insert_3 _ _ _) (AutoSeq1.list_insert_list_int_val_1 l aZ.toArray n i t u (by simp [agG]) (by rw [Cn];omega)) ⟨e,?_⟩
  refine⟨.aQ,_,I.QS (its':=t9 aZ i.toNat u) hH e ?_ (r.ins ru i.toNat) ?_,rfl,q⟩
  . show(aZ.toArray.extract 0 (if i<0 then (i+(aZ.toArray.size:Int)).toNat else min i.toNat aZ.toArray.size)).push u++aZ.toArray.extract (if i<0 then (i+(aZ.toArray.size:Int)).toNat else min i.toNat aZ.toArray.size)=(t9 aZ i.toNat u).toArray
    rw [kl_ins_eq,Cn,if_neg (by omega),Nat.min_eq_left (by omega)]
    rfl
  . rw [HW];omega
end
section
open PySem.SeqAt
open PySem.AutoSeq1 (wpAny_loadPart')
open PySem.MeetsSeq PySem.MeetsSeq2 PySem.MeetsSeq3
theorem Pu (A:IS) (s:AM) (a:Int) (t:Tok) (c:Int) (u:Tok) (prog:Fk) (w:World) (E:Value->AM->Prop) (Q:Value->AM->Prop) (h:Q (.bool (decide (a>c))) s):
 wpAny (model prog w) A (richCompare .Gt (.int a t) (.int c u)) Q E s:=
 (PyProof.Rows.gt_int h:wpAny (model prog w) A (ON .Gt (.int a t) (.int c u)) Q E s)
theorem O6 (A:IS) (s:AM) (a:Str) (t:Tok) (c:Str) (u:Tok) (prog:Fk) (w:World) (E:Value->AM->Prop) (Q:Value->AM->Prop) (h:Q (.bool (decide (c.cps.toList<a.cps.toList))) s):
 wpAny (model prog w) A (richCompare .Gt (.str a t) (.str c u)) Q E s:=
 (PySem.P.gt_str h:wpAny (model prog w) A (ON .Gt (.str a t) (.str c u)) Q E s)
theorem CI (l b:Addr) (n n2:Nat) (dd dd2:Option Addr) (sl sl2:Array (Option Value)) (i j:Int) (t u t2 u2:Tok) (c d:Str):
 Meets (YU.«tuple.__gt__» ⟨[.ref l,.ref b],[]⟩)
  (fun _ R s=>s.heap.get? l=some {cls:=.type "tuple",dict:=dd,data:=.seq #[.int i t,.str c t2] n,slots:=sl}/\s.heap.get? b=some {cls:=.type "tuple",dict:=dd2,data:=.seq #[.int j u,.str d u2] n2,slots:=sl2}/\
   R (.ok (.ret (.bool (aW (j,d) (i,c))))) s):=
 .of_wp fun prog w A R s h=>by
  obtain⟨hp,g,d0,tk,os⟩:=s;obtain⟨hl,hb,h⟩:=h
  have f2:=AutoSeq1.sub_tuple_tuple
  wp_walk using wpAny_loadPart' hl,wpAny_loadPart' hb,wpAny_forIn_list _ (fun rest b s'=>b.1=none/\s'=⟨hp,g,d0,tk,os⟩/\
   (rest=[(.int i t,.int j u),(.str c t2,.str d u2)]\/(rest=[(.str c t2,.str d u2)]/\i=j)\/(rest=[]/\i=j/\c=d))) _
  case turn=>
   rintro⟨y,x⟩ rest b s' ⟨xK,rfl,hr⟩
   rcases hr with hr|⟨hr,e⟩|⟨hr,_⟩
   . injection hr with hyx PV
     injection hyx with hy hx
     subst hy hx PV
     have he:=EqAt.int_int (A:=A.in1) (s:=⟨hp,g,d0,tk,os⟩) i t j u
     refine BS (he prog w _ _ ?_)
     by_cases e:i=j
     . rw [show(i==j)=true from beq_iff_eq.mpr e]
       wp_walk
       exact⟨rfl,rfl,.inr (.inl ⟨rfl,e⟩)⟩
     . rw [show(i==j)=false from beq_eq_false_iff_ne.mpr e]
       have hri:=Pu A.in1 ⟨hp,g,d0,tk,os⟩ i t j u prog w
       have hv:aW (j,d) (i,c)=decide (i>j):=by
        unfold aW
        have:¬j=i:=fun z=>e z.symm
        simp [this]
       rw [hv] at h
       wp_walk using hri
       exact⟨_,rfl,by simpa using h⟩
   . injection hr with hyx PV
     injection hyx with hy hx
     subst hy hx PV
     have he:=EqAt.str_str (A:=A.in1) (s:=⟨hp,g,d0,tk,os⟩) c t2 d u2
     refine BS (he prog w _ _ ?_)
     by_cases e2:c=d
     . rw [show(c==d)=true from beq_iff_eq.mpr e2]
       wp_walk
       exact⟨rfl,rfl,.inr (.inr ⟨rfl,e,e2⟩)⟩
     . rw [show(c==d)=false from beq_eq_false_iff_ne.mpr e2]
       have hri:=O6 A.in1 ⟨hp,g,d0,tk,os⟩ c t2 d u2 prog w
       have hv:aW (j,d) (i,c)=decide (d.cps.toList<c.cps.toList):=by
        unfold aW D0
        simp [e]
       rw [hv] at h
       wp_walk using hri
       exact⟨_,rfl,by simpa using h⟩
   . cases hr
  case fin=>
   rintro⟨b1,b2⟩ s' ⟨xK,rfl,hr⟩
   simp only at xK
   subst xK
   rcases hr with hr|⟨hr,_⟩|⟨_,e,e2⟩
   . cases hr
   . cases hr
   . have hv:aW (j,d) (i,c)=false:=by rw [e,e2];exact gI _
     rw [hv] at h
     wp_walk
     exact⟨_,rfl,by simpa [YU.Tuple.tupleCompareSizes] using h⟩
  case h=>
   exact⟨rfl,rfl,.inl rfl⟩
end
section
def abL (K:At):R2:=fun x y H Q=>∃a b i c j d,x=.ref a/\y=.ref b/\zZ K H a [.int i,.str c]/\zZ K H b [.int j,.str d]/\Q (.bl (aW (j,d) (i,c))) H
theorem YX (hu:X.A.units<cLine):rm X (ON .Gt) (abL X.K):=by
 intro pins s σ H x y v u Q I rx ry h
 obtain⟨a,b,i,c,j,d,rfl,rfl,ha,hb,q⟩:=h
 cases rx
 cases ry
 obtain⟨aZ,r1,p1,_⟩:=I.tuple ha
 obtain⟨HE,r2,p2,_⟩:=I.tuple hb
 cases r1 with
 |cons ri r1=>
  obtain⟨t,rfl⟩:=ri
  obtain⟨_,rfl,t2,rfl⟩:=Vals.one r1
  cases r2 with
  |cons rj r2=>
   obtain⟨t',rfl⟩:=rj
   obtain⟨_,rfl,t2',rfl⟩:=Vals.one r2
   obtain⟨⟨cls,dd,data,sl⟩,ho,hc,n,hd⟩:=id p1
   obtain⟨⟨akd,dd2,data2,sl2⟩,ho2,N6,n2,hd2⟩:=id p2
   simp only at hc hd N6 hd2
   subst hc hd N6 hd2
   exact richCompare_meets_room (op:=.Gt) ⟨_,ho,rfl⟩ ⟨_,ho2,rfl⟩ PySem.F.slot_tuple_gt PySem.F.entry_tuple_gt (PySem.F.args_tuple_gt_2 _ _) (CI a b n n2 dd dd2 sl sl2 i j t t' t2 t2' c d)
    ⟨ho,ho2,show Ab0 (aW (j,d) (i,c))≠Value.notImplemented/\(EP X pins σ Q) (.bool (aW (j,d) (i,c))) s from⟨(fun x=>nomatch x),⟨.bl _,H,I,rfl,q⟩⟩⟩ hu
end
section
variable {D:Ends}
theorem KY {k:Int × Str} (h:Dv H v (pairD k)):∃a,v=.ref a/\H a=some (.tup [.int k.1,.str k.2]):=by
 unfold pairD at h
 cases h with
 |tup ha r=>
  cases r with
  |cons h1 r=>
   cases r with
   |cons h2 r=>
    cases r
    cases h1;cases h2
    exact⟨_,rfl,ha⟩
theorem Ec {H:Hp}:∀{xs:List V} {ds:List BB} (n:Nat),dB H xs ds->dB H (xs.eraseIdx n) (ds.eraseIdx n)
 |_,_,_,.nil=>.nil
 |_,_,0,.cons _ r=>r
 |_,_,n+1,.cons h r=>.cons h (Ec n r)
theorem Br {α β:Type} {f:α->β}:∀{l:List α} {i:Nat},(l.eraseIdx i).map f=(l.map f).eraseIdx i
 |[],_=>rfl
 |_::_,0=>rfl
 |a::l,i+1=>by rw [Aay,EN,EN,Aay,Br]
theorem abF {x y:V} {k j:Int × Str} (h1:Dv H x (pairD k)) (h2:Dv H y (pairD j)) (h:Q (.bl (aW j k)) H):abL K x y H Q:=by
 obtain⟨a,rfl,ha⟩:=KY h1
 obtain⟨b,rfl,hb⟩:=KY h2
 exact⟨a,b,k.1,k.2,j.1,j.2,rfl,rfl,.of ha,.of hb,h⟩
theorem Yp {y:V} {k:Int × Str} {i:Int} (hp:dg H p (ks.map pairD)) (hy:Dv H y (pairD k)) (h0:0<=i) (h1:i<=ks.length) (hl:ks.length<=4000) (h:∀H2,Mv [p] H H2->dg H2 p ((t9 ks i.toNat k).map pairD)->Q .aQ H2):KZ (.ref p) [.int i,y] H Q:=by
 obtain⟨xs,e,dv,im⟩:=hp
 have N7:xs.length=ks.length:=by rw [dv.length,AE]
 have m:Mv [p] H (upd H p (.lst (t9 xs i.toNat y))):=.aS e (by intro _ z;cases z)
 have e2:(t9 ks i.toNat k).map pairD=(ks.map pairD).take i.toNat++pairD k::(ks.map pairD).drop i.toNat:=by
  unfold t9
  rw [CS,EN,List.map_take,List.map_drop]
 refine⟨p,xs,i,y,rfl,rfl,e,h0,by omega,by rw [N7];exact hV hl,h _ m ⟨_,av,m.IZ (bE (fun _=>rfl) _) ?_,bE (fun _=>rfl) _⟩⟩
 rw [e2]
 exact dB.append (dv.take i.toNat) (.cons hy (dv.drop i.toNat))
theorem Zo {i:Int} (hp:dg H p (ks.map pairD)) (h0:0<=i) (h1:i<ks.length) (hl:ks.length<=4000) (h:∀v H2,Mv [p] H H2->dg H2 p ((ks.eraseIdx i.toNat).map pairD)->Q v H2):Rr (.ref p) [.int i] H Q:=by
 obtain⟨xs,e,dv,im⟩:=hp
 have N7:xs.length=ks.length:=by rw [dv.length,AE]
 have hi:i.toNat<xs.length:=by omega
 have m:Mv [p] H (upd H p (.lst (xs.eraseIdx i.toNat))):=.aS e (by intro _ z;cases z)
 refine⟨p,xs,i,i.toNat,xs[i.toNat],rfl,rfl,e,by omega,by omega,?_,AC hi,h _ _ m ⟨_,av,m.IZ (bE (fun _=>rfl) _) ?_,bE (fun _=>rfl) _⟩⟩
 . unfold seqIndex?
   have aha:¬i<0:=by omega
   have hc:(decide (0<=i)&&decide (i<(xs.length:Int)))=true:=by rw [decide_eq_true h0,decide_eq_true (by omega:i<(xs.length:Int))];rfl
   simp only [aha,if_false,hc,if_true]
 . rw [Br]
   exact Ec i.toNat dv
theorem abQ {tb:TS} (Pv:Nat->St->Hp->Prop) (h0:Pv 0 σ H) (hk:∀i σ H',i<=xs.length->Pv i σ H'->H' p=some (.lst xs)) (hs:∀i x t σ H',xs[i]? =some x->Pv i σ H'->H' t=none->g (.ref t) σ (upd H' t (.tup [.int (i:Int),x])) fun σ2 H2=>tb {D with nx:=Pv (i+1),ct:=Pv (i+1),bk:=D.nx} σ2 H2) (hd:∀σ H',Pv xs.length σ H'->D.nx σ H'):adj K [.ref p] g tb D σ H:=by
 have at':∀i σ H',i<=xs.length->Pv i σ H'->gD K H' p xs:=fun i σ H' hi hp=>.of (hk i σ H' hi hp)
 refine⟨p,rfl,⟨xs,at' 0 σ H (KF _) h0⟩,fun i m σ H=>i<=xs.length/\m=xs.length - i/\Pv i σ H,⟨_,KF _,rfl,h0⟩,?_⟩
 rintro i m σ H' ⟨hi,hm,hp⟩
 have CB:=at' i σ H' hi hp
 by_cases hc:i=xs.length
 . subst hc
   exact .inl ⟨⟨xs,CB,by omega⟩,hd σ H' hp⟩
 . have ZQ:i<xs.length:=by omega
   refine .inr ⟨⟨xs,xs[i],CB,AC ZQ⟩,Pv (i+1),fun σ' H2 MH=>⟨xs.length - (i+1),by omega,by omega,rfl,MH⟩,fun x H2 hy=>?_⟩
   obtain⟨t,x',hy,rfl,ht,rfl⟩:=hy
   have hx:=hy xs CB
   exact hs i x' t σ H' hx hp ht
end
section
def UJ:V->List V->Hp->VK->Prop:=fun x vs H Q=>∃i:Int,x=.int i/\vs=[]/\Q (.int (Ll i:Nat)) H
theorem MM:MtR X "int.bit_length" UJ:=by
 intro pins s σ H x vs v us Q I rx rv h
 obtain⟨i,rfl,rfl,q⟩:=h
 obtain⟨t,rfl⟩:=rx
 have EX:=rv.zero
 subst EX
 exact call_gives F.slot_int_bit_length (typeIs_int _ _ _) F.entry_int_bit_length (F.args_int_bit_length_1 _) (AutoIntG2.int_bit_length_int_0 i t) ⟨.int _,H,I.tok _,⟨_,rfl⟩,q⟩
end
theorem A5 {x y:Int} (hx:0<=x) (hy:0<=y):AaU x y=((x.toNat&&&y.toNat:Nat):Int):=by
 unfold AaU
 rw [decide_eq_true hx,decide_eq_true hy]
theorem DI {x y:Int} (hx:0<=x) (hy:0<=y):RS x y=((x.toNat|||y.toNat:Nat):Int):=by
 have e:∀z:Int,WP (WP z)=z:=fun z=>by unfold WP;omega
 have n1:¬0<=WP x:=by unfold WP;omega
 have n2:¬0<=WP y:=by unfold WP;omega
 unfold RS AaU
 rw [decide_eq_false n1,decide_eq_false n2]
 simp only [e]
theorem yW {x s j:Nat} (hb:x.testBit s=true):(x - 2^s).testBit j=(x.testBit j&&decide (j≠s)):=by
 have hp:0<2^s:=Nat.two_pow_pos s
 have hl:x % 2^s<2^(s+1):=DD (Nat.mod_lt _ hp) (Nat.pow_le_pow_right (by decide) (by omega))
 have hx:x=2^(s+1)*(x / 2^(s+1))+(2^s+x % 2^s):=by
  have h1:=Nat.div_add_mod x (2^s)
  have h2:=Nat.div_add_mod (x / 2^s) 2
  have h3:x / 2^s % 2=1:=by
   rw [AaI] at hb
   exact of_decide_eq_true hb
  have h4:x / 2^s / 2=x / 2^(s+1):=by rw [Nat.div_div_eq_div_mul,Abz]
  have e:2^(s+1)*(x / 2^(s+1))=2^s*(2*(x / 2^(s+1))):=by rw [Abz,Nat.mul_assoc]
  rw [e]
  rw [h3,h4] at h2
  have h5:2^s*(x / 2^s)=2^s*(2*(x / 2^(s+1)))+2^s:=by
   conv=>lhs;rw [<-h2]
   rw [Nat.mul_add,Nat.mul_one]
  omega
 have hs:x - 2^s=2^(s+1)*(x / 2^(s+1))+x % 2^s:=by omega
 rw [hs,Nat.testBit_two_pow_mul_add _ hl]
 split
 . rename_i hj
   rw [Nat.testBit_mod_two_pow]
   by_cases e:j=s
   . simp [e]
   . simp [e,show j<s from by omega]
 . rename_i hj
   rw [Nat.testBit_div_two_pow]
   rw [show j - (s+1)+(s+1)=j from by omega]
   simp [show j≠s from by omega]
theorem B6 {x:Int} {s:Nat} (hx:0<=x) (hb:x.toNat.testBit s=true):No x (1*2^s)=((x.toNat - 2^s:Nat):Int):=by
 have hy:(0:Int)<=1*2^s:=by rw [Int.one_mul];exact OP (Int.pow_pos (by decide))
 have ey:(1*2^s:Int).toNat=2^s:=by
  rw [Int.one_mul]
  have:(2:Int)^s=((2^s:Nat):Int):=by norm_cast
  rw [this];rfl
 have e1:x.toNat|||2^s=x.toNat:=by
  apply Nat.eq_of_testBit_eq
  intro i
  rw [Nat.testBit_or,Abs]
  by_cases c:s=i
  . subst c;rw [hb];rfl
  . simp [c]
 have e2:x.toNat&&&2^s=2^s:=by
  apply Nat.eq_of_testBit_eq
  intro i
  rw [Nat.testBit_and,Abs]
  by_cases c:s=i
  . subst c;rw [hb];simp
  . simp [c]
 unfold No
 rw [DI hx hy,A5 hx hy,ey,e1,e2]
 have hle:2^s<=x.toNat:=Nat.ge_two_pow_of_testBit hb
 omega
theorem Ni (s:Nat):(1*2^s:Int).toNat=2^s:=by
 rw [Int.one_mul]
 have:(2:Int)^s=((2^s:Nat):Int):=by norm_cast
 rw [this];rfl
theorem GB {x:Nat} (h:0<x):x.testBit x.log2=true:=by
 rw [AaI]
 have h1:2^x.log2<=x:=Nat.log2_self_le (by omega)
 have h2:x<2^(x.log2+1):=Nat.lt_log2_self
 have h3:x / 2^x.log2=1:=by
  apply Nat.div_eq_of_lt_le
  . omega
  . rw [Abz] at h2;omega
 rw [h3];rfl
section
theorem Wq {k:Nat} {tc:TT} (hl:gD K H p xs) (hlen:xs.length<=4000) (Pv:Nat->List V->Hp->Prop) (h0:Pv 0 [] H) (hk:∀i acc H',i<=xs.length->Pv i acc H'->gD K H' p xs/\acc.length<=xs.length) (turn:∀i x acc H' (N:Option V->Hp->Prop),xs[i]? =some x->Pv i acc H'->(∀y H4,Pv (i+1) (acc++[y]) H4->N (some y) H4)->(∀H4,Pv (i+1) acc H4->N none H4)->
  g x (Mn k none++σ) H' fun σ2 H2=>tc σ2 H2 fun b H3=>LCT te N σ2 b H3) (kk:∀acc H' q,Pv xs.length acc H'->H' q=none->Q (.ref q) (upd H' q (.lst acc))):∃a,V.ref p=.ref a/\(∃xs,gD K H a xs)/\LCW k g tc te (Li Q) σ (PN K a) H:=by
 refine⟨p,rfl,⟨xs,hl⟩,fun i m acc H'=>i<=xs.length/\m=xs.length - i/\Pv i acc H',⟨xs.length,KF _,rfl,h0⟩,?_⟩
 rintro i m acc H' ⟨vR,hm,hp⟩
 obtain⟨CB,Je⟩:=hk i acc H' vR hp
 by_cases hc:i=xs.length
 . subst hc
   exact .inl ⟨⟨xs,CB,BN _⟩,fun q hq=>kk acc H' q hp hq⟩
 . have ZQ:i<xs.length:=by omega
   refine .inr ⟨⟨xs,xs[i],CB,AC ZQ⟩,hV (by omega),fun x H2 hy=>?_⟩
   obtain⟨rfl,hy⟩:=hy
   have hx:=hy xs CB
   exact turn i x acc H2 (fun o H4=>match o with|some y=>∃m',m'<m/\i+1<=xs.length/\m'=xs.length - (i+1)/\Pv (i+1) (acc++[y]) H4|none=>∃m',m'<m/\i+1<=xs.length/\m'=xs.length - (i+1)/\Pv (i+1) acc H4) hx hp
    (fun y H4 h=>⟨xs.length - (i+1),by omega,ZQ,rfl,h⟩) fun H4 h=>⟨xs.length - (i+1),by omega,ZQ,rfl,h⟩
end
def BM (mg:Str->Option Value) (h:Heap):Prop:=∃bm ob,mg "__builtins__"=some (.ref bm)/\bm≠Ab1/\h.get? bm=some ob/\ob.cls=.type "module"/\ob.dict=some Ab1/\ob.data=.plain
structure alB (K:At) (f c P:Addr):Prop where
 fn:∃(oc:Value) (od:Option Addr) (fd:Cs) (sl:Array (Option Value)),K.lookup f=some ⟨oc,od,.func fd,sl⟩/\fd.code=.ref c
 cd:codeHdIn K c P=true
 no:K.lookup P=none
def Ei (m:List (Str × V)):List (Key × V):=m.map fun x=>(.inr x.1,x.2)
theorem FY {k:Str}:∀{m:List (Str × V)},((Ei m).any fun kv=>decide (kv.1=.inr k))=m.any fun kv=>decide (kv.1=k)
 |[]=>rfl
 |x::r=>by
  have:=FY (k:=k) (m:=r)
  unfold Ei at*
  simp only [EN,Abd,this,Ls]
theorem Fc {m:List (Str × V)} {k:Str} (h:k∉m.map (·.1)):putK (Ei m) (.inr k) v=Ei (m++[(k,v)]):=by
 unfold putK
 rw [FY,if_neg]
 . unfold Ei;rw [CS];rfl
 . simp only [M2,not_exists,not_and]
   intro x hx e
   exact h (AN.mpr ⟨x,hx,of_decide_eq_true e⟩)
theorem Ku {k:Str}:∀{m:List (Str × V)},k∈m.map (·.1)->∃v,(k,v)∈m/\kU (Ei m) (.inr k)=some v
 |[],h=>by simp at h
 |(j,v)::r,h=>by
  by_cases e:j=k
  . subst e
    exact⟨v,BC,oR rfl⟩
  . have h2:k∈r.map (·.1):=by
     rcases AD.mp h with z|z
     . exact absurd z.symm e
     . exact z
    obtain⟨u,hu,hv⟩:=Ku h2
    exact⟨u,AL _ hu,by unfold Ei at*;rw [EN,lS (fun z=>e (AaK z))];exact hv⟩
section
def WK:List V->Hp->VK->Prop:=fun xs H Q=>∃(v:V) (ns:List Int),xs=[v]/\Dv H v (.list (ns.map Pd))/\0<ns.length/\∀m∈ns,(∀k∈ns,m<=k)->Q (.int m) H
theorem Ek (hc:X.calm=true):iL X (.builtin "min") WK:=by
 intro pins s σ H xs us Q I r h
 obtain⟨v,ns,rfl,hd,abU,q⟩:=h
 obtain⟨u,rfl,ru⟩:=vals1 r
 obtain⟨p,ys,rfl,e,dv⟩:=hd.lst_inv
 obtain⟨aZ,rvs,pl,_⟩:=I.list (e X.K)
 cases ru
 have hI:=KC dv rvs
 have hn:aZ.toArray.size=ns.length:=by rw [Cn,hI.length]
 have gP:p<s.heap.objs.size:=by obtain⟨o,n,e1,_⟩:=pl;exact Db e1
 have hA:X.A.in1.handled=none:=I.ok.hd hc
 refine call_min_walk (wpAny_pyIter_list pl.isList ?_)
 refine⟨s.heap.objs.size,_,_,_,_,_,fun i j=>decide (ns.getD i 0<ns.getD j 0),rfl,Walks.list hA _ p (ET gP) aZ.toArray,⟨⟨_,Ev _ rfl,rfl,rfl⟩,pl.isList.at fun o e=>BY _ e⟩,?_,by omega,CmpOf.ints_lt (fun i=>ns.getD i 0) ?_,?_⟩
 . intro b hb
   rw [WJ]
   have:b=s.heap.objs.size\/b=p:=by simpa using hb
   rcases this with rfl|rfl
   . exact Aan _
   . exact Wp gP
 . intro i v hv
   exact hI.int_at i v (by simpa using hv)
 . intro v h' tk hP hk
   have b:=EE (fun i=>ns.getD i 0) (aZ.toArray.size - 1)
   generalize argBest (fun i j=>decide (ns.getD i 0<ns.getD j 0)) (aZ.toArray.size - 1)=ix at b hP
   obtain⟨b1,b2⟩:=b
   obtain⟨t,rfl⟩:=hI.int_at ix v (by simpa using hP)
   have I1:=I.kept (t':=s.toks) (h':=s.heap.push {cls:=Aas "list_iterator",data:=Data.fields #[LS p,AbD 0 0]}) fun b o e=>BY _ e
   have fp:=I.xY (H':=H) (BN _) (I.bb.fresh (BN _))
   have I2:=I1.turned (t':=tk) (h':=h') (it:=s.heap.objs.size) (fun b o hb e=>hk b o (by simpa using hb) e) fp.1 fp.2.1 fp.2.2.2.1 fp.2.2.2.2.1 fp.2.2.2.2.2
   have hb:ix<ns.length:=by omega
   refine⟨.int _,H,I2,⟨t,rfl⟩,q _ ?_ ?_⟩
   . rw [Lo,AC hb];exact Aa7 hb
   . intro k hk
     obtain⟨j,hj,rfl⟩:=Pf hk
     have:=b2 j (by omega)
     rwa [Lo (i:=j),AC hj] at this
theorem QI (hp:Dv H v (.list (ns.map Pd))) (h0:0<ns.length) (h:∀m∈ns,(∀k∈ns,m<=k)->Q (.int m) H):WK [v] H Q:=⟨v,ns,rfl,hp,h0,h⟩
end
section
variable {prog:Fk} {w:World} {A:IS}
theorem Gz {T:String} {r d:Addr} {n:Nat} {Pk:Nat->Value->Prop} {OK:Heap->Prop} {ss:List Str} {Q:Value->AM->Prop} (src:KdlSrc prog w T r d n Pk OK) (hh:A.handled=none) (ok:OK s.heap) (h64:n<64) (hP:∀acc:Array Value,ItemsOf Pk acc n->StrsAre acc.toList ss) (h:∀(h1 h':Heap) (tk e:Nat) (us:List Value) (zO:List Str),(∀b u,s.heap.get? b=some u->h1.get? b=some u)->(∀b u,h1.get? b=some u->h'.get? b=some u)->h'.get? h1.objs.size=some {cls:=.type "list",data:=.seq us.toArray e}->StrsAre us zO->zO.Perm ss->sortedS zO=true->Q (.ref h1.objs.size) {s with heap:=h',toks:=tk}):
 wpAny (model prog w) A (call (.builtin "sorted") [.ref r]) Q E s:=by
 refine Calls.call_function_entry kind_sorted plain_sorted entry_sorted (args_sorted1 _) ?_
 unfold YU.«sorted»
 refine BS (m:=checkCount "sorted" 1 1 _) (GS ?_)
 refine BS (kdu_collect (A:=A.in1) src hh ok (by rw [AaM];omega) fun h1 tk acc kp kT=>?_)
 have hS:=hP acc kT
 have hn:acc.toList.length<64:=by
  have e:acc.size=n:=kT.1
  rw [Abh,e];exact h64
 refine BS (Abe ?_ (hsz:=by rw [AaM];omega))
 generalize acc.toList=vs at*
 have J9:(h1.push (MW "list" vs.toArray 0)).get? h1.objs.size=some (MW "list" vs.toArray 0):=Ev _ rfl
 refine BS (AaD (Aap slot_list_sort ⟨_,J9,rfl⟩ entry_list_sort (list_sort_treeK strKind_oneLt J9 hS.keysOf (fun v₁ v₂ rest e=>keyKind_strs (by rw [<-e];exact hS)) hn fun C3 a1 a2=>⟨_,rfl,?_⟩) (args_list_sort _)))
 obtain⟨zO,b1,b2,b3⟩:=sorted_out_str hS a1 a2
 obtain⟨e,he⟩:=sortedHeap_at (out:=(arrOf C3).map (·.2)) J9
 refine GS ⟨_,rfl,h h1 _ tk e ((arrOf C3).map (·.2)).toList zO kp (fun b u q=>?_) (by rw [Array.toArray_toList];exact he) b1 b2 b3⟩
 have gP:b<h1.objs.size:=Db q
 rw [sortedHeap_old (ET gP) (by rw [size_push'];exact Wp gP)]
 exact BY _ q
end
section
def Y2:V->Hp->VK->Prop:=fun x H Q=>∃(p:Addr) (kvs:List (Key × V)) (ks:List Str),x=.ref p/\H p=some (.dK kvs)/\kvs.map (fun kv=>kV kv.1)=ks.map V.str/\ks.length<64/\∀q H' ss,ay H H'->H q=none->ss.Perm ks->Vm ss->dg H' q (ss.map EQ)->Q (.ref q) H'
theorem DB:∀{ks:List Str} {us:List Value},Vals (ks.map V.str) us->StrsAre us ks
 |[],_,.nil=>.nil
 |_::_,_,.cons q t=>by
  obtain⟨tk,rfl⟩:=q
  exact .cons _ _ (DB t)
theorem L9 {h1 h':Heap} {tk e:Nat} {us:List Value} {zO:List Str} (I:Inv X pins σ H s) (k1:∀b u,s.heap.get? b=some u->h1.get? b=some u) (k2:∀b u,h1.get? b=some u->h'.get? b=some u) (he:h'.get? h1.objs.size=some {cls:=.type "list",data:=.seq us.toArray e}) (hS:StrsAre us zO) (hl:zO.length<64) (q:∀q H',ay H H'->H q=none->dg H' q (zO.map EQ)->Q (.ref q) H'):∃v H1,Inv X pins σ H1 {s with heap:=h',toks:=tk}/\RelV v (.ref h1.objs.size)/\Q v H1:=by
 have I1:=I.kept (t':=tk) (h':=h1) k1
 have hq:H h1.objs.size=none:=I1.bb.fresh (BN _)
 refine⟨.ref h1.objs.size,upd H h1.objs.size (.lst (zO.map V.str)),I1.laid (t':=tk) k2 (BN _) ?_,rfl,q _ _ (cP hq) hq (wF hq (Ao zO) (bE (fun _=>rfl) _))⟩
 exact⟨by rw [AE];exact Aat (hV (by omega)),us,e,yc hS,he⟩
def Lr:List V->Hp->VK->Prop:=fun xs H Q=>∃v,xs=[v]/\Y2 v H Q
theorem Cu (hc:X.calm=true):iL X (.builtin "sorted") Lr:=by
 intro pins s σ H xs us Q I r h
 obtain⟨v,rfl,d,kvs,ks,rfl,hd,hks,hl,q⟩:=h
 obtain⟨u,rfl,ru⟩:=vals1 r
 cases ru
 obtain⟨hz,hs,vs,kv,dof⟩:=(show c6 X.prog X.w H s.heap d (.dK kvs) from I.bb d _ hd)
 obtain⟨ep,da⟩:=dof.dictAt
 have hlen:vs.length=kvs.length:=kv.length.symm
 have VE:kvs.length=ks.length:=by have:=congrArg Abn hks;rwa [AE,AE] at this
 refine Gz (kdl_dict (knd:=bf X.prog X.w) (kvs:=vs) (ep:=ep) hs) (I.ok.hd hc) da (by omega) (fun acc kT=>DB (hks▸Bc kv kT)) fun h1 h' tk e us zO k1 k2 he hS hp HU=>?_
 exact L9 I k1 k2 he hS (by rw [hp.length_eq];exact hl) fun a H' sm hn CB=>q a H' zO sm hn hp (wJ HU) CB
end
def Vk:TE:=fun _ _ _=>False
theorem Ci {e:Expr}:PE X e Vk:=fun _ _ _ _ _ _ h=>h.elim
structure Fr (cs S:List Addr) (H H':Hp):Prop where
 kp:∀x o,H x=some o->(∀kvs,o=.dK kvs->x∉S)->(∀C dx fs,o=.ins C dx fs->C∉cs)->H' x=some o
 dm:∀x,H' x=none->H x=none
def nd:BB->Bool
 | .dict _=>false
 | .list ds=>ndA ds
 | .tuple ds=>ndA ds
 |_=>true
where ndA:List BB->Bool
 |[]=>true
 |d::r=>nd d&&ndA r
section
variable {cs S:List Addr} {H1 H':Hp} {q:Addr}
theorem Fr.RE {C dx:Addr} {fs:List (Str × V)} (m:Mv [p] H H') (h:H p=some (.ins C dx fs)) (hC:C∈cs):Fr cs S H H':=⟨fun x o e _ b=>m.kp x o (fun z=>by
 rw [AR.mp z,h] at e
 cases e
 exact b _ _ _ rfl hC) e,m.dm⟩
theorem Fr.dkM (m:Mv [p] H H') (h:H p=some (.dK kvs)) (hS:p∈S):Fr cs S H H':=⟨fun x o e a _=>m.kp x o (fun z=>by
 have z:=AR.mp z
 subst z
 rw [h] at e
 cases e
 exact a _ rfl hS) e,m.dm⟩
theorem Fr.ins {C:Addr} {fs:List (Str × V)} (f:Fr cs S H H') (hC:C∉cs) (h:jF H v C fs):jF H' v C fs:=by
 obtain⟨p,dx,rfl,e⟩:=h
 exact⟨p,dx,rfl,f.kp p _ e (by intro _ z;cases z) (by intro _ _ _ z;cases z;exact hC)⟩
end
def qE (H:Hp) (p:Addr) (ns:List Str) (f:Str->V):Prop:=H p=some (.dK (Ei (ns.map fun n=>(n,f n))))
def cQ {β:Type} (f:Str->β) (k:Str) (v:β):Str->β:=fun n=>if n=k then v else f n
theorem aG {β:Type} {f:Str->β} {k:Str} {v:β}:cQ f k v k=v:=if_pos rfl
theorem b8 {β:Type} {f:Str->β} {k n:Str} {v:β} (h:n≠k):cQ f k v n=f n:=if_neg h
section
variable {H':Hp} {ns:List Str} {f:Str->V} {k:Str}
theorem qE.congr {g:Str->V} (h:qE H p ns f) (e:∀n∈ns,f n=g n):qE H p ns g:=by
 have:(ns.map fun n=>(n,f n))=ns.map fun n=>(n,g n):=Tu fun n hn=>by rw [e n hn]
 unfold qE at*
 rw [<-this];exact h
theorem TH (h:oq H p []):qE H p [] f:=by
 obtain⟨kvs,e,d⟩:=h
 cases d
 exact e
theorem qE.keeps (s:ay H H') (h:qE H p ns f):qE H' p ns f:=s _ _ h
theorem qE.mv {S:List Addr} (m:Mv S H H') (n:p∉S) (h:qE H p ns f):qE H' p ns f:=m.kp _ _ n h
theorem qE.keys:(ns.map fun n=>(n,f n)).map (·.1)=ns:=by rw [GM];exact List.map_id' _
theorem qE.val (hk:k∈ns):kU (Ei (ns.map fun n=>(n,f n))) (.inr k)=some (f k):=by
 obtain⟨u,hu,e⟩:=Ku (m:=ns.map fun n=>(n,f n)) (k:=k) (by rw [qE.keys];exact hk)
 obtain⟨n,_,z⟩:=AN.mp hu
 cases z
 exact e
theorem qE.no (hk:k∉ns):kU (Ei (ns.map fun n=>(n,f n))) (.inr k)=none:=by
 have h:=BW (YO k:Key) (Ei (ns.map fun n=>(n,f n)))
 rw [FY] at h
 cases e:kU (Ei (ns.map fun n=>(n,f n))) (.inr k) with
 |none=>rfl
 |some u=>
  rw [e] at h
  obtain⟨x,hx,hd⟩:=M2.mp h
  obtain⟨n,hn,rfl⟩:=AN.mp hx
  exact absurd (of_decide_eq_true hd▸hn) hk
theorem Tq {R:Hp->Prop} (hp:qE H p ns f) (hl:ns.length<=4000) (hk:k∉ns) (h:∀H2,Mv [p] H H2->qE H2 p (ns++[k]) (cQ f k v)->R H2):∃a H4,V.ref p=.ref a/\CL H a (.str k) v H4/\R H4:=by
 have mv:Mv [p] H (upd H p (.dK (putK (Ei (ns.map fun n=>(n,f n))) (.inr k) v))):=.aS hp (by intro _ z;cases z)
 refine⟨p,_,rfl,CL.k (k:=.inr k) hp (by unfold Ei;rw [AE,AE];exact hV hl),h _ mv ?_⟩
 unfold qE
 rw [av,Fc (by rw [qE.keys];exact hk)]
 have e:(ns.map fun n=>(n,f n))=ns.map fun n=>(n,cQ f k v n):=Tu fun n hn=>by rw [b8 (fun z:n=k=>hk (by rw [<-z];exact hn))]
 rw [e,CS,List.map_singleton,aG]
theorem UZ {R:V->Prop} (hp:qE H p ns f) (hk:k∈ns) (h:R (f k)):∃a v,V.ref p=.ref a/\ie H a (.str k) (some v)/\R v:=
 ⟨p,f k,rfl,by rw [<-qE.val hk];exact ie.k (k:=.inr k) hp,h⟩
theorem YM {R:Option V->Prop} (hp:qE H p ns f) (h:∀o:Option V,(o.isSome=true↔k∈ns)->(k∈ns->o=some (f k))->R o):∃a o,V.ref p=.ref a/\ie H a (.str k) o/\R o:=by
 by_cases hk:k∈ns
 . exact⟨p,_,rfl,by rw [<-qE.val hk];exact ie.k (k:=.inr k) hp,h (some (f k)) ⟨fun _=>hk,fun _=>rfl⟩ fun _=>rfl⟩
 . exact⟨p,_,rfl,by rw [<-qE.no (f:=f) hk];exact ie.k (k:=.inr k) hp,h none ⟨fun z=>(by cases z),fun z=>absurd z hk⟩ fun z=>absurd z hk⟩
theorem Nz:lT (Ei (ns.map fun n=>(n,f n))) (.inr k)=Ei ((ns.filter fun x=>decide (x≠k)).map fun n=>(n,f n)):=by
 induction ns with
 |nil=>rfl
 |cons a r ih=>
  unfold Ei lT at*
  rw [EN,EN,Op,Op,ih]
  by_cases e:a=k
  . have e1:¬decide ((YO a:Key)≠YO k)=true:=by simp [e]
    have e2:¬decide (a≠k)=true:=by simp [e]
    rw [if_neg e1,if_neg e2]
  . have e1:decide ((YO a:Key)≠YO k)=true:=by simpa using fun z:(YO a:Key)=YO k=>e (AaK z)
    have e2:decide (a≠k)=true:=by simpa using e
    rw [if_pos e1,if_pos e2];rfl
theorem S9 (hp:qE H p ns f) (hk:k∈ns) (h:∀H2,Mv [p] H H2->qE H2 p (ns.filter fun x=>decide (x≠k)) f->Q (f k) H2):KQ (.ref p) [.str k] H Q:=by
 have mv:Mv [p] H (upd H p (.dK (lT (Ei (ns.map fun n=>(n,f n))) (.inr k)))):=.aS hp (by intro _ z;cases z)
 refine⟨p,_,.inr k,f k,rfl,rfl,hp,qE.val hk,h _ mv ?_⟩
 unfold qE
 rw [av,Nz]
theorem acM {R:Prop} (hp:qE H p ns f) (h:R):TQ K "dict" (.ref p) H/\R:=⟨.inr (.inr (.inl ⟨rfl,.inl ⟨_,hp⟩⟩)),h⟩
theorem qE.acd:(Ei (ns.map fun n=>(n,f n))).map (fun kv=>kV kv.1)=ns.map V.str:=by unfold Ei;rw [GM,GM];rfl
end
end L2
set_option maxHeartbeats 4000000
namespace My
open PySem L2
variable {α β:Type} {K:At} {fd:Cs} {ps ns ss:List Str} {n l t slot u to:Int} {mg:Str->Option Value} {H H':Hp} {Q:VK} {E:XK} {v rv:V} {d:BB} {x:Str} {C p dx q pd CW b:Addr} {f:Bool->Bool} {S:List Addr} {us:List (Int × Int)} {B:Str->Int->Prop} {i j:Nat} {c:Int × Str} {ts d9:List (Str × Int)} {ei:List (Int × Str)} {y:Str × Int} {σ:St} {rs:List Int} {xs:List V} {ds es:List BB} {kvs:List (Key × V)} {kd:Bool} {kf:V->Int × Str} {rf:V->Int × Int}
theorem ln1 {α:Type} {us:List α} (h:us.length=1):∃a,us=[a]:=by
 cases us with
 |nil=>cases h
 |cons a r=>
  cases r with
  |nil=>exact⟨a,rfl⟩
  |cons _ _=>exact absurd (Aa3 h) (Nat.succ_ne_zero _)
theorem kO (h:∀a:Value,bindArgs fd ⟨[a],[]⟩=pure (ps.zip [a])) (hl:ps.length=1:=by rfl):Binds K fd ps []:=.all fun us hz=>by
 obtain⟨a,rfl⟩:=ln1 (hz.trans hl)
 exact h a
theorem ln2 {α:Type} {us:List α} (h:us.length=2):∃a b,us=[a,b]:=by
 cases us with
 |nil=>cases h
 |cons a r=>
  obtain⟨b,rfl⟩:=ln1 (us:=r) (Aa3 h)
  exact⟨a,b,rfl⟩
theorem dJ (h:∀a b:Value,bindArgs fd ⟨[a,b],[]⟩=pure (ps.zip [a,b])) (hl:ps.length=2:=by rfl):Binds K fd ps []:=.all fun us hz=>by
 obtain⟨a,b,rfl⟩:=ln2 (hz.trans hl)
 exact h a b
theorem ln3 {α:Type} {us:List α} (h:us.length=3):∃a b c,us=[a,b,c]:=by
 cases us with
 |nil=>cases h
 |cons a r=>
  obtain⟨b,c,rfl⟩:=ln2 (us:=r) (Aa3 h)
  exact⟨a,b,c,rfl⟩
theorem jr (h:∀a b c:Value,bindArgs fd ⟨[a,b,c],[]⟩=pure (ps.zip [a,b,c])) (hl:ps.length=3:=by rfl):Binds K fd ps []:=.all fun us hz=>by
 obtain⟨a,b,c,rfl⟩:=ln3 (hz.trans hl)
 exact h a b c
theorem ln4 {α:Type} {us:List α} (h:us.length=4):∃a b c d,us=[a,b,c,d]:=by
 cases us with
 |nil=>cases h
 |cons a r=>
  obtain⟨b,c,d,rfl⟩:=ln3 (us:=r) (Aa3 h)
  exact⟨a,b,c,d,rfl⟩
theorem Wr (h:∀a b c d:Value,bindArgs fd ⟨[a,b,c,d],[]⟩=pure (ps.zip [a,b,c,d])) (hl:ps.length=4:=by rfl):Binds K fd ps []:=.all fun us hz=>by
 obtain⟨a,b,c,d,rfl⟩:=ln4 (hz.trans hl)
 exact h a b c d
theorem ln5 {α:Type} {us:List α} (h:us.length=5):∃a b c d e,us=[a,b,c,d,e]:=by
 cases us with
 |nil=>cases h
 |cons a r=>
  obtain⟨b,c,d,e,rfl⟩:=ln4 (us:=r) (Aa3 h)
  exact⟨a,b,c,d,e,rfl⟩
theorem ln6 {α:Type} {us:List α} (h:us.length=6):∃a b c d e f,us=[a,b,c,d,e,f]:=by
 cases us with
 |nil=>cases h
 |cons a r=>
  obtain⟨b,c,d,e,f,rfl⟩:=ln5 (us:=r) (Aa3 h)
  exact⟨a,b,c,d,e,f,rfl⟩
theorem ac5 (h:∀a b c d e f:Value,bindArgs fd ⟨[a,b,c,d,e,f],[]⟩=pure (ps.zip [a,b,c,d,e,f])) (hl:ps.length=6:=by rfl):Binds K fd ps []:=.all fun us hz=>by
 obtain⟨a,b,c,d,e,f,rfl⟩:=ln6 (hz.trans hl)
 exact h a b c d e f
def num (c:Int):Int:=if c % 3=0 then c / 3 % 7 else if c % 3=1 then c / 3 % 1000 else c / 3 % 10^39
def MOk (m:V):Prop:=m=.aQ\/∃i,m=.int i/\1<=i
def ag5 (m:V) (n:Int):Int:=match m with
 | .int i=>if i<=n then i else n
 |_=>n
def af0 (m:V) (n:Int) (d:BB):BB:=match m with
 | .int i=>if i<=n then .none else d
 |_=>d
def place (m:V) (n:Int) (d:BB):BB:=.tuple [.int (ag5 m n),af0 m n d]
def Hk:List V->List (Str × V)
 |[f,.aQ]=>[("many",.int 1),("first",f),("last",f)]
 |[f,l]=>[("many",.int 1),("first",f),("last",l)]
 |_=>[]
inductive Wk (R:Int->Int->Int × Int) (now:Int):Int->Int->Int->Int->Int->Int->Prop where
 |here {num x y:Int} (h:now<y):Wk R now num x y num x y
 |next {num x y k x' y':Int} (h:y<=now) (w:Wk R now (num+1) (R num y).1 (R num y).2 k x' y'):Wk R now num x y k x' y'
theorem Wk.inj {R:Int->Int->Int × Int} {now num x y k x' y' k2 x2 y2:Int} (h:Wk R now num x y k x' y') (g:Wk R now num x y k2 x2 y2):k=k2/\x'=x2/\y'=y2:=by
 induction h with
 |here h=>
  cases g with
  |here _=>exact⟨rfl,rfl,rfl⟩
  |next h2 _=>omega
 |next h _ ih=>
  cases g with
  |here h2=>omega
  |next _ w=>exact ih w
local macro_rules|`(tactic|walk_at "same")=>`(tactic|first|(refine' ay.trans ?m ?s;(case s=>assumption);(case m=>walk_at "same"))|fail)
set_option hygiene false in
local macro_rules|`(tactic|walk_at "same")=>`(tactic|first|assumption|fail)
set_option hygiene false in
local macro_rules|`(tactic|walk_at "same")=>`(tactic|first|exact ay.refl _|fail)
local macro_rules|`(tactic|walk_at "at")=>`(tactic|first|(refine' ay.at ?s ?m;(case s=>assumption);(case m=>walk_at "at"))|fail)
set_option hygiene false in
local macro_rules|`(tactic|walk_at "at")=>`(tactic|first|exact av|fail)
set_option hygiene false in
local macro_rules|`(tactic|walk_at "at")=>`(tactic|first|assumption|fail)
local macro_rules|`(tactic|walk_at "dat")=>`(tactic|first|(refine' Dv.keeps ?s ?m;(case s=>assumption);(case m=>walk_at "dat"))|fail)
set_option hygiene false in
local macro_rules|`(tactic|walk_at "dat")=>`(tactic|first|assumption|fail)
set_option hygiene false in
local macro_rules|`(tactic|walk_at "dat")=>`(tactic|first|exact Dv.str _|fail)
set_option hygiene false in
local macro_rules|`(tactic|walk_at "dat")=>`(tactic|first|exact Dv.bl _|fail)
set_option hygiene false in
local macro_rules|`(tactic|walk_at "dat")=>`(tactic|first|exact Dv.aQ|fail)
set_option hygiene false in
local macro_rules|`(tactic|walk_at "dat")=>`(tactic|first|exact Dv.int _|fail)
local macro_rules|`(tactic|walk_at "ins")=>`(tactic|first|(refine' jF.keeps ?s ?m;(case s=>assumption);(case m=>walk_at "ins"))|fail)
set_option hygiene false in
local macro_rules|`(tactic|walk_at "ins")=>`(tactic|first|assumption|fail)
local macro_rules|`(tactic|walk_at "dats")=>`(tactic|first|(refine' dB.keeps ?s ?m;(case s=>assumption);(case m=>walk_at "dats"))|fail)
set_option hygiene false in
local macro_rules|`(tactic|walk_at "dats")=>`(tactic|first|assumption|fail)
local macro_rules|`(tactic|walk_at "dats")=>`(tactic|first|(refine' dB.cons ?m ?s;(case m=>walk_at "dat");(case s=>walk_at "dats"))|fail)
set_option hygiene false in
local macro_rules|`(tactic|walk_at "dats")=>`(tactic|first|exact dB.nil|fail)
local macro_rules|`(tactic|walk_at "sql")=>`(tactic|first|(refine' ay.seq ?s ?m;(case s=>assumption);(case m=>walk_at "sql"))|fail)
set_option hygiene false in
local macro_rules|`(tactic|walk_at "sql")=>`(tactic|first|assumption|fail)
local macro_rules|`(tactic|walk_at "isq")=>`(tactic|first|(refine' Or.inr ?m;case m=>walk_at "dat")|fail)
local macro_rules|`(tactic|walk_at "isq")=>`(tactic|first|(refine' FS ?m;case m=>walk_at "dat")|fail)
set_option hygiene false in
local macro_rules|`(tactic|walk_at "side")=>`(tactic|first|exact⟨by decide,by decide,by decide⟩|fail)
set_option hygiene false in
local macro_rules|`(tactic|walk_at "side")=>`(tactic|first|exact aci ⟨by omega,by omega⟩ ⟨by omega,by omega⟩|fail)
set_option hygiene false in
local macro_rules|`(tactic|walk_at "side")=>`(tactic|first|exact abY (by omega) (by omega)|fail)
set_option hygiene false in
local macro_rules|`(tactic|walk_at "side")=>`(tactic|first|exact(by decide)|fail)
set_option hygiene false in
local macro_rules|`(tactic|walk_at "side")=>`(tactic|first|assumption|fail)
set_option hygiene false in
local macro_rules|`(tactic|walk_at "side")=>`(tactic|first|omega|fail)
set_option hygiene false in
local macro_rules|`(tactic|walk_at "use")=>`(tactic|fail)
set_option hygiene false in
local macro_rules|`(tactic|walk_at "lk")=>`(tactic|fail)
set_option hygiene false in
local macro_rules|`(tactic|walk_at "put")=>`(tactic|fail)
set_option hygiene false in
local macro_rules|`(tactic|walk_at "fin")=>`(tactic|fail)
set_option hygiene false in
local macro_rules|`(tactic|walk_at "wds")=>`(tactic|first|with_reducible refine J2 (ws:=[]) rfl ?_|fail)
set_option hygiene false in
local macro_rules|`(tactic|walk_at "wds")=>`(tactic|first|with_reducible refine J2 (ws:=[_,_,_,_,_,_]) rfl ?_|fail)
set_option hygiene false in
local macro_rules|`(tactic|walk_at "wds")=>`(tactic|first|with_reducible refine J2 (ws:=[_,_,_,_,_]) rfl ?_|fail)
set_option hygiene false in
local macro_rules|`(tactic|walk_at "wds")=>`(tactic|first|with_reducible refine J2 (ws:=[_,_,_,_]) rfl ?_|fail)
set_option hygiene false in
local macro_rules|`(tactic|walk_at "wds")=>`(tactic|first|with_reducible refine J2 (ws:=[_,_,_]) rfl ?_|fail)
set_option hygiene false in
local macro_rules|`(tactic|walk_at "wds")=>`(tactic|first|with_reducible refine J2 (ws:=[_,_]) rfl ?_|fail)
set_option hygiene false in
local macro_rules|`(tactic|walk_at "wds")=>`(tactic|first|with_reducible refine J2 (ws:=[_]) rfl ?_|fail)
set_option hygiene false in
local macro_rules|`(tactic|walk_at "mks")=>`(tactic|first|refine vT (args:=[_,_,_,_,_]) rfl ?_ (fun _ _ _ _=>?_)|fail)
set_option hygiene false in
local macro_rules|`(tactic|walk_at "mks")=>`(tactic|first|refine vT (args:=[_,_,_,_]) rfl ?_ (fun _ _ _ _=>?_)|fail)
set_option hygiene false in
local macro_rules|`(tactic|walk_at "mks")=>`(tactic|first|refine vT (args:=[_,_,_]) rfl ?_ (fun _ _ _ _=>?_)|fail)
set_option hygiene false in
local macro_rules|`(tactic|walk_at "mks")=>`(tactic|first|refine vT (args:=[_,_]) rfl ?_ (fun _ _ _ _=>?_)|fail)
set_option hygiene false in
local macro_rules|`(tactic|walk_at "mks")=>`(tactic|first|refine vT (args:=[_]) rfl ?_ (fun _ _ _ _=>?_)|fail)
local macro_rules|`(tactic|walk_at "br")=>`(tactic|((with_reducible refine ab2 (fun hb=>?_) (fun hb=>?_)) <;>(try simp only [id,decide_eq_true_eq,decide_eq_false_iff_not,AbM,Bool.not_eq_false',Bool.not_true,Bool.not_false,V.int.injEq,Bool.true_eq_false,IF,reduceCtorEq,decide_true,decide_false,not_true,not_false_iff,Sm,BB.eqvAll,SL,Bool.and_eq_false_iff,Bool.or_eq_true,Bool.or_eq_false_iff,beq_iff_eq,beq_eq_false_iff_ne,ne_eq,bne_iff_ne,Bool.and_true,Bool.and_false,Bool.and_self,beq_self_eq_true,isInt,isBool,isStr,Wf,isTup,acQ,FF,Aaz] at hb) <;>(try (exfalso;omega)) <;>(try (exfalso;(refine' agz hb ?d);(case d=>walk_at "dat")))))
set_option hygiene false in
local macro_rules|`(tactic|walk_at "rd1")=>`(tactic|first|walk_at "fin"|fail)
set_option hygiene false in
local macro_rules|`(tactic|walk_at "rd1")=>`(tactic|first|walk_at "use"|fail)
set_option hygiene false in
local macro_rules|`(tactic|walk_at "rd1")=>`(tactic|first|walk_at "mks"|fail)
set_option hygiene false in
local macro_rules|`(tactic|walk_at "rd1")=>`(tactic|first|walk_at "wds"|fail)
set_option hygiene false in
local macro_rules|`(tactic|walk_at "rd1")=>`(tactic|first|with_reducible refine Ab (fun _ _=>?_)|fail)
set_option hygiene false in
local macro_rules|`(tactic|walk_at "rd1")=>`(tactic|first|with_reducible refine W6 ?_|fail)
set_option hygiene false in
local macro_rules|`(tactic|walk_at "rd1")=>`(tactic|first|with_reducible refine U9 ?_|fail)
set_option hygiene false in
local macro_rules|`(tactic|walk_at "rd1")=>`(tactic|first|with_reducible refine Vx ?_|fail)
set_option hygiene false in
local macro_rules|`(tactic|walk_at "rd1")=>`(tactic|first|with_reducible refine aaZ ?_|fail)
set_option hygiene false in
local macro_rules|`(tactic|walk_at "rd1")=>`(tactic|first|with_reducible refine ac2 ?_|fail)
set_option hygiene false in
local macro_rules|`(tactic|walk_at "rd1")=>`(tactic|first|with_reducible refine Xq ?_|fail)
set_option hygiene false in
local macro_rules|`(tactic|walk_at "rd1")=>`(tactic|first|with_reducible refine Yx ?_|fail)
local macro_rules|`(tactic|walk_at "rd1")=>`(tactic|first|((with_reducible refine' XE ?e1 ?e2 (fun _ _ _ _=>?_));(case e1=>exact VW rfl);(case e2=>walk_at "dats"))|fail)
set_option hygiene false in
local macro_rules|`(tactic|walk_at "rd1")=>`(tactic|first|with_reducible refine X9 ?_|fail)
set_option hygiene false in
local macro_rules|`(tactic|walk_at "rd1")=>`(tactic|first|with_reducible refine SF (fun _ _=>?_)|fail)
set_option hygiene false in
local macro_rules|`(tactic|walk_at "rd1")=>`(tactic|first|with_reducible refine Vc ?_|fail)
set_option hygiene false in
local macro_rules|`(tactic|walk_at "rd1")=>`(tactic|first|with_reducible refine UM ?_|fail)
local macro_rules|`(tactic|walk_at "rd1")=>`(tactic|first|((with_reducible refine' ND ?e ?_);case e=>walk_at "dat")|fail)
local macro_rules|`(tactic|walk_at "rd1")=>`(tactic|first|((with_reducible refine' NT ?e ?_);case e=>walk_at "dat")|fail)
local macro_rules|`(tactic|walk_at "rd1")=>`(tactic|first|((with_reducible refine' NR ?e ?_);case e=>walk_at "dat")|fail)
local macro_rules|`(tactic|walk_at "rd1")=>`(tactic|first|((with_reducible refine' JK ?e ?_);case e=>walk_at "dat")|fail)
local macro_rules|`(tactic|walk_at "rd1")=>`(tactic|first|((with_reducible refine' L7 ?e ?_);case e=>walk_at "dat")|fail)
local macro_rules|`(tactic|walk_at "rd1")=>`(tactic|first|((with_reducible refine' SH ?e1 ?e2 ?_);(case e1=>walk_at "at");(case e2=>walk_at "lk"))|fail)
local macro_rules|`(tactic|walk_at "rd1")=>`(tactic|first|((with_reducible refine' wI ?e1 ?e2 ?_);(case e1=>walk_at "ins");(case e2=>walk_at "lk"))|fail)
local macro_rules|`(tactic|walk_at "rd1")=>`(tactic|first|((with_reducible refine' WY ?e1 ?e2 ?e3 ?e4 ?_);(case e1=>walk_at "at");(case e2=>assumption);(case e3=>assumption);(case e4=>walk_at "lk"))|fail)
local macro_rules|`(tactic|walk_at "rd1")=>`(tactic|first|((with_reducible refine' aal ?e1 ?e2 ?e3 ?e4 ?_);(case e1=>walk_at "ins");(case e2=>assumption);(case e3=>assumption);(case e4=>walk_at "lk"))|fail)
local macro_rules|`(tactic|walk_at "rd1")=>`(tactic|first|((with_reducible refine' SY ?e1 ?e2 ?e3 ?e4 ?e5 ?_);(case e1=>walk_at "at");(case e2=>assumption);(case e3=>assumption);(case e4=>exact VB rfl);(case e5=>walk_at "put"))|fail)
set_option hygiene false in
local macro_rules|`(tactic|walk_at "rd1")=>`(tactic|first|with_reducible refine aac ?_|fail)
set_option hygiene false in
local macro_rules|`(tactic|walk_at "rd1")=>`(tactic|first|with_reducible refine agl ?_|fail)
local macro_rules|`(tactic|walk_at "rd1")=>`(tactic|first|((with_reducible refine' Zu ?e (fun _ _=>?_));case e=>walk_at "side")|fail)
set_option hygiene false in
local macro_rules|`(tactic|walk_at "rd1")=>`(tactic|first|with_reducible refine aag (fun _ _ _ _=>?_)|fail)
set_option hygiene false in
local macro_rules|`(tactic|walk_at "rd1")=>`(tactic|first|with_reducible refine ZC (fun _ _ _ _=>?_)|fail)
local macro_rules|`(tactic|walk_at "rd1")=>`(tactic|first|((with_reducible refine' Ez ?e ?_);case e=>walk_at "sql")|fail)
local macro_rules|`(tactic|walk_at "rd1")=>`(tactic|first|((with_reducible refine' PZ ?e ?_);case e=>walk_at "isq")|fail)
local macro_rules|`(tactic|walk_at "rd1")=>`(tactic|first|((with_reducible refine' Eh ?e1 ?e2 ?_);(case e1=>walk_at "isq");(case e2=>exact rfl))|fail)
local macro_rules|`(tactic|walk_at "rd1")=>`(tactic|first|((with_reducible refine' OJ ?e1 ?e2 ?e3 ?e4 ?e5 ?_);(case e1=>walk_at "dat");(case e2=>walk_at "dat");(case e3=>first|rfl|assumption);(case e4=>first|rfl|assumption);(case e5=>first|exact LF rfl|assumption))|fail)
local macro_rules|`(tactic|walk_at "rd1")=>`(tactic|first|((with_reducible refine' aa9 ?e ?_);case e=>exact rfl)|fail)
set_option hygiene false in
local macro_rules|`(tactic|walk_at "rd1")=>`(tactic|first|with_reducible refine X0 ?_|fail)
set_option hygiene false in
local macro_rules|`(tactic|walk_at "rd1")=>`(tactic|first|walk_at "br"|fail)
set_option hygiene false in
local macro_rules|`(tactic|walk_at "rd1")=>`(tactic|first|with_reducible refine MX ?_|fail)
set_option hygiene false in
local macro_rules|`(tactic|walk_at "rd1")=>`(tactic|first|with_reducible refine OO ?_|fail)
set_option hygiene false in
local macro_rules|`(tactic|walk_at "rd1")=>`(tactic|first|with_reducible refine Xs ?_|fail)
set_option hygiene false in
local macro_rules|`(tactic|walk_at "rd1")=>`(tactic|first|with_reducible refine afZ ?_|fail)
set_option hygiene false in
local macro_rules|`(tactic|walk_at "rd1")=>`(tactic|first|with_reducible refine adv ?_|fail)
set_option hygiene false in
local macro_rules|`(tactic|walk_at "rd1")=>`(tactic|first|with_reducible refine Y4 ?_|fail)
set_option hygiene false in
local macro_rules|`(tactic|walk_at "rd1")=>`(tactic|first|with_reducible refine abP ?_|fail)
set_option hygiene false in
local macro_rules|`(tactic|walk_at "rd1")=>`(tactic|first|with_reducible refine X8 ?_|fail)
set_option hygiene false in
local macro_rules|`(tactic|walk_at "rd1")=>`(tactic|first|with_reducible refine adA ?_|fail)
set_option hygiene false in
local macro_rules|`(tactic|walk_at "rd1")=>`(tactic|first|with_reducible refine ahp ?_|fail)
set_option hygiene false in
local macro_rules|`(tactic|walk_at "rd1")=>`(tactic|first|with_reducible refine abR ?_|fail)
set_option hygiene false in
local macro_rules|`(tactic|walk_at "rd1")=>`(tactic|first|with_reducible refine Y1 ?_|fail)
set_option hygiene false in
local macro_rules|`(tactic|walk_at "rd1")=>`(tactic|first|with_reducible refine afn ?_|fail)
set_option hygiene false in
local macro_rules|`(tactic|walk_at "rd1")=>`(tactic|first|with_reducible refine SX ?_|fail)
set_option hygiene false in
local macro_rules|`(tactic|walk_at "rd1")=>`(tactic|first|with_reducible refine aa3 ?_|fail)
set_option hygiene false in
local macro_rules|`(tactic|walk_at "rd1")=>`(tactic|first|with_reducible refine YN ?_|fail)
set_option hygiene false in
local macro_rules|`(tactic|walk_at "rd1")=>`(tactic|first|with_reducible refine r_u ?_|fail)
local macro_rules|`(tactic|walk_at "rd1")=>`(tactic|first|((with_reducible refine' r_i ?e ?_);case e=>walk_at "side")|fail)
local macro_rules|`(tactic|walk_at "rd1")=>`(tactic|first|((with_reducible refine' Z7 ?e1 ?e2 ?_);(case e1=>exact⟨by decide,by decide,by decide⟩);(case e2=>((conv=>lhs;simp only [Int.reduceToNat]) <;>exact rfl)))|fail)
set_option hygiene false in
local macro_rules|`(tactic|walk_at "rd1")=>`(tactic|first|with_reducible refine aeN ?_|fail)
set_option hygiene false in
local macro_rules|`(tactic|walk_at "rd1")=>`(tactic|first|with_reducible refine aeO ?_|fail)
set_option hygiene false in
local macro_rules|`(tactic|walk_at "rd1")=>`(tactic|first|with_reducible refine aeW ?_|fail)
set_option hygiene false in
local macro_rules|`(tactic|walk_at "rd1")=>`(tactic|first|with_reducible refine r_c ?_|fail)
local macro_rules|`(tactic|walk_at "rd1")=>`(tactic|first|((with_reducible refine' Rz ?e ?_);case e=>exact rfl)|fail)
set_option hygiene false in
local macro_rules|`(tactic|walk_at "rd1")=>`(tactic|first|with_reducible refine adg ?_|fail)
set_option hygiene false in
local macro_rules|`(tactic|walk_at "rd1")=>`(tactic|first|with_reducible refine Y0 ?_|fail)
set_option hygiene false in
local macro_rules|`(tactic|walk_at "rd1")=>`(tactic|first|with_reducible refine aaY ?_|fail)
set_option hygiene false in
local macro_rules|`(tactic|walk_at "rd1")=>`(tactic|first|with_reducible refine aaT ?_|fail)
set_option hygiene false in
local macro_rules|`(tactic|walk_at "rd1")=>`(tactic|first|with_reducible refine YG ?_|fail)
local macro_rules|`(tactic|walk_at "lat")=>`(tactic|first|(refine' dg.mv ?s ?n ?m;(case s=>assumption);(case n=>walk_at "nin");(case m=>walk_at "lat"))|fail)
local macro_rules|`(tactic|walk_at "lat")=>`(tactic|first|(refine' dg.keeps ?s ?m;(case s=>assumption);(case m=>walk_at "lat"))|fail)
set_option hygiene false in
local macro_rules|`(tactic|walk_at "lat")=>`(tactic|first|assumption|fail)
local macro_rules|`(tactic|walk_at "nin")=>`(tactic|first|(refine' Qy ?n1;(case n1=>walk_at "ne"))|fail)
local macro_rules|`(tactic|walk_at "ne")=>`(tactic|first|(refine' Me (dg.ne ?h ?n);(case n=>assumption);(case h=>walk_at "lat"))|fail)
local macro_rules|`(tactic|walk_at "ne")=>`(tactic|first|(refine' dg.ne ?h ?n;(case n=>assumption);(case h=>walk_at "lat"))|fail)
set_option hygiene false in
local macro_rules|`(tactic|walk_at "ne")=>`(tactic|first|(refine Me ?_;assumption)|fail)
set_option hygiene false in
local macro_rules|`(tactic|walk_at "ne")=>`(tactic|first|assumption|fail)
local macro_rules|`(tactic|walk_at "dla")=>`(tactic|first|(refine' oq.mv ?s ?n ?m;(case s=>assumption);(case n=>walk_at "nin");(case m=>walk_at "dla"))|fail)
local macro_rules|`(tactic|walk_at "dla")=>`(tactic|first|(refine' oq.keeps ?s ?m;(case s=>assumption);(case m=>walk_at "dla"))|fail)
set_option hygiene false in
local macro_rules|`(tactic|walk_at "dla")=>`(tactic|first|assumption|fail)
local macro_rules|`(tactic|walk_at "ne")=>`(tactic|first|(refine' Me (oq.ne ?h ?n);(case n=>assumption);(case h=>walk_at "dla"))|fail)
local macro_rules|`(tactic|walk_at "ne")=>`(tactic|first|(refine' oq.ne ?h ?n;(case n=>assumption);(case h=>walk_at "dla"))|fail)
local macro_rules|`(tactic|walk_at "imm")=>`(tactic|first|(refine' dg.yw ?h;(case h=>assumption))|fail)
set_option hygiene false in
local macro_rules|`(tactic|walk_at "imm")=>`(tactic|first|exact bE (fun _=>rfl) _|fail)
set_option hygiene false in
local macro_rules|`(tactic|walk_at "imm")=>`(tactic|first|assumption|fail)
set_option hygiene false in
local macro_rules|`(tactic|walk_at "imm")=>`(tactic|first|rfl|fail)
set_option hygiene false in
local macro_rules|`(tactic|walk_at "dm")=>`(tactic|first|exact fun _ h=>h|fail)
set_option hygiene false in
local macro_rules|`(tactic|walk_at "none")=>`(tactic|first|assumption|fail)
local macro_rules|`(tactic|walk_at "same")=>`(tactic|first|(refine' Mv.Lq ?s ?m ?n;(case m=>assumption);(case s=>walk_at "same");(case n=>walk_at "none"))|fail)
local macro_rules|`(tactic|walk_at "mv")=>`(tactic|first|(refine' Mv.step ?m ?s ?h;(case s=>assumption);(case m=>walk_at "mv");(case h=>walk_at "ours"))|fail)
local macro_rules|`(tactic|walk_at "mv")=>`(tactic|first|(refine' Mv.y9 ?m ?s;(case s=>assumption);(case m=>walk_at "mv"))|fail)
set_option hygiene false in
local macro_rules|`(tactic|walk_at "mv")=>`(tactic|first|assumption|fail)
set_option hygiene false in
local macro_rules|`(tactic|walk_at "mv")=>`(tactic|first|exact Mv.refl|fail)
set_option hygiene false in
local macro_rules|`(tactic|walk_at "ours")=>`(tactic|fail)
local macro_rules|`(tactic|walk_at "dat")=>`(tactic|first|(refine' Mv.dat ?s ?i ?m;(case s=>assumption);(case i=>walk_at "imm");(case m=>walk_at "dat"))|fail)
local macro_rules|`(tactic|walk_at "dat")=>`(tactic|first|(refine' dg.dv ?m;(case m=>walk_at "lat"))|fail)
local macro_rules|`(tactic|walk_at "dats")=>`(tactic|first|(refine' Mv.IZ ?s ?i ?m;(case s=>assumption);(case i=>walk_at "imm");(case m=>walk_at "dats"))|fail)
set_option hygiene false in
local macro_rules|`(tactic|walk_at "len")=>`(tactic|first|omega|fail)
set_option hygiene false in
local macro_rules|`(tactic|walk_at "len")=>`(tactic|first|(simp only [AE,Da,FF,Aaz];omega)|fail)
local macro_rules|`(tactic|walk_at "rd1")=>`(tactic|first|((with_reducible refine' Eh ?e1 ?e2 ?_);(case e1=>walk_at "isq");(case e2=>first|exact Ej|(refine' RK ?a ?b;(case a=>omega);(case b=>walk_at "len"))|fail))|fail)
local macro_rules|`(tactic|walk_at "rd1")=>`(tactic|first|((with_reducible refine' Zq ?e ?_);case e=>walk_at "dat")|fail)
local macro_rules|`(tactic|walk_at "rd1")=>`(tactic|first|((with_reducible refine' Ji ?e ?_);case e=>walk_at "len")|fail)
local macro_rules|`(tactic|walk_at "rd1")=>`(tactic|first|((with_reducible refine' J0 ?e ?_);case e=>walk_at "dat")|fail)
local macro_rules|`(tactic|walk_at "rd1")=>`(tactic|first|((with_reducible refine' Ym ?e ?e2 ?_);(case e=>walk_at "dat");(case e2=>simp))|fail)
local macro_rules|`(tactic|walk_at "rd1")=>`(tactic|first|((with_reducible refine' Y3 ?e ?_);case e=>walk_at "dat")|fail)
local macro_rules|`(tactic|walk_at "rd1")=>`(tactic|first|((with_reducible refine' Oq ?e1 ?e2 (fun _ _ _ _ _=>?_));(case e1=>walk_at "dat");(case e2=>walk_at "imm"))|fail)
set_option hygiene false in
local macro_rules|`(tactic|walk_at "rd1")=>`(tactic|first|with_reducible refine adk ?_|fail)
set_option hygiene false in
local macro_rules|`(tactic|walk_at "rd1")=>`(tactic|first|with_reducible refine Rt ?_|fail)
local macro_rules|`(tactic|walk_at "rd1")=>`(tactic|first|((with_reducible refine' XF ?e1 ?e2 ?e3 (fun _ _ _ _ _=>?_));(case e1=>exact VW rfl);(case e2=>walk_at "dats");(case e3=>exact rfl))|fail)
local macro_rules|`(tactic|walk_at "rd1")=>`(tactic|first|((with_reducible refine' acs ?e1 ?e2 ?e3 ?e4 (fun _ _ _=>?_));(case e1=>walk_at "lat");(case e3=>walk_at "dat");(case e2=>walk_at "len");(case e4=>walk_at "imm"))|fail)
local macro_rules|`(tactic|walk_at "rd1")=>`(tactic|first|((with_reducible refine' Qj ?e ?_);case e=>walk_at "lat")|fail)
set_option hygiene false in
local macro_rules|`(tactic|walk_at "rd1")=>`(tactic|first|with_reducible refine abH ?_|fail)
set_option hygiene false in
local macro_rules|`(tactic|walk_at "rd1")=>`(tactic|first|with_reducible refine aeJ ?_|fail)
set_option hygiene false in
local macro_rules|`(tactic|walk_at "rd1")=>`(tactic|first|with_reducible refine U7 ?_|fail)
local macro_rules|`(tactic|walk_at "rd1")=>`(tactic|first|((with_reducible refine' Yo ?e1 ?e2 ?_);(case e1=>walk_at "dla");(case e2=>assumption))|fail)
local macro_rules|`(tactic|walk_at "rd1")=>`(tactic|first|((with_reducible refine' ac7 ?e1 (fun _ _=>?_));(case e1=>walk_at "dla"))|fail)
local macro_rules|`(tactic|walk_at "rd1")=>`(tactic|first|((with_reducible refine' Oz ?e1 ?e2 ?e3 ?e4 (fun _ _ _=>?_));(case e1=>walk_at "dla");(case e3=>walk_at "dat");(case e2=>walk_at "len");(case e4=>walk_at "imm"))|fail)
set_option hygiene false in
local macro_rules|`(tactic|walk_at "rd1")=>`(tactic|first|with_reducible refine Ua ?_|fail)
set_option hygiene false in
local macro_rules|`(tactic|walk_at "rd1")=>`(tactic|first|with_reducible refine XB ?_|fail)
set_option hygiene false in
local macro_rules|`(tactic|walk_at "rd1")=>`(tactic|first|with_reducible refine Ul ?_|fail)
set_option hygiene false in
local macro_rules|`(tactic|walk_at "rd1")=>`(tactic|first|with_reducible refine Uq ?_|fail)
set_option hygiene false in
local macro_rules|`(tactic|walk_at "rd1")=>`(tactic|first|with_reducible refine Xh (fun _ _ _ _ _=>?_)|fail)
set_option hygiene false in
local macro_rules|`(tactic|walk_at "rd1")=>`(tactic|first|with_reducible refine Tc ?_|fail)
set_option hygiene false in
local macro_rules|`(tactic|walk_at "rd1")=>`(tactic|first|with_reducible refine aeZ ?_|fail)
local macro_rules|`(tactic|walk_at "rd1")=>`(tactic|first|((with_reducible refine' JU ?e1 ?e2 ?e3 (fun _ _ _ _ _=>?_));(case e1=>walk_at "lat");(case e2=>walk_at "lat");(case e3=>walk_at "len"))|fail)
local macro_rules|`(tactic|walk_at "rd1")=>`(tactic|first|((with_reducible refine' Uu ?e1 ?e2 (fun _ _ _ _ _ _ _ _=>?_));(case e1=>walk_at "dat");(case e2=>walk_at "len"))|fail)
set_option hygiene false in
local macro_rules|`(tactic|walk_at "rd1")=>`(tactic|fail)
set_option hygiene false in
local macro_rules|`(tactic|walk_at "rd1")=>`(tactic|fail)
local macro_rules|`(tactic|walk_at "rd1")=>`(tactic|first|((with_reducible refine' Vr ?e1 ?_);(case e1=>walk_at "dla"))|fail)
set_option hygiene false in
local macro_rules|`(tactic|walk_at "rd1")=>`(tactic|first|with_reducible refine Rc ?_|fail)
set_option hygiene false in
local macro_rules|`(tactic|walk_at "rd1")=>`(tactic|first|with_reducible refine UK ?_|fail)
set_option hygiene false in
local macro_rules|`(tactic|walk_at "rd1")=>`(tactic|fail)
set_option hygiene false in
local macro_rules|`(tactic|walk_at "rd1")=>`(tactic|first|with_reducible refine X4 ?_|fail)
set_option hygiene false in
local macro_rules|`(tactic|walk_at "rd1")=>`(tactic|fail)
set_option hygiene false in
local macro_rules|`(tactic|walk_at "rd1")=>`(tactic|fail)
def top (i:Nat):Stmt:=PySem.Challenge.pw_wakefew_k53_bells_that_ring_once.main.body.getD i (.Pass ⟨0,0,0,0⟩)
set_option hygiene false in
local macro_rules|`(tactic|walk_at "scp")=>`(tactic|exact⟨rfl,rfl,rfl,by decide+kernel,rfl,by decide+kernel,by decide+kernel⟩)
abbrev kN:Stmt:=inClass (top 2) 0
theorem yG:aw ["self","name","rule","weight","home","by_day"] ["self","name","rule","weight","home","by_day"] (ao kN):=by walk_at "scp"
abbrev rH:Stmt:=inClass (top 2) 1
theorem EI:aw ["self","shift"] ["self","shift"] (ao rH):=by walk_at "scp"
abbrev lQ:Stmt:=inClass (top 2) 2
theorem zW:aw ["self"] ["self"] (ao lQ):=by walk_at "scp"
abbrev iV:Stmt:=inClass (top 2) 3
theorem vg:aw ["self"] ["self"] (ao iV):=by walk_at "scp"
abbrev nW:Stmt:=inClass (top 2) 4
theorem Ax:aw ["self","at"] ["self","at"] (ao nW):=by walk_at "scp"
abbrev kI:Stmt:=inClass (top 2) 5
theorem gb:aw ["self","shown","low","last","place"] ["self","shown"] (ao kI):=by walk_at "scp"
abbrev ro:Stmt:=inClass (top 2) 6
theorem xa:aw ["self","now","shift","lead"] ["self","now","shift"] (ao ro):=by walk_at "scp"
abbrev sQ:Stmt:=inClass (top 2) 7
theorem Fp:aw ["self"] ["self"] (ao sQ):=by walk_at "scp"
abbrev iT:Stmt:=inClass (top 15) 0
theorem vm:aw ["self"] ["self"] (ao iT):=by walk_at "scp"
abbrev jB:Stmt:=inClass (top 17) 0
theorem wa:aw ["self","now"] ["self","now"] (ao jB):=by walk_at "scp"
abbrev sk:Stmt:=inClass (top 17) 1
theorem FH:aw ["self","name","time"] ["self","name","time"] (ao sk):=by walk_at "scp"
abbrev qo:Stmt:=inClass (top 17) 2
theorem uO:aw ["self","name","time"] ["self","name"] (ao qo):=by walk_at "scp"
abbrev mN:Stmt:=inClass (top 17) 3
theorem kR:aw ["self","to","told","time","name"] ["self","to"] (ao mN):=by walk_at "scp"
abbrev nX:Stmt:=inClass (top 17) 4
theorem AW:aw ["self"] ["self"] (ao nX):=by walk_at "scp"
abbrev kL:Stmt:=inClass (top 17) 5
theorem xX:aw ["self","name"] ["self","name"] (ao kL):=by walk_at "scp"
abbrev gy:Stmt:=inClass (top 17) 7
theorem tD:aw ["self","name"] ["self","name"] (ao gy):=by walk_at "scp"
abbrev tJ:Stmt:=inClass (top 18) 0
theorem Fq:aw ["self","name","time"] ["self","name","time"] (ao tJ):=by walk_at "scp"
abbrev rP:Stmt:=inClass (top 18) 1
theorem E1:aw ["self","name","time"] ["self","name","time"] (ao rP):=by walk_at "scp"
abbrev jU:Stmt:=inClass (top 18) 2
theorem Bh:aw ["self","to"] ["self","to"] (ao jU):=by walk_at "scp"
abbrev vE:Stmt:=top 20
theorem Gh:aw ["thing"] ["thing"] (ao vE):=by walk_at "scp"
abbrev mr:Stmt:=top 25
theorem qG:aw ["rounds","slots"] ["rounds"] (ao mr):=by walk_at "scp"
abbrev rE:Stmt:=top 26
theorem ja:aw ["rounds","wheels","unit","slots"] ["rounds"] (ao rE):=by walk_at "scp"
abbrev vy:Stmt:=top 27
theorem iA:aw ["row","pair","low","high","middle"] ["row","pair"] (ao vy):=by walk_at "scp"
abbrev jt:Stmt:=inClass (top 28) 0
theorem xx:aw ["self","unit","slots"] ["self","unit","slots"] (ao jt):=by walk_at "scp"
abbrev oK:Stmt:=inClass (top 28) 1
theorem Ay:aw ["self","time","now"] ["self","time","now"] (ao oK):=by walk_at "scp"
abbrev kn:Stmt:=inClass (top 28) 2
theorem yE:aw ["self","time"] ["self","time"] (ao kn):=by walk_at "scp"
abbrev lL:Stmt:=inClass (top 28) 3
theorem qy:aw ["self","name","time","slot"] ["self","name","time"] (ao lL):=by walk_at "scp"
abbrev jA:Stmt:=inClass (top 28) 4
theorem m5:aw ["self","name","time","slot"] ["self","name","time"] (ao jA):=by walk_at "scp"
abbrev oI:Stmt:=inClass (top 28) 5
theorem B4:aw ["self","slot"] ["self","slot"] (ao oI):=by walk_at "scp"
abbrev ky:Stmt:=inClass (top 28) 6
theorem de:aw ["self","now","to","passed","names","slot"] ["self","now","to"] (ao ky):=by walk_at "scp"
abbrev iJ:Stmt:=inClass (top 29) 0
theorem uW:aw ["self","rounds","now"] ["self","rounds","now"] (ao iJ):=by walk_at "scp"
abbrev ji:Stmt:=inClass (top 29) 4
theorem iq:aw ["self","time","now","k","wheel"] ["self","time","now"] (ao ji):=by walk_at "scp"
abbrev mh:Stmt:=inClass (top 29) 5
theorem zQ:aw ["self","name","time"] ["self","name","time"] (ao mh):=by walk_at "scp"
abbrev i9:Stmt:=inClass (top 29) 6
theorem lB:aw ["self","name","time","now","k"] ["self","name","time","now"] (ao i9):=by walk_at "scp"
abbrev mq:Stmt:=inClass (top 29) 7
theorem qP:aw ["self","name","time","k"] ["self","name","time"] (ao mq):=by walk_at "scp"
abbrev ju:Stmt:=inClass (top 29) 8
theorem dN:aw ["self","to","left","wheel","over","name"] ["self","to"] (ao ju):=by walk_at "scp"
abbrev ip:Stmt:=inClass (top 29) 9
theorem gC:aw ["self","to","span","names"] ["self","to"] (ao ip):=by walk_at "scp"
abbrev kh:Stmt:=inClass (top 31) 0
theorem yl:aw ["self","rounds","now"] ["self","rounds","now"] (ao kh):=by walk_at "scp"
abbrev gn:Stmt:=inClass (top 31) 2
theorem xQ:aw ["self"] ["self"] (ao gn):=by walk_at "scp"
abbrev kM:Stmt:=inClass (top 31) 4
theorem yH:aw ["self","bell"] ["self","bell"] (ao kM):=by walk_at "scp"
abbrev kG:Stmt:=inClass (top 31) 5
theorem yj:aw ["self","bell"] ["self","bell"] (ao kG):=by walk_at "scp"
abbrev sC:Stmt:=inClass (top 31) 6
theorem FE:aw ["self","bell"] ["self","bell"] (ao sC):=by walk_at "scp"
abbrev vf:Stmt:=inClass (top 31) 7
theorem zb:aw ["self","bell","entries"] ["self","bell"] (ao vf):=by walk_at "scp"
abbrev kl:Stmt:=inClass (top 31) 8
theorem yr:aw ["self","bell"] ["self","bell"] (ao kl):=by walk_at "scp"
abbrev rK:Stmt:=inClass (top 31) 10
theorem FV:aw ["self","bell"] ["self","bell"] (ao rK):=by walk_at "scp"
abbrev oo:Stmt:=inClass (top 31) 11
theorem Aw:aw ["self","bell","at"] ["self","bell","at"] (ao oo):=by walk_at "scp"
abbrev nU:Stmt:=inClass (top 31) 12
theorem Az:aw ["self","bell"] ["self","bell"] (ao nU):=by walk_at "scp"
abbrev oe:Stmt:=inClass (top 31) 14
theorem BH:aw ["self","bell"] ["self","bell"] (ao oe):=by walk_at "scp"
abbrev jm:Stmt:=inClass (top 31) 15
theorem zH:aw ["self","time"] ["self","time"] (ao jm):=by walk_at "scp"
abbrev se:Stmt:=top 33
theorem Ey:aw ["bell"] ["bell"] (ao se):=by walk_at "scp"
abbrev jd:Stmt:=inClass (top 34) 0
theorem vd:aw ["self","rounds","now"] ["self","rounds","now"] (ao jd):=by walk_at "scp"
abbrev pX:Stmt:=inClass (top 34) 1
theorem uv:aw ["self","name","rule","weight","group","by_day","bell"] ["self","name","rule","weight","group","by_day"] (ao pX):=by walk_at "scp"
abbrev rO:Stmt:=inClass (top 34) 12
theorem k9:aw ["self","to","most","deed","entries","wakings"] ["self","to","most","deed"] (ao rO):=by walk_at "scp"
abbrev jc:Stmt:=inClass (top 34) 13
theorem mz:aw ["self","to","least"] ["self","to"] (ao jc):=by walk_at "scp"
abbrev fg:Stmt:=inClass (top 34) 14
theorem dr:aw ["self","deed","names","entries","may_ring","bell"] ["self","deed"] (ao fg):=by walk_at "scp"
abbrev nQ:Stmt:=inClass (top 34) 15
theorem tO:aw ["self","bell","deed","entry"] ["self","bell","deed"] (ao nQ):=by walk_at "scp"
abbrev my:Stmt:=inClass (top 34) 16
theorem zK:aw ["self"] ["self"] (ao my):=by walk_at "scp"
abbrev pN:Stmt:=top 36
theorem CM:aw ["number","least","what"] ["number","least","what"] (ao pN):=by walk_at "scp"
abbrev kg:Stmt:=inClass (top 37) 0
theorem yL:aw ["self","many"] ["self","many"] (ao kg):=by walk_at "scp"
abbrev kE:Stmt:=inClass (top 38) 0
theorem o6:aw ["self","first","last"] ["self","first","last"] (ao kE):=by walk_at "scp"
abbrev qh:Stmt:=inClass (top 38) 1
theorem CH:aw ["self"] ["self"] (ao qh):=by walk_at "scp"
abbrev oz:Stmt:=inClass (top 38) 2
theorem Bu:aw ["self","number","settled"] ["self","number","settled"] (ao oz):=by walk_at "scp"
abbrev nS:Stmt:=inClass (top 38) 3
theorem Bo:aw ["self","number","last","now"] ["self","number","last","now"] (ao nS):=by walk_at "scp"
abbrev sT:Stmt:=inClass (top 38) 5
theorem FO:aw ["self"] ["self"] (ao sT):=by walk_at "scp"
abbrev lJ:Stmt:=top 40
theorem zU:aw ["_law_script","_law_k"] ["_law_script","_law_k"] (ao lJ):=by walk_at "scp"
abbrev pY:Stmt:=top 41
theorem C9:aw ["_law_found"] ["_law_found"] (ao pY):=by walk_at "scp"
abbrev ti:Stmt:=top 42
theorem jh:aw ["_law_cell","_law_k","_law_number","_law_word"] ["_law_cell","_law_k"] (ao ti):=by walk_at "scp"
abbrev pS:Stmt:=top 43
theorem og:aw ["_law_found","_law_entry","_law_part"] ["_law_found"] (ao pS):=by walk_at "scp"
abbrev rn:Stmt:=top 44
theorem dP:aw ["_law_cell","_law_k","_law_bells","_law_first","_law_wide","_law_weight"] ["_law_cell","_law_k","_law_bells"] (ao rn):=by walk_at "scp"
abbrev j5:Stmt:=top 45
theorem jl:aw ["_law_time","_law_left","_law_names","_law_found","_law_ringing","_law_bell_here"] ["_law_time","_law_left"] (ao j5):=by walk_at "scp"
abbrev jC:Stmt:=top 46
theorem nD:aw ["_law_left","_law_to","_law_found","_law_time"] ["_law_left","_law_to"] (ao jC):=by walk_at "scp"
abbrev nP:Stmt:=top 47
theorem Cd:aw ["_law_cell"] ["_law_cell"] (ao nP):=by walk_at "scp"
abbrev Ki:Stmt:=top 48
theorem km:aw ["_law_script","_law_keeper","_law_bells","_law_k","_law_bell_here","_law_rule","_law_left","_law_to","_law_found","_law_due_here"] ["_law_script"] (ao Ki):=by walk_at "scp"
theorem xn:¬(("name":Str)="rule")/\¬(("name":Str)="weight")/\¬(("name":Str)="home")/\¬(("name":Str)="by_day")/\¬(("name":Str)="number")/\¬(("name":Str)="stretch")/\¬(("name":Str)="since")/\¬(("name":Str)="until")/\¬(("rule":Str)="name")/\¬(("rule":Str)="weight")/\¬(("rule":Str)="home")/\¬(("rule":Str)="by_day")/\¬(("rule":Str)="number")/\¬(("rule":Str)="stretch")/\¬(("rule":Str)="since")/\¬(("rule":Str)="until")/\¬(("weight":Str)="name")/\¬(("weight":Str)="rule")/\¬(("weight":Str)="home")/\¬(("weight":Str)="by_day")/\¬(("weight":Str)="number")/\¬(("weight":Str)="stretch")/\¬(("weight":Str)="since")/\¬(("weight":Str)="until")/\¬(("home":Str)="name"):=by decide+kernel
theorem wR:¬(("home":Str)="rule")/\¬(("home":Str)="weight")/\¬(("home":Str)="by_day")/\¬(("home":Str)="number")/\¬(("home":Str)="stretch")/\¬(("home":Str)="since")/\¬(("home":Str)="until")/\¬(("by_day":Str)="name")/\¬(("by_day":Str)="rule")/\¬(("by_day":Str)="weight")/\¬(("by_day":Str)="home")/\¬(("by_day":Str)="number")/\¬(("by_day":Str)="stretch")/\¬(("by_day":Str)="since")/\¬(("by_day":Str)="until")/\¬(("number":Str)="name")/\¬(("number":Str)="rule")/\¬(("number":Str)="weight")/\¬(("number":Str)="home")/\¬(("number":Str)="by_day")/\¬(("number":Str)="stretch")/\¬(("number":Str)="since")/\¬(("number":Str)="until")/\¬(("stretch":Str)="name")/\¬(("stretch":Str)="rule"):=by decide+kernel
theorem nr:¬(("stretch":Str)="weight")/\¬(("stretch":Str)="home")/\¬(("stretch":Str)="by_day")/\¬(("stretch":Str)="number")/\¬(("stretch":Str)="since")/\¬(("stretch":Str)="until")/\¬(("since":Str)="name")/\¬(("since":Str)="rule")/\¬(("since":Str)="weight")/\¬(("since":Str)="home")/\¬(("since":Str)="by_day")/\¬(("since":Str)="number")/\¬(("since":Str)="stretch")/\¬(("since":Str)="until")/\¬(("until":Str)="name")/\¬(("until":Str)="rule")/\¬(("until":Str)="weight")/\¬(("until":Str)="home")/\¬(("until":Str)="by_day")/\¬(("until":Str)="number")/\¬(("until":Str)="stretch")/\¬(("until":Str)="since")/\¬(("__init__":Str)="name")/\¬(("__init__":Str)="rule")/\¬(("__init__":Str)="weight"):=by decide+kernel
theorem oX:¬(("__init__":Str)="home")/\¬(("__init__":Str)="by_day")/\¬(("__init__":Str)="number")/\¬(("__init__":Str)="stretch")/\¬(("__init__":Str)="since")/\¬(("__init__":Str)="until")/\¬(("lead":Str)="name")/\¬(("lead":Str)="rule")/\¬(("lead":Str)="weight")/\¬(("lead":Str)="home")/\¬(("lead":Str)="by_day")/\¬(("lead":Str)="number")/\¬(("lead":Str)="stretch")/\¬(("lead":Str)="since")/\¬(("lead":Str)="until")/\¬(("is_over":Str)="name")/\¬(("is_over":Str)="rule")/\¬(("is_over":Str)="weight")/\¬(("is_over":Str)="home")/\¬(("is_over":Str)="by_day")/\¬(("is_over":Str)="number")/\¬(("is_over":Str)="stretch")/\¬(("is_over":Str)="since")/\¬(("is_over":Str)="until")/\¬(("is_waiting":Str)="name"):=by decide+kernel
theorem lK:¬(("is_waiting":Str)="rule")/\¬(("is_waiting":Str)="weight")/\¬(("is_waiting":Str)="home")/\¬(("is_waiting":Str)="by_day")/\¬(("is_waiting":Str)="number")/\¬(("is_waiting":Str)="stretch")/\¬(("is_waiting":Str)="since")/\¬(("is_waiting":Str)="until")/\¬(("settle":Str)="name")/\¬(("settle":Str)="rule")/\¬(("settle":Str)="weight")/\¬(("settle":Str)="home")/\¬(("settle":Str)="by_day")/\¬(("settle":Str)="number")/\¬(("settle":Str)="stretch")/\¬(("settle":Str)="since")/\¬(("settle":Str)="until")/\¬(("catch_up":Str)="name")/\¬(("catch_up":Str)="rule")/\¬(("catch_up":Str)="weight")/\¬(("catch_up":Str)="home")/\¬(("catch_up":Str)="by_day")/\¬(("catch_up":Str)="number")/\¬(("catch_up":Str)="stretch")/\¬(("catch_up":Str)="since"):=by decide+kernel
theorem mO:¬(("catch_up":Str)="until")/\¬(("wait":Str)="name")/\¬(("wait":Str)="rule")/\¬(("wait":Str)="weight")/\¬(("wait":Str)="home")/\¬(("wait":Str)="by_day")/\¬(("wait":Str)="number")/\¬(("wait":Str)="stretch")/\¬(("wait":Str)="since")/\¬(("wait":Str)="until")/\¬(("rest":Str)="name")/\¬(("rest":Str)="rule")/\¬(("rest":Str)="weight")/\¬(("rest":Str)="home")/\¬(("rest":Str)="by_day")/\¬(("rest":Str)="number")/\¬(("rest":Str)="stretch")/\¬(("rest":Str)="since")/\¬(("rest":Str)="until")/\¬(("move":Str)="name")/\¬(("move":Str)="rule")/\¬(("move":Str)="weight")/\¬(("move":Str)="home")/\¬(("move":Str)="by_day")/\¬(("move":Str)="number"):=by decide+kernel
theorem qB:¬(("move":Str)="stretch")/\¬(("move":Str)="since")/\¬(("move":Str)="until")/\¬(("about":Str)="name")/\¬(("about":Str)="rule")/\¬(("about":Str)="weight")/\¬(("about":Str)="home")/\¬(("about":Str)="by_day")/\¬(("about":Str)="number")/\¬(("about":Str)="stretch")/\¬(("about":Str)="since")/\¬(("about":Str)="until")/\¬(("above_of":Str)="marks")/\¬(("marks":Str)="above_of")/\¬(("__init__":Str)="above_of")/\¬(("__init__":Str)="marks")/\¬(("add":Str)="above_of")/\¬(("add":Str)="marks")/\¬(("has":Str)="above_of")/\¬(("has":Str)="marks")/\¬(("sleep":Str)="above_of")/\¬(("sleep":Str)="marks")/\¬(("wake":Str)="above_of")/\¬(("wake":Str)="marks")/\¬(("end":Str)="above_of"):=by decide+kernel
theorem wq:¬(("end":Str)="marks")/\¬(("awake":Str)="above_of")/\¬(("awake":Str)="marks")/\¬(("marked":Str)="above_of")/\¬(("marked":Str)="marks")/\¬(("chain":Str)="above_of")/\¬(("chain":Str)="marks")/\¬(("within":Str)="above_of")/\¬(("within":Str)="marks")/\¬(("all_of":Str)="above_of")/\¬(("all_of":Str)="marks")/\¬(("check_stands":Str)="above_of")/\¬(("check_stands":Str)="marks")/\¬(("depth_of":Str)="above_of")/\¬(("depth_of":Str)="marks")/\¬(("awake_within":Str)="above_of")/\¬(("awake_within":Str)="marks")/\¬(("unmark":Str)="above_of")/\¬(("unmark":Str)="marks")/\¬(("now":Str)="times")/\¬(("times":Str)="now")/\¬(("enter":Str)="now")/\¬(("enter":Str)="times")/\¬(("leave":Str)="now")/\¬(("leave":Str)="times"):=by decide+kernel
theorem rF:¬(("pass_on":Str)="now")/\¬(("pass_on":Str)="times")/\¬(("__init__":Str)="now")/\¬(("__init__":Str)="times")/\¬(("put":Str)="now")/\¬(("put":Str)="times")/\¬(("take":Str)="now")/\¬(("take":Str)="times")/\¬(("due":Str)="now")/\¬(("due":Str)="times")/\¬(("least":Str)="now")/\¬(("least":Str)="times")/\¬(("time_of":Str)="now")/\¬(("time_of":Str)="times")/\¬(("all_of":Str)="now")/\¬(("all_of":Str)="times")/\¬(("check_waits":Str)="now")/\¬(("check_waits":Str)="times")/\¬(("unit":Str)="slots")/\¬(("unit":Str)="span")/\¬(("unit":Str)="mask")/\¬(("unit":Str)="names_in")/\¬(("slots":Str)="unit")/\¬(("slots":Str)="span")/\¬(("slots":Str)="mask"):=by decide+kernel
theorem ng:¬(("slots":Str)="names_in")/\¬(("span":Str)="unit")/\¬(("span":Str)="slots")/\¬(("span":Str)="mask")/\¬(("span":Str)="names_in")/\¬(("mask":Str)="unit")/\¬(("mask":Str)="slots")/\¬(("mask":Str)="span")/\¬(("mask":Str)="names_in")/\¬(("names_in":Str)="unit")/\¬(("names_in":Str)="slots")/\¬(("names_in":Str)="span")/\¬(("names_in":Str)="mask")/\¬(("__init__":Str)="unit")/\¬(("__init__":Str)="slots")/\¬(("__init__":Str)="span")/\¬(("__init__":Str)="mask")/\¬(("__init__":Str)="names_in")/\¬(("holds":Str)="unit")/\¬(("holds":Str)="slots")/\¬(("holds":Str)="span")/\¬(("holds":Str)="mask")/\¬(("holds":Str)="names_in")/\¬(("slot_of":Str)="unit")/\¬(("slot_of":Str)="slots"):=by decide+kernel
theorem qS:¬(("slot_of":Str)="span")/\¬(("slot_of":Str)="mask")/\¬(("slot_of":Str)="names_in")/\¬(("lay_in":Str)="unit")/\¬(("lay_in":Str)="slots")/\¬(("lay_in":Str)="span")/\¬(("lay_in":Str)="mask")/\¬(("lay_in":Str)="names_in")/\¬(("lift_out":Str)="unit")/\¬(("lift_out":Str)="slots")/\¬(("lift_out":Str)="span")/\¬(("lift_out":Str)="mask")/\¬(("lift_out":Str)="names_in")/\¬(("empty":Str)="unit")/\¬(("empty":Str)="slots")/\¬(("empty":Str)="span")/\¬(("empty":Str)="mask")/\¬(("empty":Str)="names_in")/\¬(("let_out":Str)="unit")/\¬(("let_out":Str)="slots")/\¬(("let_out":Str)="span")/\¬(("let_out":Str)="mask")/\¬(("let_out":Str)="names_in")/\¬(("now":Str)="wheels")/\¬(("now":Str)="far"):=by decide+kernel
theorem xf:¬(("now":Str)="moves")/\¬(("times":Str)="wheels")/\¬(("times":Str)="far")/\¬(("times":Str)="moves")/\¬(("wheels":Str)="now")/\¬(("wheels":Str)="times")/\¬(("wheels":Str)="far")/\¬(("wheels":Str)="moves")/\¬(("far":Str)="now")/\¬(("far":Str)="times")/\¬(("far":Str)="wheels")/\¬(("far":Str)="moves")/\¬(("moves":Str)="now")/\¬(("moves":Str)="times")/\¬(("moves":Str)="wheels")/\¬(("moves":Str)="far")/\¬(("__init__":Str)="wheels")/\¬(("__init__":Str)="far")/\¬(("__init__":Str)="moves")/\¬(("wheel_of":Str)="now")/\¬(("wheel_of":Str)="times")/\¬(("wheel_of":Str)="wheels")/\¬(("wheel_of":Str)="far")/\¬(("wheel_of":Str)="moves")/\¬(("bits":Str)="now"):=by decide+kernel
theorem uL:¬(("bits":Str)="times")/\¬(("bits":Str)="wheels")/\¬(("bits":Str)="far")/\¬(("bits":Str)="moves")/\¬(("moved":Str)="now")/\¬(("moved":Str)="times")/\¬(("moved":Str)="wheels")/\¬(("moved":Str)="far")/\¬(("moved":Str)="moves")/\¬(("wheel_at":Str)="now")/\¬(("wheel_at":Str)="times")/\¬(("wheel_at":Str)="wheels")/\¬(("wheel_at":Str)="far")/\¬(("wheel_at":Str)="moves")/\¬(("enter":Str)="wheels")/\¬(("enter":Str)="far")/\¬(("enter":Str)="moves")/\¬(("lie_down":Str)="now")/\¬(("lie_down":Str)="times")/\¬(("lie_down":Str)="wheels")/\¬(("lie_down":Str)="far")/\¬(("lie_down":Str)="moves")/\¬(("leave":Str)="wheels")/\¬(("leave":Str)="far")/\¬(("leave":Str)="moves"):=by decide+kernel
theorem nz:¬(("pass_on":Str)="wheels")/\¬(("pass_on":Str)="far")/\¬(("pass_on":Str)="moves")/\¬(("come_near":Str)="now")/\¬(("come_near":Str)="times")/\¬(("come_near":Str)="wheels")/\¬(("come_near":Str)="far")/\¬(("come_near":Str)="moves")/\¬(("put":Str)="wheels")/\¬(("put":Str)="far")/\¬(("put":Str)="moves")/\¬(("take":Str)="wheels")/\¬(("take":Str)="far")/\¬(("take":Str)="moves")/\¬(("due":Str)="wheels")/\¬(("due":Str)="far")/\¬(("due":Str)="moves")/\¬(("least":Str)="wheels")/\¬(("least":Str)="far")/\¬(("least":Str)="moves")/\¬(("time_of":Str)="wheels")/\¬(("time_of":Str)="far")/\¬(("time_of":Str)="moves")/\¬(("all_of":Str)="wheels")/\¬(("all_of":Str)="far"):=by decide+kernel
theorem qD:¬(("all_of":Str)="moves")/\¬(("check_waits":Str)="wheels")/\¬(("check_waits":Str)="far")/\¬(("check_waits":Str)="moves")/\¬(("waits":Str)="rounds")/\¬(("waits":Str)="now")/\¬(("waits":Str)="shift")/\¬(("waits":Str)="groups")/\¬(("waits":Str)="by_name")/\¬(("rounds":Str)="waits")/\¬(("rounds":Str)="now")/\¬(("rounds":Str)="shift")/\¬(("rounds":Str)="groups")/\¬(("rounds":Str)="by_name")/\¬(("now":Str)="waits")/\¬(("now":Str)="rounds")/\¬(("now":Str)="shift")/\¬(("now":Str)="groups")/\¬(("now":Str)="by_name")/\¬(("shift":Str)="waits")/\¬(("shift":Str)="rounds")/\¬(("shift":Str)="now")/\¬(("shift":Str)="groups")/\¬(("shift":Str)="by_name")/\¬(("groups":Str)="waits"):=by decide+kernel
theorem oQ:¬(("groups":Str)="rounds")/\¬(("groups":Str)="now")/\¬(("groups":Str)="shift")/\¬(("groups":Str)="by_name")/\¬(("by_name":Str)="waits")/\¬(("by_name":Str)="rounds")/\¬(("by_name":Str)="now")/\¬(("by_name":Str)="shift")/\¬(("by_name":Str)="groups")/\¬(("__init__":Str)="waits")/\¬(("__init__":Str)="rounds")/\¬(("__init__":Str)="shift")/\¬(("__init__":Str)="groups")/\¬(("__init__":Str)="by_name")/\¬(("add":Str)="waits")/\¬(("add":Str)="rounds")/\¬(("add":Str)="now")/\¬(("add":Str)="shift")/\¬(("add":Str)="groups")/\¬(("add":Str)="by_name")/\¬(("move":Str)="waits")/\¬(("move":Str)="rounds")/\¬(("move":Str)="now")/\¬(("move":Str)="shift")/\¬(("move":Str)="groups"):=by decide+kernel
theorem qN:¬(("move":Str)="by_name")/\¬(("put_off":Str)="waits")/\¬(("put_off":Str)="rounds")/\¬(("put_off":Str)="now")/\¬(("put_off":Str)="shift")/\¬(("put_off":Str)="groups")/\¬(("put_off":Str)="by_name")/\¬(("let_by":Str)="waits")/\¬(("let_by":Str)="rounds")/\¬(("let_by":Str)="now")/\¬(("let_by":Str)="shift")/\¬(("let_by":Str)="groups")/\¬(("let_by":Str)="by_name")/\¬(("take":Str)="waits")/\¬(("take":Str)="rounds")/\¬(("take":Str)="shift")/\¬(("take":Str)="groups")/\¬(("take":Str)="by_name")/\¬(("group":Str)="waits")/\¬(("group":Str)="rounds")/\¬(("group":Str)="now")/\¬(("group":Str)="shift")/\¬(("group":Str)="groups")/\¬(("group":Str)="by_name")/\¬(("sleep":Str)="waits"):=by decide+kernel
theorem qt:¬(("sleep":Str)="rounds")/\¬(("sleep":Str)="now")/\¬(("sleep":Str)="shift")/\¬(("sleep":Str)="groups")/\¬(("sleep":Str)="by_name")/\¬(("wake":Str)="waits")/\¬(("wake":Str)="rounds")/\¬(("wake":Str)="now")/\¬(("wake":Str)="shift")/\¬(("wake":Str)="groups")/\¬(("wake":Str)="by_name")/\¬(("end":Str)="waits")/\¬(("end":Str)="rounds")/\¬(("end":Str)="now")/\¬(("end":Str)="shift")/\¬(("end":Str)="groups")/\¬(("end":Str)="by_name")/\¬(("turn":Str)="waits")/\¬(("turn":Str)="rounds")/\¬(("turn":Str)="now")/\¬(("turn":Str)="shift")/\¬(("turn":Str)="groups")/\¬(("turn":Str)="by_name")/\¬(("idle":Str)="waits")/\¬(("idle":Str)="rounds"):=by decide+kernel
theorem zl:¬(("idle":Str)="now")/\¬(("idle":Str)="shift")/\¬(("idle":Str)="groups")/\¬(("idle":Str)="by_name")/\¬(("go":Str)="waits")/\¬(("go":Str)="rounds")/\¬(("go":Str)="now")/\¬(("go":Str)="shift")/\¬(("go":Str)="groups")/\¬(("go":Str)="by_name")/\¬(("wakes_by":Str)="waits")/\¬(("wakes_by":Str)="rounds")/\¬(("wakes_by":Str)="now")/\¬(("wakes_by":Str)="shift")/\¬(("wakes_by":Str)="groups")/\¬(("wakes_by":Str)="by_name")/\¬(("ring_all":Str)="waits")/\¬(("ring_all":Str)="rounds")/\¬(("ring_all":Str)="now")/\¬(("ring_all":Str)="shift")/\¬(("ring_all":Str)="groups")/\¬(("ring_all":Str)="by_name")/\¬(("ring":Str)="waits")/\¬(("ring":Str)="rounds")/\¬(("ring":Str)="now"):=by decide+kernel
theorem uw:¬(("ring":Str)="shift")/\¬(("ring":Str)="groups")/\¬(("ring":Str)="by_name")/\¬(("bells":Str)="waits")/\¬(("bells":Str)="rounds")/\¬(("bells":Str)="now")/\¬(("bells":Str)="shift")/\¬(("bells":Str)="groups")/\¬(("bells":Str)="by_name")/\¬(("about":Str)="waits")/\¬(("about":Str)="rounds")/\¬(("about":Str)="now")/\¬(("about":Str)="shift")/\¬(("about":Str)="groups")/\¬(("about":Str)="by_name")/\¬(("known":Str)="waits")/\¬(("known":Str)="rounds")/\¬(("known":Str)="now")/\¬(("known":Str)="shift")/\¬(("known":Str)="groups")/\¬(("known":Str)="by_name")/\¬(("ahead":Str)="waits")/\¬(("ahead":Str)="rounds")/\¬(("ahead":Str)="now")/\¬(("ahead":Str)="shift"):=by decide+kernel
theorem qU:¬(("ahead":Str)="groups")/\¬(("ahead":Str)="by_name")/\¬(("bell_of":Str)="waits")/\¬(("bell_of":Str)="rounds")/\¬(("bell_of":Str)="now")/\¬(("bell_of":Str)="shift")/\¬(("bell_of":Str)="groups")/\¬(("bell_of":Str)="by_name")/\¬(("all_bells":Str)="waits")/\¬(("all_bells":Str)="rounds")/\¬(("all_bells":Str)="now")/\¬(("all_bells":Str)="shift")/\¬(("all_bells":Str)="groups")/\¬(("all_bells":Str)="by_name")/\¬(("bells_in":Str)="waits")/\¬(("bells_in":Str)="rounds")/\¬(("bells_in":Str)="now")/\¬(("bells_in":Str)="shift")/\¬(("bells_in":Str)="groups")/\¬(("bells_in":Str)="by_name")/\¬(("is_awake":Str)="waits")/\¬(("is_awake":Str)="rounds")/\¬(("is_awake":Str)="now")/\¬(("is_awake":Str)="shift")/\¬(("is_awake":Str)="groups"):=by decide+kernel
theorem kQ:¬(("is_awake":Str)="by_name")/\¬(("shown_to":Str)="waits")/\¬(("shown_to":Str)="rounds")/\¬(("shown_to":Str)="now")/\¬(("shown_to":Str)="shift")/\¬(("shown_to":Str)="groups")/\¬(("shown_to":Str)="by_name")/\¬(("hang":Str)="waits")/\¬(("hang":Str)="rounds")/\¬(("hang":Str)="now")/\¬(("hang":Str)="shift")/\¬(("hang":Str)="groups")/\¬(("hang":Str)="by_name")/\¬(("lay":Str)="waits")/\¬(("lay":Str)="rounds")/\¬(("lay":Str)="now")/\¬(("lay":Str)="shift")/\¬(("lay":Str)="groups")/\¬(("lay":Str)="by_name")/\¬(("let_wait":Str)="waits")/\¬(("let_wait":Str)="rounds")/\¬(("let_wait":Str)="now")/\¬(("let_wait":Str)="shift")/\¬(("let_wait":Str)="groups")/\¬(("let_wait":Str)="by_name"):=by decide+kernel
theorem o7:¬(("lay_all":Str)="waits")/\¬(("lay_all":Str)="rounds")/\¬(("lay_all":Str)="now")/\¬(("lay_all":Str)="shift")/\¬(("lay_all":Str)="groups")/\¬(("lay_all":Str)="by_name")/\¬(("lift":Str)="waits")/\¬(("lift":Str)="rounds")/\¬(("lift":Str)="now")/\¬(("lift":Str)="shift")/\¬(("lift":Str)="groups")/\¬(("lift":Str)="by_name")/\¬(("settle":Str)="waits")/\¬(("settle":Str)="rounds")/\¬(("settle":Str)="now")/\¬(("settle":Str)="shift")/\¬(("settle":Str)="groups")/\¬(("settle":Str)="by_name")/\¬(("finish":Str)="waits")/\¬(("finish":Str)="rounds")/\¬(("finish":Str)="now")/\¬(("finish":Str)="shift")/\¬(("finish":Str)="groups")/\¬(("finish":Str)="by_name")/\¬(("drop":Str)="waits"):=by decide+kernel
theorem si:¬(("drop":Str)="rounds")/\¬(("drop":Str)="now")/\¬(("drop":Str)="shift")/\¬(("drop":Str)="groups")/\¬(("drop":Str)="by_name")/\¬(("remove":Str)="waits")/\¬(("remove":Str)="rounds")/\¬(("remove":Str)="now")/\¬(("remove":Str)="shift")/\¬(("remove":Str)="groups")/\¬(("remove":Str)="by_name")/\¬(("pass_to":Str)="waits")/\¬(("pass_to":Str)="rounds")/\¬(("pass_to":Str)="now")/\¬(("pass_to":Str)="shift")/\¬(("pass_to":Str)="groups")/\¬(("pass_to":Str)="by_name")/\¬(("many":Str)="first")/\¬(("many":Str)="last")/\¬(("first":Str)="many")/\¬(("first":Str)="last")/\¬(("last":Str)="many")/\¬(("last":Str)="first")/\¬(("__init__":Str)="many")/\¬(("__init__":Str)="first"):=by decide+kernel
theorem oN:¬(("__init__":Str)="last")/\¬(("begin":Str)="many")/\¬(("begin":Str)="first")/\¬(("begin":Str)="last")/\¬(("follow":Str)="many")/\¬(("follow":Str)="first")/\¬(("follow":Str)="last")/\¬(("let_by":Str)="many")/\¬(("let_by":Str)="first")/\¬(("let_by":Str)="last")/\¬(("words":Str)="many")/\¬(("words":Str)="first")/\¬(("words":Str)="last")/\¬(("twin":Str)="many")/\¬(("twin":Str)="first")/\¬(("twin":Str)="last")/\¬(("place_of":Str)="many")/\¬(("place_of":Str)="first")/\¬(("place_of":Str)="last"):=by decide+kernel
set_option hygiene false in
local macro_rules|`(tactic|walk_at "lk")=>`(tactic|first|(rw [yV];((conv=>lhs;simp only [look,reduceIte,Hk,xn,wR,nr,oX,lK,mO,qB,wq,rF,ng,qS,xf,uL,nz,qD,oQ,qN,qt,zl,uw,qU,kQ,o7,si,oN]) <;>exact rfl))|fail)
set_option hygiene false in
local macro_rules|`(tactic|walk_at "lk")=>`(tactic|first|assumption|fail)
set_option hygiene false in
local macro_rules|`(tactic|walk_at "put")=>`(tactic|((conv=>lhs;simp only [kX,reduceIte,Hk,xn,wR,nr,oX,lK,mO,qB,wq,rF,ng,qS,xf,uL,nz,qD,oQ,qN,qt,zl,uw,qU,kQ,o7,si,oN]) <;>exact rfl))
structure vt (K:At) (x q:Str) (s:Stmt) (d:Value) (f:Addr):Prop where
 a:IN K FB x=some (some (.ref f))
 l:∃fd,aY K x q s f d fd
 k:ES K (.ref f)=true
structure bW (K:At) (C:Addr) (x q:Str) (s:Stmt) (d:Value) (f:Addr):Prop where
 a:AT K (.ref C) x=some (some (.ref f))
 l:∃fd,aY K x q s f d fd
 k:ES K (.ref f)=true
 i:PySem.W.isFn K (.ref f)=true
structure JA (K:At) (C:Addr):Prop where
 pg:Aam K C AbX=true
 hd:AaN K C=true
 po:AbH K C=true
 sa:AT K (.ref C) "__setattr__"=some (some (.builtin "object.__setattr__"))
 t1:AT K (.ref C) "__class__"=some (some (.builtin "object.__class__"))
 t2:PySem.W.mroIn K C (.type "object")=some true
 t3:PySem.W.typeIn K (.ref C)=some (.type "type")
theorem Ub {t:Addr} {xs:Array Value} {n:Nat} {d:Option Addr} {z:Array (Option Value)} {c:Value} (l:K.lookup t=some ⟨c,d,.seq xs n,z⟩):ym K t xs:=⟨⟨_,_,l,rfl⟩⟩
set_option genSizeOf false in
set_option genInjectivity false in
structure Ad where
 cH:Addr
 pq:Cs
 fz:Addr
 wo:Cs
 dw:Addr
 qF:Cs
 bQ:Addr
 lM:Cs
 dZ:Addr
 sf:Cs
 cJ:Addr
 ph:Cs
 fR:Addr
 xj:Cs
 fw:Addr
 wX:Cs
 bN:Addr
 lA:Cs
 aX:Addr
 jg:Cs
 cF:Addr
 eh:Tok
 cT:Addr
 w9:Cs
 cu:Addr
 uT:Cs
 cX:Addr
 xo:Cs
 bJ:Addr
 sE:Cs
 bh:Addr
 pj:Cs
 aH:Addr
 j8:Cs
 fC:Addr
 wC:Cs
 fN:Addr
 xA:Cs
 dY:Addr
 sI:Cs
 eQ:Addr
 yZ:Cs
 cB:Addr
 qC:Cs
 eM:Addr
 wU:Cs
 ft:Addr
 zv:Cs
 cn:Addr
 nu:Cs
 dU:Addr
 tE:Cs
 cL:Addr
 oW:Cs
 du:Addr
 qR:Cs
 ck:Addr
 nG:Cs
 d7:Addr
 rX:Cs
 cI:Addr
 oU:Cs
 bL:Addr
 lG:Cs
 cm:Addr
 dM:Tok
 bM:Addr
 mE:Cs
 dh:Addr
 qA:Cs
 bO:Addr
 lI:Cs
 dt:Addr
 qM:Cs
 cg:Addr
 nk:Cs
 bC:Addr
 kP:Cs
 bX:Addr
 oZ:Cs
 bF:Addr
 nA:Cs
 bZ:Addr
 pC:Cs
 bY:Addr
 o8:Cs
 eL:Addr
 wO:Cs
 fP:Addr
 zu:Cs
 b5:Addr
 pF:Cs
 eO:Addr
 xS:Cs
 cW:Addr
 rW:Cs
 cZ:Addr
 sD:Cs
 cU:Addr
 tM:Cs
 cD:Addr
 qq:Cs
 fu:Addr
 xF:Cs
 bK:Addr
 ig:Cs
 cf:Addr
 cA:Tok
 eT:Addr
 nY:Cs
 fb:Addr
 gW:Tok
 fD:Addr
 pZ:Cs
 fW:Addr
 fE:Tok
 bU:Addr
 lu:Cs
 bT:Addr
 mn:Cs
 d6:Addr
 sL:Cs
 dq:Addr
 qz:Cs
 cq:Addr
 uG:Cs
 bw:Addr
 o5:Cs
 b6:Addr
 gf:Cs
 dc:Addr
 eV:Addr
 uQ:Cs
 dX:Addr
 sJ:Cs
 d5:Addr
 sO:Cs
 fL:Addr
 xB:Cs
 cC:Addr
 qw:Cs
 dF:Addr
 uU:Cs
 eP:Addr
 xc:Cs
 dR:Addr
 uE:Cs
 eJ:Addr
 xO:Cs
 eN:Addr
 xu:Cs
 fy:Addr
 zi:Cs
 cV:Addr
 tR:Cs
 uS:Addr
 FI:Cs
 ax:Addr
 bS:Addr
 eW:Addr
 aR:Addr
 aj:Addr
 ai:Addr
 ej:Addr
 ak:Addr
 p4:Addr
 aM:Addr
 gY:Tok
 iF:Tok
 hE:Tok
structure Txt (K:At) (mg:Str->Option Value) (a:Ad):Prop where
 kc:aY K "__init__" "Bell.__init__" kN a.cH (.none) a.pq
 sG:aY K "lead" "Bell.lead" rH a.fz (.none) a.wo
 lP:aY K "is_over" "Bell.is_over" lQ a.dw (.none) a.qF
 iH:aY K "is_waiting" "Bell.is_waiting" iV a.bQ (.none) a.lM
 oG:aY K "settle" "Bell.settle" nW a.dZ (.none) a.sf
 kq:aY K "catch_up" "Bell.catch_up" kI a.cJ (.none) a.ph
 su:aY K "wait" "Bell.wait" ro a.fR (.none) a.xj
 sR:aY K "rest" "Bell.rest" sQ a.fw (.none) a.wX
 jf:aY K "__init__" "Groups.__init__" iT a.bN (.none) a.lA
 jI:aY K "__init__" "Waits.__init__" jB a.aX (.ref a.cF) a.jg
 pk:ym K a.cF #[(.int 0 a.eh)]
 rJ:aY K "put" "Waits.put" sk a.cT (.none) a.w9
 qd:aY K "take" "Waits.take" qo a.cu (.none) a.uT
 sF:aY K "due" "Waits.due" mN a.cX (.none) a.xo
 oC:aY K "least" "Waits.least" nX a.bJ (.none) a.sE
 kz:aY K "time_of" "Waits.time_of" kL a.bh (.none) a.pj
 gx:aY K "check_waits" "Waits.check_waits" gy a.aH (.none) a.j8
 rT:aY K "enter" "Row.enter" tJ a.fC (.none) a.wC
 tH:aY K "leave" "Row.leave" rP a.fN (.none) a.xA
 nR:aY K "pass_on" "Row.pass_on" jU a.dY (.none) a.sI
 vi:aY K "is_whole" "is_whole" vE a.eQ (.none) a.yZ
 r6:ES K (.ref a.eQ)=true
 sj:mg "is_whole"=some (.ref a.eQ)
 mC:aY K "check_rounds" "check_rounds" mr a.cB (.none) a.qC
 qT:ES K (.ref a.cB)=true
 qV:mg "check_rounds"=some (.ref a.cB)
 sy:aY K "wheels_of" "wheels_of" rE a.eM (.none) a.wU
 xq:ES K (.ref a.eM)=true
 wQ:mg "wheels_of"=some (.ref a.eM)
 uV:aY K "place_in" "place_in" vy a.ft (.none) a.zv
 rA:ES K (.ref a.ft)=true
 rq:mg "place_in"=some (.ref a.ft)
 jE:aY K "__init__" "Wheel.__init__" jt a.cn (.none) a.nu
 oB:aY K "holds" "Wheel.holds" oK a.dU (.none) a.tE
 kF:aY K "slot_of" "Wheel.slot_of" kn a.cL (.none) a.oW
 lZ:aY K "lay_in" "Wheel.lay_in" lL a.du (.none) a.qR
 jD:aY K "lift_out" "Wheel.lift_out" jA a.ck (.none) a.nG
 oh:aY K "empty" "Wheel.empty" oI a.d7 (.none) a.rX
 ke:aY K "let_out" "Wheel.let_out" ky a.cI (.none) a.oU
 iU:aY K "__init__" "Wheels.__init__" iJ a.bL (.ref a.cm) a.lG
 nJ:ym K a.cm #[(.int 0 a.dM)]
 i5:aY K "wheel_at" "Wheels.wheel_at" ji a.bM (.none) a.mE
 lV:aY K "enter" "Wheels.enter" mh a.dh (.none) a.qA
 iW:aY K "lie_down" "Wheels.lie_down" i9 a.bO (.none) a.lI
 lF:aY K "leave" "Wheels.leave" mq a.dt (.none) a.qM
 jv:aY K "pass_on" "Wheels.pass_on" ju a.cg (.none) a.nk
 ib:aY K "come_near" "Wheels.come_near" ip a.bC (.none) a.kP
 kD:aY K "__init__" "Yard.__init__" kh a.bX (.none) a.oZ
 jz:aY K "all_bells" "Yard.all_bells" gn a.bF (.none) a.nA
 kJ:aY K "is_awake" "Yard.is_awake" kM a.bZ (.none) a.pC
 kA:aY K "shown_to" "Yard.shown_to" kG a.bY (.none) a.o8
 tq:aY K "hang" "Yard.hang" sC a.eL (.none) a.wO
 ve:aY K "lay" "Yard.lay" vf a.fP (.none) a.zu
 ku:aY K "let_wait" "Yard.let_wait" kl a.b5 (.none) a.pF
 tI:aY K "lift" "Yard.lift" rK a.eO (.none) a.xS
 n9:aY K "settle" "Yard.settle" oo a.cW (.none) a.rW
 nV:aY K "finish" "Yard.finish" nU a.cZ (.none) a.sD
 nZ:aY K "remove" "Yard.remove" oe a.cU (.none) a.tM
 mx:aY K "pass_to" "Yard.pass_to" jm a.cD (.none) a.qq
 rY:aY K "by_weight" "by_weight" se a.fu (.none) a.xF
 wV:mg "by_weight"=some (.ref a.fu)
 iZ:aY K "__init__" "Keeper.__init__" jd a.bK (.ref a.cf) a.ig
 nN:ym K a.cf #[.none,(.int 0 a.cA)]
 qe:aY K "add" "Keeper.add" pX a.eT (.ref a.fb) a.nY
 xG:ym K a.fb #[(.int 1 a.gW),.none,.bool false]
 sN:aY K "go" "Keeper.go" rO a.fD (.ref a.fW) a.pZ
 za:ym K a.fW #[(.int 60 a.fE),.none]
 iX:aY K "wakes_by" "Keeper.wakes_by" jc a.bU (.none) a.lu
 iN:aY K "ring_all" "Keeper.ring_all" fg a.bT (.none) a.mn
 oF:aY K "ring" "Keeper.ring" nQ a.d6 (.none) a.sL
 mw:aY K "bells" "Keeper.bells" my a.dq (.none) a.qz
 pJ:aY K "check_from" "check_from" pN a.cq (.none) a.uG
 jP:ES K (.ref a.cq)=true
 jQ:mg "check_from"=some (.ref a.cq)
 kK:aY K "__init__" "Rule.__init__" kg a.bw (.none) a.o5
 gS:aY K "__init__" "Once.__init__" kE a.b6 (.ref a.dc) a.gf
 ki:ym K a.dc #[.none]
 qa:aY K "begin" "Once.begin" qh a.eV (.none) a.uQ
 oj:aY K "follow" "Once.follow" oz a.dX (.none) a.sJ
 ou:aY K "let_by" "Once.let_by" nS a.d5 (.none) a.sO
 sX:aY K "twin" "Once.twin" sT a.fL (.none) a.xB
 lH:aY K "_law_cell_at" "_law_cell_at" lJ a.cC (.none) a.qw
 kH:ES K (.ref a.cC)=true
 kr:mg "_law_cell_at"=some (.ref a.cC)
 p7:aY K "_law_whole" "_law_whole" pY a.dF (.none) a.uU
 uK:ES K (.ref a.dF)=true
 ux:mg "_law_whole"=some (.ref a.dF)
 rZ:aY K "_law_name" "_law_name" ti a.eP (.none) a.xc
 wj:ES K (.ref a.eP)=true
 wA:mg "_law_name"=some (.ref a.eP)
 pV:aY K "_law_kinds" "_law_kinds" pS a.dR (.none) a.uE
 uC:ES K (.ref a.dR)=true
 uy:mg "_law_kinds"=some (.ref a.dR)
 tG:aY K "_law_bell" "_law_bell" rn a.eJ (.none) a.xO
 wZ:ES K (.ref a.eJ)=true
 xI:mg "_law_bell"=some (.ref a.eJ)
 rG:aY K "_law_rung" "_law_rung" j5 a.eN (.none) a.xu
 wz:ES K (.ref a.eN)=true
 wy:mg "_law_rung"=some (.ref a.eN)
 u6:aY K "_law_due" "_law_due" jC a.fy (.none) a.zi
 zr:ES K (.ref a.fy)=true
 zk:mg "_law_due"=some (.ref a.fy)
 oi:aY K "_law_rounds" "_law_rounds" nP a.cV (.none) a.tR
 rM:ES K (.ref a.cV)=true
 sY:mg "_law_rounds"=some (.ref a.cV)
 PF:aY K "law" "law" Ki a.uS (.none) a.FI
 QB:mg "law"=some (.ref a.uS)
 LU:mg "Bell"=some (.ref a.ax)
 aT:ug K a.ax
 bz:aJ K a.ax "name"
 fV:aJ K a.ax "rule"
 fx:aJ K a.ax "weight"
 iM:aJ K a.ax "home"
 fO:aJ K a.ax "by_day"
 dz:aJ K a.ax "number"
 b7:aJ K a.ax "stretch"
 cz:aJ K a.ax "since"
 cY:aJ K a.ax "until"
 Ot:Mk K a.ax a.cH
 sr:Meth K a.ax "lead" a.fz
 lX:Meth K a.ax "is_over" a.dw
 nh:Meth K a.ax "is_waiting" a.bQ
 uH:Meth K a.ax "settle" a.dZ
 qJ:Meth K a.ax "catch_up" a.cJ
 zp:Meth K a.ax "wait" a.fR
 zy:Meth K a.ax "rest" a.fw
 DX:mg "Groups"=some (.ref a.bS)
 jx:ug K a.bS
 eU:aJ K a.bS "above_of"
 gT:aJ K a.bS "marks"
 Gm:Mk K a.bS a.bN
 HA:mg "Waits"=some (.ref a.eW)
 Pb:mg "Row"=some (.ref a.aR)
 ez:ug K a.aR
 jH:aJ K a.aR "now"
 fU:aJ K a.aR "times"
 VN:Mk K a.aR a.aX
 zD:Meth K a.aR "enter" a.fC
 zt:Meth K a.aR "leave" a.fN
 uR:Meth K a.aR "pass_on" a.dY
 Dw:Meth K a.aR "put" a.cT
 A8:Meth K a.aR "take" a.cu
 DY:Meth K a.aR "due" a.cX
 sx:Meth K a.aR "least" a.bJ
 uF:Meth K a.aR "time_of" a.bh
 mP:Meth K a.aR "check_waits" a.aH
 GF:mg "Wheel"=some (.ref a.aj)
 bP:ug K a.aj
 gQ:aJ K a.aj "unit"
 fG:aJ K a.aj "slots"
 e6:aJ K a.aj "span"
 c5:aJ K a.aj "mask"
 bR:aJ K a.aj "names_in"
 LL:Mk K a.aj a.cn
 oH:Meth K a.aj "holds" a.dU
 gX:Meth K a.aj "slot_of" a.cL
 tf:Meth K a.aj "lay_in" a.du
 oS:Meth K a.aj "lift_out" a.ck
 nT:Meth K a.aj "empty" a.d7
 qI:Meth K a.aj "let_out" a.cI
 D4:mg "Wheels"=some (.ref a.ai)
 aO:ug K a.ai
 cp:aJ K a.ai "now"
 cK:aJ K a.ai "times"
 bj:aJ K a.ai "wheels"
 dW:aJ K a.ai "far"
 cM:aJ K a.ai "moves"
 F8:Mk K a.ai a.bL
 iP:Meth K a.ai "wheel_at" a.bM
 rS:Meth K a.ai "enter" a.dh
 iG:Meth K a.ai "lie_down" a.bO
 sW:Meth K a.ai "leave" a.dt
 pe:Meth K a.ai "pass_on" a.cg
 me:Meth K a.ai "come_near" a.bC
 vV:Meth K a.ai "put" a.cT
 uI:Meth K a.ai "take" a.cu
 wm:Meth K a.ai "due" a.cX
 lN:Meth K a.ai "least" a.bJ
 oV:Meth K a.ai "time_of" a.bh
 jW:Meth K a.ai "check_waits" a.aH
 Kq:mg "Yard"=some (.ref a.ej)
 Dm:mg "Keeper"=some (.ref a.ak)
 aL:ug K a.ak
 bx:aJ K a.ak "waits"
 fS:aJ K a.ak "rounds"
 bu:aJ K a.ak "now"
 dE:aJ K a.ak "shift"
 fY:aJ K a.ak "groups"
 a9:aJ K a.ak "by_name"
 He:Mk K a.ak a.bK
 xm:Meth K a.ak "add" a.eT
 zE:Meth K a.ak "go" a.fD
 nI:Meth K a.ak "wakes_by" a.bU
 nM:Meth K a.ak "ring_all" a.bT
 uB:Meth K a.ak "ring" a.d6
 lE:Meth K a.ak "bells" a.dq
 ml:Meth K a.ak "all_bells" a.bF
 nF:Meth K a.ak "is_awake" a.bZ
 jj:Meth K a.ak "shown_to" a.bY
 uD:Meth K a.ak "hang" a.eL
 p8:Meth K a.ak "lay" a.fP
 ni:Meth K a.ak "let_wait" a.b5
 om:Meth K a.ak "lift" a.eO
 qu:Meth K a.ak "settle" a.cW
 ia:Meth K a.ak "finish" a.cZ
 qO:Meth K a.ak "remove" a.cU
 jG:Meth K a.ak "pass_to" a.cD
 Kn:mg "Rule"=some (.ref a.p4)
 Aa:mg "Once"=some (.ref a.aM)
 fq:ug K a.aM
 kY:aJ K a.aM "many"
 e9:aJ K a.aM "first"
 f7:aJ K a.aM "last"
 E7:Mk K a.aM a.b6
 v7:Meth K a.aM "begin" a.eV
 ur:Meth K a.aM "follow" a.dX
 uz:Meth K a.aM "let_by" a.d5
 yX:Meth K a.aM "twin" a.fL
 fJ:a.ax≠a.ak
 nE:a.ax≠a.aR
 jT:a.ak≠a.aR
 kW:a.aM≠a.ax
 iO:a.aM≠a.ak
 nH:a.aM≠a.aR
 jL:a.ax≠a.aj
 iR:a.ax≠a.ai
 gZ:a.ak≠a.aj
 fZ:a.ak≠a.ai
 jM:a.aM≠a.aj
 iK:a.aM≠a.ai
 qv:Ds K a.p4 "__init__" a.bw
 pA:Ds K a.eW "__init__" a.aX
 qx:Ds K a.ej "__init__" a.bX
 tF:mg "LEAST_ROUND"=some (.int 2 a.gY)
 um:mg "MOST_ROUND"=some (.int 60 a.iF)
 sM:mg "MOST_WHEELS"=some (.int 6 a.hE)
 wg:mg "bool"=none
 lg:mg "enumerate"=none
 Bz:mg "int"=none
 bq:mg "isinstance"=none
 lW:mg "len"=none
 p9:mg "list"=none
 yo:mg "max"=none
 vx:mg "min"=none
 vY:mg "range"=none
 e7:mg "sorted"=none
 FK:mg "str"=none
 v9:mg "tuple"=none
theorem ZJ {h:Heap} {cH fz dw bQ dZ cJ fR fw bN aX cF cT cu cX bJ bh aH fC fN dY eQ cB eM ft cn dU cL du ck d7 cI bL cm bM dh bO dt cg bC bX bF bZ bY eL fP b5 eO cW cZ cU cD fu bK cf eT fb fD fW bU bT d6 dq cq bw b6 dc eV dX d5 fL cC dF eP dR eJ eN fy cV uS ax bS eW aR aj ai ej ak p4 aM:Addr} {eh dM cA gW fE gY iF hE:Tok} (X:K.In h) (G:h.Ns FB mg) (Ti:IN K FB "Bell"=some (some (.ref ax))) (Mi:IN K FB "Groups"=some (some (.ref bS))) (PB:IN K FB "Waits"=some (some (.ref eW))) (Zn:IN K FB "Row"=some (some (.ref aR))) (RJ:IN K FB "Wheel"=some (some (.ref aj))) (LY:IN K FB "Wheels"=some (some (.ref ai))) (Uw:IN K FB "Yard"=some (some (.ref ej))) (M7:IN K FB "Keeper"=some (some (.ref ak))) (UA:IN K FB "Rule"=some (some (.ref p4))) (Tr:IN K FB "Once"=some (some (.ref aM))) (hU:bW K ax "__init__" "Bell.__init__" kN (.none) cH) (j0:bW K ax "lead" "Bell.lead" rH (.none) fz) (fF:bW K ax "is_over" "Bell.is_over" lQ (.none) dw) (dH:bW K ax "is_waiting" "Bell.is_waiting" iV (.none) bQ) (gO:bW K ax "settle" "Bell.settle" nW (.none) dZ) (eZ:bW K ax "catch_up" "Bell.catch_up" kI (.none) cJ) (jX:bW K ax "wait" "Bell.wait" ro (.none) fR) (j4:bW K ax "rest" "Bell.rest" sQ (.none) fw) (fh:bW K bS "__init__" "Groups.__init__" iT (.none) bN) (f9:bW K eW "__init__" "Waits.__init__" jB (.ref cF) aX) (yf:ym K cF #[(.int 0 eh)]) (iw:bW K eW "put" "Waits.put" sk (.none) cT) (gm:bW K eW "take" "Waits.take" qo (.none) cu) (iB:bW K eW "due" "Waits.due" mN (.none) cX) (e8:bW K eW "least" "Waits.least" nX (.none) bJ) (dD:bW K eW "time_of" "Waits.time_of" kL (.none) bh) (bV:bW K eW "check_waits" "Waits.check_waits" gy (.none) aH) (j2:bW K aR "enter" "Row.enter" tJ (.none) fC) (j1:bW K aR "leave" "Row.leave" rP (.none) fN) (gM:bW K aR "pass_on" "Row.pass_on" jU (.none) dY) (pH:vt K "is_whole" "is_whole" vE (.none) eQ) (je:vt K "check_rounds" "check_rounds" mr (.none) cB) (mV:vt K "wheels_of" "wheels_of" rE (.none) eM) (pT:vt K "place_in" "place_in" vy (.none) ft) (gg:bW K aj "__init__" "Wheel.__init__" jt (.none) cn) (gR:bW K aj "holds" "Wheel.holds" oK (.none) dU) (eX:bW K aj "slot_of" "Wheel.slot_of" kn (.none) cL) (fB:bW K aj "lay_in" "Wheel.lay_in" lL (.none) du) (eA:bW K aj "lift_out" "Wheel.lift_out" jA (.none) ck) (gF:bW K aj "empty" "Wheel.empty" oI (.none) d7) (eY:bW K aj "let_out" "Wheel.let_out" ky (.none) cI) (fj:bW K ai "__init__" "Wheels.__init__" iJ (.ref cm) bL) (w5:ym K cm #[(.int 0 dM)]) (dQ:bW K ai "wheel_at" "Wheels.wheel_at" ji (.none) bM) (fQ:bW K ai "enter" "Wheels.enter" mh (.none) dh) (dI:bW K ai "lie_down" "Wheels.lie_down" i9 (.none) bO) (fM:bW K ai "leave" "Wheels.leave" mq (.none) dt) (eD:bW K ai "pass_on" "Wheels.pass_on" ju (.none) cg) (di:bW K ai "come_near" "Wheels.come_near" ip (.none) bC) (ka:bW K ej "__init__" "Yard.__init__" kh (.none) bX) (gq:bW K ej "all_bells" "Yard.all_bells" gn (.none) bF) (hX:bW K ej "is_awake" "Yard.is_awake" kM (.none) bZ) (g8:bW K ej "shown_to" "Yard.shown_to" kG (.none) bY) (nj:bW K ej "hang" "Yard.hang" sC (.none) eL) (qj:bW K ej "lay" "Yard.lay" vf (.none) fP) (hZ:bW K ej "let_wait" "Yard.let_wait" kl (.none) b5) (mL:bW K ej "lift" "Yard.lift" rK (.none) eO) (jO:bW K ej "settle" "Yard.settle" oo (.none) cW) (jJ:bW K ej "finish" "Yard.finish" nU (.none) cZ) (jV:bW K ej "remove" "Yard.remove" oe (.none) cU) (i6:bW K ej "pass_to" "Yard.pass_to" jm (.none) cD) (sP:vt K "by_weight" "by_weight" se (.none) fu) (fm:bW K ak "__init__" "Keeper.__init__" jd (.ref cf) bK) (xr:ym K cf #[.none,(.int 0 cA)]) (i7:bW K ak "add" "Keeper.add" pX (.ref fb) eT) (En:ym K fb #[(.int 1 gW),.none,.bool false]) (j6:bW K ak "go" "Keeper.go" rO (.ref fW) fD) (GH:ym K fW #[(.int 60 fE),.none]) (dO:bW K ak "wakes_by" "Keeper.wakes_by" jc (.none) bU) (dG:bW K ak "ring_all" "Keeper.ring_all" fg (.none) bT) (gN:bW K ak "ring" "Keeper.ring" nQ (.none) d6) (fI:bW K ak "bells" "Keeper.bells" my (.none) dq) (lh:vt K "check_from" "check_from" pN (.none) cq) (ko:bW K p4 "__init__" "Rule.__init__" kg (.none) bw) (gU:bW K aM "__init__" "Once.__init__" kE (.ref dc) b6) (zP:ym K dc #[.none]) (jb:bW K aM "begin" "Once.begin" qh (.none) eV) (gG:bW K aM "follow" "Once.follow" oz (.none) dX) (gJ:bW K aM "let_by" "Once.let_by" nS (.none) d5) (j7:bW K aM "twin" "Once.twin" sT (.none) fL) (i3:vt K "_law_cell_at" "_law_cell_at" lJ (.none) cC) (k6:vt K "_law_whole" "_law_whole" pY (.none) dF) (mQ:vt K "_law_name" "_law_name" ti (.none) eP) (k7:vt K "_law_kinds" "_law_kinds" pS (.none) dR) (mW:vt K "_law_bell" "_law_bell" rn (.none) eJ) (mU:vt K "_law_rung" "_law_rung" j5 (.none) eN) (qp:vt K "_law_due" "_law_due" jC (.none) fy) (jS:vt K "_law_rounds" "_law_rounds" nP (.none) cV) (P4:vt K "law" "law" Ki (.none) uS) (aT:JA K ax) (bz:AT K (.ref ax) "name"=some none) (fV:AT K (.ref ax) "rule"=some none) (fx:AT K (.ref ax) "weight"=some none) (iM:AT K (.ref ax) "home"=some none) (fO:AT K (.ref ax) "by_day"=some none) (dz:AT K (.ref ax) "number"=some none) (b7:AT K (.ref ax) "stretch"=some none) (cz:AT K (.ref ax) "since"=some none) (cY:AT K (.ref ax) "until"=some none) (Vz:Sa K ax=true) (Ut:ES K (.ref ax)=true) (jx:JA K bS) (eU:AT K (.ref bS) "above_of"=some none) (gT:AT K (.ref bS) "marks"=some none) (MJ:Sa K bS=true) (N0:ES K (.ref bS)=true) (ez:JA K aR) (jH:AT K (.ref aR) "now"=some none) (fU:AT K (.ref aR) "times"=some none) (ZR:Sa K aR=true) (X3:ES K (.ref aR)=true) (X1:AT K (.ref aR) "__init__"=some (some (.ref aX))) (J6:AT K (.ref aR) "put"=some (some (.ref cT))) (F9:AT K (.ref aR) "take"=some (some (.ref cu))) (Ja:AT K (.ref aR) "due"=some (some (.ref cX))) (EK:AT K (.ref aR) "least"=some (some (.ref bJ))) (BR:AT K (.ref aR) "time_of"=some (some (.ref bh))) (va:AT K (.ref aR) "check_waits"=some (some (.ref aH))) (bP:JA K aj) (gQ:AT K (.ref aj) "unit"=some none) (fG:AT K (.ref aj) "slots"=some none) (e6:AT K (.ref aj) "span"=some none) (c5:AT K (.ref aj) "mask"=some none) (bR:AT K (.ref aj) "names_in"=some none) (QV:Sa K aj=true) (PD:ES K (.ref aj)=true) (aO:JA K ai) (cp:AT K (.ref ai) "now"=some none) (cK:AT K (.ref ai) "times"=some none) (bj:AT K (.ref ai) "wheels"=some none) (dW:AT K (.ref ai) "far"=some none) (cM:AT K (.ref ai) "moves"=some none) (MF:Sa K ai=true) (Mq:ES K (.ref ai)=true) (CP:AT K (.ref ai) "put"=some (some (.ref cT))) (Bm:AT K (.ref ai) "take"=some (some (.ref cu))) (CT:AT K (.ref ai) "due"=some (some (.ref cX))) (zS:AT K (.ref ai) "least"=some (some (.ref bJ))) (wY:AT K (.ref ai) "time_of"=some (some (.ref bh))) (qZ:AT K (.ref ai) "check_waits"=some (some (.ref aH))) (aL:JA K ak) (bx:AT K (.ref ak) "waits"=some none) (fS:AT K (.ref ak) "rounds"=some none) (bu:AT K (.ref ak) "now"=some none) (dE:AT K (.ref ak) "shift"=some none) (fY:AT K (.ref ak) "groups"=some none) (a9:AT K (.ref ak) "by_name"=some none) (Mf:Sa K ak=true) (Mg:ES K (.ref ak)=true) (uf:AT K (.ref ak) "all_bells"=some (some (.ref bF))) (vk:AT K (.ref ak) "is_awake"=some (some (.ref bZ))) (vu:AT K (.ref ak) "shown_to"=some (some (.ref bY))) (As:AT K (.ref ak) "hang"=some (some (.ref eL))) (C8:AT K (.ref ak) "lay"=some (some (.ref fP))) (vM:AT K (.ref ak) "let_wait"=some (some (.ref b5))) (Ap:AT K (.ref ak) "lift"=some (some (.ref eO))) (yM:AT K (.ref ak) "settle"=some (some (.ref cW))) (yh:AT K (.ref ak) "finish"=some (some (.ref cZ))) (yz:AT K (.ref ak) "remove"=some (some (.ref cU))) (wL:AT K (.ref ak) "pass_to"=some (some (.ref cD))) (fq:JA K aM) (kY:AT K (.ref aM) "many"=some none) (e9:AT K (.ref aM) "first"=some none) (f7:AT K (.ref aM) "last"=some none) (T7:Sa K aM=true) (Tt:ES K (.ref aM)=true) (fJ:(ax==ak)=false) (nE:(ax==aR)=false) (jT:(ak==aR)=false) (kW:(aM==ax)=false) (iO:(aM==ak)=false) (nH:(aM==aR)=false) (jL:(ax==aj)=false) (iR:(ax==ai)=false) (gZ:(ak==aj)=false) (fZ:(ak==ai)=false) (jM:(aM==aj)=false) (iK:(aM==ai)=false) (yF:UV K (.ref p4) "__getattribute__"=some (some (.builtin "type.__getattribute__"))) (yQ:Abp K p4 (.type "type")=true) (yg:Abq K (.ref p4) (.type "type") "__init__"=some (.val (.ref bw))) (xR:UV K (.ref eW) "__getattribute__"=some (some (.builtin "type.__getattribute__"))) (wu:Abp K eW (.type "type")=true) (xE:Abq K (.ref eW) (.type "type") "__init__"=some (.val (.ref aX))) (yI:UV K (.ref ej) "__getattribute__"=some (some (.builtin "type.__getattribute__"))) (yA:Abp K ej (.type "type")=true) (yi:Abq K (.ref ej) (.type "type") "__init__"=some (.val (.ref bX))) (AK:IN K FB "LEAST_ROUND"=some (some (.int 2 gY))) (CJ:IN K FB "MOST_ROUND"=some (some (.int 60 iF))) (Ck:IN K FB "MOST_WHEELS"=some (some (.int 6 hE))) (wg:IN K FB "bool"=some none) (lg:IN K FB "enumerate"=some none) (Bz:IN K FB "int"=some none) (bq:IN K FB "isinstance"=some none) (lW:IN K FB "len"=some none) (p9:IN K FB "list"=some none) (yo:IN K FB "max"=some none) (vx:IN K FB "min"=some none) (vY:IN K FB "range"=some none) (e7:IN K FB "sorted"=some none) (FK:IN K FB "str"=some none) (v9:IN K FB "tuple"=some none):∃a:Ad,a.uS=a.uS/\Txt K mg a:=
 ⟨⟨cH,hU.l.choose,fz,j0.l.choose,dw,fF.l.choose,bQ,dH.l.choose,dZ,gO.l.choose,cJ,eZ.l.choose,fR,jX.l.choose,fw,j4.l.choose,bN,fh.l.choose,aX,f9.l.choose,cF,eh,cT,iw.l.choose,cu,gm.l.choose,cX,iB.l.choose,bJ,e8.l.choose,bh,dD.l.choose,aH,bV.l.choose,fC,j2.l.choose,fN,j1.l.choose,dY,gM.l.choose,eQ,pH.l.choose,cB,je.l.choose,eM,mV.l.choose,ft,pT.l.choose,cn,gg.l.choose,dU,gR.l.choose,cL,eX.l.choose,du,fB.l.choose,ck,eA.l.choose,d7,gF.l.choose,cI,eY.l.choose,bL,fj.l.choose,cm,dM,bM,dQ.l.choose,dh,fQ.l.choose,bO,dI.l.choose,dt,fM.l.choose,cg,eD.l.choose,bC,di.l.choose,bX,ka.l.choose,bF,gq.l.choose,bZ,hX.l.choose,bY,g8.l.choose,eL,nj.l.choose,fP,qj.l.choose,b5,hZ.l.choose,eO,mL.l.choose,cW,jO.l.choose,cZ,jJ.l.choose,cU,jV.l.choose,cD,i6.l.choose,fu,sP.l.choose,bK,fm.l.choose,cf,cA,eT,i7.l.choose,fb,gW,fD,j6.l.choose,fW,fE,bU,dO.l.choose,bT,dG.l.choose,d6,gN.l.choose,dq,fI.l.choose,cq,lh.l.choose,bw,ko.l.choose,b6,gU.l.choose,dc,eV,jb.l.choose,dX,gG.l.choose,d5,gJ.l.choose,fL,j7.l.choose,cC,i3.l.choose,dF,k6.l.choose,eP,mQ.l.choose,dR,k7.l.choose,eJ,mW.l.choose,eN,mU.l.choose,fy,qp.l.choose,cV,jS.l.choose,uS,P4.l.choose,ax,bS,eW,aR,aj,ai,ej,ak,p4,aM,gY,iF,hE⟩,rfl,{
   kc:=hU.l.choose_spec,
   sG:=j0.l.choose_spec,
   lP:=fF.l.choose_spec,
   iH:=dH.l.choose_spec,
   oG:=gO.l.choose_spec,
   kq:=eZ.l.choose_spec,
   su:=jX.l.choose_spec,
   sR:=j4.l.choose_spec,
   jf:=fh.l.choose_spec,
   jI:=f9.l.choose_spec,
   pk:=yf,
   rJ:=iw.l.choose_spec,
   qd:=gm.l.choose_spec,
   sF:=iB.l.choose_spec,
   oC:=e8.l.choose_spec,
   kz:=dD.l.choose_spec,
   gx:=bV.l.choose_spec,
   rT:=j2.l.choose_spec,
   tH:=j1.l.choose_spec,
   nR:=gM.l.choose_spec,
   vi:=pH.l.choose_spec,
   r6:=pH.k,
   sj:=Gc X G pH.a,
   mC:=je.l.choose_spec,
   qT:=je.k,
   qV:=Gc X G je.a,
   sy:=mV.l.choose_spec,
   xq:=mV.k,
   wQ:=Gc X G mV.a,
   uV:=pT.l.choose_spec,
   rA:=pT.k,
   rq:=Gc X G pT.a,
   jE:=gg.l.choose_spec,
   oB:=gR.l.choose_spec,
   kF:=eX.l.choose_spec,
   lZ:=fB.l.choose_spec,
   jD:=eA.l.choose_spec,
   oh:=gF.l.choose_spec,
   ke:=eY.l.choose_spec,
   iU:=fj.l.choose_spec,
   nJ:=w5,
   i5:=dQ.l.choose_spec,
   lV:=fQ.l.choose_spec,
   iW:=dI.l.choose_spec,
   lF:=fM.l.choose_spec,
   jv:=eD.l.choose_spec,
   ib:=di.l.choose_spec,
   kD:=ka.l.choose_spec,
   jz:=gq.l.choose_spec,
   kJ:=hX.l.choose_spec,
   kA:=g8.l.choose_spec,
   tq:=nj.l.choose_spec,
   ve:=qj.l.choose_spec,
   ku:=hZ.l.choose_spec,
   tI:=mL.l.choose_spec,
   n9:=jO.l.choose_spec,
   nV:=jJ.l.choose_spec,
   nZ:=jV.l.choose_spec,
   mx:=i6.l.choose_spec,
   rY:=sP.l.choose_spec,
   wV:=Gc X G sP.a,
   iZ:=fm.l.choose_spec,
   nN:=xr,
   qe:=i7.l.choose_spec,
   xG:=En,
   sN:=j6.l.choose_spec,
   za:=GH,
   iX:=dO.l.choose_spec,
   iN:=dG.l.choose_spec,
   oF:=gN.l.choose_spec,
   mw:=fI.l.choose_spec,
   pJ:=lh.l.choose_spec,
   jP:=lh.k,
   jQ:=Gc X G lh.a,
   kK:=ko.l.choose_spec,
   gS:=gU.l.choose_spec,
   ki:=zP,
   qa:=jb.l.choose_spec,
   oj:=gG.l.choose_spec,
   ou:=gJ.l.choose_spec,
   sX:=j7.l.choose_spec,
   lH:=i3.l.choose_spec,
   kH:=i3.k,
   kr:=Gc X G i3.a,
   p7:=k6.l.choose_spec,
   uK:=k6.k,
   ux:=Gc X G k6.a,
   rZ:=mQ.l.choose_spec,
   wj:=mQ.k,
   wA:=Gc X G mQ.a,
   pV:=k7.l.choose_spec,
   uC:=k7.k,
   uy:=Gc X G k7.a,
   tG:=mW.l.choose_spec,
   wZ:=mW.k,
   xI:=Gc X G mW.a,
   rG:=mU.l.choose_spec,
   wz:=mU.k,
   wy:=Gc X G mU.a,
   u6:=qp.l.choose_spec,
   zr:=qp.k,
   zk:=Gc X G qp.a,
   oi:=jS.l.choose_spec,
   rM:=jS.k,
   sY:=Gc X G jS.a,
   PF:=P4.l.choose_spec,
   QB:=Gc X G P4.a,
   LU:=Gc X G Ti,
   aT:=⟨aT.pg,aT.hd,aT.po,aT.sa⟩,
   bz:=bz,
   fV:=fV,
   fx:=fx,
   iM:=iM,
   fO:=fO,
   dz:=dz,
   b7:=b7,
   cz:=cz,
   cY:=cY,
   Ot:=⟨Vz,hU.a,hU.i,Ut⟩,
   sr:=⟨j0.a,j0.i,j0.k⟩,
   lX:=⟨fF.a,fF.i,fF.k⟩,
   nh:=⟨dH.a,dH.i,dH.k⟩,
   uH:=⟨gO.a,gO.i,gO.k⟩,
   qJ:=⟨eZ.a,eZ.i,eZ.k⟩,
   zp:=⟨jX.a,jX.i,jX.k⟩,
   zy:=⟨j4.a,j4.i,j4.k⟩,
   DX:=Gc X G Mi,
   jx:=⟨jx.pg,jx.hd,jx.po,jx.sa⟩,
   eU:=eU,
   gT:=gT,
   Gm:=⟨MJ,fh.a,fh.i,N0⟩,
   HA:=Gc X G PB,
   Pb:=Gc X G Zn,
   ez:=⟨ez.pg,ez.hd,ez.po,ez.sa⟩,
   jH:=jH,
   fU:=fU,
   VN:=⟨ZR,X1,f9.i,X3⟩,
   zD:=⟨j2.a,j2.i,j2.k⟩,
   zt:=⟨j1.a,j1.i,j1.k⟩,
   uR:=⟨gM.a,gM.i,gM.k⟩,
   Dw:=⟨J6,iw.i,iw.k⟩,
   A8:=⟨F9,gm.i,gm.k⟩,
   DY:=⟨Ja,iB.i,iB.k⟩,
   sx:=⟨EK,e8.i,e8.k⟩,
   uF:=⟨BR,dD.i,dD.k⟩,
   mP:=⟨va,bV.i,bV.k⟩,
   GF:=Gc X G RJ,
   bP:=⟨bP.pg,bP.hd,bP.po,bP.sa⟩,
   gQ:=gQ,
   fG:=fG,
   e6:=e6,
   c5:=c5,
   bR:=bR,
   LL:=⟨QV,gg.a,gg.i,PD⟩,
   oH:=⟨gR.a,gR.i,gR.k⟩,
   gX:=⟨eX.a,eX.i,eX.k⟩,
   tf:=⟨fB.a,fB.i,fB.k⟩,
   oS:=⟨eA.a,eA.i,eA.k⟩,
   nT:=⟨gF.a,gF.i,gF.k⟩,
   qI:=⟨eY.a,eY.i,eY.k⟩,
   D4:=Gc X G LY,
   aO:=⟨aO.pg,aO.hd,aO.po,aO.sa⟩,
   cp:=cp,
   cK:=cK,
   bj:=bj,
   dW:=dW,
   cM:=cM,
   F8:=⟨MF,fj.a,fj.i,Mq⟩,
   iP:=⟨dQ.a,dQ.i,dQ.k⟩,
   rS:=⟨fQ.a,fQ.i,fQ.k⟩,
   iG:=⟨dI.a,dI.i,dI.k⟩,
   sW:=⟨fM.a,fM.i,fM.k⟩,
   pe:=⟨eD.a,eD.i,eD.k⟩,
   me:=⟨di.a,di.i,di.k⟩,
   vV:=⟨CP,iw.i,iw.k⟩,
   uI:=⟨Bm,gm.i,gm.k⟩,
   wm:=⟨CT,iB.i,iB.k⟩,
   lN:=⟨zS,e8.i,e8.k⟩,
   oV:=⟨wY,dD.i,dD.k⟩,
   jW:=⟨qZ,bV.i,bV.k⟩,
   Kq:=Gc X G Uw,
   Dm:=Gc X G M7,
   aL:=⟨aL.pg,aL.hd,aL.po,aL.sa⟩,
   bx:=bx,
   fS:=fS,
   bu:=bu,
   dE:=dE,
   fY:=fY,
   a9:=a9,
   He:=⟨Mf,fm.a,fm.i,Mg⟩,
   xm:=⟨i7.a,i7.i,i7.k⟩,
   zE:=⟨j6.a,j6.i,j6.k⟩,
   nI:=⟨dO.a,dO.i,dO.k⟩,
   nM:=⟨dG.a,dG.i,dG.k⟩,
   uB:=⟨gN.a,gN.i,gN.k⟩,
   lE:=⟨fI.a,fI.i,fI.k⟩,
   ml:=⟨uf,gq.i,gq.k⟩,
   nF:=⟨vk,hX.i,hX.k⟩,
   jj:=⟨vu,g8.i,g8.k⟩,
   uD:=⟨As,nj.i,nj.k⟩,
   p8:=⟨C8,qj.i,qj.k⟩,
   ni:=⟨vM,hZ.i,hZ.k⟩,
   om:=⟨Ap,mL.i,mL.k⟩,
   qu:=⟨yM,jO.i,jO.k⟩,
   ia:=⟨yh,jJ.i,jJ.k⟩,
   qO:=⟨yz,jV.i,jV.k⟩,
   jG:=⟨wL,i6.i,i6.k⟩,
   Kn:=Gc X G UA,
   Aa:=Gc X G Tr,
   fq:=⟨fq.pg,fq.hd,fq.po,fq.sa⟩,
   kY:=kY,
   e9:=e9,
   f7:=f7,
   E7:=⟨T7,gU.a,gU.i,Tt⟩,
   v7:=⟨jb.a,jb.i,jb.k⟩,
   ur:=⟨gG.a,gG.i,gG.k⟩,
   uz:=⟨gJ.a,gJ.i,gJ.k⟩,
   yX:=⟨j7.a,j7.i,j7.k⟩,
   fJ:=ne_of_beq_false fJ,
   nE:=ne_of_beq_false nE,
   jT:=ne_of_beq_false jT,
   kW:=ne_of_beq_false kW,
   iO:=ne_of_beq_false iO,
   nH:=ne_of_beq_false nH,
   jL:=ne_of_beq_false jL,
   iR:=ne_of_beq_false iR,
   gZ:=ne_of_beq_false gZ,
   fZ:=ne_of_beq_false fZ,
   jM:=ne_of_beq_false jM,
   iK:=ne_of_beq_false iK,
   qv:=⟨yF,yQ,yg,ko.k⟩,
   pA:=⟨xR,wu,xE,f9.k⟩,
   qx:=⟨yI,yA,yi,ka.k⟩,
   tF:=Gc X G AK,
   um:=Gc X G CJ,
   sM:=Gc X G Ck,
   wg:=Mc X G wg,
   lg:=Mc X G lg,
   Bz:=Mc X G Bz,
   bq:=Mc X G bq,
   lW:=Mc X G lW,
   p9:=Mc X G p9,
   yo:=Mc X G yo,
   vx:=Mc X G vx,
   vY:=Mc X G vY,
   e7:=Mc X G e7,
   FK:=Mc X G FK,
   v9:=Mc X G v9
 }⟩
def pz:Sp:=fun vs H Q _=>∃v d,vs=[v]/\Dv H v d/\Q (.bl (isInt d&&!isBool d)) H
theorem Uy (h:Dv H v d) (q:Q (.bl (isInt d&&!isBool d)) H):pz [v] H Q E:=⟨v,d,rfl,h,q⟩
def tK:Sp:=fun vs H Q _=>∃n l x,vs=[.int n,.int l,.str x]/\l<=n/\Q .aQ H
theorem S4 (h:l<=n) (q:Q .aQ H):tK [.int n,.int l,.str x] H Q E:=⟨n,l,x,rfl,h,q⟩
def la (C:Addr):Sp:=fun vs H Q _=>∃p dx m,vs=[.ref p,m]/\MOk m/\H p=some (.ins C dx [])/\Q .aQ (upd H p (.ins C dx [("many",m)]))
theorem Gu {m:V} (hm:MOk m) (hp:H p=some (.ins C dx [])) (q:Q .aQ (upd H p (.ins C dx [("many",m)]))):la C [.ref p,m] H Q E:=⟨p,dx,m,rfl,hm,hp,q⟩
def QU (K:At):Sp:=fun vs H Q _=>∃(l:Addr) (ns:List Int),vs=[.ref l]/\gD K H l (ns.map V.int)/\ns.length<=63/\∀H',Q (.bl true) H'
set_option hygiene false in
local macro_rules|`(tactic|walk_at "bd")=>`(tactic|first|exact⟨by omega,by omega⟩|fail)
set_option hygiene false in
local macro_rules|`(tactic|walk_at "bd")=>`(tactic|first|assumption|fail)
set_option hygiene false in
local macro_rules|`(tactic|walk_at "mok")=>`(tactic|first|exact Or.inr ⟨_,rfl,by omega⟩|fail)
set_option hygiene false in
local macro_rules|`(tactic|walk_at "mok")=>`(tactic|first|exact FS rfl|fail)
set_option hygiene false in
local macro_rules|`(tactic|walk_at "mok")=>`(tactic|first|assumption|fail)
local macro_rules|`(tactic|walk_at "use")=>`(tactic|first|((with_reducible refine' YV ?e1 ?e2 ?_);(case e1=>walk_at "sql");(case e2=>omega))|fail)
local macro_rules|`(tactic|walk_at "use")=>`(tactic|first|((with_reducible refine' Gu ?e1 ?e2 ?_);(case e1=>walk_at "mok");(case e2=>walk_at "at"))|fail)
local macro_rules|`(tactic|walk_at "use")=>`(tactic|first|((with_reducible refine' S4 ?e ?_);case e=>walk_at "side")|fail)
local macro_rules|`(tactic|walk_at "use")=>`(tactic|first|((with_reducible refine' Uy ?e ?_);case e=>walk_at "dat")|fail)
section
variable {P:Fk} {w:World} {base:Heap} {a:Ad}
theorem Ho (T:Txt K mg a):aP P w K mg base eG 1 a.eQ a.yZ ["thing"] pz:=by
 refine T.vi.ok Gh (fun vs H Q E h=>?_) (fun c7 A outer s H vs Q E hr h=>?_)
 . obtain⟨_,_,rfl,_⟩:=h;rfl
 . obtain⟨v,d,rfl,hd,k⟩:=h
   refine⟨_,(ah (aD (EC (aU jZ rfl T.bq LB (ae (pv 0) (ae (mZ (v:=.ty "int") rfl T.Bz PyProof.Rows.boot_int rfl) af))) (AQ (RT (aU jZ rfl T.bq LB (ae (pv 0) (ae (mZ (v:=.ty "bool") rfl T.wg PyProof.Rows.boot_bool rfl) af)))))))),?_⟩
   repeat' (walk_at "rd1")
   . refine UQ ?_;cases d <;>simp_all [isInt,isBool]
   . refine UQ ?_;cases d <;>simp_all [isInt,isBool]
theorem xJ (T:Txt K mg a):df P w K mg base 1 a.eQ ["thing"] [] pz:=
 ⟨⟨_,_,Ho T,T.vi.binds fun _ _ _ _ _ _=>kO fun _=>rfl,.nil⟩⟩
theorem C1 (T:Txt K mg a):aP P w K mg base eG 2 a.cq a.uG ["number","least","what"] tK:=by
 have uX:df P w K mg base 1 a.eQ ["thing"] [] pz:=xJ T
 refine T.pJ.ok CM (fun vs H Q E h=>?_) (fun c7 A outer s H vs Q E hr h=>?_)
 . obtain⟨_,_,_,rfl,_⟩:=h;rfl
 . obtain⟨n,l,x,rfl,hl,k⟩:=h
   refine⟨_,(ah (bB (PW.pt (DZ (iY (bI (dA uX (hr.mono (by decide)) rfl T.sj T.r6 (ae (pv 0) af)) (fun _=>rfl))) (BI (aI zh (pv 0) (pv 1) (aK _)))))
    (ah fA)
    aN)),?_⟩
   repeat' (walk_at "rd1")
   exact k
theorem tm (T:Txt K mg a):df P w K mg base 2 a.cq ["number","least","what"] [] tK:=
 ⟨⟨_,_,C1 T,T.pJ.binds fun _ _ _ _ _ _=>jr fun _ _ _=>rfl,.nil⟩⟩
theorem FR (T:Txt K mg a) (cl:ug K C) (na:aJ K C "many"):aP P w K mg base eG 3 a.bw a.o5 ["self","many"] (la C):=by
 have kZ:df P w K mg base 2 a.cq ["number","least","what"] [] tK:=tm T
 refine T.kK.ok yL (fun vs H Q E h=>?_) (fun c7 A outer s H vs Q E hr h=>?_)
 . obtain⟨_,_,_,rfl,_⟩:=h;rfl
 . obtain⟨p,dx,m,rfl,hm,hp,k⟩:=h
   refine⟨_,(ag (bB (aI tT (pv 1) eC (aK _))
    (ah (aF (dA kZ (hr.mono (by decide)) rfl T.jQ T.jP (ae (pv 1) (ae aq (ae jy af))))))
    aN)
    (ah (aV (pv 0) (pv 1) rfl))),?_⟩
   rcases hm with rfl|⟨i,rfl,hi⟩
   . repeat' (walk_at "rd1")
     exact k
   . repeat' (walk_at "rd1")
     exact k
theorem CG (T:Txt K mg a) (cl:ug K C) (na:aJ K C "many"):df P w K mg base 3 a.bw ["self","many"] [] (la C):=
 ⟨⟨_,_,FR T cl na,T.kK.binds fun _ _ _ _ _ _=>dJ fun _ _=>rfl,.nil⟩⟩
theorem BF (T:Txt K mg a):aP P w K mg base eG 1 a.cC a.qw ["_law_script","_law_k"] (Jp K):=by
 refine T.lH.ok zU (fun vs H Q E h=>?_) (fun c7 A outer s H vs Q E hr h=>?_)
 . obtain⟨_,_,_,rfl,_⟩:=h;rfl
 . obtain⟨l,ns,i,rfl,hl,h0,k⟩:=h
   refine⟨_,(ag (bB (aI zh (pv 1) (aU iC rfl T.lW T0 (ae (pv 0) af)) (aK _))
    (ah (aD (bG ik (pv 0) (pv 1) (fun _ _=>rfl))))
    aN)
    (ah (aD aq))),?_⟩
   repeat' (walk_at "rd1")
   . exact GW hl (K7 h0 (by assumption)) k
   . rw [Vf h0 (by assumption)] at k;exact k
theorem zJ (T:Txt K mg a):df P w K mg base 1 a.cC ["_law_script","_law_k"] [] (Jp K):=
 ⟨⟨_,_,BF T,T.lH.binds fun _ _ _ _ _ _=>dJ fun _ _=>rfl,.nil⟩⟩
theorem MK (T:Txt K mg a) (s:AM) (u:Value):BindsTo s a.FI ⟨[u],[]⟩ [("_law_script",u)]:=by
 obtain⟨oc,od,kV,doc,pm,an,c7,ct,TY,e,lk,N9⟩:=T.PF.ex
 rw [e]
 exact .of_eq rfl
def FT (args:List V):Prop:=∃f,0<=f/\(args=[.int f,.aQ]\/∃l,args=[.int f,.int l]/\f<=l)
theorem wK (T:Txt K mg a):aP P w K mg base eG 4 a.b6 a.gf ["self","first","last"] (Ca a.aM FT Hk):=by
 have kZ:df P w K mg base 2 a.cq ["number","least","what"] [] tK:=tm T
 have zV:df P w K mg base 3 a.bw ["self","many"] [] (la a.aM):=CG T T.fq T.kY
 have cl:=T.fq
 have n1:=T.e9;have n2:=T.f7
 refine T.gS.ok o6 (fun vs H Q E h=>?_) (fun c7 A outer s H vs Q E hr h=>?_)
 . obtain⟨_,_,_,rfl,⟨_,_,rfl|⟨_,rfl,_⟩⟩,_⟩:=h <;>rfl
 . obtain⟨p,dx,args,rfl,⟨f,h0,hl⟩,hp,k⟩:=h
   refine⟨_,(ag (aF (dA kZ (hr.mono (by decide)) rfl T.jQ T.jP (ae (pv 1) (ae aq (ae jy af)))))
    (ag (bB (aI AZ (pv 2) eC (aK _))
     (ah (aE (i:=2) o6.nd rfl (FS rfl) (pv 1)))
     aN)
    (ag (aF (dA kZ (hr.mono (by decide)) rfl T.jQ T.jP (ae (pv 2) (ae (pv 1) (ae jy af)))))
    (ag (aF (EF rfl T.Kn T.qv zV (hr.mono (by decide)) (ae (pv 0) (ae aq af))))
    (ag (aV (pv 0) (pv 1) rfl)
    (ah (aV (pv 0) (pv 2) rfl))))))),?_⟩
   rcases hl with rfl|⟨l,rfl,h1⟩
   . repeat' (walk_at "rd1")
     simp only [jN]
     exact k
   . repeat' (walk_at "rd1")
     simp only [jN]
     exact k
theorem Py (T:Txt K mg a):Binds K a.gf ["self","first","last"] [.none]:=T.gS.binds fun _ _ _ _ _ _ s us kx hl=>by
 obtain⟨o,n,h1,h2⟩:=T.ki.ex
 have hl:us.length=2:=by simp at hl;omega
 obtain⟨_,_,rfl⟩:=ln2 hl
 exact WA kx rfl h1 h2 rfl rfl
theorem Qr (T:Txt K mg a):Binds K a.gf ["self","first","last"] []:=T.gS.binds fun _ _ _ _ _ _ s us kx hl=>by
 obtain⟨o,n,h1,h2⟩:=T.ki.ex
 have hl:us.length=3:=by simp at hl;omega
 obtain⟨_,_,_,rfl⟩:=ln3 hl
 exact WA kx rfl h1 h2 rfl rfl
theorem JW (T:Txt K mg a):df P w K mg base 4 a.b6 ["self","first","last"] [.aQ] (Ca a.aM FT Hk):=⟨⟨_,_,wK T,Py T,.cons rfl .nil⟩⟩
theorem Bw (T:Txt K mg a):df P w K mg base 4 a.b6 ["self","first","last"] [] (Ca a.aM FT Hk):=⟨⟨_,_,wK T,Qr T,.nil⟩⟩
def vC (C:Addr):Sp:=fun vs H Q _=>∃v f l,vs=[v]/\jF H v C [("many",.int 1),("first",.int f),("last",.int l)]/\∀v' H',ay H H'->Dv H' v' (.tuple [.int f,.int l])->Q v' H'
theorem Mh {f:Int} (hp:jF H v C [("many",.int 1),("first",.int f),("last",.int l)]) (q:∀v' H',ay H H'->Dv H' v' (.tuple [.int f,.int l])->Q v' H'):vC C [v] H Q E:=⟨v,f,l,rfl,hp,q⟩
def rQ:Sp:=fun vs H Q _=>∃v n s,vs=[v,n,s]/\Q .aQ H
theorem JC {n s:V} (q:Q .aQ H):rQ [v,n,s] H Q E:=⟨v,n,s,rfl,q⟩
def vv:Sp:=fun vs H Q _=>∃v n s t,vs=[v,n,s,t]/\∀v' H',ay H H'->Dv H' v' (.tuple [.int 1,.none])->Q v' H'
theorem M4 {n s t:V} (q:∀v' H',ay H H'->Dv H' v' (.tuple [.int 1,.none])->Q v' H'):vv [v,n,s,t] H Q E:=⟨v,n,s,t,rfl,q⟩
set_option hygiene false in
local macro_rules|`(tactic|walk_at "use")=>`(tactic|first|with_reducible refine M4 (fun _ _ _ _=>?_)|fail)
set_option hygiene false in
local macro_rules|`(tactic|walk_at "use")=>`(tactic|first|with_reducible refine JC ?_|fail)
local macro_rules|`(tactic|walk_at "use")=>`(tactic|first|((with_reducible refine' Mh ?e (fun _ _ _ _=>?_));case e=>walk_at "ins")|fail)
theorem Im (T:Txt K mg a):aP P w K mg base eG 1 a.eV a.uQ ["self"] (vC a.aM):=by
 have cl:=T.fq
 have n1:=T.e9;have n2:=T.f7
 refine T.qa.ok CH (fun vs H Q E h=>?_) (fun c7 A outer s H vs Q E hr h=>?_)
 . obtain⟨_,_,_,rfl,_⟩:=h;rfl
 . obtain⟨v,f,l,rfl,hp,k⟩:=h
   refine⟨_,(ah (aD (dS (ae (au (pv 0) rfl) (ae (au (pv 0) rfl) af))))),?_⟩
   repeat' (walk_at "rd1")
   (refine k _ _ ?_ ?_;walk_at "same";walk_at "dat")
theorem Gf (T:Txt K mg a):df P w K mg base 1 a.eV ["self"] [] (vC a.aM):=
 ⟨⟨_,_,Im T,T.qa.binds fun _ _ _ _ _ _=>kO fun _=>rfl,.nil⟩⟩
theorem HD (T:Txt K mg a):aP P w K mg base eG 1 a.dX a.sJ ["self","number","settled"] rQ:=by
 refine T.oj.ok Bu (fun vs H Q E h=>?_) (fun c7 A outer s H vs Q E hr h=>?_)
 . obtain⟨_,_,_,rfl,_⟩:=h;rfl
 . obtain⟨v,n,s,rfl,k⟩:=h
   refine⟨_,(ah (aD eC)),?_⟩
   repeat' (walk_at "rd1")
   exact k
theorem FC (T:Txt K mg a):df P w K mg base 1 a.dX ["self","number","settled"] [] rQ:=
 ⟨⟨_,_,HD T,T.oj.binds fun _ _ _ _ _ _=>jr fun _ _ _=>rfl,.nil⟩⟩
theorem II (T:Txt K mg a):aP P w K mg base eG 1 a.d5 a.sO ["self","number","last","now"] vv:=by
 refine T.ou.ok Bo (fun vs H Q E h=>?_) (fun c7 A outer s H vs Q E hr h=>?_)
 . obtain⟨_,_,_,_,rfl,_⟩:=h;rfl
 . obtain⟨v,n,s,t,rfl,k⟩:=h
   refine⟨_,(ah (aD (dS (ae aq (ae eC af))))),?_⟩
   repeat' (walk_at "rd1")
   (refine k _ _ ?_ ?_;walk_at "same";walk_at "dat")
theorem Hg (T:Txt K mg a):df P w K mg base 1 a.d5 ["self","number","last","now"] [] vv:=
 ⟨⟨_,_,II T,T.ou.binds fun _ _ _ _ _ _=>Wr fun _ _ _ _=>rfl,.nil⟩⟩
def Bb (C:Addr):Sp:=fun vs H Q _=>∃v f l,vs=[v]/\jF H v C [("many",.int 1),("first",.int f),("last",.int l)]/\0<=f/\f<=l/\∀v' H',ay H H'->jF H' v' C [("many",.int 1),("first",.int f),("last",.int l)]->Q v' H'
theorem Qw (T:Txt K mg a):aP P w K mg base eG 6 a.fL a.xB ["self"] (Bb a.aM):=by
 have A2:=Bw (P:=P) (w:=w) (base:=base) T
 have cl:=T.fq
 have n1:=T.e9;have n2:=T.f7
 refine T.sX.ok FO (fun vs H Q E h=>?_) (fun c7 A outer s H vs Q E hr h=>?_)
 . obtain⟨_,_,_,rfl,_⟩:=h;rfl
 . obtain⟨v,f,l,rfl,hp,h0,h1,k⟩:=h
   refine⟨_,(ah (aD (mX T.E7 A2 (hr.mono (by decide)) rfl T.Aa (ae (au (pv 0) rfl) (ae (au (pv 0) rfl) af))))),?_⟩
   repeat' (walk_at "rd1")
   . exact⟨_,h0,.inr ⟨_,rfl,h1⟩⟩
   . rename_i hi
     exact k _ _ (by walk_at "same") hi
theorem Nb (T:Txt K mg a):df P w K mg base 6 a.fL ["self"] [] (Bb a.aM):=
 ⟨⟨_,_,Qw T,T.sX.binds fun _ _ _ _ _ _=>kO fun _=>rfl,.nil⟩⟩
inductive RU where
 |once (f l:Int)
def qL (a:Ad) (H:Hp) (v:V):RU->Prop
 | .once f l=>jF H v a.aM [("many",.int 1),("first",.int f),("last",.int l)]/\0<=f/\f<=l
theorem qL.keeps {r:RU} (s:ay H H') (h:qL a H v r):qL a H' v r:=by
 cases r <;>exact⟨jF.keeps s h.1,h.2⟩
theorem qL.fr {cs:List Addr} {r:RU} (f:Fr cs S H H') (nO:a.aM∉cs) (h:qL a H v r):qL a H' v r:=by
 cases r with
 |once=>exact⟨f.ins nO h.1,h.2⟩
local macro_rules|`(tactic|walk_at "ris")=>`(tactic|first|(refine' qL.keeps ?s ?m;(case s=>assumption);(case m=>walk_at "ris"))|fail)
set_option hygiene false in
local macro_rules|`(tactic|walk_at "ris")=>`(tactic|first|assumption|fail)
def pD (p:Int × Int):BB:=.tuple [.int p.1,.int p.2]
def Zy:Option (Int × Int)->BB
 |none=>.none
 |some p=>pD p
def U6 (m:V) (k:Int) (p:Int × Int):Int × Option (Int × Int):=match m with
 | .int i=>if i<=k then (i,none) else (k,some p)
 |_=>(k,some p)
def N5:RU->Int × Int
 | .once f l=>(f,l)
def VR:RU->Int->Int->Int->Int × Option (Int × Int)
 | .once _ _,_,_,_=>(1,none)
theorem aam {r:RU} {s x y:Int} (h:qL a H v r) (e:(VR r n s t).2=some (x,y)):t<y/\x<=y/\n<(VR r n s t).1:=by
 have key:∀{m:V} {k:Int} {p:Int × Int},(U6 m k p).2=some (x,y)->p=(x,y)/\(U6 m k p).1=k:=by
  intro m k p e
  cases m with
  |int i=>
   by_cases h:i<=k
   . simp [U6,h] at e
   . simp only [U6,if_neg h] at e ⊢
     exact⟨Do e,trivial⟩
  |_=>exact⟨Do e,rfl⟩
 cases r with
 |once=>cases e
section
variable {st sp gp mo wd f s:Int} {m:V}
theorem acf (h:qL a H v (.once f l)) (q:∀v' H',ay H H'->qL a H' v' (.once f l)->Q v' H'):Bb a.aM [v] H Q E:=by
 obtain⟨hp,r0,r1⟩:=h
 exact⟨v,f,l,rfl,hp,r0,r1,fun v' H' s' i=>q v' H' s' ⟨i,r0,r1⟩⟩
end
local macro_rules|`(tactic|walk_at "use")=>`(tactic|first|((with_reducible refine' acf ?e (fun _ _ _ _=>?_));case e=>walk_at "ris")|fail)
theorem tj {α:Type} [DecidableEq α]:∀{l l':List α},l.Nodup->(∀x∈l,x∈l')->l.length<=l'.length
 |[],_,_,_=>KF _
 |a::l,l',h,hs=>by
  rw [EO] at h
  have ha:=hs a BC
  have:=tj (l:=l) (l':=l'.erase a) h.2 fun x hx=>(List.mem_erase_of_ne (fun z:x=a=>h.1 (z▸hx))).mpr (hs x (AL _ hx))
  rw [List.length_erase_of_mem ha] at this
  have:=List.length_pos_of_mem ha
  simp only [FF]
  omega
theorem Tx {α:Type} {A B X Y:List α} (h:(A++(X++B)).Nodup) (hy:Y.Nodup) (hs:∀b∈Y,b∈X\/(b∉A/\b∉B)):(A++(Y++B)).Nodup:=by
 simp only [Go,Co] at h ⊢
 obtain⟨h1,⟨h2,h3,h4⟩,h5⟩:=h
 refine⟨h1,⟨hy,h3,fun a ha b hb e=>?_⟩,fun a ha b hb e=>?_⟩
 . rcases hs a ha with q|⟨_,q⟩
   . exact h4 a q b hb e
   . exact q (e▸hb)
 . rcases hb with hb|hb
   . rcases hs b hb with q|⟨q,_⟩
     . exact h5 a ha b (.inl q) e
     . exact q (e▸ha)
   . exact h5 a ha b (.inr hb) e
theorem cS {S':List Addr} (m:Mv S H H') (h:∀b∈S,b∈S'):Mv S' H H':=⟨fun a o n e=>m.kp a o (fun z=>n (h a z)) e,m.tp,m.dm⟩
def iu (us:List (Int × Int)) (t n:Int):Nat:=us.findIdx fun q=>decide (t / (q.1*q.2)=n / (q.1*q.2))
theorem vL (us:List (Int × Int)) (t n:Int):iu us t n<=us.length:=List.findIdx_le_length
theorem E6 {k:Nat} {q:Int × Int} (h:k<iu us t n) (hq:us[k]? =some q):¬t / (q.1*q.2)=n / (q.1*q.2):=by
 obtain⟨hk,rfl⟩:=AS.mp hq
 have:=List.not_of_lt_findIdx h
 simpa using this
theorem Al {q:Int × Int} (hq:us[iu us t n]? =some q):t / (q.1*q.2)=n / (q.1*q.2):=by
 obtain⟨hk,rfl⟩:=AS.mp hq
 have:=List.findIdx_getElem (w:=hk)
 unfold iu
 simpa using this
theorem Fn {k:Nat} (h1:∀j q,j<k->us[j]? =some q->¬t / (q.1*q.2)=n / (q.1*q.2)) (h2:k=us.length\/∃q,us[k]? =some q/\t / (q.1*q.2)=n / (q.1*q.2)):iu us t n=k:=by
 have hle:=vL us t n
 have hk:k<=us.length:=by
  rcases h2 with h|⟨q,h,_⟩
  . omega
  . exact Aat (AS.mp h).1
 by_cases c:iu us t n<k
 . have hl:iu us t n<us.length:=by omega
   exact absurd (Al (AC hl)) (h1 _ _ c (AC hl))
 . by_cases c2:k<iu us t n
   . rcases h2 with h|⟨q,h,e⟩
     . omega
     . exact absurd e (E6 c2 h)
   . omega
structure Sl where
 k:Int
 p:Addr
 ns:List Str
structure Wh where
 x:Addr
 dn:Addr
 u:Int
 s:Int
 m:Int
 cs:List Sl
structure fc where
 q:Addr
 f:Addr
 ws:List Wh
 ei:List (Int × Str)
def ic (w:Wh):Prop:=0<=w.m/\∀i:Nat,w.m.toNat.testBit i=w.cs.any fun c=>decide (c.k=(i:Int))
structure Se (w:Wh) (B:Str->Int->Prop):Prop where
 mk':ic w
 nd:(w.cs.map (·.k)).Nodup
 ne:∀c∈w.cs,c.ns≠[]/\c.ns.Nodup/\0<=c.k/\c.k<w.s
 mem:∀n j,(∃c∈w.cs,c.k=j/\n∈c.ns)↔B n j
theorem Se.congr {w:Wh} {B':Str->Int->Prop} (h:Se w B) (e:∀n j,B n j↔B' n j):Se w B':=⟨h.mk',h.nd,h.ne,fun n j=>(h.mem n j).trans (e n j)⟩
def qi (slot:Int) (x:Str) (c:Sl):Sl:=if c.k=slot then ⟨c.k,c.p,c.ns++[x]⟩ else c
def qX (cs:List Sl) (slot:Int) (pd:Addr) (x:Str):List Sl:=if (cs.any fun c=>decide (c.k=slot))=true then cs.map (qi slot x) else cs++[⟨slot,pd,[x]⟩]
def d8 (slot:Int) (x:Str) (c:Sl):Sl:=if c.k=slot then ⟨c.k,c.p,c.ns.filter fun y=>!decide (y=x)⟩ else c
def lz (cs:List Sl) (slot:Int):List Sl:=cs.filter fun c=>!decide (c.k=slot)
def zI (cs:List Sl) (slot:Int) (x:Str):List Sl:=(cs.map (d8 slot x)).filter fun c=>!c.ns.isEmpty
theorem pO (slot:Int) (x:Str) (c:Sl):(qi slot x c).k=c.k:=by unfold qi;split <;>rfl
theorem J8 (slot:Int) (x:Str) (c:Sl):(qi slot x c).p=c.p:=by unfold qi;split <;>rfl
theorem gk (slot:Int) (x:Str) (c:Sl):(d8 slot x c).k=c.k:=by unfold d8;split <;>rfl
theorem Ew (slot:Int) (x:Str) (c:Sl):(d8 slot x c).p=c.p:=by unfold d8;split <;>rfl
theorem jY {cs:List Sl}:(cs.any fun c=>decide (c.k=slot))=true↔∃c∈cs,c.k=slot:=by
 rw [M2]
 exact⟨fun⟨c,h1,h2⟩=>⟨c,h1,of_decide_eq_true h2⟩,fun⟨c,h1,h2⟩=>⟨c,h1,decide_eq_true h2⟩⟩
theorem Se.lay {w:Wh} {m:Int} (h:Se w B) (hx:∀j,¬B x j) (h0:0<=slot) (h1:slot<w.s) (hm:ic ⟨w.x,w.dn,w.u,w.s,m,qX w.cs slot pd x⟩):
 Se ⟨w.x,w.dn,w.u,w.s,m,qX w.cs slot pd x⟩ (fun y j=>B y j\/(y=x/\j=slot)):=by
 have hnx:∀c∈w.cs,x∉c.ns:=fun c hc hm=>hx c.k ((h.mem x c.k).mp ⟨c,hc,rfl,hm⟩)
 by_cases e:(w.cs.any fun c=>decide (c.k=slot))=true
 . have el:qX w.cs slot pd x=w.cs.map (qi slot x):=if_pos e
   refine⟨hm,?_,fun c hc=>?_,fun n j=>?_⟩
   . show((qX w.cs slot pd x).map _).Nodup
     rw [el,GM,show(Sl.k ∘ qi slot x)=Sl.k from funext (pO slot x)];exact h.nd
   . have hc:c∈qX w.cs slot pd x:=hc
     rw [el] at hc
     obtain⟨c0,yy,rfl⟩:=AN.mp hc
     obtain⟨a1,a2,a3,a4⟩:=h.ne c0 yy
     rw [pO]
     unfold qi
     split
     . refine⟨by simp,?_,a3,a4⟩
       show(c0.ns++[x]).Nodup
       rw [Go]
       refine⟨a2,by simp,fun a ha b hb=>?_⟩
       have hb:b=x:=by simpa using hb
       exact fun z=>hnx c0 yy (hb▸z▸ha)
     . exact⟨a1,a2,a3,a4⟩
   . show(∃c∈qX w.cs slot pd x,_)↔_
     rw [el]
     constructor
     . rintro⟨c,hc,hk,hn⟩
       obtain⟨c0,yy,rfl⟩:=AN.mp hc
       rw [pO] at hk
       unfold qi at hn
       split at hn
       . rename_i hs
         rcases Co.mp hn with hn|hn
         . exact .inl ((h.mem n j).mp ⟨c0,yy,hk,hn⟩)
         . exact .inr ⟨by simpa using hn,by rw [<-hk,hs]⟩
       . exact .inl ((h.mem n j).mp ⟨c0,yy,hk,hn⟩)
     . rintro(hb|⟨rfl,rfl⟩)
       . obtain⟨c0,yy,hk,hn⟩:=(h.mem n j).mpr hb
         refine⟨_,Cc yy,by rw [pO];exact hk,?_⟩
         unfold qi
         split
         . exact EU _ hn
         . exact hn
       . obtain⟨c0,yy,hk⟩:=jY.mp e
         refine⟨_,Cc yy,by rw [pO];exact hk,?_⟩
         unfold qi
         rw [if_pos hk]
         simp
 . have el:qX w.cs slot pd x=w.cs++[⟨slot,pd,[x]⟩]:=if_neg e
   have t7:∀c∈w.cs,c.k≠slot:=fun c hc z=>e (jY.mpr ⟨c,hc,z⟩)
   refine⟨hm,?_,fun c hc=>?_,fun n j=>?_⟩
   . show((qX w.cs slot pd x).map _).Nodup
     rw [el,CS,Go]
     refine⟨h.nd,by simp,fun a ha b hb=>?_⟩
     obtain⟨c,hc,rfl⟩:=AN.mp ha
     have hb:b=slot:=by simpa using hb
     rw [hb];exact t7 c hc
   . have hc:c∈qX w.cs slot pd x:=hc
     rw [el] at hc
     rcases Co.mp hc with hc|hc
     . exact h.ne c hc
     . have hc:c=⟨slot,pd,[x]⟩:=by simpa using hc
       subst hc
       exact⟨by simp,by simp,h0,h1⟩
   . show(∃c∈qX w.cs slot pd x,_)↔_
     rw [el]
     constructor
     . rintro⟨c,hc,hk,hn⟩
       rcases Co.mp hc with hc|hc
       . exact .inl ((h.mem n j).mp ⟨c,hc,hk,hn⟩)
       . have hc:c=⟨slot,pd,[x]⟩:=by simpa using hc
         subst hc
         exact .inr ⟨by simpa using hn,hk.symm⟩
     . rintro(hb|⟨rfl,rfl⟩)
       . obtain⟨c,hc,hk,hn⟩:=(h.mem n j).mpr hb
         exact⟨c,EU _ hc,hk,hn⟩
       . exact⟨⟨j,pd,[n]⟩,CC _ (by simp),rfl,by simp⟩
theorem Se.lift {w:Wh} {m:Int} (h:Se w B) (hu:∀j,B x j->j=slot) (hm:ic ⟨w.x,w.dn,w.u,w.s,m,zI w.cs slot x⟩):
 Se ⟨w.x,w.dn,w.u,w.s,m,zI w.cs slot x⟩ (fun y j=>B y j/\y≠x):=by
 refine⟨hm,?_,fun c hc=>?_,fun n j=>?_⟩
 . show((zI w.cs slot x).map _).Nodup
   refine OE.sublist ((IR).map _) ?_
   rw [GM,show(Sl.k ∘ d8 slot x)=Sl.k from funext (gk slot x)];exact h.nd
 . have hc:c∈zI w.cs slot x:=hc
   obtain⟨Wu,N6⟩:=B0.mp hc
   obtain⟨c0,yy,rfl⟩:=AN.mp Wu
   obtain⟨a1,a2,a3,a4⟩:=h.ne c0 yy
   rw [gk]
   refine⟨by simpa using N6,?_,a3,a4⟩
   unfold d8
   split
   . exact a2.sublist IR
   . exact a2
 . show(∃c∈zI w.cs slot x,_)↔_
   constructor
   . rintro⟨c,hc,hk,hn⟩
     obtain⟨Wu,N6⟩:=B0.mp hc
     obtain⟨c0,yy,rfl⟩:=AN.mp Wu
     rw [gk] at hk
     unfold d8 at hn
     split at hn
     . obtain⟨mI,mR⟩:=B0.mp hn
       exact⟨(h.mem n j).mp ⟨c0,yy,hk,mI⟩,by simpa using mR⟩
     . rename_i hs
       have hb:=(h.mem n j).mp ⟨c0,yy,hk,hn⟩
       refine⟨hb,fun z=>hs ?_⟩
       rw [hk]
       exact hu j (z▸hb)
   . rintro⟨hb,mS⟩
     obtain⟨c0,yy,hk,hn⟩:=(h.mem n j).mpr hb
     have Ic:n∈(d8 slot x c0).ns:=by
      unfold d8
      split
      . exact B0.mpr ⟨hn,by simpa using mS⟩
      . exact hn
     refine⟨_,B0.mpr ⟨Cc yy,?_⟩,by rw [gk];exact hk,Ic⟩
     cases e:(d8 slot x c0).ns with
     |nil=>rw [e] at Ic;cases Ic
     |cons=>rfl
theorem GA {cs Sv:List Sl} (h:(∃c∈cs,c.k=(i:Int))↔∃c∈Sv,c.k=(i:Int)):(cs.any fun c=>decide (c.k=(i:Int)))=Sv.any fun c=>decide (c.k=(i:Int)):=by
 rw [NE,jY,jY];exact h
def Wh.xT (w:Wh) (slot m:Int) (pd:Addr) (x:Str):Wh:=⟨w.x,w.dn,w.u,w.s,m,qX w.cs slot pd x⟩
def Wh.lY (w:Wh) (slot m:Int) (x:Str):Wh:=⟨w.x,w.dn,w.u,w.s,m,zI w.cs slot x⟩
def Wh.emptied (w:Wh) (slot m:Int):Wh:=⟨w.x,w.dn,w.u,w.s,m,lz w.cs slot⟩
theorem Md {cs:List Sl} {j:Int}:(∃c∈qX cs slot pd x,c.k=j)↔(∃c∈cs,c.k=j)\/j=slot:=by
 unfold qX
 split
 . rename_i h
   constructor
   . rintro⟨c,hc,e⟩
     obtain⟨c0,yy,rfl⟩:=AN.mp hc
     rw [pO] at e
     exact .inl ⟨c0,yy,e⟩
   . rintro(⟨c,hc,e⟩|rfl)
     . exact⟨_,Cc hc,by rw [pO];exact e⟩
     . obtain⟨c,hc,e⟩:=jY.mp h
       exact⟨_,Cc hc,by rw [pO];exact e⟩
 . constructor
   . rintro⟨c,hc,e⟩
     rcases Co.mp hc with hc|hc
     . exact .inl ⟨c,hc,e⟩
     . have:c=⟨slot,pd,[x]⟩:=by simpa using hc
       subst this
       exact .inr e.symm
   . rintro(⟨c,hc,e⟩|rfl)
     . exact⟨c,EU _ hc,e⟩
     . exact⟨_,CC _ (AR.mpr rfl),rfl⟩
theorem RH {w:Wh} (h:ic w) (h0:0<=slot):ic (w.xT slot (RS w.m (1*2^slot.toNat)) pd x):=by
 have hy:(0:Int)<=1*2^slot.toNat:=by rw [Int.one_mul];exact OP (Int.pow_pos (by decide))
 have e:=DI h.1 hy
 refine⟨by show 0<=RS w.m (1*2^slot.toNat);rw [e];omega,fun i=>?_⟩
 show(RS w.m (1*2^slot.toNat)).toNat.testBit i=(qX w.cs slot pd x).any _
 rw [e,OF,Ni,Nat.testBit_or,Abs,h.2 i,NE,Bool.or_eq_true,jY,jY,Md,decide_eq_true_eq]
 refine or_congr Iff.rfl ⟨fun z=>by omega,fun z=>by omega⟩
theorem Aq {w:Wh} {c:Sl} (h:ic w) (h0:0<=slot) (hc:c∈w.cs) (hk:c.k=slot):ic (w.emptied slot (No w.m (1*2^slot.toNat))):=by
 have hb:w.m.toNat.testBit slot.toNat=true:=by rw [h.2];exact jY.mpr ⟨c,hc,by omega⟩
 have e:=B6 h.1 hb
 refine⟨by show 0<=No w.m (1*2^slot.toNat);rw [e];omega,fun i=>?_⟩
 show(No w.m (1*2^slot.toNat)).toNat.testBit i=(lz w.cs slot).any _
 rw [e,OF,yW hb,h.2 i,NE,SL,jY,jY,decide_eq_true_eq]
 unfold lz
 constructor
 . rintro⟨⟨d,hd,e1⟩,e2⟩
   exact⟨d,B0.mpr ⟨hd,by simp;omega⟩,e1⟩
 . rintro⟨d,hd,e1⟩
   obtain⟨Av,hd2⟩:=B0.mp hd
   have hd2:¬d.k=slot:=by simpa using hd2
   exact⟨⟨d,Av,e1⟩,by omega⟩
structure GI (us:List (Int × Int)) (n:Int) (ts:List (Str × Int)) (G:fc):Prop where
 eu:G.ws.map (fun w=>(w.u,w.s))=us
 wh:∀k w,G.ws[k]? =some w->Se w fun x j=>∃t,(x,t)∈ts/\iu us t n=k/\t / w.u % w.s=j
 ei:∀c,c∈G.ei↔(c.2,c.1)∈ts/\iu us c.1 n=us.length
 NI:G.ei.Pairwise fun c d=>aW d c=true
theorem GI.at {G:fc} (h:GI us n ts G) {k:Nat} {w:Wh} (hw:G.ws[k]? =some w):us[k]? =some (w.u,w.s):=by
 rw [<-h.eu,Fa,hw];rfl
theorem GI.len {G:fc} (h:GI us n ts G):G.ws.length=us.length:=by
 rw [<-h.eu,AE]
theorem Rh {ws:List Wh} {k:Nat} {w w':Wh} (hw:ws[k]? =some w) (e:(w'.u,w'.s)=(w.u,w.s)):(ws.set k w').map (fun w=>(w.u,w.s))=ws.map fun w=>(w.u,w.s):=by
 rw [List.map_set,e]
 refine AaQ fun i=>?_
 rw [AaS]
 split
 . rename_i hi
   subst hi
   obtain⟨hk,rfl⟩:=AS.mp hw
   rw [if_pos (by simpa using hk)]
   simp [hk]
 . rfl
theorem GI.lay {m:Int} {G:fc} {w:Wh} (h:GI us n ts G) (hx:x∉ts.map (·.1)) (hw:G.ws[iu us t n]? =some w) (hs:0<w.s) (hm:ic (w.xT (t / w.u % w.s) m pd x)):
 GI us n (ts++[(x,t)]) ⟨G.q,G.f,G.ws.set (iu us t n) (w.xT (t / w.u % w.s) m pd x),G.ei⟩:=by
 have hnx:∀t',(x,t')∉ts:=fun t' hm=>hx (AN.mpr ⟨_,hm,rfl⟩)
 have hk:iu us t n<G.ws.length:=(AS.mp hw).1
 refine⟨(Rh (w':=w.xT (t / w.u % w.s) m pd x) hw rfl).trans h.eu,fun k w1 jn=>?_,fun c=>?_,h.NI⟩
 . replace jn:(G.ws.set (iu us t n) _)[k]? =some w1:=jn
   rw [AaS] at jn
   split at jn
   . rename_i e
     subst e
     obtain rfl:=Do jn
     refine((h.wh _ w hw).lay (m:=m) (pd:=pd) (fun j ⟨t',h1,_⟩=>hnx t' h1) (Int.emod_nonneg _ (by omega)) (AaB _ hs) hm).congr fun y j=>?_
     constructor
     . rintro(⟨t',h1,h2,h3⟩|⟨rfl,rfl⟩)
       . exact⟨t',EU _ h1,h2,h3⟩
       . exact⟨t,CC _ (by simp),rfl,rfl⟩
     . rintro⟨t',h1,h2,h3⟩
       rcases Co.mp h1 with h1|h1
       . exact .inl ⟨t',h1,h2,h3⟩
       . have:y=x/\t'=t:=by simpa using h1
         obtain⟨rfl,rfl⟩:=this
         exact .inr ⟨rfl,h3.symm⟩
   . rename_i e
     refine(h.wh k w1 jn).congr fun y j=>⟨fun⟨t',h1,h2,h3⟩=>⟨t',EU _ h1,h2,h3⟩,fun⟨t',h1,h2,h3⟩=>?_⟩
     rcases Co.mp h1 with h1|h1
     . exact⟨t',h1,h2,h3⟩
     . have:y=x/\t'=t:=by simpa using h1
       obtain⟨rfl,rfl⟩:=this
       exact absurd h2 e
 . refine(h.ei c).trans ⟨fun⟨h1,h2⟩=>⟨EU _ h1,h2⟩,fun⟨h1,h2⟩=>?_⟩
   rcases Co.mp h1 with h1|h1
   . exact⟨h1,h2⟩
   . have:c.2=x/\c.1=t:=by simpa using h1
     rw [this.2] at h2
     have:=h.len
     omega
theorem Qs {α:Type} {xs:List α} {k:Nat} {y c:α}:c∈t9 xs k y↔c∈xs\/c=y:=by
 unfold t9
 rw [Co,AD]
 constructor
 . rintro(h|h|h)
   . exact .inl (Abb h)
   . exact .inr h
   . exact .inl (List.mem_of_mem_drop h)
 . rintro(h|h)
   . rw [<-TW k xs,Co] at h
     rcases h with h|h
     . exact .inl h
     . exact .inr (.inr h)
   . exact .inr (.inl h)
def Plc (ei:List (Int × Str)) (c:Int × Str) (i:Nat):Prop:=i<=ei.length/\(∀j d,j<i->ei[j]? =some d->aW c d=true)/\∀j d,i<=j->ei[j]? =some d->aW c d=false
theorem vJ {a b:Int × Str} (h:aW a b=true) (h2:aW b c=true):aW a c=true:=by
 cases e:aW a c with
 |true=>rfl
 |false=>
  have h3:=BE e (Bj h2)
  rw [h3] at h;cases h
theorem ZY (h:ei.Pairwise fun c d=>aW d c=true) (hp:Plc ei c i) (hc:c∉ei):(t9 ei i c).Pairwise fun c d=>aW d c=true:=by
 obtain⟨hi,h1,h2⟩:=hp
 have h':=h
 rw [<-TW i ei,SZ] at h'
 obtain⟨a1,a2,a3⟩:=h'
 unfold t9
 rw [SZ,OR]
 have hb:∀d∈ei.drop i,aW d c=true:=fun d hd=>by
  obtain⟨j,hj,rfl⟩:=Pf hd
  have:=h2 (i+j) ((ei.drop i)[j]) (by omega) (by rw [<-List.getElem?_drop];exact AC hj)
  cases e:aW (ei.drop i)[j] c with
  |true=>rfl
  |false=>
   have:=Gk this e
   exact absurd (List.mem_of_mem_drop (this▸hd)) hc
 have ha:∀d∈ei.take i,aW c d=true:=fun d hd=>by
  obtain⟨j,hj,rfl⟩:=Pf hd
  rw [KM] at hj
  have hj1:j<i:=by omega
  have Ol:j<ei.length:=by omega
  have:=h1 j ei[j] hj1 (AC Ol)
  rw [AbN];exact this
 refine⟨a1,⟨hb,a2⟩,fun x hx y hy=>?_⟩
 rcases AD.mp hy with rfl|hy
 . exact ha x hx
 . exact vJ (hb y hy) (ha x hx)
theorem GI.ZL {G:fc} (h:GI us n ts G) (hx:x∉ts.map (·.1)) (hw:iu us t n=us.length) (hi:Plc G.ei (t,x) i):
 GI us n (ts++[(x,t)]) ⟨G.q,G.f,G.ws,t9 G.ei i (t,x)⟩:=by
 have hnx:∀t',(x,t')∉ts:=fun t' hm=>hx (AN.mpr ⟨_,hm,rfl⟩)
 refine⟨h.eu,fun k w1 jn=>?_,fun c=>?_,ZY h.NI hi fun z=>hnx t ((h.ei _).mp z).1⟩
 . refine(h.wh k w1 jn).congr fun y j=>⟨fun⟨t',h1,h2,h3⟩=>⟨t',EU _ h1,h2,h3⟩,fun⟨t',h1,h2,h3⟩=>?_⟩
   rcases Co.mp h1 with h1|h1
   . exact⟨t',h1,h2,h3⟩
   . have:y=x/\t'=t:=by simpa using h1
     obtain⟨rfl,rfl⟩:=this
     have h4:k<G.ws.length:=(AS.mp jn).1
     have:=h.len
     omega
 . rw [Qs,h.ei c]
   constructor
   . rintro(⟨h1,h2⟩|rfl)
     . exact⟨EU _ h1,h2⟩
     . exact⟨CC _ (by simp),hw⟩
   . rintro⟨h1,h2⟩
     rcases Co.mp h1 with h1|h1
     . exact .inl ⟨h1,h2⟩
     . have:c.2=x/\c.1=t:=by simpa using h1
       exact .inr (Ab3 this.2 this.1)
def iQ (ts:List (Str × Int)) (x:Str):List (Str × Int):=ts.filter fun y=>!decide (y.1=x)
theorem c9:y∈iQ ts x↔y∈ts/\y.1≠x:=by
 unfold iQ
 rw [B0]
 simp
theorem lR (h:(ts.map (·.1)).Nodup) {t':Int} (h1:(x,t)∈ts) (h2:(x,t')∈ts):t=t':=by
 induction ts with
 |nil=>cases h1
 |cons y r ih=>
  rw [EN,EO] at h
  rcases AD.mp h1 with e1|e1
  . rcases AD.mp h2 with e2|e2
    . rw [<-e1] at e2;exact(AaT e2).2.symm
    . exact absurd (AN.mpr ⟨_,e2,rfl⟩) (by rw [<-e1] at h;exact h.1)
  . rcases AD.mp h2 with e2|e2
    . exact absurd (AN.mpr ⟨_,e1,rfl⟩) (by rw [<-e2] at h;exact h.1)
    . exact ih h.2 e1 e2
theorem GI.lift {m:Int} {G:fc} {w:Wh} (h:GI us n ts G) (j9:(ts.map (·.1)).Nodup) (hx:(x,t)∈ts) (hw:G.ws[iu us t n]? =some w) (hm:ic (w.lY (t / w.u % w.s) m x)):
 GI us n (iQ ts x) ⟨G.q,G.f,G.ws.set (iu us t n) (w.lY (t / w.u % w.s) m x),G.ei⟩:=by
 have hk:iu us t n<G.ws.length:=(AS.mp hw).1
 refine⟨(Rh (w':=w.lY (t / w.u % w.s) m x) hw rfl).trans h.eu,fun k w1 jn=>?_,fun c=>?_,h.NI⟩
 . replace jn:(G.ws.set (iu us t n) _)[k]? =some w1:=jn
   rw [AaS] at jn
   split at jn
   . rename_i e
     subst e
     obtain rfl:=Do jn
     refine((h.wh _ w hw).lift (m:=m) (x:=x) (slot:=t / w.u % w.s) (fun j ⟨t',h1,h2,h3⟩=>?_) hm).congr fun y j=>⟨fun⟨⟨t',h1,h2,h3⟩,mS⟩=>⟨t',c9.mpr ⟨h1,mS⟩,h2,h3⟩,fun⟨t',h1,h2,h3⟩=>?_⟩
     . rw [lR j9 hx h1];exact h3.symm
     . obtain⟨h1,mS⟩:=c9.mp h1
       exact⟨⟨t',h1,h2,h3⟩,mS⟩
   . rename_i e
     refine(h.wh k w1 jn).congr fun y j=>⟨fun⟨t',h1,h2,h3⟩=>⟨t',c9.mpr ⟨h1,fun z=>e ?_⟩,h2,h3⟩,fun⟨t',h1,h2,h3⟩=>⟨t',(c9.mp h1).1,h2,h3⟩⟩
     have z:y=x:=z
     subst z
     rw [lR j9 hx h1];exact h2
 . refine(h.ei c).trans ⟨fun⟨h1,h2⟩=>⟨c9.mpr ⟨h1,fun z=>?_⟩,h2⟩,fun⟨h1,h2⟩=>⟨(c9.mp h1).1,h2⟩⟩
   have z:c.2=x:=z
   rw [z] at h1
   rw [lR j9 h1 hx] at h2
   have:=h.len
   omega
theorem XR (h:ei.Pairwise fun c d=>aW d c=true) (hp:Plc ei c i) (hc:c∈ei):ei[i]? =some c:=by
 obtain⟨j,hj,rfl⟩:=Pf hc
 obtain⟨_,h1,h2⟩:=hp
 have e:i=j:=by
  by_cases c1:j<i
  . have:=h1 j _ c1 (AC hj)
    rw [gI] at this;cases this
  . by_cases c2:i<j
    . have:=h2 i ei[i] (BN _) (AC (by omega))
      rw [NJ.mp h i j (by omega) hj c2] at this
      cases this
    . omega
 rw [e];exact AC hj
theorem mem_erase (h:ei.Pairwise fun c d=>aW d c=true) (hc:ei[i]? =some c) {d:Int × Str}:d∈ei.eraseIdx i↔d∈ei/\d≠c:=by
 obtain⟨hi,rfl⟩:=AS.mp hc
 have pw:=NJ.mp h
 constructor
 . intro hd
   obtain⟨j,hj,mS⟩:=List.mem_eraseIdx_iff_getElem?.mp hd
   obtain⟨hj',rfl⟩:=AS.mp mS
   refine⟨Aa7 _,fun z=>?_⟩
   by_cases c1:j<i
   . have:=pw j i hj' hi c1
     rw [z,gI] at this;cases this
   . have:=pw i j hi hj' (by omega)
     rw [z,gI] at this;cases this
 . rintro⟨hd,mS⟩
   obtain⟨j,hj,rfl⟩:=Pf hd
   exact List.mem_eraseIdx_iff_getElem?.mpr ⟨j,fun z=>mS (by subst z;rfl),AC hj⟩
theorem GI.UW {G:fc} (h:GI us n ts G) (j9:(ts.map (·.1)).Nodup) (hx:(x,t)∈ts) (hw:iu us t n=us.length) (hi:G.ei[i]? =some (t,x)):
 GI us n (iQ ts x) ⟨G.q,G.f,G.ws,G.ei.eraseIdx i⟩:=by
 refine⟨h.eu,fun k w1 jn=>?_,fun c=>?_,h.NI.sublist (List.eraseIdx_sublist _ _)⟩
 . refine(h.wh k w1 jn).congr fun y j=>⟨fun⟨t',h1,h2,h3⟩=>⟨t',c9.mpr ⟨h1,fun z=>?_⟩,h2,h3⟩,fun⟨t',h1,h2,h3⟩=>⟨t',(c9.mp h1).1,h2,h3⟩⟩
   have z:y=x:=z
   subst z
   rw [lR j9 h1 hx] at h2
   have h4:k<G.ws.length:=(AS.mp jn).1
   have:=h.len
   omega
 . show c∈G.ei.eraseIdx i↔_
   rw [mem_erase h.NI hi,h.ei c]
   constructor
   . rintro⟨⟨h1,h2⟩,h3⟩
     refine⟨c9.mpr ⟨h1,fun z=>h3 ?_⟩,h2⟩
     have z:c.2=x:=z
     rw [z] at h1
     exact Ab3 (lR j9 h1 hx) z
   . rintro⟨h1,h2⟩
     obtain⟨h1,h3⟩:=c9.mp h1
     exact⟨⟨h1,h2⟩,fun z=>h3 (by rw [z])⟩
def Sq (u s m:Int) (dn:Addr):List (Str × V):=[("unit",.int u),("slots",.int s),("span",.int (u*s)),("mask",.int m),("names_in",.ref dn)]
def yp (cs:List Sl):List (Key × V):=cs.map fun c=>(Aa6 c.k,V.ref c.p)
def FZ (ns:List Str):List (Str × BB):=ns.map fun x=>(x,.bool true)
structure jo (C:Addr) (H:Hp) (w:Wh):Prop where
 i:∃dx,H w.x=some (.ins C dx (Sq w.u w.s w.m w.dn))
 d:H w.dn=some (.dK (yp w.cs))
 c:∀c∈w.cs,oq H c.p (FZ c.ns)
def Wh.foot (w:Wh):List Addr:=w.x::w.dn::w.cs.map (·.p)
def fc.foot (G:fc):List Addr:=G.q::G.f::G.ws.flatMap Wh.foot
theorem jo.keeps {w:Wh} (sm:ay H H') (h:jo C H w):jo C H' w:=⟨let ⟨dx,e⟩:=h.i;⟨dx,sm _ _ e⟩,sm _ _ h.d,fun c hc=>(h.c c hc).keeps sm⟩
theorem jo.mv {w:Wh} (mv:Mv S H H') (n:∀b∈w.foot,b∉S) (h:jo C H w):jo C H' w:=by
 refine⟨?_,mv.at (n _ (by simp [Wh.foot])) h.d,fun c hc=>(h.c c hc).mv mv (n _ ?_)⟩
 . obtain⟨dx,e⟩:=h.i
   exact⟨dx,mv.at (n _ (by simp [Wh.foot])) e⟩
 . unfold Wh.foot
   exact AL _ (AL _ (Cc hc))
theorem jo.alive {w:Wh} (h:jo C H w):∀b∈w.foot,H b≠none:=by
 intro b hb
 unfold Wh.foot at hb
 rcases AD.mp hb with rfl|hb
 . obtain⟨dx,e⟩:=h.i
   rw [e];simp
 . rcases AD.mp hb with rfl|hb
   . rw [h.d];simp
   . obtain⟨c,hc,rfl⟩:=AN.mp hb
     obtain⟨kvs,e,_⟩:=h.c c hc
     rw [e];simp
theorem RC {cs:List Sl} {k:Int} (h:∀c∈cs,c.k≠k):kU (yp cs) (.inl k)=none:=by
 unfold kU yp
 rw [W1,So]
 intro kv hkv
 obtain⟨c,hc,rfl⟩:=AN.mp hkv
 simp [h c hc]
theorem rD {cs:List Sl} {c:Sl} (hn:(cs.map (·.k)).Nodup) (hc:c∈cs):kU (yp cs) (.inl c.k)=some (.ref c.p):=by
 induction cs with
 |nil=>cases hc
 |cons y r ih=>
  rw [EN,EO] at hn
  rcases AD.mp hc with rfl|hc
  . exact oR rfl
  . have mS:y.k≠c.k:=fun z=>hn.1 (z▸Cc (f:=(·.k)) hc)
    exact(lS (fun z=>mS (Aa6.inj z))).trans (ih hn.2 hc)
theorem Fc {cs:List Sl} {k:Int} (h:∀c∈cs,c.k≠k):putK (yp cs) (.inl k) (.ref p)=yp (cs++[⟨k,p,ns⟩]):=by
 have e:((yp cs).any fun kv=>decide (kv.1=Aa6 k))=false:=by
  rw [<-Aaq,M2]
  rintro⟨kv,h1,h2⟩
  unfold yp at h1
  obtain⟨c,hc,rfl⟩:=AN.mp h1
  exact h c hc (Aa6.inj (of_decide_eq_true h2))
 unfold putK
 rw [e,if_neg (by decide)]
 unfold yp
 rw [CS];rfl
theorem RD (cs:List Sl) (k:Int):lT (yp cs) (.inl k)=yp (lz cs k):=by
 unfold lT yp lz
 rw [AaF]
 congr 1
 refine Tk fun c _=>?_
 simp [Abf]
theorem KD {cs:List Sl} {f:Sl->Sl} (h1:∀c,(f c).k=c.k) (h2:∀c,(f c).p=c.p):yp (cs.map f)=yp cs:=by
 unfold yp
 rw [GM]
 refine Tu fun c _=>?_
 show(Aa6 (f c).k,V.ref (f c).p)=_
 rw [h1,h2]
theorem SM (cs:List Sl):(yp cs).length=cs.length:=AE ..
theorem Ve (ns:List Str):(FZ ns).length=ns.length:=AE ..
theorem Qx (h:x∈ns):uj (FZ ns) x=some (.bool true):=by
 unfold uj FZ
 induction ns with
 |nil=>cases h
 |cons y r ih=>
  rw [EN,Sc]
  by_cases e:y=x
  . simp [e]
  . simp only [e,decide_false]
    exact ih ((AD.mp h).resolve_left fun z=>e z.symm)
theorem Uj (h:x∉ns):putD (FZ ns) x (.bool true)=FZ (ns++[x]):=by
 unfold putD
 have e:((FZ ns).any fun kv=>decide (kv.1=x))=false:=by
  rw [<-Aaq,M2]
  rintro⟨kv,h1,h2⟩
  unfold FZ at h1
  obtain⟨y,hy,rfl⟩:=AN.mp h1
  exact h (of_decide_eq_true h2▸hy)
 rw [e,if_neg (by decide)]
 unfold FZ
 rw [CS];rfl
theorem QO (ns:List Str) (x:Str):sg (FZ ns) x=FZ (ns.filter fun y=>!decide (y=x)):=by
 unfold sg FZ
 rw [AaF]
 congr 1
 refine Tk fun y _=>?_
 simp [Abf]
theorem z6 {w:Wh} (h:w.foot.Nodup):w.x≠w.dn/\(∀c∈w.cs,c.p≠w.x/\c.p≠w.dn)/\(w.cs.map (·.p)).Nodup:=by
 unfold Wh.foot at h
 rw [EO,EO] at h
 refine⟨fun z=>h.1 (by simp [z]),fun c hc=>⟨fun z=>h.1 ?_,fun z=>h.2.1 (z▸Cc hc)⟩,h.2.2⟩
 exact AL _ (z▸Cc (f:=(·.p)) hc)
theorem V5 {cs:List Sl} (h:(cs.map (·.p)).Nodup) {c d:Sl} (hc:c∈cs) (hd:d∈cs) (e:c.p=d.p):c=d:=by
 induction cs with
 |nil=>cases hc
 |cons y r ih=>
  rw [EN,EO] at h
  rcases AD.mp hc with rfl|xt
  . rcases AD.mp hd with rfl|rl
    . rfl
    . exact absurd (Cc (f:=(·.p)) rl) (e▸h.1)
  . rcases AD.mp hd with rfl|rl
    . exact absurd (Cc (f:=(·.p)) xt) (e▸h.1)
    . exact ih h.2 xt rl
theorem LN {cs:List Sl} (h:(cs.map (·.k)).Nodup) {c d:Sl} (hc:c∈cs) (hd:d∈cs) (e:c.k=d.k):c=d:=by
 induction cs with
 |nil=>cases hc
 |cons y r ih=>
  rw [EN,EO] at h
  rcases AD.mp hc with rfl|xt
  . rcases AD.mp hd with rfl|rl
    . rfl
    . exact absurd (Cc (f:=(·.k)) rl) (e▸h.1)
  . rcases AD.mp hd with rfl|rl
    . exact absurd (Cc (f:=(·.k)) xt) (e▸h.1)
    . exact ih h.2 xt rl
def EY (us:List (Int × Int)):Prop:=∀q∈us,0<q.1/\q.1<=10^12/\2<=q.2/\q.2<=60
def Nv (w:Wh):Prop:=0<w.u/\w.u<=10^12/\2<=w.s/\w.s<=60
theorem Qp {t:Addr} {v1 v2:V} {R:St->Hp->Prop} (ha:H t=some (.tup [v1,v2])) (h:R ((σ.set i (some v1)).set j (some v2)) H):Ii K 2 (uP (lC i) (uP (lC j) M3)) (.ref t) σ H R:=
 ⟨_,_,rfl,.of ha,rfl,_,_,rfl,_,_,rfl,rfl,h⟩
structure zT (CW:Addr) (H:Hp) (G:fc):Prop where
 q:H G.q=some (.lst (G.ws.map fun w=>V.ref w.x))
 f:dg H G.f (G.ei.map pairD)
 w:∀w∈G.ws,jo CW H w
 nd:G.foot.Nodup
theorem zT.keeps {G:fc} (sm:ay H H') (h:zT C H G):zT C H' G:=⟨sm _ _ h.q,h.f.keeps sm,fun w hw=>(h.w w hw).keeps sm,h.nd⟩
theorem oE {G:fc} {w:Wh} (hw:w∈G.ws):∀b∈w.foot,b∈G.foot:=fun b hb=>AL _ (AL _ (Lm.mpr ⟨w,hw,hb⟩))
theorem zT.mv {G:fc} (mv:Mv S H H') (n:∀b∈G.foot,b∉S) (h:zT C H G):zT C H' G:=
 ⟨mv.at (n _ (by simp [fc.foot])) h.q,h.f.mv mv (n _ (by simp [fc.foot])),fun w hw=>(h.w w hw).mv mv fun b hb=>n b (oE hw b hb),h.nd⟩
theorem zT.alive {G:fc} (h:zT C H G):∀b∈G.foot,H b≠none:=by
 intro b hb
 unfold fc.foot at hb
 rcases AD.mp hb with rfl|hb
 . rw [h.q];simp
 . rcases AD.mp hb with rfl|hb
   . obtain⟨xs,e,_⟩:=h.f
     rw [e];simp
   . obtain⟨w,hw,hb⟩:=Lm.mp hb
     exact(h.w w hw).alive b hb
theorem zT.D3 {G:fc} (h:zT C H G):G.q≠G.f/\(∀w∈G.ws,∀b∈w.foot,b≠G.q/\b≠G.f)/\(G.ws.flatMap Wh.foot).Nodup:=by
 have hn:=h.nd
 unfold fc.foot at hn
 rw [EO,EO] at hn
 refine⟨fun z=>hn.1 (by simp [z]),fun w hw b hb=>⟨fun z=>hn.1 ?_,fun z=>hn.2.1 (z▸Lm.mpr ⟨w,hw,hb⟩)⟩,hn.2.2⟩
 exact AL _ (z▸Lm.mpr ⟨w,hw,hb⟩)
theorem xC {l:List α} {k:Nat} {w:α} (h:l[k]? =some w) (w':α):l=l.take k++w::l.drop (k+1)/\l.set k w'=l.take k++w'::l.drop (k+1):=by
 obtain⟨hk,rfl⟩:=AS.mp h
 constructor
 . rw [List.getElem_cons_drop];exact(TW k l).symm
 . rw [List.set_eq_take_append_cons_drop,if_pos hk]
theorem zT.set {G:fc} {k:Nat} {w w':Wh} (h:zT C H G) (hw:G.ws[k]? =some w) (mv:Mv w.foot H H') (K9:jo C H' w') (ex:w'.x=w.x) (hn:w'.foot.Nodup) (hs:∀b∈w'.foot,b∈w.foot\/H b=none):
 zT C H' ⟨G.q,G.f,G.ws.set k w',G.ei⟩/\∀b∈fc.foot ⟨G.q,G.f,G.ws.set k w',G.ei⟩,b∈G.foot\/H b=none:=by
 obtain⟨f1,f2,f3⟩:=h.D3
 obtain⟨e1,e2⟩:=xC hw w'
 have hwm:w∈G.ws:=Cf hw
 have Za:∀b∈fc.foot ⟨G.q,G.f,G.ws.set k w',G.ei⟩,b∈G.foot\/H b=none:=fun b hb=>by
  unfold fc.foot at hb
  rcases AD.mp hb with rfl|hb
  . exact .inl (by simp [fc.foot])
  . rcases AD.mp hb with rfl|hb
    . exact .inl (by simp [fc.foot])
    . obtain⟨y,hy,Ih⟩:=Lm.mp hb
      have hy:y∈G.ws.set k w':=hy
      rcases List.mem_or_eq_of_mem_set hy with hy|hy
      . exact .inl (oE hy b Ih)
      . rcases hs b (hy▸Ih) with q|q
        . exact .inl (oE hwm b q)
        . exact .inr q
 refine⟨⟨?_,h.f.mv mv fun z=>(f2 w hwm _ z).2 rfl,fun y hy=>?_,?_⟩,Za⟩
 . show H' G.q=some (.lst ((G.ws.set k w').map _))
   rw [show(G.ws.set k w').map (fun w=>V.ref w.x)=G.ws.map fun w=>V.ref w.x from ?_]
   . exact mv.at (fun z=>(f2 w hwm _ z).1 rfl) h.q
   . rw [e2,CS,EN,ex]
     conv=>rhs;rw [e1,CS,EN]
 . have hy:y∈G.ws.set k w':=hy
   obtain⟨j,hj⟩:=Aba hy
   rw [AaS] at hj
   split at hj
   . split at hj
     . cases hj;exact K9
     . cases hj
   . rename_i Vs
     refine(h.w y (Cf hj)).mv mv fun b hb xK=>?_
     have key:∀(l:List Wh) (i j:Nat) (x y:Wh),(l.flatMap Wh.foot).Nodup->l[i]? =some x->l[j]? =some y->i≠j->∀b∈x.foot,b∉y.foot:=by
      intro l
      induction l with
      |nil=>intro i j x y _ hx;simp at hx
      |cons z r ih=>
       intro i j x y hn hx hy vX b hb Ih
       rw [NL,Go] at hn
       obtain⟨_,mR,pU⟩:=hn
       cases i with
       |zero=>
        cases j with
        |zero=>exact vX rfl
        |succ j=>
         have hx:z=x:=by simpa using hx
         have hy:r[j]? =some y:=by simpa using hy
         exact pU b (hx▸hb) b (Lm.mpr ⟨y,Cf hy,Ih⟩) rfl
       |succ i=>
        have hx:r[i]? =some x:=by simpa using hx
        cases j with
        |zero=>
         have hy:z=y:=by simpa using hy
         exact pU b (hy▸Ih) b (Lm.mpr ⟨x,Cf hx,hb⟩) rfl
        |succ j=>
         have hy:r[j]? =some y:=by simpa using hy
         exact ih i j x y mR hx hy (fun z=>vX (by rw [z])) b hb Ih
     exact key G.ws k j w y f3 hw hj Vs b xK hb
 . have F2:=h.nd
   unfold fc.foot at F2 ⊢
   show(G.q::G.f::(G.ws.set k w').flatMap Wh.foot).Nodup
   rw [e1] at F2
   rw [e2]
   rw [LG,NL] at F2 ⊢
   have c1:G.q::G.f::((G.ws.take k).flatMap Wh.foot++(w.foot++(G.ws.drop (k+1)).flatMap Wh.foot))=(G.q::G.f::(G.ws.take k).flatMap Wh.foot)++(w.foot++(G.ws.drop (k+1)).flatMap Wh.foot):=by simp
   have c2:G.q::G.f::((G.ws.take k).flatMap Wh.foot++(w'.foot++(G.ws.drop (k+1)).flatMap Wh.foot))=(G.q::G.f::(G.ws.take k).flatMap Wh.foot)++(w'.foot++(G.ws.drop (k+1)).flatMap Wh.foot):=by simp
   rw [c1] at F2
   rw [c2]
   refine Tx F2 hn fun b hb=>?_
   rcases hs b hb with q|q
   . exact .inl q
   . have Je:=h.alive
     refine .inr ⟨fun z=>Je b ?_ q,fun z=>Je b ?_ q⟩
     . unfold fc.foot
       rw [e1,LG]
       rcases AD.mp z with rfl|z
       . simp
       . rcases AD.mp z with rfl|z
         . simp
         . exact AL _ (AL _ (EU _ z))
     . unfold fc.foot
       rw [e1,LG,NL]
       exact AL _ (AL _ (CC _ (CC _ z)))
theorem zT.adn {G:fc} (h:zT C H G) (mv:Mv [G.f] H H') (hf:dg H' G.f (ei.map pairD)):zT C H' ⟨G.q,G.f,G.ws,ei⟩:=by
 obtain⟨f1,f2,f3⟩:=h.D3
 exact⟨mv.at (by simpa using f1) h.q,hf,fun w hw=>(h.w w hw).mv mv fun b hb=>by simpa using (f2 w hw b hb).2,h.nd⟩
theorem GI.bnd {G:fc} (h:GI us n ts G) (hu:EY us) {k:Nat} {w:Wh} (hw:G.ws[k]? =some w):Nv w:=by
 have:=hu _ (Cf (h.at hw))
 exact this
theorem GI.small {G:fc} (h:GI us n ts G) (hu:EY us) {k:Nat} {w:Wh} (hw:G.ws[k]? =some w):w.cs.length<=60/\∀c∈w.cs,c.ns.length<=ts.length:=by
 have hi:=h.wh k w hw
 have hb:=h.bnd hu hw
 constructor
 . have:=tj (l':=(AbF 60).map fun i:Nat=>(i:Int)) hi.nd fun x hx=>by
    obtain⟨c,hc,rfl⟩:=AN.mp hx
    obtain⟨_,_,h0,h1⟩:=hi.ne c hc
    refine AN.mpr ⟨c.k.toNat,AbA.mpr ?_,by omega⟩
    have:=hb.2.2.2
    omega
   simpa using this
 . intro c hc
   have:=tj (l':=ts.map (·.1)) (hi.ne c hc).2.1 fun x hx=>by
    obtain⟨t,ht,_⟩:=(hi.mem x c.k).mp ⟨c,hc,rfl,hx⟩
    exact AN.mpr ⟨_,ht,rfl⟩
   simpa using this
theorem GI.Jy {G:fc} (h:GI us n ts G):G.ei.length<=ts.length:=by
 have j9:G.ei.Nodup:=h.NI.imp fun {a b} hab e=>by subst e;rw [gI] at hab;cases hab
 have:=tj (l':=ts.map fun x=>(x.2,x.1)) j9 fun x hx=>AN.mpr ⟨_,((h.ei x).mp hx).1,rfl⟩
 simpa using this
def Lp:Sp:=fun vs H Q _=>∃(l:Addr) (rs:List Int),vs=[.ref l]/\dg H l (rs.map Pd)/\1<=rs.length/\rs.length<=6/\(∀r∈rs,2<=r/\r<=60)/\Q .aQ H
theorem TN (T:Txt K mg a):aP P w K mg base eG 2 a.cB a.qC ["rounds"] Lp:=by
 have uX:=xJ (P:=P) (w:=w) (base:=base) T
 refine T.mC.ok qG (fun vs H Q E h=>?_) (fun c7 A outer s H vs Q E hr h=>?_)
 . obtain⟨_,_,rfl,_⟩:=h;rfl
 . obtain⟨l,rs,rfl,hl,h1,h6,Et,q⟩:=h
   have hln:(rs.map Pd).length=rs.length:=AE ..
   refine⟨_,(ag (bB (PW.pt (DZ (iY (bI (aU jZ rfl T.bq LB (ae (pv 0) (ae (mZ (v:=.ty "list") rfl T.p9 XV rfl) af))) (fun _=>rfl))) (BI (iY (GX qQ qQ aq (aU iC rfl T.lW T0 (ae (pv 0) af)) (Af (v:=.int 6) rfl T.sM ⟨_,rfl⟩))))))
    (ah fA)
    aN)
    (ah (kC KB rfl (cR (pv 0)) (a0 (i:=1) qG.nd rfl (FS rfl))
     (ah (bB (PW.pt (DZ (iY (bI (dA uX (hr.mono (by decide)) rfl T.sj T.r6 (ae (pv 1) af)) (fun _=>rfl))) (BI (iY (GX qQ qQ (Af (v:=.int 2) rfl T.tF ⟨_,rfl⟩) (pv 1) (Af (v:=.int 60) rfl T.um ⟨_,rfl⟩))))))
      (ah fA)
      aN))))),?_⟩
   repeat' (walk_at "rd1")
   refine G4 (Hb:=H) (cs:=rs) (gd:=Pd) hl.dv (fun j σ' H'=>H=H'/\∃z,σ'=[some (.ref l),z]) ⟨rfl,_,rfl⟩ (fun i σ' H' _ ⟨e,_⟩ a' xs _ hx=>e▸hx) ?_ ?_
   . rintro j i x σ' H' hj ⟨rfl,z,rfl⟩ _ Av
     have hx:Dv H x (.int i):=Av (ay.refl _)
     obtain⟨J1,ajp⟩:=Et i (Cf hj)
     obtain rfl:=hx.int_inv
     repeat' (walk_at "rd1")
     exact⟨rfl,_,rfl⟩
   . rintro σ' H' ⟨rfl,z,rfl⟩
     repeat' (walk_at "rd1")
     exact q
theorem P6 (T:Txt K mg a):df P w K mg base 2 a.cB ["rounds"] [] Lp:=
 ⟨⟨_,_,TN T,T.mC.binds fun _ _ _ _ _ _=>kO fun _=>rfl,.nil⟩⟩
def xW (C:Addr):Sp:=fun vs H Q _=>∃p dx u s,vs=[.ref p,.int u,.int s]/\H p=some (.ins C dx [])/\0<u/\u<=10^12/\0<s/\s<=60/\∀H' dn,Mv [p] H H'->H dn=none->jo C H' ⟨p,dn,u,s,0,[]⟩->Q .aQ H'
theorem NY (T:Txt K mg a):aP P w K mg base eG 1 a.cn a.nu ["self","unit","slots"] (xW a.aj):=by
 have n1:=T.gQ;have n2:=T.fG;have n3:=T.e6;have n4:=T.c5;have n5:=T.bR;have cl:=T.bP
 refine T.jE.ok xx (fun vs H Q E h=>?_) (fun c7 A outer s H vs Q E hr h=>?_)
 . obtain⟨_,_,_,_,rfl,_⟩:=h;rfl
 . obtain⟨p,dx,u,sl,rfl,hp,SV,R8,hs0,hs1,q⟩:=h
   refine⟨_,(ag (aV (pv 0) (pv 1) rfl)
    (ag (aV (pv 0) (pv 2) rfl)
    (ag (aV (pv 0) (aC EA (pv 1) (pv 2)) rfl)
    (ag (aV (pv 0) aq rfl)
    (ah (aV (pv 0) lU rfl)))))),?_⟩
   repeat' (walk_at "rd1")
   rename_i dn H2 jK mR hd2
   rw [jN,jN,jN] at jK mR
   have iE:Mv [p] H (upd H p (.ins a.aj dx [("unit",.int u),("slots",.int sl),("span",.int (u*sl)),("mask",.int 0)])):=.aS hp (by intro _ z;cases z)
   have e2:=jK p _ av
   have gH:Mv [p] H2 (upd H2 p (.ins a.aj dx (Sq u sl 0 dn))):=.aS e2 (by intro _ z;cases z)
   have j9:H dn=none:=iE.none mR
   have hdp:dn≠p:=Me (aA hp j9)
   refine q _ dn (iE.trans ((jK.mv (S:=[p])).trans gH)) j9 ⟨⟨dx,av⟩,?_,fun c hc=>by cases hc⟩
   obtain⟨kvs,e3,dk⟩:=hd2
   cases dk
   exact gH.at (by simpa using hdp) e3
theorem HM (T:Txt K mg a):df P w K mg base 1 a.cn ["self","unit","slots"] [] (xW a.aj):=
 ⟨⟨_,_,NY T,T.jE.binds fun _ _ _ _ _ _=>jr fun _ _ _=>rfl,.nil⟩⟩
theorem Fo {x:Addr} (hx:H x=none) (hd:H dx=none) (mv:Mv [x] (upd (upd H dx (.own x)) x (.ins C dx [])) H'):ay H H':=fun b u e=>by
 have hb:b≠x:=aA e hx
 refine mv.kp b u (by simpa using hb) ?_
 rw [az hb,az (aA e hd)]
 exact e
theorem xN {x d:Addr} (h:upd (upd H dx (.own x)) x (.ins C dx []) d=none):H d=none:=by
 unfold upd at h
 split at h
 . cases h
 . split at h
   . cases h
   . exact h
theorem P8 {s:Int} (SV:0<u) (R8:u<=10^12) (hs0:0<s) (hs1:s<=60) (k:∀x dn H2,ay H H2->H x=none->H dn=none->jo C H2 ⟨x,dn,u,s,0,[]⟩->Q (.ref x) H2):uq C (xW C) [.int u,.int s] H Q E:=
 ⟨_,rfl,fun x dx hx hd ne=>⟨x,dx,u,s,rfl,av,SV,R8,hs0,hs1,fun H' dn mv hdn hw=>⟨rfl,k x dn H' (Fo hx hd mv) hx (xN hdn) hw⟩⟩⟩
def B9 (CW:Addr):Sp:=fun vs H Q _=>∃(x:Addr) (y:Wh) (t n:Int),vs=[.ref x,.int t,.int n]/\x=y.x/\jo CW H y/\Nv y/\Q (.bl (decide (t / (y.u*y.s)=n / (y.u*y.s)))) H
theorem Lk {x:Addr} {y:Wh} (e:x=y.x) (h:jo CW H y) (hb:Nv y) (q:Q (.bl (decide (t / (y.u*y.s)=n / (y.u*y.s)))) H):B9 CW [.ref x,.int t,.int n] H Q E:=⟨x,y,t,n,rfl,e,h,hb,q⟩
theorem Ox (T:Txt K mg a):aP P w K mg base eG 1 a.dU a.tE ["self","time","now"] (B9 a.aj):=by
 have n3:=T.e6;have cl:=T.bP
 refine T.oB.ok Ay (fun vs H Q E h=>?_) (fun c7 A outer s H vs Q E hr h=>?_)
 . obtain⟨_,_,_,_,rfl,_⟩:=h;rfl
 . obtain⟨_,y,t,n,rfl,rfl,hw,⟨SV,R8,hs0,hs1⟩,q⟩:=h
   obtain⟨dx,hx⟩:=hw.i
   have hi:jF H (.ref y.x) a.aj [("unit",.int y.u),("slots",.int y.s),("span",.int (y.u*y.s)),("mask",.int y.m),("names_in",.ref y.dn)]:=⟨y.x,dx,rfl,hx⟩
   have abU:0<y.u*y.s:=Int.mul_pos SV (by omega)
   have hle:y.u*y.s<=10^12*60:=Int.mul_le_mul R8 hs1 (by omega) (by decide)
   generalize y.u*y.s=sp at*
   refine⟨_,(ah (aD (m3 (mD hr.F0) (aC bH (pv 1) (au (pv 0) rfl)) (aC bH (pv 2) (au (pv 0) rfl)) (aK _)))),?_⟩
   repeat' (walk_at "rd1")
   have e:decide (V.int (t / sp)=V.int (n / sp))=decide (t / sp=n / sp):=by simp
   show Q (.bl (decide (V.int (t / sp)=V.int (n / sp)))) H
   rw [e];exact q
theorem Dl (T:Txt K mg a):df P w K mg base 1 a.dU ["self","time","now"] [] (B9 a.aj):=
 ⟨⟨_,_,Ox T,T.oB.binds fun _ _ _ _ _ _=>jr fun _ _ _=>rfl,.nil⟩⟩
def fK (y:Wh) (t:Int):Int:=t / y.u % y.s
theorem xU {y:Wh} (h:Nv y) (t:Int):0<=fK y t:=Int.emod_nonneg _ (by have:=h.2.2.1;omega)
theorem B3 {y:Wh} (h:Nv y) (t:Int):fK y t<y.s:=AaB _ (by have:=h.2.2.1;omega)
def yb (CW:Addr):Sp:=fun vs H Q _=>∃(x:Addr) (y:Wh) (t:Int),vs=[.ref x,.int t]/\x=y.x/\jo CW H y/\Nv y/\Q (.int (fK y t)) H
theorem AB {x:Addr} {y:Wh} (e:x=y.x) (h:jo CW H y) (hb:Nv y) (q:Q (.int (fK y t)) H):yb CW [.ref x,.int t] H Q E:=⟨x,y,t,rfl,e,h,hb,q⟩
theorem Mj (T:Txt K mg a):aP P w K mg base eG 1 a.cL a.oW ["self","time"] (yb a.aj):=by
 have n1:=T.gQ;have n2:=T.fG;have cl:=T.bP
 refine T.kF.ok yE (fun vs H Q E h=>?_) (fun c7 A outer s H vs Q E hr h=>?_)
 . obtain⟨_,_,_,rfl,_⟩:=h;rfl
 . obtain⟨_,y,t,rfl,rfl,hw,⟨SV,R8,hs0,hs1⟩,q⟩:=h
   obtain⟨dx,hx⟩:=hw.i
   have hi:jF H (.ref y.x) a.aj [("unit",.int y.u),("slots",.int y.s),("span",.int (y.u*y.s)),("mask",.int y.m),("names_in",.ref y.dn)]:=⟨y.x,dx,rfl,hx⟩
   refine⟨_,(ah (aD (aC cG (aC bH (pv 1) (au (pv 0) rfl)) (au (pv 0) rfl)))),?_⟩
   repeat' (walk_at "rd1")
   exact q
theorem vb (T:Txt K mg a):df P w K mg base 1 a.cL ["self","time"] [] (yb a.aj):=
 ⟨⟨_,_,Mj T,T.kF.binds fun _ _ _ _ _ _=>dJ fun _ _=>rfl,.nil⟩⟩
def ua (cs:List Sl) (slot:Int) (pd:Addr):List Sl:=if (cs.any fun c=>decide (c.k=slot))=true then cs else cs++[⟨slot,pd,[]⟩]
theorem AX (cs:List Sl) (slot:Int) (pd:Addr) (x:Str):(ua cs slot pd).map (qi slot x)=qX cs slot pd x:=by
 unfold ua qX
 split
 . rfl
 . rename_i h
   rw [CS]
   have e1:cs.map (qi slot x)=cs:=by
    conv=>rhs;rw [<-List.map_id cs]
    refine Tu fun c hc=>?_
    unfold qi
    rw [if_neg fun z=>h (jY.mpr ⟨c,hc,z⟩)];rfl
   rw [e1]
   simp [qi]
theorem Qi (cs:List Sl) (slot:Int) (pd:Addr):∃c∈ua cs slot pd,c.k=slot:=by
 unfold ua
 split
 . rename_i h;exact jY.mp h
 . exact⟨_,CC _ (AR.mpr rfl),rfl⟩
theorem Ko {cs:List Sl} (h:(cs.map (·.k)).Nodup):((ua cs slot pd).map (·.k)).Nodup:=by
 unfold ua
 split
 . exact h
 . rename_i hn
   rw [CS,Go]
   refine⟨h,by simp,fun a ha b hb=>?_⟩
   obtain⟨c,hc,rfl⟩:=AN.mp ha
   have hb:b=slot:=by simpa using hb
   rw [hb];exact fun z=>hn (jY.mpr ⟨c,hc,z⟩)
def Gi (CW:Addr):Sp:=fun vs H Q _=>∃(z:Addr) (y:Wh) (x:Str) (t:Int),vs=[.ref z,.str x,.int t]/\z=y.x/\jo CW H y/\Nv y/\y.foot.Nodup/\(y.cs.map (·.k)).Nodup/\y.cs.length<=100/\(∀c∈y.cs,c.ns.length<=3000/\(c.k=fK y t->x∉c.ns))/\
 ∀H' pd,Mv y.foot H H'->jo CW H' (y.xT (fK y t) (RS y.m (1*2^(fK y t).toNat)) pd x)->(y.xT (fK y t) (RS y.m (1*2^(fK y t).toNat)) pd x).foot.Nodup->(∀b∈(y.xT (fK y t) (RS y.m (1*2^(fK y t).toNat)) pd x).foot,b∈y.foot\/H b=none)->Q .aQ H'
theorem Qk (T:Txt K mg a):aP P w K mg base eG 2 a.du a.qR ["self","name","time"] (Gi a.aj):=by
 have n1:=T.bR;have n2:=T.c5;have cl:=T.bP
 have px:=T.gX
 have o9:=vb (P:=P) (w:=w) (base:=base) T
 refine T.lZ.ok qy (fun vs H Q E h=>?_) (fun c7 A outer s H vs Q E hr h=>?_)
 . obtain⟨_,_,_,_,rfl,_⟩:=h;rfl
 . obtain⟨_,y,x,t,rfl,rfl,hw,hb,E3,Ep,VS,ML,q⟩:=h
   obtain⟨dx,hx⟩:=hw.i
   have hi:jF H (.ref y.x) a.aj [("unit",.int y.u),("slots",.int y.s),("span",.int (y.u*y.s)),("mask",.int y.m),("names_in",.ref y.dn)]:=⟨y.x,dx,rfl,hx⟩
   have s0:=xU hb t
   have s1:=B3 hb t
   have s2:=hb.2.2.2
   refine⟨_,(ag (aE (i:=3) qy.nd rfl (FS rfl) (aB (pv 0) cl px o9 (hr.mono (by decide)) (ae (pv 2) af)))
    (cN (bB (E4 (DH (iz hr) (pv 3) (au (pv 0) rfl)) rfl)
     (ah (t6 (iz hr) (au (pv 0) rfl) (pv 3) lU rfl))
     aN)
    (ag (t6 (iz hr) (mM (iz hr) (au (pv 0) rfl) (pv 3) (fun _ _=>rfl)) (pv 1) wx rfl)
    (ah (aV (pv 0) (aC abw (au (pv 0) rfl) (aC Fu aq (pv 3))) rfl))))),?_⟩
   repeat' (walk_at "rd1")
   refine AB rfl hw hb ?_
   generalize V1:fK y t=slot at*
   refine gw (fun σ' H'=>∃pd,σ'=[some (.ref y.x),some (.str x),some (.int t),some (.int slot)]/\Mv y.foot H H'/\jo a.aj H' ⟨y.x,y.dn,y.u,y.s,y.m,ua y.cs slot pd⟩/\(∀b∈Wh.foot ⟨y.x,y.dn,y.u,y.s,y.m,ua y.cs slot pd⟩,b∈y.foot\/H b=none)/\(Wh.foot ⟨y.x,y.dn,y.u,y.s,y.m,ua y.cs slot pd⟩).Nodup) ?_ ?_
   . repeat' (walk_at "rd1")
     by_cases hp:(y.cs.any fun c=>decide (c.k=slot))=true
     . obtain⟨c,hc,hk⟩:=jY.mp hp
       refine⟨y.dn,some (.ref c.p),rfl,by rw [<-rD Ep hc,hk];exact ie.k (k:=.inl slot) hw.d,false,rfl,?_⟩
       repeat' (walk_at "rd1")
       have e:ua y.cs slot y.dn=y.cs:=if_pos hp
       exact⟨y.dn,rfl,Mv.refl,by rw [e];exact hw,fun b hb=>.inl (by rw [e] at hb;exact hb),by rw [e];exact E3⟩
     . have t7:∀c∈y.cs,c.k≠slot:=fun c hc z=>hp (jY.mpr ⟨c,hc,z⟩)
       refine⟨y.dn,none,rfl,by rw [<-RC t7];exact ie.k (k:=.inl slot) hw.d,true,rfl,?_⟩
       repeat' (walk_at "rd1")
       rename_i pd H2 jK mR hd2
       have zo:=hw.keeps jK
       have e:ua y.cs slot pd=y.cs++[⟨slot,pd,[]⟩]:=if_neg hp
       refine⟨y.dn,_,rfl,CL.k (k:=.inl slot) zo.d (by rw [SM];exact hV (by omega)),?_⟩
       have pG:Mv [y.dn] H2 (upd H2 y.dn (.dK (putK (yp y.cs) (.inl slot) (.ref pd)))):=.aS zo.d (by intro _ z;cases z)
       have Je:=hw.alive
       have hpn:∀b∈y.foot,b≠pd:=fun b hb z=>Je b hb (z▸mR)
       have hpd:pd≠y.dn:=fun z=>hpn y.dn (by simp [Wh.foot]) z.symm
       obtain⟨f1,f2,f3⟩:=z6 E3
       have hpf:(Wh.foot ⟨y.x,y.dn,y.u,y.s,y.m,ua y.cs slot pd⟩)=y.foot++[pd]:=by
        unfold Wh.foot
        rw [e];simp
       refine⟨pd,rfl,(jK.mv).trans (cS pG fun b hb=>?_),⟨?_,?_,?_⟩,fun b hb=>?_,?_⟩
       . have:b=y.dn:=by simpa using hb
         rw [this];simp [Wh.foot]
       . obtain⟨dx2,K5⟩:=zo.i
         exact⟨dx2,pG.at (by simpa using f1) K5⟩
       . show upd H2 y.dn _ y.dn=some (.dK (yp (ua y.cs slot pd)))
         rw [av,e,Fc t7 (ns:=[])]
       . intro c hc
         have hc:c∈ua y.cs slot pd:=hc
         rw [e] at hc
         rcases Co.mp hc with hc|hc
         . exact(zo.c c hc).mv pG (by simpa using (f2 c hc).2)
         . have hc:c=⟨slot,pd,[]⟩:=by simpa using hc
           subst hc
           exact hd2.mv pG (by simpa using hpd)
       . rw [hpf] at hb
         rcases Co.mp hb with hb|hb
         . exact .inl hb
         . have:b=pd:=by simpa using hb
           exact .inr (this▸mR)
       . rw [hpf,Go]
         refine⟨E3,by simp,fun b hb b' xK=>?_⟩
         have:b'=pd:=by simpa using xK
         rw [this];exact hpn b hb
   . rintro σ' H' ⟨pd,rfl,mv,K9,Za,aaN⟩
     obtain⟨dx',uA⟩:=K9.i
     have Nh:jF H' (.ref y.x) a.aj [("unit",.int y.u),("slots",.int y.s),("span",.int (y.u*y.s)),("mask",.int y.m),("names_in",.ref y.dn)]:=⟨y.x,dx',rfl,uA⟩
     repeat' (walk_at "rd1")
     obtain⟨c,hc,hk⟩:=Qi y.cs slot pd
     have hcx:x∉c.ns/\c.ns.length<=3000:=by
      have xt:=hc
      unfold ua at xt
      split at xt
      . exact⟨(ML c xt).2 hk,(ML c xt).1⟩
      . rcases Co.mp xt with xt|xt
        . exact⟨(ML c xt).2 hk,(ML c xt).1⟩
        . have xt:c=⟨slot,pd,[]⟩:=by simpa using xt
          subst xt
          exact⟨by simp,by simp⟩
     refine⟨y.dn,.ref c.p,rfl,by rw [<-rD (Ko Ep) hc,hk];exact ie.k (k:=.inl slot) K9.d,?_⟩
     repeat' (walk_at "rd1")
     refine Oz (K9.c c hc) (by rw [Ve];omega) (.bl true) rfl (fun H2 gH hd2=>?_)
     rw [Uj hcx.1] at hd2
     obtain⟨f1,f2,f3⟩:=z6 aaN
     have K5:=gH.at (by simpa using Me (f2 c hc).1) uA
     have J1:jF H2 (.ref y.x) a.aj [("unit",.int y.u),("slots",.int y.s),("span",.int (y.u*y.s)),("mask",.int y.m),("names_in",.ref y.dn)]:=⟨y.x,dx',rfl,K5⟩
     repeat' (walk_at "rd1")
     refine r_i ⟨s0,by omega,by decide⟩ ?_
     repeat' (walk_at "rd1")
     have pG:Mv [y.x] H2 (upd H2 y.x (.ins a.aj dx' (Sq y.u y.s (RS y.m (1*2^slot.toNat)) y.dn))):=.aS K5 (by intro _ z;cases z)
     have ef:(y.xT slot (RS y.m (1*2^slot.toNat)) pd x).foot=Wh.foot ⟨y.x,y.dn,y.u,y.s,y.m,ua y.cs slot pd⟩:=by
      unfold Wh.foot Wh.xT
      rw [<-AX,GM,show(Sl.p ∘ qi slot x)=Sl.p from funext (J8 slot x)]
     have hfx:y.x∈y.foot:=by simp [Wh.foot]
     have hcp:c.p∈y.foot\/H c.p=none:=Za c.p (AL _ (AL _ (Cc (f:=(·.p)) hc)))
     refine q _ pd (Mv.step (Mv.step mv gH fun b hb=>(AR.mp hb)▸hcp) pG fun b hb=>.inl ((AR.mp hb)▸hfx)) ⟨⟨dx',av⟩,?_,?_⟩ (by rw [ef];exact aaN) (by rw [ef];exact Za)
     . show upd H2 y.x _ y.dn=some (.dK (yp (qX y.cs slot pd x)))
       rw [<-AX,KD (pO slot x) (J8 slot x)]
       exact pG.at (by simpa using Me f1) (gH.at (by simpa using Me (f2 c hc).2) K9.d)
     . intro d hd
       have hd:d∈qX y.cs slot pd x:=hd
       rw [<-AX] at hd
       obtain⟨d0,HI,rfl⟩:=AN.mp hd
       have hpx:(qi slot x d0).p≠y.x:=by rw [J8];exact(f2 d0 HI).1
       by_cases e:d0=c
       . subst e
         have:qi slot x d0=⟨d0.k,d0.p,d0.ns++[x]⟩:=if_pos hk
         rw [this]
         exact hd2.mv pG (by simpa using (f2 d0 HI).1)
       . have hk0:d0.k≠slot:=fun z=>e (LN (Ko Ep) HI hc (z.trans hk.symm))
         have:qi slot x d0=d0:=if_neg hk0
         rw [this]
         exact((K9.c d0 HI).mv gH (by simpa using fun z=>e (V5 f3 HI hc z))).mv pG (by simpa using (f2 d0 HI).1)
theorem L1 (T:Txt K mg a):df P w K mg base 2 a.du ["self","name","time"] [] (Gi a.aj):=
 ⟨⟨_,_,Qk T,T.lZ.binds fun _ _ _ _ _ _=>jr fun _ _ _=>rfl,.nil⟩⟩
theorem JL (cs:List Sl) (slot:Int) (x:Str) (mS:∀c∈cs,c.ns≠[]) (he:∀c∈cs,c.k=slot->(c.ns.filter fun y=>!decide (y=x))=[]):lz (cs.map (d8 slot x)) slot=zI cs slot x:=by
 unfold lz zI
 refine Tk fun c hc=>?_
 obtain⟨c0,yy,rfl⟩:=AN.mp hc
 rw [gk]
 unfold d8
 split
 . rename_i h
   simp only [h,he c0 yy h]
   rfl
 . rename_i h
   have:=mS c0 yy
   cases e:c0.ns with
   |nil=>exact absurd e this
   |cons=>simp [h]
theorem Ny (cs:List Sl) (slot:Int) (x:Str) (mS:∀c∈cs,c.ns≠[]) (he:∀c∈cs,c.k=slot->(c.ns.filter fun y=>!decide (y=x))≠[]):cs.map (d8 slot x)=zI cs slot x:=by
 unfold zI
 rw [eq_comm,Aar]
 intro c hc
 obtain⟨c0,yy,rfl⟩:=AN.mp hc
 unfold d8
 split
 . rename_i h
   have:=he c0 yy h
   cases e:c0.ns.filter fun y=>!decide (y=x) with
   |nil=>exact absurd e this
   |cons=>simp
 . rename_i h
   have:=mS c0 yy
   cases e:c0.ns with
   |nil=>exact absurd e this
   |cons=>simp
theorem Np (cs:List Sl) (slot:Int):((lz cs slot).map (·.p)).Sublist (cs.map (·.p)):=(IR).map _
theorem Es (w:Wh) (slot m:Int):(w.emptied slot m).foot.Sublist w.foot:=by
 unfold Wh.foot Wh.emptied
 exact((Np w.cs slot).cons₂ _).cons₂ _
def G6 (CW:Addr):Sp:=fun vs H Q _=>∃(z:Addr) (y:Wh) (slot:Int) (c:Sl),vs=[.ref z,.int slot]/\z=y.x/\jo CW H y/\Nv y/\y.foot.Nodup/\(y.cs.map (·.k)).Nodup/\c∈y.cs/\c.k=slot/\0<=slot/\slot<60/\
 ∀l H',Mv y.foot H H'->jo CW H' (y.emptied slot (No y.m (1*2^slot.toNat)))->H l=none->dg H' l (c.ns.map EQ)->Q (.ref l) H'
theorem OA (T:Txt K mg a):aP P w K mg base eG 1 a.d7 a.rX ["self","slot"] (G6 a.aj):=by
 have n1:=T.bR;have n2:=T.c5;have cl:=T.bP
 refine T.oh.ok B4 (fun vs H Q E h=>?_) (fun c7 A outer s H vs Q E hr h=>?_)
 . obtain⟨_,_,_,_,rfl,_⟩:=h;rfl
 . obtain⟨_,y,slot,c,rfl,rfl,hw,hb,E3,Ep,hc,hk,s0,s1,q⟩:=h
   obtain⟨dx,hx⟩:=hw.i
   have hi:jF H (.ref y.x) a.aj [("unit",.int y.u),("slots",.int y.s),("span",.int (y.u*y.s)),("mask",.int y.m),("names_in",.ref y.dn)]:=⟨y.x,dx,rfl,hx⟩
   obtain⟨f1,f2,f3⟩:=z6 E3
   refine⟨_,(ag (aV (pv 0) (aC Q9 (au (pv 0) rfl) (aC Fu aq (pv 1))) rfl)
    (ah (aD (DR (IQ rfl) rfl T.p9 XV (ae (iy Lu On PM qm (au (pv 0) rfl) (ae (pv 1) af)) af))))),?_⟩
   repeat' (walk_at "rd1")
   refine r_i ⟨s0,by omega,by decide⟩ ?_
   repeat' (walk_at "rd1")
   have iE:Mv [y.x] H (upd H y.x (.ins a.aj dx (Sq y.u y.s (No y.m (1*2^slot.toNat)) y.dn))):=.aS hx (by intro _ z;cases z)
   have hx1:upd H y.x (.ins a.aj dx (Sq y.u y.s (No y.m (1*2^slot.toNat)) y.dn)) y.x=some (.ins a.aj dx (Sq y.u y.s (No y.m (1*2^slot.toNat)) y.dn)):=av
   have ep:kX "mask" (.int (No y.m (1*2^slot.toNat))) (Sq y.u y.s y.m y.dn)=Sq y.u y.s (No y.m (1*2^slot.toNat)) y.dn:=by unfold Sq;walk_at "put"
   rw [ep]
   have Av:=iE.at (by simpa using Me f1) hw.d
   have Wu:∀d∈y.cs,oq _ d.p (FZ d.ns):=fun d hd=>(hw.c d hd).mv iE (by simpa using (f2 d hd).1)
   generalize upd H y.x (.ins a.aj dx (Sq y.u y.s (No y.m (1*2^slot.toNat)) y.dn))=H1 at*
   refine⟨.inr (.inr (.inl ⟨rfl,.inl ⟨_,Av⟩⟩)),?_⟩
   repeat' (walk_at "rd1")
   refine⟨y.dn,yp y.cs,.inl slot,.ref c.p,rfl,rfl,Av,by rw [<-hk];exact rD Ep hc,?_⟩
   rw [RD]
   have gH:Mv [y.dn] H1 (upd H1 y.dn (.dK (yp (lz y.cs slot)))):=.aS Av (by intro _ z;cases z)
   have hd2:upd H1 y.dn (.dK (yp (lz y.cs slot))) y.dn=some (.dK (yp (lz y.cs slot))):=av
   have K5:=gH.at (by simpa using f1) hx1
   have N6:∀d∈y.cs,oq _ d.p (FZ d.ns):=fun d hd=>(Wu d hd).mv gH (by simpa using (f2 d hd).2)
   generalize upd H1 y.dn (.dK (yp (lz y.cs slot)))=H2 at*
   repeat' (walk_at "rd1")
   refine Tw (N6 c hc).rd (fun l H3 sm3 pU W5=>?_)
   repeat' (walk_at "rd1")
   have hfx:y.x∈y.foot:=by simp [Wh.foot]
   have hfd:y.dn∈y.foot:=by simp [Wh.foot]
   have mv:Mv y.foot H H2:=(cS iE fun b hb=>(AR.mp hb)▸hfx).trans (cS gH fun b hb=>(AR.mp hb)▸hfd)
   refine q l H3 (mv.y9 sm3) ⟨⟨dx,sm3 _ _ K5⟩,sm3 _ _ hd2,fun d hd=>(N6 d (B0.mp hd).1).keeps sm3⟩ (mv.none pU) ?_
   have e:(FZ c.ns).map (·.1)=c.ns:=by unfold FZ;rw [GM];exact List.map_id _
   rw [e] at W5;exact W5
theorem DN (T:Txt K mg a):df P w K mg base 1 a.d7 ["self","slot"] [] (G6 a.aj):=
 ⟨⟨_,_,OA T,T.oh.binds fun _ _ _ _ _ _=>dJ fun _ _=>rfl,.nil⟩⟩
theorem RX (cs:List Sl) (slot:Int) (x:Str):((zI cs slot x).map (·.p)).Sublist (cs.map (·.p)):=by
 unfold zI
 have h:=(IR (p:=fun c:Sl=>!c.ns.isEmpty) (l:=cs.map (d8 slot x))).map (·.p)
 rwa [GM,show(Sl.p ∘ d8 slot x)=Sl.p from funext (Ew slot x)] at h
theorem GQ (w:Wh) (slot m:Int) (x:Str):(w.lY slot m x).foot.Sublist w.foot:=by
 unfold Wh.foot Wh.lY
 exact((RX w.cs slot x).cons₂ _).cons₂ _
def Lv (CW:Addr):Sp:=fun vs H Q _=>∃(z:Addr) (y:Wh) (x:Str) (t:Int) (c:Sl),vs=[.ref z,.str x,.int t]/\z=y.x/\jo CW H y/\Nv y/\y.foot.Nodup/\(y.cs.map (·.k)).Nodup/\(∀d∈y.cs,d.ns≠[])/\c∈y.cs/\c.k=fK y t/\x∈c.ns/\
 ∀H' m,Mv y.foot H H'->jo CW H' (y.lY (fK y t) m x)->(ic y->ic (y.lY (fK y t) m x))->Q .aQ H'
theorem T4 (T:Txt K mg a):aP P w K mg base eG 2 a.ck a.nG ["self","name","time"] (Lv a.aj):=by
 have n1:=T.bR;have n2:=T.c5;have cl:=T.bP
 have px:=T.gX;have E5:=T.nT
 have o9:=vb (P:=P) (w:=w) (base:=base) T
 have E9:=DN (P:=P) (w:=w) (base:=base) T
 refine T.jD.ok m5 (fun vs H Q E h=>?_) (fun c7 A outer s H vs Q E hr h=>?_)
 . obtain⟨_,_,_,_,_,rfl,_⟩:=h;rfl
 . obtain⟨_,y,x,t,c,rfl,rfl,hw,hb,E3,Ep,mS,hc,hk,Qn,q⟩:=h
   obtain⟨dx,hx⟩:=hw.i
   have hi:jF H (.ref y.x) a.aj [("unit",.int y.u),("slots",.int y.s),("span",.int (y.u*y.s)),("mask",.int y.m),("names_in",.ref y.dn)]:=⟨y.x,dx,rfl,hx⟩
   obtain⟨f1,f2,f3⟩:=z6 E3
   have s0:=xU hb t
   have s1:=B3 hb t
   have s2:=hb.2.2.2
   refine⟨_,(ag (aE (i:=3) m5.nd rfl (FS rfl) (aB (pv 0) cl px o9 (hr.mono (by decide)) (ae (pv 2) af)))
    (ag (aF (iy Lu On PM qm (mM (iz hr) (au (pv 0) rfl) (pv 3) (fun _ _=>rfl)) (ae (pv 1) af)))
    (ah (bB (iY (bI (mM (iz hr) (au (pv 0) rfl) (pv 3) (fun _ _=>rfl)) (fun _=>rfl)))
     (ah (aF (aB (pv 0) cl E5 E9 (hr.mono (by decide)) (ae (pv 3) af))))
     aN)))),?_⟩
   repeat' (walk_at "rd1")
   refine AB rfl hw hb ?_
   generalize V1:fK y t=slot at*
   repeat' (walk_at "rd1")
   refine⟨y.dn,.ref c.p,rfl,by rw [<-rD Ep hc,hk];exact ie.k (k:=.inl slot) hw.d,?_⟩
   have hdc:=hw.c c hc
   refine Hx hdc ?_
   repeat' (walk_at "rd1")
   refine FD hdc (Qx Qn) (fun v1 H1 iE Av=>?_)
   rw [QO] at Av
   have hx1:=iE.at (by simpa using Me (f2 c hc).1) hx
   have vR:jF H1 (.ref y.x) a.aj [("unit",.int y.u),("slots",.int y.s),("span",.int (y.u*y.s)),("mask",.int y.m),("names_in",.ref y.dn)]:=⟨y.x,dx,rfl,hx1⟩
   have acN:=iE.at (by simpa using Me (f2 c hc).2) hw.d
   have kvt:yp (y.cs.map (d8 slot x))=yp y.cs:=KD (gk slot x) (Ew slot x)
   have jn:jo a.aj H1 ⟨y.x,y.dn,y.u,y.s,y.m,y.cs.map (d8 slot x)⟩:=by
    refine⟨⟨dx,hx1⟩,?_,fun d hd=>?_⟩
    . show H1 y.dn=some (.dK (yp (y.cs.map (d8 slot x))))
      rw [kvt];exact acN
    . obtain⟨d0,HI,rfl⟩:=AN.mp hd
      by_cases e:d0=c
      . subst e
        have:d8 slot x d0=⟨d0.k,d0.p,d0.ns.filter fun y=>!decide (y=x)⟩:=if_pos hk
        rw [this];exact Av
      . have hk0:d0.k≠slot:=fun z=>e (LN Ep HI hc (z.trans hk.symm))
        have:d8 slot x d0=d0:=if_neg hk0
        rw [this]
        exact(hw.c d0 HI).mv iE (by simpa using fun z=>e (V5 f3 HI hc z))
   have hcp:c.p∈y.foot:=AL _ (AL _ (Cc (f:=(·.p)) hc))
   have OI:Mv y.foot H H1:=cS iE fun b hb=>(AR.mp hb)▸hcp
   have huq:∀d∈y.cs,d.k=slot->d=c:=fun d hd z=>LN Ep hd hc (z.trans hk.symm)
   repeat' (walk_at "rd1")
   refine⟨y.dn,.ref c.p,rfl,by rw [<-rD Ep hc,hk];exact ie.k (k:=.inl slot) acN,?_⟩
   refine Kj Av ?_
   repeat' (walk_at "rd1")
   . rename_i YS
     have he:(c.ns.filter fun y=>!decide (y=x))=[]:=by
      cases e:c.ns.filter fun y=>!decide (y=x) with
      |nil=>rfl
      |cons=>rw [e] at YS;simp [FZ] at YS
     have ef:Wh.foot ⟨y.x,y.dn,y.u,y.s,y.m,y.cs.map (d8 slot x)⟩=y.foot:=by
      unfold Wh.foot
      rw [GM,show(Sl.p ∘ d8 slot x)=Sl.p from funext (Ew slot x)]
     refine⟨y.x,⟨y.x,y.dn,y.u,y.s,y.m,y.cs.map (d8 slot x)⟩,slot,d8 slot x c,rfl,rfl,jn,hb,by rw [ef];exact E3,?_,Cc hc,by rw [gk];exact hk,s0,by omega,fun l H2 gH zo _ _=>?_⟩
     . rw [GM,show(Sl.k ∘ d8 slot x)=Sl.k from funext (gk slot x)];exact Ep
     . repeat' (walk_at "rd1")
       rw [ef] at gH
       have edr:=JL y.cs slot x mS fun d hd z=>by rw [huq d hd z];exact he
       refine q H2 (No y.m (1*2^slot.toNat)) (OI.trans gH) ?_ fun hm=>?_
       . have:=zo
         unfold Wh.emptied at this
         rw [edr] at this
         exact this
       . have:=Aq (w:=⟨y.x,y.dn,y.u,y.s,y.m,y.cs.map (d8 slot x)⟩) (slot:=slot) ⟨hm.1,fun i=>(hm.2 i).trans (GA ⟨fun⟨d,hd,e⟩=>⟨_,Cc hd,by rw [gk];exact e⟩,fun⟨d,hd,e⟩=>by obtain⟨d0,HI,rfl⟩:=AN.mp hd;rw [gk] at e;exact⟨d0,HI,e⟩⟩)⟩ s0 (Cc hc) (by rw [gk];exact hk)
         unfold Wh.emptied at this
         rw [edr] at this
         exact this
   . rename_i YS
     have he:(c.ns.filter fun y=>!decide (y=x))≠[]:=fun e=>by rw [e] at YS;simp [FZ] at YS
     have ekp:=Ny y.cs slot x mS fun d hd z=>by rw [huq d hd z];exact he
     refine q H1 y.m OI ?_ fun hm=>?_
     . unfold Wh.lY
       rw [<-ekp]
       exact jn
     . unfold Wh.lY
       rw [<-ekp]
       exact⟨hm.1,fun i=>(hm.2 i).trans (GA ⟨fun⟨d,hd,e⟩=>⟨_,Cc hd,by rw [gk];exact e⟩,fun⟨d,hd,e⟩=>by obtain⟨d0,HI,rfl⟩:=AN.mp hd;rw [gk] at e;exact⟨d0,HI,e⟩⟩)⟩
theorem OY (T:Txt K mg a):df P w K mg base 2 a.ck ["self","name","time"] [] (Lv a.aj):=
 ⟨⟨_,_,T4 T,T.jD.binds fun _ _ _ _ _ _=>jr fun _ _ _=>rfl,.nil⟩⟩
def Hm:Sp:=fun vs H Q _=>∃(f:Addr) (ei:List (Int × Str)) (v:V) (c:Int × Str),vs=[.ref f,v]/\dg H f (ei.map pairD)/\Dv H v (pairD c)/\ei.length<=3000/\(ei.Pairwise fun c d=>aW d c=true)/\∀i:Nat,Plc ei c i->Q (.int i) H
theorem OQ (T:Txt K mg a):aP P w K mg base eG 1 a.ft a.zv ["row","pair"] Hm:=by
 refine T.uV.ok iA (fun vs H Q E h=>?_) (fun c7 A outer s H vs Q E hr h=>?_)
 . obtain⟨_,_,_,_,rfl,_⟩:=h;rfl
 . obtain⟨f,ei,v,c,rfl,hf,hv,hlen,R7,q⟩:=h
   have Fz:(ei.map pairD).length=ei.length:=AE ..
   refine⟨_,(ag (aE (i:=2) iA.nd rfl (FS rfl) aq)
    (ag (aE (i:=3) iA.nd rfl (FS rfl) (aU iC rfl T.lW T0 (ae (pv 0) af)))
    (ag (pE KB (aI zh (pv 2) (pv 3) (aK _))
     (ag (aE (i:=4) iA.nd rfl (FS rfl) (aC bH (aC gB (pv 2) (pv 3)) aq))
     (ah (bB (aI (YX (Nat.lt_of_succ_lt (iz hr))) (bG ik (pv 0) (pv 4) (fun _ _=>rfl)) (pv 1) (aK _))
      (ah (aE (i:=2) iA.nd rfl (FS rfl) (aC gB (pv 4) aq)))
      (ah (aE (i:=3) iA.nd rfl (FS rfl) (pv 4)))))))
    (ah (aD (pv 2)))))),?_⟩
   repeat' (walk_at "rd1")
   refine tW (fun m σ' H'=>∃(lo hi:Nat) (z:Option V),σ'=[some (.ref f),some v,some (.int lo),some (.int hi),z]/\H'=H/\m=hi - lo/\lo<=hi/\hi<=ei.length/\(∀j d,j<lo->ei[j]? =some d->aW c d=true)/\∀j d,hi<=j->ei[j]? =some d->aW c d=false) ⟨ei.length,0,ei.length,none,rfl,rfl,rfl,KF _,BN _,fun j d h=>by omega,fun j d h hd=>by have:=(AS.mp hd).1;omega⟩ ?_
   rintro m σ' H' ⟨lo,hi,z,rfl,rfl,rfl,h1,h2,h3,h4⟩
   repeat' (walk_at "rd1")
   . rename_i hb x hx
     have aco:((lo:Int)+hi) / 2=(((lo+hi) / 2:Nat):Int):=by omega
     have VE:(lo+hi) / 2<ei.length:=by omega
     have V7:lo<=(lo+hi) / 2:=by omega
     have hm2:(lo+hi) / 2<hi:=by omega
     rw [aco,OF,Lo,AC VE,Option.getD_some] at hx
     rw [aco]
     have V6:ei[(lo+hi) / 2]? =some ei[(lo+hi) / 2]:=AC VE
     generalize ei[(lo+hi) / 2]=e at hx V6
     generalize (lo+hi) / 2=mid at*
     refine abF hx hv ?_
     have pw:=NJ.mp R7
     have pw2:∀i j d1 d2,i<j->ei[i]? =some d1->ei[j]? =some d2->aW d2 d1=true:=fun i j d1 d2 vX e1 e2=>by
      obtain⟨a1,rfl⟩:=AS.mp e1
      obtain⟨a2,rfl⟩:=AS.mp e2
      exact pw i j a1 a2 vX
     repeat' (walk_at "rd1")
     . rename_i gP
       refine⟨hi - (mid+1),by omega,mid+1,hi,some (.int mid),rfl,rfl,rfl,by omega,h2,fun j d hj hd=>?_,h4⟩
       by_cases e1:j=mid
       . subst e1
         rw [V6] at hd;cases hd;exact gP
       . exact vJ gP (pw2 j mid d e (by omega) hd V6)
     . rename_i gP
       refine⟨mid - lo,by omega,lo,mid,some (.int mid),rfl,rfl,rfl,V7,by omega,h3,fun j d hj hd=>?_⟩
       by_cases e1:j=mid
       . subst e1
         rw [V6] at hd;cases hd
         exact gP
       . cases e2:aW c d with
         |false=>rfl
         |true=>rw [vJ e2 (pw2 mid j e d (by omega) V6 hd)] at gP;cases gP
   . rename_i hb
     have e:lo=hi:=by omega
     subst e
     exact q lo ⟨h2,h3,h4⟩
theorem DM (T:Txt K mg a):df P w K mg base 1 a.ft ["row","pair"] [] Hm:=
 ⟨⟨_,_,OQ T,T.uV.binds fun _ _ _ _ _ _=>dJ fun _ _=>rfl,.nil⟩⟩
def Wj (n:Int) (d q f m:Addr):List (Str × V):=[("now",.int n),("times",.ref d),("wheels",.ref q),("far",.ref f),("moves",.ref m)]
def Bq (C CW:Addr):Sp:=fun vs H Q _=>∃(p dx d m:Addr) (n:Int) (G:fc) (us:List (Int × Int)) (t nw:Int),vs=[.ref p,.int t,.int nw]/\H p=some (.ins C dx (Wj n d G.q G.f m))/\zT CW H G/\G.ws.map (fun w=>(w.u,w.s))=us/\EY us/\∀H',ay H H'->Q (.int (iu us t nw:Nat)) H'
theorem Iz (T:Txt K mg a):aP P w K mg base eG 2 a.bM a.mE ["self","time","now"] (Bq a.ai a.aj):=by
 have n1:=T.bj;have cl:=T.aO
 have C4:=Dl (P:=P) (w:=w) (base:=base) T
 refine T.i5.ok iq (fun vs H Q E h=>?_) (fun c7 A outer s H vs Q E hr h=>?_)
 . obtain⟨_,_,_,_,_,_,_,_,_,rfl,_⟩:=h;rfl
 . obtain⟨p,dx,d,m,n,G,us,t,nw,rfl,hp,hg,EX,bb,q⟩:=h
   have hi:jF H (.ref p) a.ai [("now",.int n),("times",.ref d),("wheels",.ref G.q),("far",.ref G.f),("moves",.ref m)]:=⟨p,dx,rfl,hp⟩
   have Wz:us.length=G.ws.length:=by rw [<-EX,AE]
   refine⟨_,(ag (kC KB rfl (UX rfl T.lg (ae (au (pv 0) rfl) af)) (Fd (n:=2) rfl (gL (a0 (i:=3) iq.nd rfl (FS rfl)) (gL (a0 (i:=4) iq.nd rfl (FS rfl)) wN)))
    (ah (bB (bI (aB (pv 4) T.bP T.oH C4 (hr.mono (by decide)) (ae (pv 1) (ae (pv 2) af))) (fun _=>rfl))
     (ah (aD (pv 3)))
     aN)))
    (ah (aD (aU iC rfl T.lW T0 (ae (au (pv 0) rfl) af))))),?_⟩
   repeat' (walk_at "rd1")
   refine abQ (xs:=G.ws.map fun w=>V.ref w.x) (fun i σ' H'=>∃z1 z2,σ'=[some (.ref p),some (.int t),some (.int nw),z1,z2]/\ay H H'/\∀j q,j<i->us[j]? =some q->¬t / (q.1*q.2)=nw / (q.1*q.2)) ⟨_,_,rfl,ay.refl _,fun j q h=>by omega⟩ (fun i σ' H' _ ⟨_,_,_,sm,_⟩=>sm _ _ hg.q) ?_ ?_
   . rintro i x tt σ' H' hx ⟨z1,z2,rfl,sm,t7⟩ htt
     obtain⟨y,hy,rfl⟩:∃y,G.ws[i]? =some y/\V.ref y.x=x:=by
      rw [Fa] at hx
      cases e:G.ws[i]? with
      |none=>rw [e] at hx;cases hx
      |some y=>rw [e] at hx;exact⟨y,rfl,Do hx⟩
     have hui:us[i]? =some (y.u,y.s):=by rw [<-EX,Fa,hy];rfl
     have jK:ay H (upd H' tt (.tup [.int (i:Int),.ref y.x])):=sm.trans (cP htt)
     refine Qp av ?_
     generalize upd H' tt (.tup [.int (i:Int),.ref y.x])=H2 at*
     have HZ:=(hg.w y (Cf hy)).keeps jK
     obtain⟨Uo,CD⟩:=HZ.i
     have hiy:jF H2 (.ref y.x) a.aj [("unit",.int y.u),("slots",.int y.s),("span",.int (y.u*y.s)),("mask",.int y.m),("names_in",.ref y.dn)]:=⟨y.x,Uo,rfl,CD⟩
     repeat' (walk_at "rd1")
     refine Lk rfl HZ (bb _ (Cf hui)) ?_
     repeat' (walk_at "rd1")
     . rename_i hb
       have e:iu us t nw=i:=Fn t7 (.inr ⟨_,hui,hb⟩)
       have:=q H2 jK
       rw [e] at this
       exact this
     . rename_i hb
       refine⟨_,_,rfl,jK,fun j q hj hq=>?_⟩
       by_cases e:j=i
       . subst e
         rw [hui] at hq;cases hq;exact hb
       . exact t7 j q (by omega) hq
   . rintro σ' H' ⟨z1,z2,rfl,sm,t7⟩
     have vR:=hi.keeps sm
     have yC:=sm _ _ hg.q
     repeat' (walk_at "rd1")
     refine Ez (.of yC) ?_
     rw [AE] at t7 ⊢
     have e:iu us t nw=G.ws.length:=Fn t7 (.inl Wz.symm)
     have:=q H' sm
     rw [e] at this
     exact this
theorem zB (T:Txt K mg a):df P w K mg base 2 a.bM ["self","time","now"] [] (Bq a.ai a.aj):=
 ⟨⟨_,_,Iz T,T.i5.binds fun _ _ _ _ _ _=>jr fun _ _ _=>rfl,.nil⟩⟩
def Ro (C CW:Addr):Sp:=fun vs H Q _=>∃(p dx d m:Addr) (n:Int) (G:fc) (us:List (Int × Int)) (ts:List (Str × Int)) (x:Str) (t nw:Int),vs=[.ref p,.str x,.int t,.int nw]/\H p=some (.ins C dx (Wj n d G.q G.f m))/\zT CW H G/\GI us nw ts G/\EY us/\p∉G.foot/\x∉ts.map (·.1)/\ts.length<=2000/\
 ∀H' G',Mv G.foot H H'->zT CW H' G'->GI us nw (ts++[(x,t)]) G'->G'.q=G.q->G'.f=G.f->(∀b∈G'.foot,b∈G.foot\/H b=none)->Q .aQ H'
theorem RF {ws:List Wh} {k:Nat} {y:Wh} (h:ws[k]? =some y):t5 (ws.map fun w=>V.ref w.x) (k:Int)=some (.ref y.x):=by
 obtain⟨hk,rfl⟩:=AS.mp h
 unfold t5 K8
 rw [if_pos (by omega),AE,if_pos (by omega)]
 simp [hk]
theorem Yc (T:Txt K mg a):aP P w K mg base eG 3 a.bO a.lI ["self","name","time","now"] (Ro a.ai a.aj):=by
 have n1:=T.bj;have n2:=T.dW;have cl:=T.aO
 have vN:=T.iP
 have vH:=zB (P:=P) (w:=w) (base:=base) T
 have Ct:=L1 (P:=P) (w:=w) (base:=base) T
 have vI:=DM (P:=P) (w:=w) (base:=base) T
 refine T.iW.ok lB (fun vs H Q E h=>?_) (fun c7 A outer s H vs Q E hr h=>?_)
 . obtain⟨_,_,_,_,_,_,_,_,_,_,_,rfl,_⟩:=h;rfl
 . obtain⟨p,dx,d,m,n,G,us,ts,x,t,nw,rfl,hp,hg,rk,bb,hpf,hx,hlen,q⟩:=h
   have hi:jF H (.ref p) a.ai [("now",.int n),("times",.ref d),("wheels",.ref G.q),("far",.ref G.f),("moves",.ref m)]:=⟨p,dx,rfl,hp⟩
   have Wz:=rk.len
   refine⟨_,(ag (aE (i:=4) lB.nd rfl (FS rfl) (aB (pv 0) cl vN vH (hr.mono (by decide)) (ae (pv 2) (ae (pv 3) af))))
    (ah (bB (aI zh (pv 4) (aU iC rfl T.lW T0 (ae (au (pv 0) rfl) af)) (aK _))
     (ah (aF (aB (bG ik (au (pv 0) rfl) (pv 4) (fun _ _=>rfl)) T.bP T.tf Ct (hr.mono (by decide)) (ae (pv 1) (ae (pv 2) af)))))
     (ah (aF (iy GG PySem.F.slot_list_insert PySem.F.type_list_insert Nn (au (pv 0) rfl) (ae (dA vI (hr.mono (by decide)) rfl T.rq T.rA (ae (au (pv 0) rfl) (ae (dS (ae (pv 2) (ae (pv 1) af))) af))) (ae (dS (ae (pv 2) (ae (pv 1) af))) af)))))))),?_⟩
   repeat' (walk_at "rd1")
   refine⟨p,dx,d,m,n,G,us,t,nw,rfl,hp,hg,rk.eu,bb,fun H1 Bi=>?_⟩
   have vR:=hi.keeps Bi
   have LD:=hg.keeps Bi
   repeat' (walk_at "rd1")
   refine Ez (.of LD.q) ?_
   rw [AE]
   repeat' (walk_at "rd1")
   . rename_i hb
     have gP:iu us t nw<G.ws.length:=by omega
     have hy:G.ws[iu us t nw]? =some G.ws[iu us t nw]:=AC gP
     generalize G.ws[iu us t nw]=y at hy
     refine GW (.of LD.q) (RF hy) ?_
     have hym:=Cf hy
     have HZ:=LD.w y hym
     have Sn:=rk.bnd bb hy
     obtain⟨alb,afG⟩:=rk.small bb hy
     have Gv:=rk.wh _ y hy
     obtain⟨Uo,CD⟩:=HZ.i
     have hiy:jF H1 (.ref y.x) a.aj [("unit",.int y.u),("slots",.int y.s),("span",.int (y.u*y.s)),("mask",.int y.m),("names_in",.ref y.dn)]:=⟨y.x,Uo,rfl,CD⟩
     repeat' (walk_at "rd1")
     have Pm:y.foot.Nodup:=by
      have:=hg.D3.2.2
      obtain⟨e1,_⟩:=xC hy y
      rw [e1,LG,NL,Go,Go] at this
      exact this.2.1.1
     refine⟨y.x,y,x,t,rfl,rfl,HZ,Sn,Pm,Gv.nd,by omega,fun c hc=>⟨by have:=afG c hc;omega,fun _ Qn=>?_⟩,fun H2 pd gH zo Ry Cz=>?_⟩
     . obtain⟨t',X7,_⟩:=(Gv.mem x c.k).mp ⟨c,hc,rfl,Qn⟩
       exact hx (AN.mpr ⟨_,X7,rfl⟩)
     . repeat' (walk_at "rd1")
       obtain⟨Oh,Za⟩:=LD.set hy gH zo rfl Ry Cz
       refine q H2 _ ((Bi.mv).trans (cS gH (oE hym))) Oh (rk.lay hx hy (by have:=Sn.2.2.1;omega) (RH Gv.mk' (xU Sn t))) rfl rfl fun b hb=>?_
       rcases Za b hb with r|r
       . exact .inl r
       . exact .inr (Bi.none r)
   . rename_i hb
     have UD:iu us t nw=us.length:=by have:=vL us t nw;omega
     have Fz:=rk.Jy
     have hf1:=LD.f
     refine Qj hf1 ?_
     repeat' (walk_at "rd1")
     rename_i v2 H2 jK Rp
     have Ry:=hf1.keeps jK
     refine⟨G.f,G.ei,v2,(t,x),rfl,Ry,Rp,by omega,rk.NI,fun i Nh=>?_⟩
     repeat' (walk_at "rd1")
     rename_i v3 H3 sm3 Oc
     have Xo:=Ry.keeps sm3
     refine Yp Xo (k:=(t,x)) Oc (by omega) (by have:=Nh.1;omega) (by omega) (fun H4 tX Sh=>?_)
     repeat' (walk_at "rd1")
     rw [OF] at Sh
     have sm:=(Bi.trans jK).trans sm3
     have hgf:G.f∈G.foot:=by simp [fc.foot]
     exact q H4 _ ((sm.mv).trans (cS tX fun b hb=>(AR.mp hb)▸hgf)) ((hg.keeps sm).adn tX Sh) (rk.ZL hx UD Nh) rfl rfl fun b hb=>.inl hb
theorem KN (T:Txt K mg a):df P w K mg base 3 a.bO ["self","name","time","now"] [] (Ro a.ai a.aj):=
 ⟨⟨_,_,Yc T,T.iW.binds fun _ _ _ _ _ _=>Wr fun _ _ _ _=>rfl,.nil⟩⟩
def rC (ts:List (Str × Int)):List (Str × BB):=ts.map fun x=>(x.1,.int x.2)
theorem zY (ts:List (Str × Int)):(rC ts).length=ts.length:=AE ..
theorem K2 (ts:List (Str × Int)) (x:Str) (t:Int):rC (ts++[(x,t)])=rC ts++[(x,.int t)]:=by unfold rC;rw [CS];rfl
theorem HS {m:List (Str × BB)} {k:Str} (h:uj m k=none):putD m k d=m++[(k,d)]:=by
 unfold putD
 rw [if_neg]
 unfold uj at h
 rw [W1,So] at h
 simp only [M2,not_exists,not_and]
 exact h
theorem Cm (ts:List (Str × Int)) (x:Str):sg (rC ts) x=rC (iQ ts x):=by
 unfold sg rC iQ
 rw [AaF]
 congr 1
 refine Tk fun y _=>?_
 simp
theorem FN (h:x∉ts.map (·.1)):uj (rC ts) x=none:=by
 unfold uj rC
 rw [W1,So]
 intro kv hkv
 obtain⟨y,hy,rfl⟩:=AN.mp hkv
 have:y.1≠x:=fun z=>h (z▸Cc (f:=(·.1)) hy)
 simpa using this
theorem Bv (h:(ts.map (·.1)).Nodup) (hx:(x,t)∈ts):uj (rC ts) x=some (.int t):=by
 unfold uj rC
 rw [List.find?_map]
 induction ts with
 |nil=>cases hx
 |cons y r ih=>
  rw [EN,EO] at h
  rw [Sc]
  by_cases e:y.1=x
  . simp only [Abf,e,decide_true]
    rcases AD.mp hx with rfl|uA
    . rfl
    . exact absurd (Cc (f:=(·.1)) uA) (e▸h.1)
  . simp only [Abf,e,decide_false]
    rcases AD.mp hx with rfl|uA
    . exact absurd rfl e
    . exact ih h.2 uA
theorem OT (h:uj (rC ts) x=some (.int t)):(x,t)∈ts:=by
 unfold uj at h
 obtain⟨kv,h1,h2⟩:=NO.mp h
 have h3:=List.find?_some h1
 obtain⟨y,hy,rfl⟩:=AN.mp (Uf h1)
 have e1:y.1=x:=by simpa using h3
 have e2:y.2=t:=by
  have:Pd y.2=.int t:=h2
  injection this
 rw [<-e1,<-e2];exact hy
theorem KU {e:BB} (h:uj (rC ts) x=some e):∃t,e=.int t:=by
 unfold uj at h
 obtain⟨kv,h1,rfl⟩:=NO.mp h
 obtain⟨y,_,rfl⟩:=AN.mp (Uf h1)
 exact⟨_,rfl⟩
theorem x8:(uj (rC ts) x).isSome=true↔x∈ts.map (·.1):=by
 constructor
 . intro h
   obtain⟨e,he⟩:=VT.mp h
   obtain⟨t,rfl⟩:=KU he
   exact AN.mpr ⟨_,OT he,rfl⟩
 . intro h
   cases e:uj (rC ts) x with
   |some _=>rfl
   |none=>
    exfalso
    obtain⟨y,hy,rfl⟩:=AN.mp h
    unfold uj at e
    rw [W1,So] at e
    exact e (y.1,.int y.2) (AN.mpr ⟨y,hy,rfl⟩) (by simp)
structure gA (C CW:Addr) (H:Hp) (p d m:Addr) (n:Int) (G:fc) (tt d9:List (Str × Int)):Prop where
 ex:∃dx,H p=some (.ins C dx (Wj n d G.q G.f m))
 dd:oq H d (rC tt)
 mm:oq H m (rC d9)
 g:zT CW H G
 nd:(p::d::m::G.foot).Nodup
theorem gA.keeps {d m:Addr} {G:fc} {tt:List (Str × Int)} (sm:ay H H') (h:gA C CW H p d m n G tt d9):gA C CW H' p d m n G tt d9:=
 ⟨let ⟨dx,e⟩:=h.ex;⟨dx,sm _ _ e⟩,h.dd.keeps sm,h.mm.keeps sm,h.g.keeps sm,h.nd⟩
theorem gA.mv {d m:Addr} {G:fc} {tt:List (Str × Int)} (mv:Mv S H H') (hn:∀b∈p::d::m::G.foot,b∉S) (h:gA C CW H p d m n G tt d9):gA C CW H' p d m n G tt d9:=
 ⟨let ⟨dx,e⟩:=h.ex;⟨dx,mv.at (hn _ (by simp)) e⟩,h.dd.mv mv (hn _ (by simp)),h.mm.mv mv (hn _ (by simp)),h.g.mv mv (fun b hb=>hn b (by simp [hb])),h.nd⟩
theorem gA.alive {d m:Addr} {G:fc} {tt:List (Str × Int)} (h:gA C CW H p d m n G tt d9):∀b∈p::d::m::G.foot,H b≠none:=by
 intro b hb
 rcases AD.mp hb with rfl|hb
 . obtain⟨dx,e⟩:=h.ex
   rw [e];simp
 . rcases AD.mp hb with rfl|hb
   . obtain⟨kvs,e,_⟩:=h.dd
     rw [e];simp
   . rcases AD.mp hb with rfl|hb
     . obtain⟨kvs,e,_⟩:=h.mm
       rw [e];simp
     . exact h.g.alive b hb
theorem gA.zq {d m:Addr} {G:fc} {tt:List (Str × Int)} (h:gA C CW H p d m n G tt d9):p≠d/\p≠m/\d≠m/\p∉G.foot/\d∉G.foot/\m∉G.foot:=by
 have hn:=h.nd
 rw [EO,EO,EO] at hn
 obtain⟨h1,h2,h3,_⟩:=hn
 refine⟨fun z=>h1 (by simp [z]),fun z=>h1 (by simp [z]),fun z=>h2 (by simp [z]),fun z=>h1 (by simp [z]),fun z=>h2 (by simp [z]),h3⟩
theorem gA.geo {d m:Addr} {G G':fc} {tt:List (Str × Int)} (h:gA C CW H p d m n G tt d9) (mv:Mv G.foot H H') (hg:zT CW H' G') (e1:G'.q=G.q) (e2:G'.f=G.f) (hs:∀b∈G'.foot,b∈G.foot\/H b=none):gA C CW H' p d m n G' tt d9:=by
 obtain⟨f1,f2,f3,f4,f5,f6⟩:=h.zq
 have Je:=h.alive
 have key:∀b∈[p,d,m],b∉G'.foot:=fun b hb z=>by
  rcases hs b z with r|r
  . have:b=p\/b=d\/b=m:=by simpa using hb
    rcases this with rfl|rfl|rfl
    . exact f4 r
    . exact f5 r
    . exact f6 r
  . exact Je b (by have:b=p\/b=d\/b=m:=by simpa using hb
                   rcases this with rfl|rfl|rfl <;>simp) r
 refine⟨?_,h.dd.mv mv f5,h.mm.mv mv f6,hg,?_⟩
 . obtain⟨dx,e⟩:=h.ex
   exact⟨dx,by rw [e1,e2];exact mv.at f4 e⟩
 . rw [EO,EO,EO]
   refine⟨fun z=>?_,fun z=>?_,key m (by simp),hg.nd⟩
   . rcases AD.mp z with z|z
     . exact f1 z
     . rcases AD.mp z with z|z
       . exact f2 z
       . exact key p (by simp) z
   . rcases AD.mp z with z|z
     . exact f3 z
     . exact key d (by simp) z
theorem gA.setM {d m:Addr} {G:fc} {tt md:List (Str × Int)} (h:gA C CW H p d m n G tt d9) (mv:Mv [m] H H') (hm:oq H' m (rC md)):gA C CW H' p d m n G tt md:=by
 obtain⟨f1,f2,f3,f4,f5,f6⟩:=h.zq
 exact⟨let ⟨dx,e⟩:=h.ex;⟨dx,mv.at (by simpa using f2) e⟩,h.dd.mv mv (by simpa using f3),hm,h.g.mv mv (fun b hb=>by simpa using fun z:b=m=>f6 (z▸hb)),h.nd⟩
theorem gA.JB {d m:Addr} {G:fc} {tt tt':List (Str × Int)} (h:gA C CW H p d m n G tt d9) (mv:Mv [d] H H') (hm:oq H' d (rC tt')):gA C CW H' p d m n G tt' d9:=by
 obtain⟨f1,f2,f3,f4,f5,f6⟩:=h.zq
 exact⟨let ⟨dx,e⟩:=h.ex;⟨dx,mv.at (by simpa using f1) e⟩,hm,h.mm.mv mv (by simpa using Me f3),h.g.mv mv (fun b hb=>by simpa using fun z:b=d=>f5 (z▸hb)),h.nd⟩
theorem gA.ins {C CW p d m:Addr} {H:Hp} {n:Int} {G:fc} {tt d9:List (Str × Int)} (h:gA C CW H p d m n G tt d9):jF H (.ref p) C [("now",.int n),("times",.ref d),("wheels",.ref G.q),("far",.ref G.f),("moves",.ref m)]:=let ⟨dx,e⟩:=h.ex;⟨p,dx,rfl,e⟩
def B8 (C CW:Addr):Sp:=fun vs H Q _=>∃(p d m:Addr) (n:Int) (G:fc) (us:List (Int × Int)) (tt ts d9:List (Str × Int)) (x:Str) (t:Int),vs=[.ref p,.str x,.int t]/\gA C CW H p d m n G tt d9/\GI us n ts G/\EY us/\x∉ts.map (·.1)/\x∉d9.map (·.1)/\ts.length<=2000/\d9.length<=2000/\
 ∀H' G',Mv (m::G.foot) H H'->gA C CW H' p d m n G' tt (d9++[(x,0)])->GI us n (ts++[(x,t)]) G'->(∀b∈G'.foot,b∈G.foot\/H b=none)->Q .aQ H'
theorem P9 (T:Txt K mg a):aP P w K mg base eG 4 a.dh a.qA ["self","name","time"] (B8 a.ai a.aj):=by
 have n1:=T.cM;have n2:=T.cp;have cl:=T.aO
 have vw:=T.iG
 have u5:=KN (P:=P) (w:=w) (base:=base) T
 refine T.lV.ok zQ (fun vs H Q E h=>?_) (fun c7 A outer s H vs Q E hr h=>?_)
 . obtain⟨_,_,_,_,_,_,_,_,_,_,_,rfl,_⟩:=h;rfl
 . obtain⟨p,d,m,n,G,us,tt,ts,d9,x,t,rfl,hw,rk,bb,hx,WG,F1,Kp,q⟩:=h
   have hi:=hw.ins;have hm:=hw.mm
   have VE:=zY d9
   refine⟨_,(ag (t6 (iz hr) (au (pv 0) rfl) (pv 1) aq rfl)
    (ah (aF (aB (pv 0) cl vw u5 (hr.mono (by decide)) (ae (pv 1) (ae (pv 2) (ae (au (pv 0) rfl) af))))))),?_⟩
   repeat' (walk_at "rd1")
   rename_i H1 iE V7
   rw [HS (FN WG),<-K2] at V7
   have jn:=hw.setM iE V7
   have vR:=jn.ins
   repeat' (walk_at "rd1")
   obtain⟨dx,DT⟩:=jn.ex
   refine⟨p,dx,d,m,n,G,us,ts,x,t,n,rfl,DT,jn.g,rk,bb,jn.zq.2.2.2.1,hx,F1,fun H2 G' gH Oh aeS e1 e2 hs=>?_⟩
   repeat' (walk_at "rd1")
   refine q H2 G' ((cS iE fun b hb=>by simp [AR.mp hb]).trans (cS gH fun b hb=>AL _ hb)) (jn.geo gH Oh e1 e2 hs) aeS fun b hb=>?_
   rcases hs b hb with r|r
   . exact .inl r
   . exact .inr (iE.none r)
theorem Nk (T:Txt K mg a):df P w K mg base 4 a.dh ["self","name","time"] [] (B8 a.ai a.aj):=
 ⟨⟨_,_,P9 T,T.lV.binds fun _ _ _ _ _ _=>jr fun _ _ _=>rfl,.nil⟩⟩
def AG (C CW:Addr):Sp:=fun vs H Q _=>∃(p d m:Addr) (n:Int) (G:fc) (us:List (Int × Int)) (tt ts d9:List (Str × Int)) (x:Str) (t:Int),vs=[.ref p,.str x,.int t]/\gA C CW H p d m n G tt d9/\GI us n ts G/\EY us/\(x,t)∈ts/\(ts.map (·.1)).Nodup/\x∈d9.map (·.1)/\ts.length<=2000/\
 ∀H' G',Mv (m::G.foot) H H'->gA C CW H' p d m n G' tt (iQ d9 x)->GI us n (iQ ts x) G'->(∀b∈G'.foot,b∈G.foot)->Q .aQ H'
theorem GP {G:fc} {k:Nat} {w w':Wh} (hw:G.ws[k]? =some w) (hs:∀b∈w'.foot,b∈w.foot):∀b∈fc.foot ⟨G.q,G.f,G.ws.set k w',G.ei⟩,b∈G.foot:=fun b hb=>by
 unfold fc.foot at hb
 rcases AD.mp hb with rfl|hb
 . simp [fc.foot]
 . rcases AD.mp hb with rfl|hb
   . simp [fc.foot]
   . obtain⟨y,hy,Ih⟩:=Lm.mp hb
     have hy:y∈G.ws.set k w':=hy
     rcases List.mem_or_eq_of_mem_set hy with hy|hy
     . exact oE hy b Ih
     . exact oE (Cf hw) b (hs b (hy▸Ih))
theorem Qq (T:Txt K mg a):aP P w K mg base eG 3 a.dt a.qM ["self","name","time"] (AG a.ai a.aj):=by
 have n1:=T.cM;have n2:=T.cp;have n3:=T.bj;have n4:=T.dW;have cl:=T.aO
 have vN:=T.iP
 have vH:=zB (P:=P) (w:=w) (base:=base) T
 have xZ:=OY (P:=P) (w:=w) (base:=base) T
 have vI:=DM (P:=P) (w:=w) (base:=base) T
 refine T.lF.ok qP (fun vs H Q E h=>?_) (fun c7 A outer s H vs Q E hr h=>?_)
 . obtain⟨_,_,_,_,_,_,_,_,_,_,_,rfl,_⟩:=h;rfl
 . obtain⟨p,d,m,n,G,us,tt,ts,d9,x,t,rfl,hw,rk,bb,hx,j9,WG,F1,q⟩:=h
   have hi:=hw.ins;have hm:=hw.mm
   have Wz:=rk.len
   refine⟨_,(ag (aF (iy Lu On PM qm (au (pv 0) rfl) (ae (pv 1) af)))
    (ag (aE (i:=3) qP.nd rfl (FS rfl) (aB (pv 0) cl vN vH (hr.mono (by decide)) (ae (pv 2) (ae (au (pv 0) rfl) af))))
    (ah (bB (aI zh (pv 3) (aU iC rfl T.lW T0 (ae (au (pv 0) rfl) af)) (aK _))
     (ah (aF (aB (bG ik (au (pv 0) rfl) (pv 3) (fun _ _=>rfl)) T.bP T.oS xZ (hr.mono (by decide)) (ae (pv 1) (ae (pv 2) af)))))
     (ah (aF (iy GG PySem.F.slot_list_pop PySem.F.type_list_pop Oy (au (pv 0) rfl) (ae (dA vI (hr.mono (by decide)) rfl T.rq T.rA (ae (au (pv 0) rfl) (ae (dS (ae (pv 2) (ae (pv 1) af))) af))) af)))))))),?_⟩
   repeat' (walk_at "rd1")
   refine Hx hm ?_
   repeat' (walk_at "rd1")
   obtain⟨u,hu⟩:=VT.mp (x8.mpr WG)
   refine FD hm hu (fun v1 H1 iE V7=>?_)
   rw [Cm] at V7
   have jn:=hw.setM iE V7
   have vR:=jn.ins
   repeat' (walk_at "rd1")
   obtain⟨dx,DT⟩:=jn.ex
   refine⟨p,dx,d,m,n,G,us,t,n,rfl,DT,jn.g,rk.eu,bb,fun H2 jK=>?_⟩
   have zo:=jn.keeps jK
   have J1:=zo.ins
   have Oh:=zo.g
   have HY:Mv (m::G.foot) H H2:=(cS iE fun b hb=>by simp [AR.mp hb]).y9 jK
   repeat' (walk_at "rd1")
   refine Ez (.of Oh.q) ?_
   rw [AE]
   repeat' (walk_at "rd1")
   . rename_i hb
     have gP:iu us t n<G.ws.length:=by omega
     have hy:G.ws[iu us t n]? =some G.ws[iu us t n]:=AC gP
     generalize G.ws[iu us t n]=y at hy
     refine GW (.of Oh.q) (RF hy) ?_
     have hym:=Cf hy
     have HZ:=Oh.w y hym
     have Sn:=rk.bnd bb hy
     have Gv:=rk.wh _ y hy
     obtain⟨Uo,CD⟩:=HZ.i
     have hiy:jF H2 (.ref y.x) a.aj [("unit",.int y.u),("slots",.int y.s),("span",.int (y.u*y.s)),("mask",.int y.m),("names_in",.ref y.dn)]:=⟨y.x,Uo,rfl,CD⟩
     repeat' (walk_at "rd1")
     have Pm:y.foot.Nodup:=by
      have:=Oh.D3.2.2
      obtain⟨e1,_⟩:=xC hy y
      rw [e1,LG,NL,Go,Go] at this
      exact this.2.1.1
     obtain⟨c,hc,hk,Qn⟩:=(Gv.mem x (fK y t)).mpr ⟨t,hx,rfl,rfl⟩
     refine⟨y.x,y,x,t,c,rfl,rfl,HZ,Sn,Pm,Gv.nd,fun d hd=>(Gv.ne d hd).1,hc,hk,Qn,fun H3 mk pG vQ hmk=>?_⟩
     repeat' (walk_at "rd1")
     have pK:=GQ y (fK y t) mk x
     obtain⟨hg3,Za⟩:=Oh.set (w':=y.lY (fK y t) mk x) hy pG vQ rfl (Pm.sublist pK) fun b hb=>.inl (pK.subset hb)
     have hsb:=GP (w':=y.lY (fK y t) mk x) hy fun b hb=>pK.subset hb
     exact q H3 _ (HY.trans (cS pG fun b hb=>AL _ (oE hym b hb))) (zo.geo (cS pG (oE hym)) hg3 rfl rfl fun b hb=>.inl (hsb b hb)) (rk.lift j9 hx hy (hmk Gv.mk')) hsb
   . rename_i hb
     have UD:iu us t n=us.length:=by have:=vL us t n;omega
     have Fz:=rk.Jy
     have Ry:=Oh.f
     refine Qj Ry ?_
     repeat' (walk_at "rd1")
     rename_i v3 H3 sm3 Oc
     have Xo:=Ry.keeps sm3
     refine⟨G.f,G.ei,v3,(t,x),rfl,Xo,Oc,by omega,rk.NI,fun i Nh=>?_⟩
     have V6:=XR rk.NI Nh ((rk.ei (t,x)).mpr ⟨hx,UD⟩)
     have Rf:=(AS.mp V6).1
     repeat' (walk_at "rd1")
     refine Zo Xo (by omega) (by omega) (by omega) (fun v4 H4 tX Sh=>?_)
     repeat' (walk_at "rd1")
     rw [OF] at Sh
     have vQ:=zo.keeps sm3
     have hgf:G.f∈G.foot:=by simp [fc.foot]
     have aaM:Mv G.foot H3 H4:=cS tX fun b hb=>(AR.mp hb)▸hgf
     exact q H4 _ ((HY.y9 sm3).trans (cS aaM fun b hb=>AL _ hb)) (vQ.geo aaM (vQ.g.adn tX Sh) rfl rfl fun b hb=>.inl hb) (rk.UW j9 hx UD V6) fun b hb=>hb
theorem M9 (T:Txt K mg a):df P w K mg base 3 a.dt ["self","name","time"] [] (AG a.ai a.aj):=
 ⟨⟨_,_,Qq T,T.lF.binds fun _ _ _ _ _ _=>jr fun _ _ _=>rfl,.nil⟩⟩
structure F6 (C CW:Addr) (H:Hp) (p d m:Addr) (n:Int) (us:List (Int × Int)) (G:fc) (ts d9:List (Str × Int)):Prop where
 ws:gA C CW H p d m n G ts d9
 gi:GI us n ts G
 uo:EY us
 nd:(ts.map (·.1)).Nodup
 ZS:(d9.map (·.1)).Nodup
 mem:∀x,x∈d9.map (·.1)↔x∈ts.map (·.1)
theorem F6.keeps {d m:Addr} {G:fc} (sm:ay H H') (h:F6 C CW H p d m n us G ts d9):F6 C CW H' p d m n us G ts d9:=⟨h.ws.keeps sm,h.gi,h.uo,h.nd,h.ZS,h.mem⟩
theorem F6.mv {d m:Addr} {G:fc} (mv:Mv S H H') (hn:∀b∈p::d::m::G.foot,b∉S) (h:F6 C CW H p d m n us G ts d9):F6 C CW H' p d m n us G ts d9:=⟨h.ws.mv mv hn,h.gi,h.uo,h.nd,h.ZS,h.mem⟩
theorem F6.ahd {d m:Addr} {G:fc} (h:F6 C CW H p d m n us G ts d9):d9.length<=ts.length:=by
 have:=tj (l':=ts.map (·.1)) h.ZS fun x hx=>(h.mem x).mp hx
 simpa using this
theorem z0 (h:(ts.map (·.1)).Nodup) (hx:x∉ts.map (·.1)):((ts++[(x,t)]).map (·.1)).Nodup:=by
 rw [CS,Go]
 refine⟨h,by simp,fun a ha b hb=>?_⟩
 have hb:b=x:=by simpa using hb
 rw [hb];exact fun z=>hx (z▸ha)
theorem TJ {m:List (Str × BB)} {k:Str} (hp:oq H p m) (hk:uj m k=some d) (h:∀v H2,Dv H v d->Mv [p] H H2->oq H2 p (sg m k)->Q v H2):KQ (.ref p) [.str k] H Q:=by
 obtain⟨kvs,e,dk⟩:=hp
 obtain⟨v,hv,hd⟩:=(dk.val (k:=k)).1 d hk
 have mv:Mv [p] H (upd H p (.dK (lT kvs (.inr k)))):=.aS e (by intro _ z;cases z)
 refine⟨p,kvs,.inr k,v,rfl,rfl,e,hv,h v _ hd mv ⟨_,av,dk.drop.yw mv.tp⟩⟩
theorem tN (h:(ts.map (·.1)).Nodup):((iQ ts x).map (·.1)).Nodup:=h.sublist (IR.map _)
theorem Ee {y:Str}:y∈(iQ ts x).map (·.1)↔y∈ts.map (·.1)/\y≠x:=by
 simp only [AN,c9]
 constructor
 . rintro⟨z,⟨h1,h2⟩,rfl⟩;exact⟨⟨z,h1,rfl⟩,h2⟩
 . rintro⟨⟨z,h1,rfl⟩,h2⟩;exact⟨z,⟨h1,h2⟩,rfl⟩
def YA:Int->List Int->List (Int × Int)
 |_,[]=>[]
 |u,r::rs=>(u,r)::YA (u*r) rs
def mF (u:Int) (rs:List Int):Int:=rs.foldl (·*·) u
theorem xD (r:Int):∀(u:Int) (rs:List Int),YA u (rs++[r])=YA u rs++[(mF u rs,r)]
 |u,[]=>rfl
 |u,q::rs=>by rw [List.cons_append,YA,YA,xD r (u*q) rs];rfl
theorem yY (u r:Int) (rs:List Int):mF u (rs++[r])=mF u rs*r:=by unfold mF;rw [AbO];rfl
theorem sH:∀(u:Int) (rs:List Int),(YA u rs).length=rs.length
 |_,[]=>rfl
 |u,r::rs=>by rw [YA,FF,FF,sH]
theorem AH:∀(rs:List Int) (u:Int),0<u->(∀r∈rs,2<=r/\r<=60)->0<mF u rs/\mF u rs<=u*60^rs.length
 |[],u,h,_=>⟨h,by simp [mF]⟩
 |r::rs,u,h,hr=>by
  have Kr:=hr r BC
  have hp:0<u*r:=Int.mul_pos h (by omega)
  obtain⟨h1,h2⟩:=AH rs (u*r) hp fun x hx=>hr x (AL _ hx)
  refine⟨h1,Int.le_trans h2 ?_⟩
  rw [FF,Int.pow_succ]
  have:(0:Int)<60^rs.length:=Int.pow_pos (by decide)
  have e:u*(60^rs.length*60)=u*60*60^rs.length:=by rw [Int.mul_assoc,Int.mul_comm (60^rs.length) 60]
  rw [e]
  exact Int.mul_le_mul_of_nonneg_right (Int.mul_le_mul_of_nonneg_left Kr.2 (OP h)) (OP this)
theorem Ws (h:j<=6):(60:Int)^j<=10^12:=by
 match j,h with
 |0,_=>exact(by decide)
 |1,_=>exact(by decide)
 |2,_=>exact(by decide)
 |3,_=>exact(by decide)
 |4,_=>exact(by decide)
 |5,_=>exact(by decide)
 |6,_=>exact(by decide)
theorem mG:∀(rs:List Int) (u:Int) (k:Nat) (q:Int × Int),(YA u rs)[k]? =some q->q.1=mF u (rs.take k)/\rs[k]? =some q.2
 |[],_,k,q,h=>by simp [YA] at h
 |r::rs,u,0,q,h=>by
  have:(u,r)=q:=by simpa [YA] using h
  subst this
  exact⟨rfl,rfl⟩
 |r::rs,u,k+1,q,h=>by
  have h:(YA (u*r) rs)[k]? =some q:=by simpa [YA] using h
  obtain⟨h1,h2⟩:=mG rs (u*r) k q h
  exact⟨h1,by simpa using h2⟩
theorem Bg (hl:rs.length<=6) (hr:∀r∈rs,2<=r/\r<=60):EY (YA 1 rs):=by
 intro q hq
 obtain⟨k,hk⟩:=Aba hq
 obtain⟨h1,h2⟩:=mG rs 1 k q hk
 obtain⟨p1,p2⟩:=AH (rs.take k) 1 (by decide) fun r hr'=>hr r (Abb hr')
 have hr2:=hr q.2 (Cf h2)
 have gP:(rs.take k).length<=6:=by rw [KM];omega
 have:=Ws gP
 rw [h1]
 exact⟨p1,by omega,hr2.1,hr2.2⟩
theorem YZ {R:Prop} (e:H p=some (.lst xs)) (h:R):TQ K "list" (.ref p) H/\R:=⟨.inl ⟨rfl,xs,.of e⟩,h⟩
def XM (CW:Addr) (H:Hp) (ws:List Wh):Prop:=∀y∈ws,jo CW H y/\y.cs=[]/\y.m=0
def zA (CW:Addr):Sp:=fun vs H Q _=>∃(l:Addr) (rs:List Int),vs=[.ref l]/\dg H l (rs.map Pd)/\rs.length<=6/\(∀r∈rs,2<=r/\r<=60)/\
 ∀q H' (ws:List Wh),ay H H'->H q=none->H' q=some (.lst (ws.map fun y=>V.ref y.x))->ws.map (fun y=>(y.u,y.s))=YA 1 rs->XM CW H' ws->(q::ws.flatMap Wh.foot).Nodup->(∀b∈ws.flatMap Wh.foot,H b=none)->Q (.ref q) H'
theorem F7 (T:Txt K mg a):aP P w K mg base eG 3 a.eM a.wU ["rounds"] (zA a.aj):=by
 have Ms:=HM (P:=P) (w:=w) (base:=base) T
 refine T.sy.ok ja (fun vs H Q E h=>?_) (fun c7 A outer s H vs Q E hr h=>?_)
 . obtain⟨_,_,rfl,_⟩:=h;rfl
 . obtain⟨l,rs,rfl,hl,hlen,Et,q⟩:=h
   refine⟨_,(ag (aE (i:=1) ja.nd rfl (FS rfl) (b9 af))
    (ag (aE (i:=2) ja.nd rfl (FS rfl) aq)
    (ag (kC KB rfl (cR (pv 0)) (a0 (i:=3) ja.nd rfl (FS rfl))
     (ag (aF (iy GG PP P3 lj (pv 1) (ae (mX T.LL Ms (hr.mono (by decide)) rfl T.GF (ae (pv 2) (ae (pv 3) af))) af)))
     (ah (aE (i:=2) ja.nd rfl (FS rfl) (aC EA (pv 2) (pv 3))))))
    (ah (aD (pv 1)))))),?_⟩
   repeat' (walk_at "rd1")
   rename_i ql H1 Bi mI yC
   have F1:=hl.keeps Bi
   have hlq:l≠ql:=hl.ne mI
   refine G4 (Hb:=H1) (cs:=rs) (gd:=Pd) F1.dv (fun j σ' H'=>Mv [ql] H1 H'/\∃(ws:List Wh) (z:Option V),σ'=[some (.ref l),some (.ref ql),some (.int (mF 1 (rs.take j))),z]/\H' ql=some (.lst (ws.map fun y=>V.ref y.x))/\ws.map (fun y=>(y.u,y.s))=YA 1 (rs.take j)/\XM a.aj H' ws/\(ql::ws.flatMap Wh.foot).Nodup/\∀b∈ws.flatMap Wh.foot,H1 b=none) ⟨Mv.refl,[],_,rfl,(by obtain⟨xs,e,dv,_⟩:=yC;cases dv;exact e),rfl,(fun x hx=>nomatch hx),(by simp),(fun b hb=>nomatch hb)⟩ (fun i σ' H' _ ⟨mv,_⟩ a' xs e hx=>by cases e;exact mv.sq (by simpa using hlq) hx) ?_ ?_
   . rintro j r x σ' H' hj ⟨mv,ws,z,rfl,hq,EX,bb,j9,N8⟩ ZW _
     obtain rfl:=(ZW rfl mv.tp).int_inv
     have hr2:=Et r (Cf hj)
     have hj6:j<6:=by have:=(AS.mp hj).1;omega
     have htl:(rs.take j).length<=6:=by rw [KM];omega
     obtain⟨SV,R8⟩:=AH (rs.take j) 1 (by decide) fun r hr'=>Et r (Abb hr')
     have hu2:mF 1 (rs.take j)<=10^12:=by have:=Ws htl;omega
     have GJ:rs.take (j+1)=rs.take j++[r]:=by rw [We,hj];rfl
     have hwl:ws.length<=6:=by
      have:=congrArg Abn EX
      rw [AE,sH] at this
      omega
     rw [GJ,yY,xD]
     generalize mF 1 (rs.take j)=u at*
     repeat' (walk_at "rd1")
     refine YZ hq ?_
     repeat' (walk_at "rd1")
     refine P8 SV hu2 (by omega) hr2.2 (fun x dn H3 sm3 XZ hd3 vQ=>?_)
     have pL:=sm3 _ _ hq
     repeat' (walk_at "rd1")
     refine WX pL (by rw [AE];omega) ?_
     have tX:Mv [ql] H3 (upd H3 ql (.lst (ws.map (fun y=>V.ref y.x)++[.ref x]))):=.aS pL (by intro _ z;cases z)
     have hxq:x≠ql:=fun z=>by rw [z,hq] at XZ;cases XZ
     have hdq:dn≠ql:=fun z=>by rw [z,hq] at hd3;cases hd3
     have Ed:upd H3 ql (.lst (ws.map (fun y=>V.ref y.x)++[.ref x])) ql=some (.lst ((ws++[(⟨x,dn,u,r,0,[]⟩:Wh)]).map fun y=>V.ref y.x)):=by rw [av,CS];rfl
     generalize upd H3 ql (.lst (ws.map (fun y=>V.ref y.x)++[.ref x]))=H4 at*
     repeat' (walk_at "rd1")
     have hwf:Wh.foot ⟨x,dn,u,r,0,[]⟩=[x,dn]:=rfl
     have hxd:x≠dn:=fun z=>by
      obtain⟨dx,e⟩:=vQ.i
      have e2:=vQ.d
      have e:H3 x=some _:=e
      have e2:H3 dn=some _:=e2
      rw [z,e2] at e
      cases e
     have Je:∀b∈ql::ws.flatMap Wh.foot,H' b≠none:=fun b hb=>by
      rcases AD.mp hb with rfl|hb
      . rw [hq];simp
      . obtain⟨y,hy,hb⟩:=Lm.mp hb
        exact(bb y hy).1.alive b hb
     refine⟨(mv.y9 sm3).trans tX,ws++[⟨x,dn,u,r,0,[]⟩],_,rfl,Ed,by rw [CS,EX];rfl,fun y hy=>?_,?_,fun b hb=>?_⟩
     . rcases Co.mp hy with hy|hy
       . obtain⟨h1,h2⟩:=bb y hy
         refine⟨(h1.keeps sm3).mv tX fun b hb=>?_,h2⟩
         have:=(EO.mp j9).1
         simpa using fun z:b=ql=>this (z▸Lm.mpr ⟨y,hy,hb⟩)
       . have hy:y=⟨x,dn,u,r,0,[]⟩:=by simpa using hy
         subst hy
         refine⟨vQ.mv tX fun b hb=>?_,rfl,rfl⟩
         rw [hwf] at hb
         have:b=x\/b=dn:=by simpa using hb
         rcases this with rfl|rfl
         . simpa using hxq
         . simpa using hdq
     . rw [LG,<-List.cons_append,Go]
       refine⟨j9,by simp [hwf,hxd],fun b hb b' xK=>?_⟩
       have:b'=x\/b'=dn:=by simpa [hwf] using xK
       rcases this with rfl|rfl
       . exact fun z=>Je b hb (z▸XZ)
       . exact fun z=>Je b hb (z▸hd3)
     . rw [LG] at hb
       rcases Co.mp hb with hb|hb
       . exact N8 b hb
       . have:b=x\/b=dn:=by simpa [hwf] using hb
         rcases this with rfl|rfl
         . exact mv.none XZ
         . exact mv.none hd3
   . rintro σ' H' ⟨mv,ws,z,rfl,hq,EX,bb,j9,N8⟩
     rw [SO] at EX
     repeat' (walk_at "rd1")
     exact q ql H' ws (Mv.Lq Bi mv mI) mI hq EX bb j9 fun b hb=>Bi.none (N8 b hb)
theorem El (T:Txt K mg a):df P w K mg base 3 a.eM ["rounds"] [] (zA a.aj):=
 ⟨⟨_,_,F7 T,T.sy.binds fun _ _ _ _ _ _=>kO fun _=>rfl,.nil⟩⟩
def vW (C:Addr):Sp:=fun vs H Q _=>∃p dx n,vs=[.ref p,.int n]/\H p=some (.ins C dx [])/\∀H' d,Mv [p] H H'->H d=none->oq H' d []->H' p=some (.ins C dx [("now",.int n),("times",.ref d)])->Q .aQ H'
theorem Ga (T:Txt K mg a) (cl:ug K C) (n1:aJ K C "now") (n2:aJ K C "times"):aP P w K mg base eG 1 a.aX a.jg ["self","now"] (vW C):=by
 refine T.jI.ok wa (fun vs H Q E h=>?_) (fun c7 A outer s H vs Q E hr h=>?_)
 . obtain⟨_,_,_,rfl,_⟩:=h;rfl
 . obtain⟨p,dx,n,rfl,hp,q⟩:=h
   refine⟨_,(ag (aV (pv 0) (pv 1) rfl)
    (ah (aV (pv 0) lU rfl))),?_⟩
   repeat' (walk_at "rd1")
   rename_i d H2 jK mR hd2
   have iE:Mv [p] H (upd H p (.ins C dx [("now",.int n)])):=.aS hp (by intro _ z;cases z)
   have e2:=jK p _ av
   have gH:Mv [p] H2 (upd H2 p (.ins C dx [("now",.int n),("times",.ref d)])):=.aS e2 (by intro _ z;cases z)
   have hn:H d=none:=iE.none mR
   have hpd:d≠p:=Me (aA hp hn)
   exact q _ d (iE.trans ((jK.mv (S:=[p])).trans gH)) hn (hd2.mv gH (by simpa using hpd)) av
theorem Le (T:Txt K mg a):Binds K a.jg ["self","now"] []:=T.jI.binds fun _ _ _ _ _ _ s us kx hl=>by
 obtain⟨o,n,h1,h2⟩:=T.pk.ex
 have hl:us.length=2:=by simp at hl;omega
 obtain⟨_,_,rfl⟩:=ln2 hl
 exact WA kx rfl h1 h2 rfl rfl
theorem MC (T:Txt K mg a):df P w K mg base 1 a.aX ["self","now"] [] (vW a.ai):=
 ⟨⟨_,_,Ga T T.aO T.cp T.cK,Le T,.nil⟩⟩
theorem Xc {f:Addr} {ws:List Wh} (EX:ws.map (fun y=>(y.u,y.s))=us) (he:XM CW H ws):GI us n [] ⟨q,f,ws,[]⟩:=by
 refine⟨EX,fun k y hy=>?_,fun c=>⟨(fun h=>nomatch h),(fun h=>nomatch h.1)⟩,.nil⟩
 have hc:=(he y (Cf hy)).2.1
 have hm:=(he y (Cf hy)).2.2
 refine⟨⟨by rw [hm];decide,fun i=>by rw [hm,hc];simp⟩,by rw [hc];exact .nil,(fun c h=>by rw [hc] at h;exact nomatch h),fun x j=>⟨(fun⟨c,h,_⟩=>by rw [hc] at h;exact nomatch h),(fun⟨t,h,_⟩=>nomatch h)⟩⟩
def yq (C CW:Addr):Sp:=fun vs H Q _=>∃(p dx l:Addr) (rs:List Int) (n:Int),vs=[.ref p,.ref l,.int n]/\H p=some (.ins C dx [])/\dg H l (rs.map Pd)/\rs.length<=6/\1<=rs.length/\(∀r∈rs,2<=r/\r<=60)/\
 ∀H' d m G,Mv [p] H H'->(∀b∈d::m::G.foot,H b=none)->F6 C CW H' p d m n (YA 1 rs) G [] []->Q .aQ H'
theorem Mp (T:Txt K mg a):aP P w K mg base eG 5 a.bL a.lG ["self","rounds","now"] (yq a.ai a.aj):=by
 have n1:=T.cp;have n2:=T.cK;have n3:=T.bj;have n4:=T.dW;have n5:=T.cM;have cl:=T.aO
 have BJ:=P6 (P:=P) (w:=w) (base:=base) T
 have yD:=MC (P:=P) (w:=w) (base:=base) T
 have G2:=El (P:=P) (w:=w) (base:=base) T
 refine T.iU.ok uW (fun vs H Q E h=>?_) (fun c7 A outer s H vs Q E hr h=>?_)
 . obtain⟨_,_,_,_,_,rfl,_⟩:=h;rfl
 . obtain⟨p,dx,l,rs,n,rfl,hp,hl,Z0,Kr,Et,q⟩:=h
   refine⟨_,(ag (aF (dA BJ (hr.mono (by decide)) rfl T.qV T.qT (ae (pv 1) af)))
    (ag (aF (EF rfl T.HA T.pA yD (hr.mono (by decide)) (ae (pv 0) (ae (pv 2) af))))
    (ag (aV (pv 0) (dA G2 (hr.mono (by decide)) rfl T.wQ T.xq (ae (pv 1) af)) rfl)
    (ag (aV (pv 0) (b9 af) rfl)
    (ah (aV (pv 0) lU rfl)))))),?_⟩
   repeat' (walk_at "rd1")
   refine⟨l,rs,rfl,hl,Kr,Z0,Et,?_⟩
   repeat' (walk_at "rd1")
   refine⟨p,dx,n,rfl,hp,fun H1 d iE Av W9 DT=>?_⟩
   have hlp:l≠p:=by obtain⟨xs,e,_⟩:=hl;exact pB e hp (by intro y;cases y)
   have F1:dg H1 l (rs.map Pd):=hl.mv iE (by simpa using hlp)
   repeat' (walk_at "rd1")
   refine⟨l,rs,rfl,F1,Z0,Et,fun q3 H3 ws sm3 pU pL EX bb j9 N8=>?_⟩
   have hp3:=sm3 _ _ DT
   repeat' (walk_at "rd1")
   rename_i f H4 sm4 LR Sh m H5 Gq Zb hm5
   have HY:Mv [p] H3 (upd H3 p (.ins a.ai dx [("now",.int n),("times",.ref d),("wheels",.ref q3)])):=.aS hp3 (by intro _ z;cases z)
   have e4:=sm4 p _ av
   have mvB:Mv [p] H4 (upd H4 p (.ins a.ai dx [("now",.int n),("times",.ref d),("wheels",.ref q3),("far",.ref f)])):=.aS e4 (by intro _ z;cases z)
   have e5:=Gq p _ av
   have mvC:Mv [p] H5 (upd H5 p (.ins a.ai dx [("now",.int n),("times",.ref d),("wheels",.ref q3),("far",.ref f),("moves",.ref m)])):=.aS e5 (by intro _ z;cases z)
   have mvR:=HY.trans ((sm4.mv (S:=[p])).trans (mvB.trans ((Gq.mv (S:=[p])).trans mvC)))
   have Yl:Mv [p] H H3:=iE.y9 sm3
   have agK:Mv [p] H H4:=Yl.trans (HY.y9 sm4)
   have E3:H3 f=none:=HY.none LR
   have F4:H4 m=none:=mvB.none Zb
   have fH:H f=none:=Yl.none E3
   have mH:H m=none:=agK.none F4
   have qH:H q3=none:=iE.none pU
   have dH1:H1 d≠none:=by obtain⟨kvs,e,_⟩:=W9;rw [e];simp
   have dH3:H3 d≠none:=by obtain⟨kvs,e,_⟩:=W9.keeps sm3;rw [e];simp
   have wH1:∀b∈ws.flatMap Wh.foot,H1 b=none:=N8
   have wH:∀b∈ws.flatMap Wh.foot,H b=none:=fun b hb=>iE.none (N8 b hb)
   have wH3:∀b∈ws.flatMap Wh.foot,H3 b≠none:=fun b hb=>by
    obtain⟨y,hy,hb⟩:=Lm.mp hb
    exact(bb y hy).1.alive b hb
   have qH3:H3 q3≠none:=by rw [pL];simp
   have up4:∀b,H3 b≠none->H4 b≠none:=fun b hb z=>hb ((HY.y9 sm4).none z)
   have f4:H4 f≠none:=by obtain⟨xs,e,_⟩:=Sh;rw [e];simp
   have RL:∀b,H b=none->b≠p:=fun b hb z=>by rw [z,hp] at hb;cases hb
   have O4:(p::d::m::fc.foot ⟨q3,f,ws,[]⟩).Nodup:=by
    show(p::d::m::q3::f::ws.flatMap Wh.foot).Nodup
    simp only [EO,AD,not_or] at j9 ⊢
    refine⟨⟨(RL d Av).symm,(RL m mH).symm,(RL q3 qH).symm,(RL f fH).symm,fun z=>RL p (wH p z) rfl⟩,⟨fun z=>up4 d dH3 (z▸F4),fun z=>dH1 (z▸pU),fun z=>dH3 (z▸E3),fun z=>dH1 (wH1 d z)⟩,⟨fun z=>up4 q3 qH3 (z▸F4),fun z=>f4 (z▸F4),fun z=>up4 m (wH3 m z) F4⟩,⟨fun z=>qH3 (z▸E3),j9.1⟩,fun z=>wH3 f z E3,j9.2⟩
   have hdp:=RL d Av
   refine q _ d m ⟨q3,f,ws,[]⟩ (Yl.trans mvR) (fun b hb=>?_) ⟨⟨⟨dx,av⟩,(W9.keeps sm3).mv mvR (by simpa using hdp),hm5.mv mvC (by simpa using RL m mH),⟨mvR.at (by simpa using RL q3 qH) pL,((Sh.mv mvB (by simpa using RL f fH)).keeps Gq).mv mvC (by simpa using RL f fH),fun y hy=>(bb y hy).1.mv mvR fun b hb=>by simpa using RL b (wH b (Lm.mpr ⟨y,hy,hb⟩)),?_⟩,O4⟩,Xc EX bb,Bg Z0 Et,.nil,.nil,fun x=>Iff.rfl⟩
   . rcases AD.mp hb with rfl|hb
     . exact Av
     . rcases AD.mp hb with rfl|hb
       . exact mH
       . rcases AD.mp hb with rfl|hb
         . exact qH
         . rcases AD.mp hb with rfl|hb
           . exact fH
           . exact wH b hb
   . have:=O4
     rw [EO,EO,EO] at this
     exact this.2.2.2
theorem Fv (T:Txt K mg a):df P w K mg base 5 a.bL ["self","rounds","now"] [] (yq a.ai a.aj):=
 ⟨⟨_,_,Mp T,T.iU.binds fun _ _ _ _ _ _ s us kx hl=>by
   obtain⟨o,n,h1,h2⟩:=T.nJ.ex
   have hl:us.length=3:=by simp at hl;omega
   obtain⟨_,_,_,rfl⟩:=ln3 hl
   exact WA kx rfl h1 h2 rfl rfl,.nil⟩⟩
theorem Ow {l:Addr} {us:List V} (eu:us=[.ref l,.int n]) (hl:dg H l (rs.map Pd)) (h1:1<=rs.length) (h6:rs.length<=6) (hr:∀r∈rs,2<=r/\r<=60) (k:∀x d m G H2,ay H H2->(∀b∈x::d::m::G.foot,H b=none)->F6 C CW H2 x d m n (YA 1 rs) G [] []->Q (.ref x) H2):uq C (yq C CW) us H Q E:=by
 refine⟨_,eu,fun x dx hx hd ne=>?_⟩
 have sm:ay H (upd (upd H dx (.own x)) x (.ins C dx [])):=fun b u e=>by rw [az (aA e hx),az (aA e hd)];exact e
 refine⟨x,dx,l,_,n,rfl,av,hl.keeps sm,h6,h1,hr,fun H' d m G mv N8 hw=>⟨rfl,?_⟩⟩
 refine k x d m G H' (Fo hx hd mv) (fun b hb=>?_) hw
 rcases AD.mp hb with rfl|hb
 . exact hx
 . exact xN (N8 b hb)
structure Ch (us:List (Int × Int)):Prop where
 ok:EY us
 one:∀q,us[0]? =some q->q.1=1
 nxt:∀(k:Nat) q q',us[k]? =some q->us[k+1]? =some q'->q'.1=q.1*q.2
 pos:0<us.length
theorem Ch.mul {us:List (Int × Int)} (h:Ch us):∀(k j:Nat) (q q':Int × Int),j<k->us[j]? =some q->us[k]? =some q'->∃r,0<r/\q'.1=q.1*q.2*r
 |0,j,q,q',hj,_,_=>by omega
 |k+1,j,q,q',hj,h1,h2=>by
  have hk:k<us.length:=by have:=(AS.mp h2).1;omega
  have lq:=AC hk
  have e:=h.nxt k _ q' lq h2
  by_cases c:j=k
  . subst c
    rw [h1] at lq
    cases lq
    exact⟨1,by decide,by rw [e,Int.mul_one]⟩
  . obtain⟨r,r0,er⟩:=h.mul k j q _ (by omega) h1 lq
    have hs:=(h.ok _ (Cf lq)).2.2.1
    refine⟨r*us[k].2,Int.mul_pos r0 (by omega),?_⟩
    rw [e,er,Int.mul_assoc]
theorem Cr {a r:Int} (ha:0<a) (h:t / a=n / a):t / (a*r)=n / (a*r):=by
 rw [<-AaG (OP ha),<-AaG (OP ha),h]
theorem p6 (h:Ch us) {k:Nat} {q:Int × Int} (hq:us[k]? =some q):0<q.1*q.2/\0<q.1/\0<q.2:=by
 obtain⟨a1,a2,a3,a4⟩:=h.ok q (Cf hq)
 exact⟨Int.mul_pos a1 (by omega),a1,by omega⟩
theorem Hv (h:Ch us) {k:Nat} {q q':Int × Int} (hj:j<k) (h1:us[j]? =some q) (h2:us[k]? =some q') (mS:¬t / q'.1=n / q'.1):¬t / (q.1*q.2)=n / (q.1*q.2):=fun e=>by
 obtain⟨r,_,er⟩:=h.mul k j q q' hj h1 h2
 rw [er] at mS
 exact mS (Cr (p6 h h1).1 e)
def acn (q:Int × Int) (now to t:Int):Prop:=to / (q.1*q.2)=now / (q.1*q.2)->t / q.1 % q.2<=to / q.1 % q.2
def Out (us:List (Int × Int)) (now to t:Int):Prop:=(∀q,us[iu us t now]? =some q->acn q now to t)/\(iu us t now=us.length->∀q,us[us.length - 1]? =some q->t / (q.1*q.2)<=to / (q.1*q.2))
theorem pW {s:Int} (hu:0<=u):t / u=s*(t / (u*s))+t / u % s:=by
 rw [<-AaG hu]
 exact(Int.mul_ediv_add_emod (t / u) s).symm
theorem Ju (h:Ch us) {now:Int} (hle:t<=to):Out us now to t:=by
 refine⟨fun q hq ho=>?_,fun _ q hq=>TM (p6 h hq).1 hle⟩
 obtain⟨p1,p2,p3⟩:=p6 h hq
 have hy:=Al hq
 have a1:=pW (s:=q.2) (t:=t) (OP p2)
 have a2:=pW (s:=q.2) (t:=to) (OP p2)
 rw [hy] at a1
 rw [ho] at a2
 have:=TM p2 hle
 omega
theorem Bs (h:Ch us):∃q,us[us.length - 1]? =some q:=⟨_,AC (by have:=h.pos;omega)⟩
theorem qW (h:Ch us) {now:Int} (ho:¬Out us now to t):to<t/\iu us t to=iu us t now:=by
 have Ks:to<t:=by
  by_cases c:t<=to
  . exact absurd (Ju h c) ho
  . omega
 refine⟨Ks,?_⟩
 by_cases c:iu us t now=us.length
 . obtain⟨q,hq⟩:=Bs h
   have t7:¬t / (q.1*q.2)<=to / (q.1*q.2):=fun z=>ho ⟨(fun q' vP=>by rw [c,Ps (BN _)] at vP;cases vP),(fun _ q' vP=>by rw [hq] at vP;cases vP;exact z)⟩
   rw [c]
   refine Fn (fun j q' hj vP e=>?_) (.inl rfl)
   by_cases cj:j=us.length - 1
   . subst cj
     rw [hq] at vP;cases vP
     omega
   . obtain⟨r,_,er⟩:=h.mul (us.length - 1) j q' q (by omega) vP hq
     have e2:t / (q.1*q.2)=to / (q.1*q.2):=by
      rw [er,Int.mul_assoc]
      exact Cr (p6 h vP).1 e
     omega
 . have gP:iu us t now<us.length:=by have:=vL us t now;omega
   have hq:=AC gP
   generalize us[iu us t now]=q at hq
   have hnw:¬acn q now to t:=fun z=>ho ⟨(fun q' vP=>by rw [hq] at vP;cases vP;exact z),(fun e=>absurd e c)⟩
   have hh:to / (q.1*q.2)=now / (q.1*q.2):=by
    by_cases e:to / (q.1*q.2)=now / (q.1*q.2)
    . exact e
    . exact absurd (fun z=>absurd z e) hnw
   have hs:¬t / q.1 % q.2<=to / q.1 % q.2:=fun z=>hnw fun _=>z
   have hy:=Al hq
   refine Fn (fun j q' hj vP=>Hv h hj vP hq fun e=>hs (by rw [e];exact AaR _)) (.inr ⟨q,hq,by rw [hy,hh]⟩)
theorem down (h:Ch us) {now:Int} (Om:now<=to) (ho:Out us now to t) (Ks:to<t):iu us t to<iu us t now:=by
 by_cases c:iu us t now=us.length
 . obtain⟨q,hq⟩:=Bs h
   have h1:=ho.2 c q hq
   have h2:=TM (p6 h hq).1 (OP Ks)
   rw [c]
   by_cases d:iu us t to<us.length
   . exact d
   . have hp:=h.pos
     exact absurd (by omega:t / (q.1*q.2)=to / (q.1*q.2)) (E6 (k:=us.length - 1) (by have:=vL us t to;omega) hq)
 . have gP:iu us t now<us.length:=by have:=vL us t now;omega
   have hq:=AC gP
   generalize us[iu us t now]=q at hq
   obtain⟨p1,p2,p3⟩:=p6 h hq
   have hy:=Al hq
   have hw:=ho.1 q hq
   have b1:=TM p1 Om
   have b2:=TM p1 (OP Ks)
   have hh:to / (q.1*q.2)=now / (q.1*q.2):=by omega
   have hs:=hw hh
   have a1:=pW (s:=q.2) (t:=t) (OP p2)
   have a2:=pW (s:=q.2) (t:=to) (OP p2)
   rw [hy] at a1
   rw [hh] at a2
   have b3:=TM p2 (OP Ks)
   have e:t / q.1=to / q.1:=by omega
   cases hk:iu us t now with
   |zero=>
    rw [hk] at hq
    rw [h.one q hq] at e
    rw [Int.ediv_one,Int.ediv_one] at e
    omega
   |succ k=>
    rw [hk] at hq
    have hkl:k<us.length:=by omega
    have vz:=AC hkl
    have en:=h.nxt k _ q vz hq
    by_cases d:iu us t to<=k
    . omega
    . rw [en] at e
      exact absurd e (E6 (k:=k) (by omega) vz)
theorem JR (h1:1<=rs.length) (hl:rs.length<=6) (hr:∀r∈rs,2<=r/\r<=60):Ch (YA 1 rs):=by
 refine⟨Bg hl hr,fun q hq=>(mG rs 1 0 q hq).1,fun k q q' hq vP=>?_,by rw [sH];omega⟩
 obtain⟨a1,a2⟩:=mG rs 1 k q hq
 obtain⟨b1,_⟩:=mG rs 1 (k+1) q' vP
 rw [b1,We,a2,a1]
 exact yY 1 q.2 (rs.take k)
theorem AF (hp:dg H p ds) (hb:dg H b es) (hl:ds.length+es.length<=4000) (h:∀H2,Mv [p] H H2->dg H2 p (ds++es)->Q .aQ H2):Kk (.ref p) [.ref b] H Q:=by
 obtain⟨xs,e,dv,i⟩:=hp
 obtain⟨zs,e2,dv2,i2⟩:=hb
 have m:Mv [p] H (upd H p (.lst (xs++zs))):=.aS e (by intro _ z;cases z)
 exact⟨p,b,xs,zs,rfl,rfl,e,e2,by rw [dv.length,dv2.length];exact Aat (hV hl),h _ m ⟨_,av,m.IZ (gE i i2) (dv.append dv2),gE i i2⟩⟩
def xl (y:Wh) (now to:Int):Int:=if to / (y.u*y.s)=now / (y.u*y.s) then fK y to else 59
def Aai (cs:List Sl):List Str:=cs.flatMap (·.ns)
theorem Hn {cs:List Sl} {L:Nat} (h:(Aai cs).length<=L) {c:Sl} (hc:c∈cs):c.ns.length<=L:=by
 obtain⟨a,b,e⟩:=List.append_of_mem hc
 unfold Aai at h
 rw [e,LG,NL,Da,Da] at h
 omega
theorem OS {m s:Int} (hm:0<=m) (hs:0<=s):AaU m (2*2^s.toNat - 1)=((m.toNat % 2^(s.toNat+1):Nat):Int):=by
 have e:(2*2^s.toNat - 1:Int)=((2^(s.toNat+1) - 1:Nat):Int):=by
  have h1:(2:Int)^s.toNat=((2^s.toNat:Nat):Int):=by norm_cast
  have h2:0<2^s.toNat:=Nat.two_pow_pos _
  rw [h1,Abz]
  omega
 rw [e,A5 hm (by omega),OF,Nat.and_two_pow_sub_one_eq_mod]
def D5 (CW:Addr):Sp:=fun vs H Q _=>∃(z:Addr) (y:Wh) (nw to:Int),vs=[.ref z,.int nw,.int to]/\z=y.x/\jo CW H y/\Nv y/\y.foot.Nodup/\(y.cs.map (·.k)).Nodup/\ic y/\(∀c∈y.cs,0<=c.k/\c.k<60)/\(Aai y.cs).length<=3000/\
 ∀l H' y' BD,Mv y.foot H H'->jo CW H' y'->y'.x=y.x->y'.dn=y.dn->y'.u=y.u->y'.s=y.s->ic y'->y'.cs.Sublist y.cs->(∀c,c∈y'.cs↔c∈y.cs/\¬c.k<=xl y nw to)->(BD++y'.cs).Perm y.cs->(∀c∈BD,c.k<=xl y nw to)->H l=none->dg H' l ((Aai BD).map EQ)->Q (.ref l) H'
theorem NU (T:Txt K mg a):aP P w K mg base eG 2 a.cI a.oU ["self","now","to"] (D5 a.aj):=by
 have n4:=T.c5;have cl:=T.bP
 have SQ:=T.oH;have px:=T.gX;have E5:=T.nT
 have SJ:=Dl (P:=P) (w:=w) (base:=base) T
 have o9:=vb (P:=P) (w:=w) (base:=base) T
 have E9:=DN (P:=P) (w:=w) (base:=base) T
 refine T.ke.ok de (fun vs H Q E h=>?_) (fun c7 A outer s H vs Q E hr h=>?_)
 . obtain⟨_,_,_,_,rfl,_⟩:=h;rfl
 . obtain⟨_,y,nw,to,rfl,rfl,hw,hb,E3,Ep,hmk,Y6,hlen,q⟩:=h
   obtain⟨dx,hx⟩:=hw.i
   have hi:jF H (.ref y.x) a.aj [("unit",.int y.u),("slots",.int y.s),("span",.int (y.u*y.s)),("mask",.int y.m),("names_in",.ref y.dn)]:=⟨y.x,dx,rfl,hx⟩
   have s0:=xU hb to
   have s1:=B3 hb to
   have s2:=hb.2.2.2
   have VG:=hmk.1
   refine⟨_,(ag (aE (i:=3) de.nd rfl (FS rfl) (au (pv 0) rfl))
    (cN (bB (bI (aB (pv 0) cl SQ SJ (hr.mono (by decide)) (ae (pv 2) (ae (pv 1) af))) (fun _=>rfl))
     (ah (aE (i:=3) de.nd rfl (FS rfl) (aC Xi (pv 3) (aC rL (aC Fu aq (aB (pv 0) cl px o9 (hr.mono (by decide)) (ae (pv 2) af))) aq))))
     aN)
    (ag (aE (i:=4) de.nd rfl (FS rfl) (b9 af))
    (ag (pE KB (aI DA (pv 3) aq (aK _))
     (ag (aE (i:=5) de.nd rfl (FS rfl) (aC rL (P2 PySem.F.plainAttrs_int PySem.F.slot_int_bit_length PySem.F.type_int_bit_length MM (pv 3)) aq))
     (ag (aF (iy GG Su SB oM (pv 4) (ae (aB (pv 0) cl E5 E9 (hr.mono (by decide)) (ae (pv 5) af)) af)))
     (ah (aE (i:=3) de.nd rfl (FS rfl) (aC Q9 (pv 3) (aC Fu aq (pv 5))))))))
    (ah (aD (pv 4))))))),?_⟩
   repeat' (walk_at "rd1")
   refine gw (fun σ' H'=>H'=H/\∃P:Nat,σ'=[some (.ref y.x),some (.int nw),some (.int to),some (.int P),none,none]/\∀i:Nat,P.testBit i=y.cs.any fun c=>decide (c.k=(i:Int)/\c.k<=xl y nw to)) ?_ ?_
   . repeat' (walk_at "rd1")
     refine Lk rfl hw hb ?_
     repeat' (walk_at "rd1")
     . rename_i hh
       refine AB rfl hw hb ?_
       refine r_i ⟨s0,by omega,by decide⟩ ?_
       repeat' (walk_at "rd1")
       refine⟨rfl,y.m.toNat % 2^((fK y to).toNat+1),by rw [OS VG s0];rfl,fun i=>?_⟩
       have Fy:xl y nw to=fK y to:=if_pos hh
       rw [Nat.testBit_mod_two_pow,hmk.2 i,Fy,NE,SL,jY,M2,decide_eq_true_eq]
       constructor
       . rintro⟨h1,c,hc,e⟩
         exact⟨c,hc,decide_eq_true ⟨e,by omega⟩⟩
       . rintro⟨c,hc,e⟩
         obtain⟨e1,e2⟩:=of_decide_eq_true e
         exact⟨by omega,c,hc,e1⟩
     . rename_i hh
       refine⟨rfl,y.m.toNat,by rw [Int.toNat_of_nonneg VG];rfl,fun i=>?_⟩
       have Fy:xl y nw to=59:=if_neg hh
       rw [hmk.2 i,Fy,NE,jY,M2]
       constructor
       . rintro⟨c,hc,e⟩
         have:=Y6 c hc
         exact⟨c,hc,decide_eq_true ⟨e,by omega⟩⟩
       . rintro⟨c,hc,e⟩
         exact⟨c,hc,(of_decide_eq_true e).1⟩
   . rintro σ' H' ⟨rfl,P0,rfl,hP0⟩
     generalize Fy:xl y nw to=lim at*
     repeat' (walk_at "rd1")
     rename_i l H1 Bi mI F1
     have jn:=hw.keeps Bi
     have hlf:l∉y.foot:=fun z=>hw.alive l z mI
     refine tW (fun M σ' H'=>∃(P:Nat) (BD:List Sl) (y1:Wh) (z:Option V),σ'=[some (.ref y.x),some (.int nw),some (.int to),some (.int P),some (.ref l),z]/\M=P/\Mv (l::y.foot) H1 H'/\jo a.aj H' y1/\y1.x=y.x/\y1.dn=y.dn/\y1.u=y.u/\y1.s=y.s/\ic y1/\y1.cs.Sublist y.cs/\(BD++y1.cs).Perm y.cs/\(∀c∈BD,c.k<=lim)/\(∀i:Nat,P.testBit i=y1.cs.any fun c=>decide (c.k=(i:Int)/\c.k<=lim))/\dg H' l ((Aai BD).map EQ)) ⟨P0,P0,[],y,none,rfl,rfl,Mv.refl,jn,rfl,rfl,rfl,rfl,hmk,List.Sublist.refl _,AbC _,(fun c h=>nomatch h),hP0,F1⟩ ?_
     rintro M σ' H2 ⟨P,BD,y1,z,rfl,rfl,mv,HZ,ex,ed,eu,es,acu,pK,uN,hvl,hP,Kp⟩
     have Ic:∀c,c∈y1.cs->c∈y.cs:=fun c hc=>pK.subset hc
     have Pm:y1.foot.Sublist y.foot:=by
      unfold Wh.foot
      rw [ex,ed]
      exact((pK.map _).cons₂ _).cons₂ _
     obtain⟨dx2,K5⟩:=HZ.i
     have J1:jF H2 (.ref y.x) a.aj [("unit",.int y1.u),("slots",.int y1.s),("span",.int (y1.u*y1.s)),("mask",.int y1.m),("names_in",.ref y1.dn)]:=⟨y.x,dx2,rfl,by rw [<-ex];exact K5⟩
     repeat' (walk_at "rd1")
     . rename_i hM
       have hM0:0<M:=by omega
       refine⟨rfl,(M:Int),rfl,rfl,?_⟩
       have eS:((Ll (M:Int):Nat):Int) - 1=(M.log2:Int):=by
        unfold Ll
        have:¬((M:Int)==0)=true:=by simp;omega
        rw [if_neg this,Int.natAbs_natCast]
        omega
       repeat' (walk_at "rd1")
       rw [eS]
       have htb:M.testBit M.log2=true:=GB hM0
       have hbk:=hP M.log2
       rw [htb] at hbk
       obtain⟨c,hc,hck⟩:=M2.mp hbk.symm
       obtain⟨hk,VS⟩:=of_decide_eq_true hck
       have hcy:=Ic c hc
       have ll:=Y6 c hcy
       have Y5:(y1.cs.map (·.k)).Nodup:=Ep.sublist (pK.map _)
       repeat' (walk_at "rd1")
       refine⟨y.x,y1,(M.log2:Int),c,rfl,ex.symm,HZ,by unfold Nv;rw [eu,es];exact hb,E3.sublist Pm,Y5,hc,hk,by omega,by omega,fun q2 H3 pG vQ akg vz=>?_⟩
       have hly:l∉y1.foot:=fun z=>hlf (Pm.subset z)
       have W5:=Kp.mv pG hly
       have hln:((Aai BD).map EQ).length+(c.ns.map EQ).length<=3000:=by
        have h1:=(uN.flatMap_right (·.ns)).length_eq
        rw [LG,Da] at h1
        have h2:=Hn (cs:=y1.cs) (BN _) hc
        unfold Aai at hlen h2 ⊢
        rw [AE,AE]
        omega
       repeat' (walk_at "rd1")
       refine AF W5 vz (by omega) (fun H4 tX hl4=>?_)
       repeat' (walk_at "rd1")
       refine r_i ⟨by omega,by omega,by decide⟩ ?_
       repeat' (walk_at "rd1")
       rw [OF] at vQ ⊢
       rw [B6 (by omega) (by rw [OF];exact htb),OF]
       have R7:0<2^M.log2:=Nat.two_pow_pos _
       have ajW:2^M.log2<=M:=Nat.ge_two_pow_of_testBit htb
       have mS:∀d∈y1.cs,d.k=(M.log2:Int)->d=c:=fun d hd e=>LN Y5 hd hc (e.trans hk.symm)
       have hdp:(c::lz y1.cs (M.log2:Int)).Perm y1.cs:=by
        obtain⟨A1,B1,e⟩:=List.append_of_mem hc
        have j9:=Y5
        rw [e,CS,EN,Go,EO] at j9
        have f1:A1.filter (fun c=>!decide (c.k=(M.log2:Int)))=A1:=Aar.mpr fun d hd=>by
         have:=j9.2.2 d.k (Cc hd) c.k BC
         simpa [<-hk] using this
        have f2:B1.filter (fun c=>!decide (c.k=(M.log2:Int)))=B1:=Aar.mpr fun d hd=>by
         have:d.k≠c.k:=fun z=>j9.2.1.1 (z▸Cc hd)
         simpa [<-hk] using this
        have f3:lz y1.cs (M.log2:Int)=A1++B1:=by
         unfold lz
         rw [e,Q3,Op,if_neg (by simp [hk]),f1,f2]
        rw [f3,e]
        exact(List.perm_middle).symm
       refine⟨M - 2^M.log2,by omega,M - 2^M.log2,BD++[c],y1.emptied (M.log2:Int) (No y1.m (1*2^M.log2)),_,rfl,rfl,Mv.step (Mv.step mv pG fun b hb=>.inl (AL _ (Pm.subset hb))) tX fun b hb=>.inl (by rw [AR.mp hb];exact BC),vQ.mv tX fun b hb=>?_,ex,ed,eu,es,?_,(IR).trans pK,?_,fun d hd=>?_,fun i=>?_,?_⟩
       . have:b∈y1.foot:=(Es y1 _ _).subset hb
         simpa using fun z:b=l=>hly (z▸this)
       . have:=Aq (slot:=(M.log2:Int)) acu (by omega) hc hk
         rwa [OF] at this
       . rw [Os]
         exact((AbC BD).append (by rw [List.singleton_append];exact hdp)).trans uN
       . rcases Co.mp hd with hd|hd
         . exact hvl d hd
         . rw [AR.mp hd];exact VS
       . rw [yW htb,hP i,NE,SL,decide_eq_true_eq,M2,M2]
         constructor
         . rintro⟨⟨d,hd,e⟩,Zz⟩
           obtain⟨e1,e2⟩:=of_decide_eq_true e
           exact⟨d,B0.mpr ⟨hd,by simp;omega⟩,e⟩
         . rintro⟨d,hd,e⟩
           obtain⟨Av,hd2⟩:=B0.mp hd
           obtain⟨e1,e2⟩:=of_decide_eq_true e
           have hd2:¬d.k=(M.log2:Int):=by simpa using hd2
           exact⟨⟨d,Av,e⟩,by omega⟩
       . have e:(Aai (BD++[c])).map EQ=(Aai BD).map EQ++c.ns.map EQ:=by
          unfold Aai
          rw [LG,CS]
          simp
         rw [e];exact hl4
     . rename_i hM
       have hM0:M=0:=by omega
       subst hM0
       have t7:∀c∈y1.cs,¬c.k<=lim:=fun c hc hl=>by
        have h1:=Y6 c (Ic c hc)
        have h2:=hP c.k.toNat
        rw [Nat.zero_testBit] at h2
        have h3:(y1.cs.any fun d=>decide (d.k=(c.k.toNat:Int)/\d.k<=lim))=true:=M2.mpr ⟨c,hc,decide_eq_true ⟨by omega,hl⟩⟩
        rw [h3] at h2;cases h2
       refine q l H2 y1 BD ?_ HZ ex ed eu es acu pK (fun c=>⟨fun hc=>⟨Ic c hc,t7 c hc⟩,fun⟨h1,h2⟩=>?_⟩) uN hvl mI Kp
       . exact Mv.step (Bi.mv) mv fun b hb=>by
          rcases AD.mp hb with rfl|hb
          . exact .inr mI
          . exact .inl hb
       . rcases Co.mp (uN.mem_iff.mpr h1) with h3|h3
         . exact absurd (hvl c h3) h2
         . exact h3
theorem JS (T:Txt K mg a):df P w K mg base 2 a.cI ["self","now","to"] [] (D5 a.aj):=
 ⟨⟨_,_,NU T,T.ke.binds fun _ _ _ _ _ _=>jr fun _ _ _=>rfl,.nil⟩⟩
def Kb (C CW:Addr):Sp:=fun vs H Q _=>∃(p dx d m:Addr) (n:Int) (G:fc) (us:List (Int × Int)) (ql:Int × Int) (to:Int),vs=[.ref p,.int to]/\H p=some (.ins C dx (Wj n d G.q G.f m))/\zT CW H G/\G.ws.map (fun w=>(w.u,w.s))=us/\Ch us/\us[us.length - 1]? =some ql/\p∉G.foot/\G.ei.length<=3000/\(G.ei.Pairwise fun c d=>aW d c=true)/\
 ∀l H' keep gone,Mv [G.f] H H'->zT CW H' ⟨G.q,G.f,G.ws,keep⟩->G.ei=keep++gone->H l=none->dg H' l ((gone.reverse.map (·.2)).map EQ)->(∀c∈gone,c.1 / (ql.1*ql.2)<=to / (ql.1*ql.2))->(∀c∈keep,¬c.1 / (ql.1*ql.2)<=to / (ql.1*ql.2))->Q (.ref l) H'
theorem QF {ws:List Wh} {y:Wh} (h:ws[ws.length - 1]? =some y):t5 (ws.map fun w=>V.ref w.x) (-1)=some (.ref y.x):=by
 obtain⟨hk,rfl⟩:=AS.mp h
 have e:K8 (ws.map fun w=>V.ref w.x).length (-1)=some (ws.length - 1):=by
  unfold K8
  rw [AE]
  simp
  omega
 unfold t5
 rw [e]
 simp [hk]
theorem Pg {xs:List BB} {x:BB}:t5 (xs++[x]) (-1)=some x:=by
 unfold t5
 have e:K8 (xs++[x]).length (-1)=some xs.length:=by
  unfold K8
  rw [Da]
  simp
  omega
 rw [e]
 simp
theorem Zw {ks:List (Int × Str)} (hp:dg H p (ks.map pairD++[pairD c])) (h:∀v H2,Dv H2 v (.tuple [.int c.1,.str c.2])->Mv [p] H H2->dg H2 p (ks.map pairD)->Q v H2):aa1 (.ref p) [] H Q:=by
 obtain⟨xs,e,dv,im⟩:=hp
 have N7:xs.length=ks.length+1:=by rw [dv.length,Da,AE];rfl
 have gP:xs.length - 1<xs.length:=by omega
 have m:Mv [p] H (upd H p (.lst xs.dropLast)):=.aS e (by intro _ z;cases z)
 obtain⟨v,hv,hd⟩:=dv.get (i:=xs.length - 1) (d:=pairD c) (by rw [N7,Nat.add_sub_cancel,Re (by rw [AE];omega)];simp)
 refine⟨p,xs,v,rfl,rfl,e,hv,h v _ (m.dat rfl hd) m ⟨_,av,m.IZ (bE (fun _=>rfl) _) ?_,bE (fun _=>rfl) _⟩⟩
 have:=dv.take ks.length
 rw [List.take_left' (by rw [AE])] at this
 rw [List.dropLast_eq_take,N7,Nat.add_sub_cancel]
 exact this
theorem SN (T:Txt K mg a):aP P w K mg base eG 1 a.bC a.kP ["self","to"] (Kb a.ai a.aj):=by
 have n1:=T.bj;have n2:=T.dW;have cl:=T.aO
 have n3:=T.e6;have clw:=T.bP
 refine T.ib.ok gC (fun vs H Q E h=>?_) (fun c7 A outer s H vs Q E hr h=>?_)
 . obtain⟨_,_,_,_,_,_,_,_,_,rfl,_⟩:=h;rfl
 . obtain⟨p,dx,d,m,n,G,us,ql,to,rfl,hp,hg,EX,uM,Iq,hpf,Fz,agn,q⟩:=h
   have hi:jF H (.ref p) a.ai [("now",.int n),("times",.ref d),("wheels",.ref G.q),("far",.ref G.f),("moves",.ref m)]:=⟨p,dx,rfl,hp⟩
   have Wz:us.length=G.ws.length:=by rw [<-EX,AE]
   obtain⟨y,hy,eq⟩:∃y,G.ws[G.ws.length - 1]? =some y/\(y.u,y.s)=ql:=by
    rw [Wz,<-EX,Fa] at Iq
    cases e:G.ws[G.ws.length - 1]? with
    |none=>rw [e] at Iq;cases Iq
    |some y=>rw [e] at Iq;exact⟨y,rfl,Do Iq⟩
   have Og:=p6 uM Iq
   obtain⟨yC,vz,pL,Ed⟩:=uM.ok _ (Cf Iq)
   have HZ:=hg.w y (Cf hy)
   obtain⟨Uo,CD⟩:=HZ.i
   have hiy:jF H (.ref y.x) a.aj [("unit",.int y.u),("slots",.int y.s),("span",.int (y.u*y.s)),("mask",.int y.m),("names_in",.ref y.dn)]:=⟨y.x,Uo,rfl,CD⟩
   have esp:y.u*y.s=ql.1*ql.2:=by rw [<-eq]
   have hle:ql.1*ql.2<=10^12*60:=Int.mul_le_mul vz Ed (by omega) (by decide)
   rw [esp] at hiy
   have hp0:=Og.1
   generalize hSP:ql.1*ql.2=sp at*
   refine⟨_,(ag (aE (i:=2) gC.nd rfl (FS rfl) (au (bG ik (au (pv 0) rfl) (Kc E2 aq) (fun _ _=>rfl)) rfl))
    (ag (aE (i:=3) gC.nd rfl (FS rfl) (b9 af))
    (ag (pE KB (PW.pt (vG (bI (au (pv 0) rfl) (fun _=>rfl)) (pR (aI qQ (aC bH (bG ik (bG ik (au (pv 0) rfl) (Kc E2 aq) (fun _ _=>rfl)) aq (fun _ _=>rfl)) (pv 2)) (aC bH (pv 1) (pv 2)) (aK _)))))
     (ah (aF (iy GG PP P3 lj (pv 3) (ae (bG ik (P2 GG PySem.F.slot_list_pop PySem.F.type_list_pop XH (au (pv 0) rfl)) aq (fun _ _=>rfl)) af)))))
    (ah (aD (pv 3)))))),?_⟩
   repeat' (walk_at "rd1")
   refine GW (.of hg.q) (QF hy) ?_
   repeat' (walk_at "rd1")
   rename_i nl H1 Bi mI F1
   have LD:=hg.keeps Bi
   have vR:=hi.keeps Bi
   have hff:G.f≠nl:=fun z=>by
    obtain⟨xs,e,_⟩:=hg.f
    rw [z,mI] at e;cases e
   have hpg:p≠G.f:=fun z=>hpf (by simp [fc.foot,z])
   have hpn:p≠nl:=aA hp mI
   refine tW (fun M σ' H'=>∃keep gone,σ'=[some (.ref p),some (.int to),some (.int sp),some (.ref nl)]/\M=keep.length/\G.ei=keep++gone/\Mv [nl,G.f] H1 H'/\dg H' G.f (keep.map pairD)/\dg H' nl ((gone.reverse.map (·.2)).map EQ)/\∀c∈gone,c.1 / sp<=to / sp) ⟨_,G.ei,[],rfl,rfl,(NG _).symm,Mv.refl,LD.f,F1,(fun c h=>nomatch h)⟩ ?_
   rintro M σ' H2 ⟨keep,gone,rfl,rfl,Gy,mv,Ry,Kp,Hs⟩
   have J1:jF H2 (.ref p) a.ai [("now",.int n),("times",.ref d),("wheels",.ref G.q),("far",.ref G.f),("moves",.ref m)]:=⟨p,dx,rfl,mv.at (by simp [hpn,hpg]) (Bi _ _ hp)⟩
   have fin:(∀c∈keep,¬c.1 / sp<=to / sp)->Q (.ref nl) H2:=fun hk=>by
    have hgk:zT a.aj H2 ⟨G.q,G.f,G.ws,keep⟩:=by
     obtain⟨f1,f2,f3⟩:=LD.D3
     have nq:∀b∈G.foot,b≠nl:=fun b hb z=>hg.alive b hb (z▸mI)
     have hqf:G.q∈G.foot:=by simp [fc.foot]
     refine⟨mv.at ?_ LD.q,Ry,fun w hw=>(LD.w w hw).mv mv fun b hb=>?_,LD.nd⟩
     . simp [nq G.q hqf,f1]
     . have:=nq b (oE hw b hb)
       simp [this,(f2 w hw b hb).2]
    refine q nl H2 keep gone ?_ hgk Gy mI Kp Hs hk
    exact Mv.step (Bi.mv) mv fun b hb=>by
     have:b=nl\/b=G.f:=by simpa using hb
     rcases this with rfl|rfl
     . exact .inr mI
     . exact .inl (by simp)
   rcases List.eq_nil_or_concat keep with rfl|⟨k0,c,rfl⟩
   . repeat' (walk_at "rd1")
     exact fin (fun c h=>nomatch h)
   . have Xl:=Ry
     rw [TZ,CS] at Xl
     have R7:=agn
     rw [Gy,TZ,Os,SZ,SZ] at R7
     repeat' (walk_at "rd1")
     refine Eh (.inr Xl.dv) Pg ?_
     show AV H2 (.tuple [.int c.1,.str c.2]) _
     repeat' (walk_at "rd1")
     . rename_i v0 hv0 hb
       refine Zw Xl (fun v3 H3 Oc pG Xo=>?_)
       have W5:=Kp.mv pG (by simpa using Me hff)
       have hgl:gone.length<=3000:=by
        have:=congrArg Abn Gy
        rw [Da] at this
        omega
       have hdl:((gone.reverse.map (·.2)).map EQ).length=gone.length:=by rw [AE,AE,List.length_reverse]
       repeat' (walk_at "rd1")
       rename_i H4 tX hl4
       have Sh:=Xo.mv tX (by simpa using hff)
       refine⟨k0.length,by rw [TZ,Da];simp,k0,c::gone,rfl,rfl,by rw [Gy,TZ,Os];rfl,?_,Sh,?_,fun e he=>?_⟩
       . exact Mv.step (Mv.step mv pG fun b hb=>.inl (by rw [AR.mp hb];simp)) tX fun b hb=>.inl (by rw [AR.mp hb];simp)
       . rw [List.reverse_cons,CS,CS];exact hl4
       . rcases AD.mp he with rfl|he
         . exact hb
         . exact Hs e he
     . rename_i v0 hv0 hb
       refine fin fun e he=>?_
       rw [TZ] at he
       rcases Co.mp he with he|he
       . have h1:=R7.2.2 e he c (by simp)
         have h2:c.1<=e.1:=by
          rcases GV.mp h1 with h|h
          . omega
          . omega
         have h3:=TM hp0 h2
         omega
       . rw [AR.mp he];exact hb
theorem PJ (T:Txt K mg a):df P w K mg base 1 a.bC ["self","to"] [] (Kb a.ai a.aj):=
 ⟨⟨_,_,SN T,T.ib.binds fun _ _ _ _ _ _=>dJ fun _ _=>rfl,.nil⟩⟩
theorem GI.ext {Z3:List (Str × Int)} {G:fc} (h:GI us n ts G) (e:∀y,y∈ts↔y∈Z3):GI us n Z3 G:=
 ⟨h.eu,fun k w hw=>(h.wh k w hw).congr fun x j=>⟨fun⟨t,h1,h2⟩=>⟨t,(e _).mp h1,h2⟩,fun⟨t,h1,h2⟩=>⟨t,(e _).mpr h1,h2⟩⟩,fun c=>(h.ei c).trans ⟨fun⟨h1,h2⟩=>⟨(e _).mp h1,h2⟩,fun⟨h1,h2⟩=>⟨(e _).mpr h1,h2⟩⟩,h.NI⟩
theorem Vy {cs:List Sl} (hk:(cs.map (·.k)).Nodup) (hn:∀c∈cs,c.ns.Nodup) (hd:∀c∈cs,∀d∈cs,∀x,x∈c.ns->x∈d.ns->c.k=d.k):(Aai cs).Nodup:=by
 unfold Aai
 induction cs with
 |nil=>exact .nil
 |cons c r ih=>
  rw [EN,EO] at hk
  rw [NL,Go]
  refine⟨hn c BC,ih hk.2 (fun d rl=>hn d (AL _ rl)) fun d rl e he=>hd d (AL _ rl) e (AL _ he),fun x hx y hy e=>?_⟩
  obtain⟨d,rl,LI⟩:=Lm.mp hy
  have:=hd c BC d (AL _ rl) x hx (e▸LI)
  exact hk.1 (this▸Cc rl)
theorem GI.G3 {G:fc} (h:GI us n ts G) (j9:(ts.map (·.1)).Nodup) {k:Nat} {w:Wh} (hw:G.ws[k]? =some w) {cs:List Sl} (hs:∀c∈cs,c∈w.cs) (hk:(cs.map (·.k)).Nodup):(Aai cs).Nodup:=by
 have hi:=h.wh k w hw
 refine Vy hk (fun c hc=>(hi.ne c (hs c hc)).2.1) fun c hc d hd x hx uA=>?_
 obtain⟨t,ht,_,e⟩:=(hi.mem x c.k).mp ⟨c,hs c hc,rfl,hx⟩
 obtain⟨t',X7,_,e'⟩:=(hi.mem x d.k).mp ⟨d,hs d hd,rfl,uA⟩
 rw [lR j9 ht X7] at e
 exact e.symm.trans e'
theorem D2 {cs:List Sl}:x∈Aai cs↔∃c∈cs,x∈c.ns:=Lm
theorem w6 {w:Wh} (hq:us[iu us t n]? =some (w.u,w.s)) (hb:Nv w) (hl:iu us t n<us.length):Out us n to t↔t / w.u % w.s<=xl w n to:=by
 have V1:t / w.u % w.s<w.s:=AaB _ (by have:=hb.2.2.1;omega)
 have hs6:=hb.2.2.2
 unfold xl
 constructor
 . intro ho
   have:=ho.1 _ hq
   split
   . rename_i e;exact this e
   . omega
 . intro Fy
   refine⟨fun q vP e=>?_,fun e=>absurd e (by omega)⟩
   rw [hq] at vP
   cases vP
   rw [if_pos e] at Fy
   exact Fy
def QZ (us:List (Int × Int)) (n to:Int) (ws y7:List Wh) (i:Nat):Prop:=y7.length=ws.length/\(∀j,i<=j->y7[j]? =ws[j]?)/\∀(j:Nat) w,j<i->ws[j]? =some w->∃w',y7[j]? =some w'/\w'.x=w.x/\w'.dn=w.dn/\w'.u=w.u/\w'.s=w.s/\ic w'/\w'.cs.Sublist w.cs/\∀c,c∈w'.cs↔c∈w.cs/\¬c.k<=xl w n to
theorem S2 {st:List (Str × Int)} {G:fc} {y7:List Wh} {keep gone:List (Int × Str)} {ql:Int × Int} (h:GI us n ts G) (uM:Ch us) (uh:∀y,y∈st↔y∈ts/\¬Out us n to y.2) (hr:QZ us n to G.ws y7 G.ws.length) (hf:G.ei=keep++gone) (Iq:us[us.length - 1]? =some ql) (hg:∀c∈gone,c.1 / (ql.1*ql.2)<=to / (ql.1*ql.2)) (hk:∀c∈keep,¬c.1 / (ql.1*ql.2)<=to / (ql.1*ql.2)):GI us to st ⟨G.q,G.f,y7,keep⟩:=by
 have Wz:=h.len
 obtain⟨r1,r2,r3⟩:=hr
 refine⟨?_,fun k w' K9=>?_,fun c=>?_,?_⟩
 . refine AaQ fun j=>?_
   rw [<-h.eu]
   show(y7.map fun w=>(w.u,w.s))[j]? =(G.ws.map fun w=>(w.u,w.s))[j]?
   rw [Fa,Fa]
   by_cases c:j<G.ws.length
   . obtain⟨w',e1,_,_,e4,e5,_⟩:=r3 j _ c (AC c)
     rw [e1,AC c]
     simp [e4,e5]
   . rw [r2 j (by omega)]
 . have K9:y7[k]? =some w':=K9
   have hkl:k<G.ws.length:=by have:=(AS.mp K9).1;omega
   have hw:=AC hkl
   generalize G.ws[k]=w at hw
   obtain⟨w2,e1,e2,e3,e4,e5,hm,pK,mK⟩:=r3 k w hkl hw
   rw [K9] at e1
   cases e1
   have hi:=h.wh k w hw
   have hq:=h.at hw
   have hb:=h.bnd uM.ok hw
   refine⟨hm,hi.nd.sublist (pK.map _),fun c hc=>?_,fun x j=>?_⟩
   . obtain⟨a1,a2,a3,a4⟩:=hi.ne c (pK.subset hc)
     exact⟨a1,a2,a3,by rw [e5];exact a4⟩
   . rw [e4,e5]
     constructor
     . rintro⟨c,hc,Ss,hx⟩
       obtain⟨Wu,N6⟩:=(mK c).mp hc
       obtain⟨t,ht,Sb,Xu⟩:=(hi.mem x j).mp ⟨c,Wu,Ss,hx⟩
       have t7:¬Out us n to t:=fun ho=>by
        have:=(w6 (to:=to) (by rw [Sb];exact hq) hb (by omega)).mp ho
        rw [Xu,<-Ss] at this
        exact N6 this
       exact⟨t,(uh _).mpr ⟨ht,t7⟩,(qW uM t7).2.trans Sb,Xu⟩
     . rintro⟨t,ht,Sb,Xu⟩
       obtain⟨ht1,t7⟩:=(uh _).mp ht
       have t7:¬Out us n to t:=t7
       have abK:iu us t n=k:=(qW uM t7).2.symm.trans Sb
       obtain⟨c,hc,Ss,hx⟩:=(hi.mem x j).mpr ⟨t,ht1,abK,Xu⟩
       refine⟨c,(mK c).mpr ⟨hc,fun hl=>t7 ?_⟩,Ss,hx⟩
       refine(w6 (to:=to) (by rw [abK];exact hq) hb (by omega)).mpr ?_
       rw [Xu,<-Ss];exact hl
 . show c∈keep↔_
   have ZO:=h.ei c
   rw [hf,Co] at ZO
   constructor
   . intro hc
     obtain⟨h1,h2⟩:=ZO.mp (.inl hc)
     have t7:¬Out us n to c.1:=fun ho=>hk c hc (ho.2 h2 ql Iq)
     exact⟨(uh _).mpr ⟨h1,t7⟩,(qW uM t7).2.trans h2⟩
   . rintro⟨h1,h2⟩
     obtain⟨h3,t7⟩:=(uh _).mp h1
     have t7:¬Out us n to c.1:=t7
     have h4:iu us c.1 n=us.length:=(qW uM t7).2.symm.trans h2
     rcases ZO.mpr ⟨h3,h4⟩ with hc|hc
     . exact hc
     . refine absurd ⟨fun q hq=>?_,fun _ q hq=>?_⟩ t7
       . rw [h4,Ps (BN _)] at hq;cases hq
       . rw [Iq] at hq;cases hq;exact hg c hc
 . have:=h.NI
   rw [hf] at this
   exact(SZ.mp this).1
def xV (ts:List (Str × Int)) (x:Str):Int:=((ts.find? fun y=>decide (y.1=x)).map (·.2)).getD 0
theorem r9 (hn:(ts.map (·.1)).Nodup) (h:(x,t)∈ts):xV ts x=t:=by
 unfold xV
 cases e:ts.find? fun y=>decide (y.1=x) with
 |none=>
  rw [So] at e
  exact absurd (by simp) (e _ h)
 |some y=>
  have h1:=Uf e
  have h2:y.1=x:=by simpa using List.find?_some e
  have h3:(x,y.2)∈ts:=by rw [<-h2];exact h1
  exact lR hn h3 h
def CK (mv:List (Str × Int)) (x:Str) (v:Int):List (Str × Int):=mv.map fun y=>if y.1=x then (y.1,v) else y
theorem IU (mv:List (Str × Int)) (x:Str) (v:Int):(CK mv x v).map (·.1)=mv.map (·.1):=by
 unfold CK
 rw [GM]
 refine Tu fun y _=>?_
 show(if y.1=x then (y.1,v) else y).1=y.1
 split <;>rfl
theorem PQ {mv:List (Str × Int)} {v:Int} (h:x∈mv.map (·.1)):putD (rC mv) x (.int v)=rC (CK mv x v):=by
 unfold putD
 have e:((rC mv).any fun kv=>decide (kv.1=x))=true:=by
  obtain⟨y,hy,rfl⟩:=AN.mp h
  exact M2.mpr ⟨(y.1,.int y.2),AN.mpr ⟨y,hy,rfl⟩,by simp⟩
 rw [if_pos e]
 unfold rC CK
 rw [GM,GM]
 refine Tu fun y _=>?_
 simp only [Abf]
 split <;>rfl
theorem OU {mv:List (Str × Int)} {v:Int} (hx:x∈mv.map (·.1)):y∈CK mv x v↔(y.1=x/\y.2=v)\/(y.1≠x/\y∈mv):=by
 unfold CK
 constructor
 . intro h
   obtain⟨z,hz,rfl⟩:=AN.mp h
   by_cases e:z.1=x
   . rw [if_pos e];exact .inl ⟨e,rfl⟩
   . rw [if_neg e];exact .inr ⟨e,hz⟩
 . rintro(⟨h1,h2⟩|⟨h1,h2⟩)
   . obtain⟨z,hz,e⟩:=AN.mp hx
     exact AN.mpr ⟨z,hz,by rw [if_pos e];exact Ab3 (e.trans h1.symm) h2.symm⟩
   . exact AN.mpr ⟨y,h2,if_neg h1⟩
open Classical in
noncomputable def Cw (us:List (Int × Int)) (n to:Int) (ts:List (Str × Int)):List (Str × Int):=ts.filter fun y=>decide (¬Out us n to y.2)
open Classical in
theorem yP:y∈Cw us n to ts↔y∈ts/\¬Out us n to y.2:=by
 unfold Cw
 rw [B0,decide_eq_true_eq]
theorem Mz (us:List (Int × Int)) (n to:Int) (ts:List (Str × Int)):(Cw us n to ts).length<=ts.length:=JJ _ _
def tP (ts:List (Str × Int)) (to:Int) (ln:List Str):List (Str × Int):=(ln.filter fun x=>decide (to<xV ts x)).map fun x=>(x,xV ts x)
theorem AO (ts:List (Str × Int)) (to:Int) (l:List Str) (x:Str):tP ts to (l++[x])=tP ts to l++(if to<xV ts x then [(x,xV ts x)] else []):=by
 unfold tP
 rw [Q3,CS]
 congr 1
 by_cases h:to<xV ts x <;>simp [h]
def overs (ts:List (Str × Int)) (to:Int) (ln:List Str):List Str:=ln.filter fun x=>decide (xV ts x<=to)
theorem AU (ts:List (Str × Int)) (to:Int) (l:List Str) (x:Str):overs ts to (l++[x])=overs ts to l++(if xV ts x<=to then [x] else []):=by
 unfold overs
 rw [Q3]
 congr 1
 by_cases h:xV ts x<=to <;>simp [h]
theorem DF {l:List Str}:y∈tP ts to l↔y.1∈l/\y.2=xV ts y.1/\to<xV ts y.1:=by
 unfold tP
 rw [AN]
 constructor
 . rintro⟨x,hx,rfl⟩
   obtain⟨h1,h2⟩:=B0.mp hx
   exact⟨h1,rfl,of_decide_eq_true h2⟩
 . rintro⟨h1,h2,h3⟩
   exact⟨y.1,B0.mpr ⟨h1,decide_eq_true h3⟩,Ab3 rfl h2.symm⟩
theorem L5 {l:List Str}:x∈overs ts to l↔x∈l/\xV ts x<=to:=by
 unfold overs
 rw [B0,decide_eq_true_eq]
def ye (C CW:Addr):Sp:=fun vs H Q _=>∃(p d m:Addr) (n:Int) (us:List (Int × Int)) (G:fc) (ts d9:List (Str × Int)) (to:Int),vs=[.ref p,.int to]/\F6 C CW H p d m n us G ts d9/\Ch us/\n<=to/\ts.length<=900/\
 ∀(l:Addr) (H':Hp) (G':fc) (md:List (Str × Int)) (ov:List Str),Mv (m::G.foot) H H'->gA C CW H' p d m n G' ts md->GI us to (ts.filter fun y=>decide (to<y.2)) G'->ov.Nodup->(∀x,x∈ov↔∃t,(x,t)∈ts/\t<=to)->(md.map (·.1)).Nodup->(∀x v',(x,v')∈md↔∃t v,(x,t)∈ts/\to<t/\(x,v)∈d9/\v'=v+(if iu us t to<iu us t n then 1 else 0))->(∀b∈G'.foot,b∈G.foot\/H b=none)->H l=none->dg H' l (ov.map EQ)->Q (.ref l) H'
theorem MB (T:Txt K mg a):aP P w K mg base eG 4 a.cg a.nk ["self","to"] (ye a.ai a.aj):=by
 have n1:=T.bj;have n2:=T.cp;have n3:=T.cK;have n4:=T.cM;have cl:=T.aO;have clw:=T.bP
 have Hu:=T.me;have vw:=T.iG
 have HH:=PJ (P:=P) (w:=w) (base:=base) T
 have u5:=KN (P:=P) (w:=w) (base:=base) T
 have zN:=JS (P:=P) (w:=w) (base:=base) T
 refine T.jv.ok dN (fun vs H Q E h=>?_) (fun c7 A outer s H vs Q E hr h=>?_)
 . obtain⟨_,_,_,_,_,_,_,_,_,rfl,_⟩:=h;rfl
 . obtain⟨p,d,m,n,us,G,ts,d9,to,rfl,hw,uM,Om,hlen,q⟩:=h
   have hi:=hw.ws.ins
   obtain⟨dx,hp⟩:=hw.ws.ex
   obtain⟨ff1,ff2,ff3,ff4,ff5,ff6⟩:=hw.ws.zq
   obtain⟨ql,Iq⟩:=Bs uM
   have rk:=hw.gi
   have Wz:=rk.len
   have aiC:=rk.Jy
   refine⟨_,(ag (aE (i:=2) dN.nd rfl (FS rfl) (aB (pv 0) cl Hu HH (hr.mono (by decide)) (ae (pv 1) af)))
    (ag (kC KB rfl (cR (au (pv 0) rfl)) (a0 (i:=3) dN.nd rfl (FS rfl))
     (ah (aF (iy GG Su SB oM (pv 2) (ae (aB (pv 3) T.bP T.qI zN (hr.mono (by decide)) (ae (au (pv 0) rfl) (ae (pv 1) af))) af)))))
    (ag (aE (i:=4) dN.nd rfl (FS rfl) (b9 af))
    (ag (kC KB rfl (cR (pv 2)) (a0 (i:=5) dN.nd rfl (FS rfl))
     (ah (bB (aI qQ (mM (iz hr) (au (pv 0) rfl) (pv 5) (fun _ _=>rfl)) (pv 1) (aK _))
      (ag (aF (iy Lu On PM qm (au (pv 0) rfl) (ae (pv 5) af)))
      (ah (aF (iy GG PP P3 lj (pv 4) (ae (pv 5) af)))))
      (ag (t6 (iz hr) (au (pv 0) rfl) (pv 5) (aC gB (mM (iz hr) (au (pv 0) rfl) (pv 5) (fun _ _=>rfl)) aq) rfl)
      (ah (aF (aB (pv 0) cl vw u5 (hr.mono (by decide)) (ae (pv 5) (ae (mM (iz hr) (au (pv 0) rfl) (pv 5) (fun _ _=>rfl)) (ae (pv 1) af))))))))))
    (ah (aD (pv 4))))))),?_⟩
   repeat' (walk_at "rd1")
   refine⟨p,dx,d,m,n,G,us,ql,to,rfl,hp,hw.ws.g,rk.eu,uM,Iq,ff4,by omega,rk.NI,fun nl H1 keep gone iE LD Gy mI F1 Hs WB=>?_⟩
   have hgf:G.f∈G.foot:=by simp [fc.foot]
   have OI:Mv G.foot H H1:=cS iE fun b hb=>(AR.mp hb)▸hgf
   have DT:=OI.at ff4 hp
   have vR:jF H1 (.ref p) a.ai [("now",.int n),("times",.ref d),("wheels",.ref G.q),("far",.ref G.f),("moves",.ref m)]:=⟨p,dx,rfl,DT⟩
   have nlf:∀b∈p::d::m::G.foot,b≠nl:=fun b hb z=>hw.ws.alive b hb (z▸mI)
   have nlG:nl∉G.foot:=fun z=>nlf nl (by simp [z]) rfl
   have hpn:p≠nl:=nlf p (by simp)
   have hqn:G.q≠nl:=nlf G.q (by simp [fc.foot])
   repeat' (walk_at "rd1")
   have abZ:(gone.reverse.map (·.2)).Nodup/\∀x,x∈gone.reverse.map (·.2)↔∃t,(x,t)∈ts/\Out us n to t/\(iu us t n<0\/iu us t n=us.length):=by
    have mK:∀c,c∈gone↔(c.2,c.1)∈ts/\iu us c.1 n=us.length/\Out us n to c.1:=fun c=>by
     have ZO:=rk.ei c
     rw [Gy,Co] at ZO
     constructor
     . intro hc
       obtain⟨h1,h2⟩:=ZO.mp (.inr hc)
       refine⟨h1,h2,fun q hq=>?_,fun _ q hq=>?_⟩
       . rw [h2,Ps (BN _)] at hq;cases hq
       . rw [Iq] at hq;cases hq;exact Hs c hc
     . rintro⟨h1,h2,h3⟩
       rcases ZO.mpr ⟨h1,h2⟩ with hc|hc
       . exact absurd (h3.2 h2 ql Iq) (WB c hc)
       . exact hc
    constructor
    . rw [List.map_reverse]
      refine(List.reverse_perm _).nodup_iff.mpr ?_
      have R7:=rk.NI
      rw [Gy] at R7
      have hpg:=(SZ.mp R7).2.1
      rw [OE,Nl]
      refine hpg.imp_of_mem fun {c d} hc hd gP e=>?_
      have h1:=((mK c).mp hc).1
      have h2:=((mK d).mp hd).1
      rw [e] at h1
      have e1:=lR hw.nd h1 h2
      have:c=d:=Ab3 e1 e
      rw [this,gI] at gP;cases gP
    . intro x
      rw [AN]
      constructor
      . rintro⟨c,hc,rfl⟩
        obtain⟨h1,h2,h3⟩:=(mK c).mp (List.mem_reverse.mp hc)
        exact⟨c.1,h1,h3,.inr h2⟩
      . rintro⟨t,h1,h2,h3⟩
        exact⟨(t,x),List.mem_reverse.mpr ((mK (t,x)).mpr ⟨h1,h3.resolve_left (by omega),h2⟩),rfl⟩
   have ach:QZ us n to G.ws G.ws 0:=⟨rfl,fun j _=>rfl,fun j w h=>absurd h (by omega)⟩
   have Lf:∀(ln:List Str),ln.Nodup->(∀x∈ln,∃t,(x,t)∈ts)->ln.length<=900:=fun ln h1 h2=>by
    have:=tj (l':=ts.map (·.1)) h1 fun x hx=>let ⟨t,ht⟩:=h2 x hx;AN.mpr ⟨_,ht,rfl⟩
    rw [AE] at this
    omega
   refine forL (xs:=G.ws.map fun w=>V.ref w.x) (.of (by have:=LD.q;exact this)) (fun i σ' H'=>∃z,σ'=[some (.ref p),some (.int to),some (.ref nl),z,none,none]/\Mv (nl::G.foot) H1 H'/\∃y7 ln,zT a.aj H' ⟨G.q,G.f,y7,keep⟩/\QZ us n to G.ws y7 i/\(∀b∈fc.foot ⟨G.q,G.f,y7,keep⟩,b∈G.foot)/\dg H' nl (ln.map EQ)/\ln.Nodup/\∀x,x∈ln↔∃t,(x,t)∈ts/\Out us n to t/\(iu us t n<i\/iu us t n=us.length)) ⟨_,rfl,Mv.refl,G.ws,_,LD,ach,fun b hb=>hb,F1,abZ.1,abZ.2⟩ ?_ ?_ ?_
   . rintro i σ' H' - ⟨z,-,mv,y7,ln,XW,AY,-⟩
     have e:y7.map (fun w=>V.ref w.x)=G.ws.map fun w=>V.ref w.x:=by
      refine AaQ fun j=>?_
      rw [Fa,Fa]
      by_cases c:j<i
      . by_cases c2:j<G.ws.length
        . obtain⟨w',e1,e2,_⟩:=AY.2.2 j _ c (AC c2)
          rw [e1,AC c2];simp [e2]
        . rw [Ps (by rw [AY.1];omega),Ps (by omega)]
      . rw [AY.2.1 j (by omega)]
     rw [<-e]
     exact .of XW.q
   . rintro i x σ' H' hx ⟨z,rfl,mv,y7,ln,XW,AY,hfs,CB,Mr,hlm⟩
     obtain⟨y,hy,rfl⟩:∃y,G.ws[i]? =some y/\V.ref y.x=x:=by
      rw [Fa] at hx
      cases e:G.ws[i]? with
      |none=>rw [e] at hx;cases hx
      |some y=>rw [e] at hx;exact⟨y,rfl,Do hx⟩
     have LI:y7[i]? =some y:=by rw [AY.2.1 i (BN _)];exact hy
     have HZ:=XW.w y (Cf LI)
     have Gv:=rk.wh i y hy
     have Sn:=rk.bnd uM.ok hy
     obtain⟨Uo,CD⟩:=HZ.i
     have hiy:jF H' (.ref y.x) a.aj [("unit",.int y.u),("slots",.int y.s),("span",.int (y.u*y.s)),("mask",.int y.m),("names_in",.ref y.dn)]:=⟨y.x,Uo,rfl,CD⟩
     have hpG:p∉nl::G.foot:=by simp [hpn,ff4]
     have Nh:jF H' (.ref p) a.ai [("now",.int n),("times",.ref d),("wheels",.ref G.q),("far",.ref G.f),("moves",.ref m)]:=⟨p,dx,rfl,mv.at hpG DT⟩
     repeat' (walk_at "rd1")
     have aeL:=Cf LI
     have Pm:y.foot.Nodup:=by
      have:=XW.D3.2.2
      obtain⟨e1,_⟩:=xC LI y
      rw [show(fc.ws ⟨G.q,G.f,y7,keep⟩)=y7 from rfl,e1,LG,NL,Go,Go] at this
      exact this.2.1.1
     have hyG:∀b∈y.foot,b∈G.foot:=fun b hb=>hfs b (oE (G:=⟨G.q,G.f,y7,keep⟩) aeL b hb)
     have hny:nl∉y.foot:=fun z=>nlG (hyG nl z)
     have age:=rk.G3 hw.nd hy (fun c hc=>hc) Gv.nd
     have akb:=Lf _ age fun x hx=>by
      obtain⟨c,hc,Qn⟩:=D2.mp hx
      obtain⟨t,ht,_⟩:=(Gv.mem x c.k).mp ⟨c,hc,rfl,Qn⟩
      exact⟨t,ht⟩
     have afi:=Lf ln Mr fun x hx=>let ⟨t,ht,_⟩:=(hlm x).mp hx;⟨t,ht⟩
     refine⟨y.x,y,n,to,rfl,rfl,HZ,Sn,Pm,Gv.nd,Gv.mk',fun c hc=>?_,by omega,fun l2 H2 y' BD gH zo ex ed eu es hm2 pK mK uN hvl mR Kp=>?_⟩
     . obtain⟨_,_,a3,a4⟩:=Gv.ne c hc
       have:=Sn.2.2.2
       exact⟨a3,by omega⟩
     have hvs:∀c∈BD,c∈y.cs:=fun c hc=>uN.mem_iff.mp (EU _ hc)
     have hvk:(BD.map (·.k)).Nodup:=by
      have:=((uN.map (·.k)).nodup_iff).mpr Gv.nd
      rw [CS,Go] at this
      exact this.1
     have abh:=rk.G3 hw.nd hy hvs hvk
     have hvm:∀x,x∈Aai BD↔∃t,(x,t)∈ts/\Out us n to t/\iu us t n=i:=fun x=>by
      have Rf:i<us.length:=by have:=(AS.mp hy).1;omega
      rw [D2]
      constructor
      . rintro⟨c,hc,Qn⟩
        obtain⟨t,ht,Sb,Xu⟩:=(Gv.mem x c.k).mp ⟨c,hvs c hc,rfl,Qn⟩
        refine⟨t,ht,(w6 (to:=to) (by rw [Sb];exact rk.at hy) Sn (by omega)).mpr ?_,Sb⟩
        rw [Xu];exact hvl c hc
      . rintro⟨t,ht,ho,Sb⟩
        obtain⟨c,hc,hk,Qn⟩:=(Gv.mem x (t / y.u % y.s)).mpr ⟨t,ht,Sb,rfl⟩
        have hle:=(w6 (to:=to) (by rw [Sb];exact rk.at hy) Sn (by omega)).mp ho
        rw [<-hk] at hle
        rcases Co.mp (uN.mem_iff.mpr hc) with h|h
        . exact⟨c,h,Qn⟩
        . exact absurd hle ((mK c).mp h).2
     have X6:y'.foot.Sublist y.foot:=by
      unfold Wh.foot
      rw [ex,ed]
      exact((pK.map _).cons₂ _).cons₂ _
     have agh:=CB.mv gH hny
     have hlv:=Lf _ abh fun x hx=>let ⟨t,ht,_⟩:=(hvm x).mp hx;⟨t,ht⟩
     repeat' (walk_at "rd1")
     refine AF agh Kp (by rw [AE,AE];omega) (fun H3 pG W5=>?_)
     obtain⟨Oh,akG⟩:=XW.set (w':=y') LI gH zo ex (Pm.sublist X6) fun b hb=>.inl (X6.subset hb)
     have aa0:∀b∈fc.foot ⟨G.q,G.f,y7.set i y',keep⟩,b∈G.foot:=fun b hb=>hfs b (GP (G:=⟨G.q,G.f,y7,keep⟩) (w':=y') LI (fun b hb=>X6.subset hb) b hb)
     have hg3:=Oh.mv pG fun b hb=>by
      have:b≠nl:=fun z=>nlG (z▸aa0 b hb)
      simpa using this
     refine⟨_,rfl,Mv.step (Mv.step mv gH fun b hb=>.inl (AL _ (hyG b hb))) pG fun b hb=>.inl (by rw [AR.mp hb];exact BC),y7.set i y',ln++Aai BD,hg3,⟨by rw [List.length_set];exact AY.1,fun j hj=>?_,fun j w0 hj XX=>?_⟩,aa0,by rw [CS];exact W5,?_,fun x=>?_⟩
     . rw [Aah (by omega)];exact AY.2.1 j (by omega)
     . by_cases e:j=i
       . subst e
         rw [hy] at XX
         cases XX
         exact⟨y',by rw [AaJ (AS.mp LI).1],ex,ed,eu,es,hm2,pK,mK⟩
       . rw [Aah (fun z=>e z.symm)]
         exact AY.2.2 j w0 (by omega) XX
     . rw [Go]
       refine⟨Mr,abh,fun x hx y0 hy0 e=>?_⟩
       subst e
       obtain⟨t,ht,_,h1⟩:=(hlm x).mp hx
       obtain⟨t',X7,_,h2⟩:=(hvm x).mp hy0
       rw [lR hw.nd ht X7] at h1
       have Rf:i<us.length:=by have:=(AS.mp hy).1;omega
       omega
     . rw [Co,hlm x,hvm x]
       constructor
       . rintro(⟨t,h1,h2,h3⟩|⟨t,h1,h2,h3⟩)
         . exact⟨t,h1,h2,by omega⟩
         . exact⟨t,h1,h2,by omega⟩
       . rintro⟨t,h1,h2,h3⟩
         by_cases e:iu us t n=i
         . exact .inr ⟨t,h1,h2,e⟩
         . exact .inl ⟨t,h1,h2,by omega⟩
   . rintro σ' H' ⟨z,rfl,mv,y7,ln,XW,AY,hfs,CB,Mr,hlm⟩
     rw [AE] at AY hlm
     have IC:∀x,x∈ln↔∃t,(x,t)∈ts/\Out us n to t:=fun x=>(hlm x).trans ⟨fun⟨t,h1,h2,_⟩=>⟨t,h1,h2⟩,fun⟨t,h1,h2⟩=>⟨t,h1,h2,by have:=vL us t n;omega⟩⟩
     have agZ:GI us to (Cw us n to ts) ⟨G.q,G.f,y7,keep⟩:=S2 rk uM (fun y=>yP) AY Gy Iq Hs WB
     have afi:=Lf ln Mr fun x hx=>let ⟨t,ht,_⟩:=(IC x).mp hx;⟨t,ht⟩
     have HY:Mv G.foot H H':=Mv.step OI mv fun b hb=>by
      rcases AD.mp hb with rfl|hb
      . exact .inr mI
      . exact .inl hb
     have hwA:gA a.ai a.aj H' p d m n ⟨G.q,G.f,y7,keep⟩ ts d9:=hw.ws.geo HY XW rfl rfl fun b hb=>.inl (hfs b hb)
     have N4:∀x∈ln,(x,xV ts x)∈ts/\Out us n to (xV ts x):=fun x hx=>by
      obtain⟨t,h1,h2⟩:=(IC x).mp hx
      rw [r9 hw.nd h1];exact⟨h1,h2⟩
     repeat' (walk_at "rd1")
     rename_i ov H2 jK mR acJ
     have hwB:=hwA.keeps jK
     have afg:=CB.keeps jK
     have UN:∀b∈p::d::m::G.foot,b≠ov:=fun b hb z=>by
      have:H b≠none:=hw.ws.alive b hb
      exact this (HY.none (z▸mR))
     have acj:nl≠ov:=CB.ne mR
     have afJ:nl∉ov::m::G.foot:=by
      simp only [AD,not_or]
      exact⟨acj,Me (nlf m (by simp)),nlG⟩
     have e0:∀x v',(x,v')∈d9↔∃v,(x,v)∈d9/\¬(x∈ln.take 0/\xV ts x<=to)/\v'=v+(if x∈ln.take 0 then 1 else 0):=fun x v'=>by simp
     have GJ:∀{i:Nat} {x:Str},ln[i]? =some x->ln.take (i+1)=ln.take i++[x]:=fun {i x} h=>by rw [We,h];rfl
     refine G4 (Hb:=H2) (cs:=ln) (gd:=EQ) afg.dv (fun i σ' H''=>∃z5,σ'=[some (.ref p),some (.int to),some (.ref nl),z,some (.ref ov),z5]/\Mv (ov::m::G.foot) H2 H''/\∃(G':fc) (md:List (Str × Int)),gA a.ai a.aj H'' p d m n G' ts md/\GI us to (Cw us n to ts++tP ts to (ln.take i)) G'/\(∀b∈G'.foot,b∈G.foot\/H2 b=none)/\dg H'' ov ((overs ts to (ln.take i)).map EQ)/\(md.map (·.1)).Nodup/\∀x v',(x,v')∈md↔∃v,(x,v)∈d9/\¬(x∈ln.take i/\xV ts x<=to)/\v'=v+(if x∈ln.take i then 1 else 0)) ⟨_,rfl,Mv.refl,⟨G.q,G.f,y7,keep⟩,d9,hwB,agZ.ext (fun y=>by simp [tP]),fun b hb=>.inl (hfs b hb),acJ,hw.ZS,e0⟩ (fun i σ' H'' _ ⟨_,_,ahu,_⟩ a' xs e hx=>by cases e;exact ahu.sq afJ hx) ?_ ?_
     . rintro i x v σ' H3 hx ⟨z5,rfl,pG,G',md,vQ,yU,Nx,Rm,NA,HN⟩ ZW _
       obtain rfl:=(ZW rfl pG.tp).str_inv
       have N7:=Cf hx
       obtain⟨abz,hxo⟩:=N4 x N7
       have hlk:=Bv hw.nd abz
       have hi3:=vQ.ins
       have hd3:=vQ.dd
       have hm3:=vQ.mm
       have Zm:x∉ln.take i:=fun z=>by
        obtain⟨j,hj,e⟩:=Pf z
        have Ol:j<i:=by rw [KM] at hj;omega
        have Rf:=(AS.mp hx).1
        rw [AbN] at e
        have:=NJ.mp Mr j i (by omega) Rf Ol
        exact this (e.trans (AS.mp hx).2.symm)
       have WG:x∈d9.map (·.1):=(hw.mem x).mpr (AN.mpr ⟨_,abz,rfl⟩)
       obtain⟨v0,hv0⟩:∃v0,(x,v0)∈d9:=by obtain⟨y,hy,e⟩:=AN.mp WG;exact⟨y.2,by rw [<-e];exact hy⟩
       have adK:(x,v0)∈md:=(HN x v0).mpr ⟨v0,hv0,fun z=>Zm z.1,by rw [if_neg Zm];omega⟩
       have afP:=Bv NA adK
       have VE:md.length<=900:=by
        have:=tj (l':=ts.map (·.1)) NA fun y hy=>by
         obtain⟨⟨_,v1⟩,hv1,rfl⟩:=AN.mp hy
         obtain⟨v2,h2,_⟩:=(HN _ v1).mp hv1
         exact(hw.mem _).mp (AN.mpr ⟨_,h2,rfl⟩)
        rw [AE,AE] at this
        omega
       have aiI:=zY md
       have W7:m≠ov:=UN m (by simp)
       have abg:∀b∈p::d::m::G'.foot,b≠ov:=fun b hb z=>by
        have afy:H2 ov≠none:=by obtain⟨xs,e,_⟩:=acJ;rw [e];simp
        rcases AD.mp hb with h|hb
        . exact UN p (by simp) (h▸z)
        . rcases AD.mp hb with h|hb
          . exact UN d (by simp) (h▸z)
          . rcases AD.mp hb with h|hb
            . exact W7 (h▸z)
            . rcases Nx b hb with r|r
              . exact UN b (by simp [r]) z
              . exact afy (z▸r)
       have agc:((overs ts to (ln.take i)).map EQ).length<=900:=by
        rw [AE]
        have h1:(overs ts to (ln.take i)).length<=(ln.take i).length:=JJ _ _
        rw [KM] at h1
        omega
       repeat' (walk_at "rd1")
       . rename_i hle
         refine Hx hm3 ?_
         repeat' (walk_at "rd1")
         refine FD hm3 afP (fun v4 H4 tX hm4=>?_)
         rw [Cm] at hm4
         have Ob:=vQ.setM tX hm4
         have aj9:=Rm.mv tX (by simpa using Me W7)
         repeat' (walk_at "rd1")
         rename_i H5 Fi ZX
         have hw5:=Ob.mv Fi fun b hb=>by simpa using abg b hb
         have aeI:¬to<xV ts x:=by omega
         refine⟨_,rfl,Mv.step (Mv.step pG tX fun b hb=>.inl (by rw [AR.mp hb];simp)) Fi fun b hb=>.inl (by rw [AR.mp hb];simp),G',iQ md x,hw5,?_,Nx,?_,tN NA,fun y v'=>?_⟩
         . rw [GJ hx,AO,if_neg aeI,NG];exact yU
         . rw [GJ hx,AU,if_pos hle,CS];exact ZX
         . rw [c9,HN y v',GJ hx]
           constructor
           . rintro⟨⟨v,h1,h2,h3⟩,h4⟩
             have h4:y≠x:=h4
             refine⟨v,h1,fun z=>h2 ⟨?_,z.2⟩,?_⟩
             . rcases Co.mp z.1 with h|h
               . exact h
               . exact absurd (AR.mp h) h4
             . rw [h3]
               congr 1
               by_cases c:y∈ln.take i
               . rw [if_pos c,if_pos (EU _ c)]
               . rw [if_neg c,if_neg (fun z=>by rcases Co.mp z with h|h;exact c h;exact h4 (AR.mp h))]
           . rintro⟨v,h1,h2,h3⟩
             have h4:y≠x:=fun z=>h2 ⟨by rw [z];simp,by rw [z];exact hle⟩
             refine⟨⟨v,h1,fun z=>h2 ⟨EU _ z.1,z.2⟩,?_⟩,h4⟩
             rw [h3]
             congr 1
             by_cases c:y∈ln.take i
             . rw [if_pos c,if_pos (EU _ c)]
             . rw [if_neg c,if_neg (fun z=>by rcases Co.mp z with h|h;exact c h;exact h4 (AR.mp h))]
       . rename_i hle H4 tX hm4
         have gP:to<xV ts x:=by omega
         have abW:x∈md.map (·.1):=AN.mpr ⟨_,adK,rfl⟩
         rw [PQ abW] at hm4
         have Ob:=vQ.setM tX hm4
         have hi4:=Ob.ins
         have hd4:=Ob.dd
         repeat' (walk_at "rd1")
         obtain⟨dx4,hp4⟩:=Ob.ex
         have VX:x∉(Cw us n to ts++tP ts to (ln.take i)).map (·.1):=fun z=>by
          rw [CS] at z
          rcases Co.mp z with z|z
          . obtain⟨y,hy,e⟩:=AN.mp z
            obtain⟨h1,h2⟩:=yP.mp hy
            have e:y.1=x:=e
            rw [<-r9 hw.nd (show(y.1,y.2)∈ts from h1),e] at h2
            exact h2 hxo
          . obtain⟨y,hy,e⟩:=AN.mp z
            have e:y.1=x:=e
            exact Zm (e▸(DF.mp hy).1)
         have V1:(Cw us n to ts++tP ts to (ln.take i)).length<=2000:=by
          rw [Da]
          have h1:=Mz us n to ts
          have h2:(tP ts to (ln.take i)).length<=(ln.take i).length:=by
           unfold tP
           rw [AE]
           exact JJ _ _
          rw [KM] at h2
          omega
         refine⟨p,dx4,d,m,n,G',us,_,x,_,to,rfl,hp4,Ob.g,yU,uM.ok,Ob.zq.2.2.2.1,VX,V1,fun H5 G5 Fi hg5 ae6 e1 e2 hs5=>?_⟩
         have hw5:=Ob.geo Fi hg5 e1 e2 hs5
         have abJ:ov∉G'.foot:=fun z=>abg ov (by simp [z]) rfl
         have ZX:=(Rm.mv tX (by simpa using Me W7)).mv Fi abJ
         have acP:¬xV ts x<=to:=by omega
         refine⟨_,rfl,Mv.step (Mv.step pG tX fun b hb=>.inl (by rw [AR.mp hb];simp)) Fi fun b hb=>?_,G5,CK md x (v0+1),hw5,?_,fun b hb=>?_,?_,by rw [IU];exact NA,fun y v'=>?_⟩
         . rcases Nx b hb with r|r
           . exact .inl (by simp [r])
           . exact .inr r
         . rw [GJ hx,AO,if_pos gP,<-Os];exact ae6
         . rcases hs5 b hb with r|r
           . exact Nx b r
           . exact .inr (pG.none (tX.none r))
         . rw [GJ hx,AU,if_neg acP,NG];exact ZX
         . rw [OU abW,GJ hx]
           by_cases c0:y=x
           . subst c0
             constructor
             . rintro(⟨_,h⟩|⟨h,_⟩)
               . have h:v'=v0+1:=h
                 exact⟨v0,hv0,fun z=>acP z.2,by rw [h,if_pos (by simp)]⟩
               . exact absurd rfl h
             . rintro⟨v,h1,_,h3⟩
               rw [if_pos (by simp)] at h3
               have:v=v0:=lR hw.ZS h1 hv0
               exact .inl ⟨rfl,by show v'=v0+1;omega⟩
           . have M8:y∈ln.take i++[x]↔y∈ln.take i:=⟨fun z=>by rcases Co.mp z with h|h;exact h;exact absurd (AR.mp h) c0,fun z=>EU _ z⟩
             constructor
             . rintro(⟨h,_⟩|⟨_,h⟩)
               . exact absurd h c0
               . obtain⟨v,h1,h2,h3⟩:=(HN y v').mp h
                 refine⟨v,h1,fun z=>h2 ⟨M8.mp z.1,z.2⟩,?_⟩
                 rw [h3]
                 congr 1
                 by_cases c:y∈ln.take i
                 . rw [if_pos c,if_pos (M8.mpr c)]
                 . rw [if_neg c,if_neg (fun z=>c (M8.mp z))]
             . rintro⟨v,h1,h2,h3⟩
               refine .inr ⟨c0,(HN y v').mpr ⟨v,h1,fun z=>h2 ⟨M8.mpr z.1,z.2⟩,?_⟩⟩
               rw [h3]
               congr 1
               by_cases c:y∈ln.take i
               . rw [if_pos c,if_pos (M8.mpr c)]
               . rw [if_neg c,if_neg (fun z=>c (M8.mp z))]
     . rintro σ' H3 ⟨z5,rfl,pG,G',md,vQ,yU,Nx,Rm,NA,HN⟩
       rw [SO] at yU Rm HN
       repeat' (walk_at "rd1")
       refine q ov H3 G' md (overs ts to ln) ?_ vQ (yU.ext fun y=>?_) (Mr.sublist IR) (fun x=>?_) NA (fun x v'=>?_) (fun b hb=>?_) (HY.none mR) Rm
       . exact Mv.step (Mv.step (cS HY fun b hb=>AL _ hb) (jK.mv (S:=[])) fun b hb=>nomatch hb) pG fun b hb=>by
          rcases AD.mp hb with rfl|hb
          . exact .inr (HY.none mR)
          . exact .inl hb
       . rw [Co,yP,DF,B0,decide_eq_true_eq]
         constructor
         . rintro(⟨h1,h2⟩|⟨h1,h2,h3⟩)
           . exact⟨h1,(qW uM h2).1⟩
           . obtain⟨h4,_⟩:=N4 y.1 h1
             rw [<-h2] at h4 h3
             exact⟨h4,h3⟩
         . rintro⟨h1,h2⟩
           by_cases ho:Out us n to y.2
           . have h3:y.1∈ln:=(IC y.1).mpr ⟨y.2,h1,ho⟩
             have h4:=r9 hw.nd (show(y.1,y.2)∈ts from h1)
             exact .inr ⟨h3,h4.symm,by rw [h4];exact h2⟩
           . exact .inl ⟨h1,ho⟩
       . rw [L5]
         constructor
         . rintro⟨h1,h2⟩
           exact⟨_,(N4 x h1).1,h2⟩
         . rintro⟨t,h1,h2⟩
           rw [r9 hw.nd h1]
           exact⟨(IC x).mpr ⟨t,h1,Ju uM h2⟩,h2⟩
       . rw [HN x v']
         constructor
         . rintro⟨v,h1,h2,h3⟩
           obtain⟨⟨_,t⟩,ht,e⟩:=AN.mp ((hw.mem x).mp (AN.mpr ⟨_,h1,rfl⟩))
           have e:_=x:=e
           subst e
           have Ks:=r9 hw.nd ht
           have gP:to<t:=by
            by_cases c:t<=to
            . exact absurd ⟨(IC _).mpr ⟨t,ht,Ju uM c⟩,by rw [Ks];exact c⟩ h2
            . omega
           refine⟨t,v,ht,gP,h1,?_⟩
           rw [h3]
           congr 1
           by_cases ho:Out us n to t
           . rw [if_pos ((IC _).mpr ⟨t,ht,ho⟩),if_pos (down uM Om ho gP)]
           . have:=(qW uM ho).2
             rw [if_neg (fun z=>ho (by have:=(N4 _ z).2;rwa [Ks] at this)),if_neg (by omega)]
         . rintro⟨t,v,ht,gP,h1,h3⟩
           have Ks:=r9 hw.nd ht
           refine⟨v,h1,fun z=>by have:=z.2;omega,?_⟩
           rw [h3]
           congr 1
           by_cases ho:Out us n to t
           . rw [if_pos ((IC _).mpr ⟨t,ht,ho⟩),if_pos (down uM Om ho gP)]
           . have:=(qW uM ho).2
             rw [if_neg (by omega:¬iu us t to<iu us t n),if_neg (fun z=>ho (by have:=(N4 _ z).2;rwa [Ks] at this))]
       . rcases Nx b hb with r|r
         . exact .inl r
         . exact .inr (HY.none (jK.none r))
theorem Jo (T:Txt K mg a):df P w K mg base 4 a.cg ["self","to"] [] (ye a.ai a.aj):=
 ⟨⟨_,_,MB T,T.jv.binds fun _ _ _ _ _ _=>dJ fun _ _=>rfl,.nil⟩⟩
def R9 (x:Str × Int):Int × Str:=(x.2,x.1)
def ZK (ks:List (Int × Str)):Prop:=ks.Pairwise fun c d=>aW d c=false
theorem qc (l:List α):l.filter (fun _=>true)=l:=Aar.mpr fun _ _=>rfl
theorem KJ {α β:Type} {f:α->β} {l:List α} {c:α} (h:(l.map f).Nodup) (hc:l[j]? =some c):f c∉(l.take j).map f:=by
 intro hm
 obtain⟨d,hd,e⟩:=AN.mp hm
 obtain⟨i,hi,rfl⟩:=Pf hd
 have vX:i<j:=by rw [KM] at hi;omega
 have hjl:j<l.length:=(AS.mp hc).1
 rw [OE,Nl] at h
 have:=NJ.mp h i j (by omega) hjl vX
 rw [AbN] at e
 have xt:l[j]=c:=Do ((AC hjl).symm.trans hc)
 rw [xt] at this
 exact this e
theorem AbZ {α:Type} {l:List α} {c:α} (h:l[j]? =some c):l.take (j+1)=l.take j++[c]:=by
 rw [We,h];rfl
structure ud (C:Addr) (H:Hp) (p d:Addr) (n:Int) (ts:List (Str × Int)) (fr:List (Str × V)):Prop where
 ex:∃dx,H p=some (.ins C dx (("now",.int n)::("times",.ref d)::fr))
 dd:oq H d (rC ts)
 nf:fr.lookup (Q4 "enter")=none/\fr.lookup (Q4 "leave")=none/\fr.lookup (Q4 "pass_on")=none/\fr.lookup (Q4 "check_waits")=none
 fl:fr.length<900
theorem KL {m:Str} {x y:V} {fr:List (Str × V)} (h1:(m==Q4 "now")=false) (h2:(m==Q4 "times")=false) (h:fr.lookup m=none):Zp m (("now",x)::("times",y)::fr)=none:=by
 rw [LP,LP]
 show(match m==Q4 "now" with|true=>_|false=>match m==Q4 "times" with|true=>_|false=>_)=_
 rw [h1,h2];exact h
section
variable {d:Addr} {Z3:List (Str × Int)} {fr:List (Str × V)}
theorem ud.ins (h:ud C H p d n ts fr):jF H (.ref p) C (("now",.int n)::("times",.ref d)::fr):=let ⟨dx,e⟩:=h.ex;⟨p,dx,rfl,e⟩
theorem ud.keeps (sm:ay H H') (h:ud C H p d n ts fr):ud C H' p d n ts fr:=⟨let ⟨dx,e⟩:=h.ex;⟨dx,sm _ _ e⟩,h.dd.keeps sm,h.nf,h.fl⟩
theorem ud.ne (h:ud C H p d n ts fr):p≠d:=by
 obtain⟨dx,e⟩:=h.ex
 obtain⟨kvs,e2,_⟩:=h.dd
 exact pB e e2 (by intro y;cases y)
theorem ud.mv (m:Mv S H H') (hp:p∉S) (hd:d∉S) (h:ud C H p d n ts fr):ud C H' p d n ts fr:=⟨let ⟨dx,e⟩:=h.ex;⟨dx,m.at hp e⟩,h.dd.mv m hd,h.nf,h.fl⟩
theorem ud.JB (m:Mv [d] H H') (hd:oq H' d (rC Z3)) (h:ud C H p d n ts fr):ud C H' p d n Z3 fr:=⟨let ⟨dx,e⟩:=h.ex;⟨dx,m.at (by simpa using h.ne) e⟩,hd,h.nf,h.fl⟩
end
structure KG (K:At) (C:Addr):Prop where
 cl:ug K C
 n1:aJ K C "now"
 n2:aJ K C "times"
theorem Txt.Nc (T:Txt K mg a):KG K a.aR:=⟨T.ez,T.jH,T.fU⟩
theorem Txt.tU (T:Txt K mg a):KG K a.ai:=⟨T.aO,T.cp,T.cK⟩
def Ae (C:Addr) (Yr:Sp):Sp:=fun vs H Q _=>∃(p d:Addr) (n:Int) (ts:List (Str × Int)) (fr:List (Str × V)) (x:Str) (t:Int),vs=[.ref p,.str x,.int t]/\ud C H p d n ts fr/\ts.length<=1000/\x∉ts.map (·.1)/\n<t/\
 ∀H1,Mv [d] H H1->ud C H1 p d n (ts++[(x,t)]) fr->∃B:Hp->Prop,(∀Q':VK,(∀H2,B H2->Q' .aQ H2)->Yr [.ref p,.str x,.int t] H1 Q' E0)/\∀H2,B H2->Q .aQ H2
theorem Te (T:Txt K mg a) {f:Addr} {Yr:Sp} (k:KG K C) (Ts:Meth K C "enter" f) (Vd:df P w K mg base 4 f ["self","name","time"] [] Yr):aP P w K mg base eG 5 a.cT a.w9 ["self","name","time"] (Ae C Yr):=by
 have n1:=k.n1;have n2:=k.n2;have cl:=k.cl
 refine T.rJ.ok FH (fun vs H Q E h=>?_) (fun c7 A outer s H vs Q E hr h=>?_)
 . obtain⟨_,_,_,_,_,_,_,rfl,_⟩:=h;rfl
 . obtain⟨p,d,n,ts,fr,x,t,rfl,hw,hl,hxn,ht,q⟩:=h
   have hi:=hw.ins;have hd:=hw.dd
   have VE:=zY ts
   refine⟨_,(ag (bB (E4 (R5 (iz hr) (pv 1) (au (pv 0) rfl)) rfl)
    (ah fA)
    aN)
    (ag (bB (aI qQ (pv 2) (au (pv 0) rfl) (aK _))
     (ah fA)
     aN)
    (ag (t6 (iz hr) (au (pv 0) rfl) (pv 1) (pv 2) rfl)
    (ah (aF (aB (pv 0) cl Ts Vd (hr.mono (by decide)) (ae (pv 1) (ae (pv 2) af)))))))),?_⟩
   repeat' (walk_at "rd1")
   . rename_i o e hb
     rw [e,FN hxn] at hb
     cases hb
   . rename_i o e Ke Ih H2 gH hd2
     rw [HS (FN hxn),<-K2] at hd2
     have zo:=hw.JB gH hd2
     have J1:=zo.ins
     obtain⟨B,h1,h2⟩:=q H2 gH zo
     repeat' (walk_at "rd1")
     refine wI J1 (KL (by decide+kernel) (by decide+kernel) hw.nf.1) ?_
     repeat' (walk_at "rd1")
     refine h1 _ fun H3 hB=>?_
     repeat' (walk_at "rd1")
     exact h2 H3 hB
theorem Hh (T:Txt K mg a) {f:Addr} {Yr:Sp} (k:KG K C) (m:Meth K C "enter" f) (c:df P w K mg base 4 f ["self","name","time"] [] Yr):df P w K mg base 5 a.cT ["self","name","time"] [] (Ae C Yr):=
 ⟨⟨_,_,Te T k m c,T.rJ.binds fun _ _ _ _ _ _=>jr fun _ _ _=>rfl,.nil⟩⟩
def De (C:Addr):Sp:=fun vs H Q _=>∃(p d:Addr) (n:Int) (ts:List (Str × Int)) (fr:List (Str × V)) (x:Str),vs=[.ref p,.str x]/\ud C H p d n ts fr/\x∈ts.map (·.1)/\Q .aQ H
theorem Nu (T:Txt K mg a) (k:KG K C):aP P w K mg base eG 1 a.aH a.j8 ["self","name"] (De C):=by
 have n1:=k.n1;have n2:=k.n2;have cl:=k.cl
 refine T.gx.ok tD (fun vs H Q E h=>?_) (fun c7 A outer s H vs Q E hr h=>?_)
 . obtain⟨_,_,_,_,_,_,rfl,_⟩:=h;rfl
 . obtain⟨p,d,n,ts,fr,x,rfl,hw,hx,q⟩:=h
   have hi:=hw.ins;have hd:=hw.dd
   refine⟨_,(ah (bB (E4 (DH (iz hr) (pv 1) (au (pv 0) rfl)) rfl)
    (ah fA)
    aN)),?_⟩
   repeat' (walk_at "rd1")
   . rename_i o e hb
     rw [e,x8.mpr hx] at hb
     cases hb
   . exact q
theorem IY (T:Txt K mg a) (k:KG K C):df P w K mg base 1 a.aH ["self","name"] [] (De C):=
 ⟨⟨_,_,Nu T k,T.gx.binds fun _ _ _ _ _ _=>dJ fun _ _=>rfl,.nil⟩⟩
def xk (C:Addr) (Zx:Sp):Sp:=fun vs H Q _=>∃(p d:Addr) (n:Int) (ts:List (Str × Int)) (fr:List (Str × V)) (x:Str) (t:Int),vs=[.ref p,.str x]/\ud C H p d n ts fr/\(ts.map (·.1)).Nodup/\(x,t)∈ts/\
 ∀H1,Mv [d] H H1->ud C H1 p d n (iQ ts x) fr->∃B:Hp->Prop,(∀Q':VK,(∀H2,B H2->Q' .aQ H2)->Zx [.ref p,.str x,.int t] H1 Q' E0)/\∀H2,B H2->Q (.int t) H2
theorem Pn (T:Txt K mg a) {f:Addr} {Zx:Sp} (k:KG K C) (CQ:Meth K C "check_waits" a.aH) (Ue:Meth K C "leave" f) (Vh:df P w K mg base 3 f ["self","name","time"] [] Zx):aP P w K mg base eG 4 a.cu a.uT ["self","name"] (xk C Zx):=by
 have n1:=k.n1;have n2:=k.n2;have cl:=k.cl
 have CZ:=IY (P:=P) (w:=w) (base:=base) T k
 refine T.qd.ok uO (fun vs H Q E h=>?_) (fun c7 A outer s H vs Q E hr h=>?_)
 . obtain⟨_,_,_,_,_,_,_,rfl,_⟩:=h;rfl
 . obtain⟨p,d,n,ts,fr,x,t,rfl,hw,j9,N4,q⟩:=h
   have hi:=hw.ins;have hd:=hw.dd
   refine⟨_,(ag (aF (aB (pv 0) cl CQ CZ (hr.mono (by decide)) (ae (pv 1) af)))
    (ag (aE (i:=2) uO.nd rfl (FS rfl) (iy Lu On PM qm (au (pv 0) rfl) (ae (pv 1) af)))
    (ag (aF (aB (pv 0) cl Ue Vh (hr.mono (by decide)) (ae (pv 1) (ae (pv 2) af))))
    (ah (aD (pv 2)))))),?_⟩
   repeat' (walk_at "rd1")
   refine wI hi (KL (by decide+kernel) (by decide+kernel) hw.nf.2.2.2) ?_
   repeat' (walk_at "rd1")
   refine⟨p,d,n,ts,fr,x,rfl,hw,Cc (f:=(·.1)) N4,?_⟩
   have hlk:=Bv j9 N4
   repeat' (walk_at "rd1")
   refine Hx hd ?_
   repeat' (walk_at "rd1")
   refine TJ hd hlk (fun v6 H6 Q6 mv6 hd6=>?_)
   obtain rfl:=Q6.int_inv
   rw [Cm] at hd6
   have hw6:=hw.JB mv6 hd6
   have hi6:=hw6.ins
   obtain⟨B,h1,h2⟩:=q H6 mv6 hw6
   repeat' (walk_at "rd1")
   refine wI hi6 (KL (by decide+kernel) (by decide+kernel) hw.nf.2.1) ?_
   repeat' (walk_at "rd1")
   refine h1 _ fun H3 hB=>?_
   repeat' (walk_at "rd1")
   exact h2 H3 hB
theorem Dx (T:Txt K mg a) {f:Addr} {Zx:Sp} (k:KG K C) (m1:Meth K C "check_waits" a.aH) (m2:Meth K C "leave" f) (c:df P w K mg base 3 f ["self","name","time"] [] Zx):df P w K mg base 4 a.cu ["self","name"] [] (xk C Zx):=
 ⟨⟨_,_,Pn T k m1 m2 c,T.qd.binds fun _ _ _ _ _ _=>dJ fun _ _=>rfl,.nil⟩⟩
def Ai (C:Addr) (W2:Sp):Sp:=fun vs H Q _=>∃(p d:Addr) (n:Int) (ts:List (Str × Int)) (fr:List (Str × V)) (t:Int),vs=[.ref p,.int t]/\ud C H p d n ts fr/\ts.length<60/\(ts.map (·.1)).Nodup/\n<=t/\
 ∃B:Hp->Prop,
  (∀Q':VK,(∀(q0:Addr) (H1:Hp) (ov:List Str),ud C H1 p d n ts fr->ov.Nodup->(∀x,x∈ov↔∃u,(x,u)∈ts/\u<=t)->H q0=none->dg H1 q0 (ov.map EQ)->(∀b,H1 b=none->H b=none)->B H1->Q' (.ref q0) H1)->W2 [.ref p,.int t] H Q' E0)/\
  ∀(l:Addr) (H':Hp) (ks:List (Int × Str)),H l=none->ks.Perm ((ts.filter fun y=>decide (y.2<=t)).map R9)->ZK ks->dg H' l (ks.map pairD)->ud C H' p d t (ts.filter fun y=>decide (t<y.2)) fr->(∃H1,H1 l=none/\B H1/\Mv [p,d] H1 H')->Q (.ref l) H'
theorem UB (T:Txt K mg a) {f:Addr} {W2:Sp} (k:KG K C) (LW:Meth K C "pass_on" f) (Mw:df P w K mg base 4 f ["self","to"] [] W2):aP P w K mg base eG 5 a.cX a.xo ["self","to"] (Ai C W2):=by
 have n1:=k.n1;have n2:=k.n2;have cl:=k.cl
 refine T.sF.ok kR (fun vs H Q E h=>?_) (fun c7 A outer s H vs Q E hr h=>?_)
 . obtain⟨_,_,_,_,_,_,rfl,_⟩:=h;rfl
 . obtain⟨p,d,n,ts,fr,t,rfl,hw,hl,j9,Om,B,hP,q⟩:=h
   have hi:=hw.ins;have hd:=hw.dd
   refine⟨_,(ag (bB (aI zh (pv 1) (au (pv 0) rfl) (aK _))
    (ah fA)
    aN)
    (ag (aE (i:=2) kR.nd rfl (FS rfl) (aU Ij rfl T.e7 Q1 (ae (xH (T:=["name"]) (M:=["self","to","told","time","04"]) (R4 (ao mN) ["self","to","told","time","name"] rfl rfl (by decide+kernel)) rfl (cR (aB (pv 0) cl LW Mw (hr.mono (by decide)) (ae (pv 1) af))) (fun _ _ _ _ _=>(a0 (i:=0) (show OE (["name","self","to","told","time","04"]:List Str) by decide+kernel) rfl (FS rfl))) (fX (by decide)) (fun _ _ _ _ _=>tS) (fun _ _ _ _ _=>(dS (ae (mM (iz hr) (Aj (K:=K) rfl (pv 1) rfl) (pv 0) (fun _ _=>rfl)) (ae (pv 0) af))))) af)))
    (ag (aV (pv 0) (pv 1) rfl)
    (ag (kC KB rfl (cR (pv 2)) (Fd (n:=2) rfl (gL (a0 (i:=3) kR.nd rfl (FS rfl)) (gL (a0 (i:=4) kR.nd rfl (FS rfl)) wN)))
     (ah (aF (iy Lu On PM qm (au (pv 0) rfl) (ae (pv 4) af)))))
    (ah (aD (pv 2))))))),?_⟩
   repeat' (walk_at "rd1")
   refine wI hi (KL (by decide+kernel) (by decide+kernel) hw.nf.2.2.1) ?_
   repeat' (walk_at "rd1")
   refine hP _ fun q0 H1 ov jn TU Ux mI hq0 hold J3=>?_
   have Av:=jn.dd
   have vR:=jn.ins
   have N4:∀x∈ov,(x,xV ts x)∈ts/\xV ts x<=t:=fun x hx=>by
    obtain⟨u,h1,h2⟩:=(Ux x).mp hx
    rw [r9 j9 h1];exact⟨h1,h2⟩
   have agc:ov.length<=ts.length:=by
    have:=tj (l':=ts.map (·.1)) TU fun x hx=>AN.mpr ⟨_,(N4 x hx).1,rfl⟩
    rwa [AE] at this
   refine EW (cs:=ov) (gd:=fun x=>.str x) (fun _=>true) (fun x=>pairD (xV ts x,x)) hq0.dv (by omega) (fun _=>rfl) (fun y x H2 N hx jK hy yes no=>?_) (fun q1 H2 jK mR yC=>?_)
   . have hlk:=Bv j9 (N4 x hx).1
     obtain rfl:=hy.str_inv
     have J1:=vR.keeps jK
     have hd2:=Av.keeps jK
     repeat' (walk_at "rd1")
     refine oO (fun hb=>?_) (fun hb=>by cases hb)
     repeat' (walk_at "rd1")
     exact yes rfl _ _ (by walk_at "same") (by walk_at "dat")
   rw [qc] at yC
   have T8:Dv H2 (.ref q1) (.list ((ov.map fun x=>(xV ts x,x)).map pairD)):=by
    have:=yC.dv
    rw [GM];exact this
   have hpm:(ov.map fun x=>(xV ts x,x)).Perm ((ts.filter fun y=>decide (y.2<=t)).map R9):=by
    have h1:(ov.map fun x=>(xV ts x,x)).Nodup:=by
     rw [OE,Nl]
     exact TU.imp fun {x y} CD e=>CD (AaT e).2
    have h2:((ts.filter fun y=>decide (y.2<=t)).map R9).Nodup:=by
     rw [OE,Nl]
     have h3:(ts.filter fun y=>decide (y.2<=t)).Pairwise fun a b=>a.1≠b.1:=by
      rw [OE,Nl] at j9
      exact j9.sublist IR
     exact h3.imp fun {x y} CD e=>CD (AaT e).2
    refine(Aag h1 h2).mpr fun c=>?_
    rw [AN,AN]
    constructor
    . rintro⟨x,hx,rfl⟩
      obtain⟨a1,a2⟩:=N4 x hx
      exact⟨(x,xV ts x),B0.mpr ⟨a1,decide_eq_true a2⟩,rfl⟩
    . rintro⟨y,hy,rfl⟩
      obtain⟨a1,a2⟩:=B0.mp hy
      have a2:=of_decide_eq_true a2
      refine⟨y.1,(Ux y.1).mpr ⟨y.2,a1,a2⟩,?_⟩
      show(xV ts y.1,y.1)=(y.2,y.1)
      rw [r9 j9 (show(y.1,y.2)∈ts from a1)]
   repeat' (walk_at "rd1")
   refine Uk T8 (by rw [AE];omega) (fun q2 H3 ks sm3 pU hp hs vz=>?_)
   repeat' (walk_at "rd1")
   have abu:ay H1 H3:=jK.trans sm3
   have vQ:=jn.keeps abu
   obtain⟨dx,acg⟩:=vQ.ex
   have hqp:q2≠p:=fun z=>by
    obtain⟨dx,e⟩:=jn.ex
    rw [<-z,jK.none pU] at e;cases e
   have hqd:q2≠d:=fun z=>by
    obtain⟨kvs,e,_⟩:=jn.dd
    rw [<-z,jK.none pU] at e;cases e
   have hpd:=jn.ne
   repeat' (walk_at "rd1")
   refine⟨p,C,dx,_,rfl,acg,cl,n1,by have:=hw.fl;simp only [FF];omega,?_⟩
   have tX:Mv [p] H3 (upd H3 p (.ins C dx (kX (Q4 "now") (.int t) (("now",.int n)::("times",.ref d)::fr)))):=.aS acg (by intro _ z;cases z)
   have hp4:upd H3 p (.ins C dx (kX (Q4 "now") (.int t) (("now",.int n)::("times",.ref d)::fr))) p=some (.ins C dx (("now",.int t)::("times",.ref d)::fr)):=by
    rw [av]
    exact congrArg (fun z=>some (HO.ins C dx z)) (if_pos rfl)
   generalize upd H3 p (.ins C dx (kX (Q4 "now") (.int t) (("now",.int n)::("times",.ref d)::fr)))=H4 at*
   have Ob:ud C H4 p d t ts fr:=⟨⟨dx,hp4⟩,vQ.dd.mv tX (by simpa using Me hpd),hw.nf,hw.fl⟩
   have Ed:dg H4 q2 (ks.map pairD):=vz.mv tX (by simpa using hqp)
   have Sg:ks.Perm ((ts.filter fun y=>decide (y.2<=t)).map R9):=hp.trans hpm
   have Ep:(ks.map (·.2)).Nodup:=by
    have h1:(ks.map (·.2)).Perm (((ts.filter fun x=>decide (x.2<=t)).map R9).map (·.2)):=Sg.map _
    refine h1.nodup_iff.mpr ?_
    rw [GM]
    exact j9.sublist (IR.map _)
   have hkm:∀k∈ks,∃x∈ts,x.2<=t/\k=R9 x:=fun k hk=>by
    obtain⟨x,hx,rfl⟩:=AN.mp (Sg.mem_iff.mp hk)
    exact⟨x,(B0.mp hx).1,of_decide_eq_true (B0.mp hx).2,rfl⟩
   repeat' (walk_at "rd1")
   refine G4 (Hb:=H4) (cs:=ks) (gd:=pairD) Ed.dv (fun j σ' H'=>∃z3 z4,σ'=[some (.ref p),some (.int t),some (.ref q2),z3,z4]/\Mv [d] H4 H'/\oq H' d (rC (ts.filter fun x=>!((ks.take j).map (·.2)).contains x.1))) ⟨_,_,rfl,Mv.refl,by show oq H4 d (rC (ts.filter fun _=>true));rw [qc];exact Ob.dd⟩ (fun i σ' H' _ ⟨_,_,_,mv,_⟩ a' xs e hx=>by cases e;exact mv.sq (by simpa using hqd) hx) ?_ ?_
   . rintro j k x σ' H' hk ⟨z3,z4,rfl,Fi,SG⟩ ZW _
     have hx:Dv H' x (.tuple [.int k.1,.str k.2]):=ZW rfl Fi.tp
     refine ED hx (fun w1 w2 f1 f2=>?_)
     obtain rfl:=f1.int_inv
     obtain rfl:=f2.str_inv
     have SE:=(Ob.JB Fi SG).ins
     obtain⟨y,hy,hyt,rfl⟩:=hkm k (Cf hk)
     have hlk:uj (rC (ts.filter fun x=>!((ks.take j).map (·.2)).contains x.1)) (R9 y).2=some (.int y.2):=by
      refine Bv (x:=y.1) (t:=y.2) (j9.sublist (IR.map _)) (B0.mpr ⟨hy,?_⟩)
      have:=KJ Ep hk
      rw [AbM,<-Aaq,List.contains_iff_mem]
      exact this
     repeat' (walk_at "rd1")
     refine Hx SG ?_
     repeat' (walk_at "rd1")
     refine FD SG hlk (fun v6 H6 mv6 hd6=>?_)
     repeat' (walk_at "rd1")
     refine⟨_,_,rfl,Fi.trans mv6,?_⟩
     have e:rC (ts.filter fun x=>!((ks.take (j+1)).map (·.2)).contains x.1)=sg (rC (ts.filter fun x=>!((ks.take j).map (·.2)).contains x.1)) (R9 y).2:=by
      unfold sg rC
      rw [AaF,List.filter_filter]
      congr 1
      refine Tk fun x hx=>?_
      rw [AbZ hk,CS,NE]
      simp
      exact and_comm
     rw [e];exact hd6
   . rintro σ' H' ⟨z3,z4,rfl,Fi,SG⟩
     rw [SO] at SG
     have e:(ts.filter fun x=>!(ks.map (·.2)).contains x.1)=ts.filter fun x=>decide (t<x.2):=by
      refine Tk fun x hx=>?_
      rw [NE,AbM,<-Aaq,List.contains_iff_mem,decide_eq_true_eq]
      constructor
      . intro hm
        by_cases c:x.2<=t
        . exact absurd (AN.mpr ⟨R9 x,Sg.mem_iff.mpr (Cc (B0.mpr ⟨hx,decide_eq_true c⟩)),rfl⟩) hm
        . omega
      . intro ht hm
        obtain⟨k,hk,e⟩:=AN.mp hm
        obtain⟨y,hy,hyt,rfl⟩:=hkm k hk
        have e':y.1=x.1:=e
        have h1:(x.1,y.2)∈ts:=by rw [<-e'];exact hy
        have:=lR j9 h1 (show(x.1,x.2)∈ts from hx)
        omega
     rw [e] at SG
     have hw5:=Ob.JB Fi SG
     repeat' (walk_at "rd1")
     have agM:Mv [p,d] H3 H':=(cS tX (by simp)).trans (cS Fi (by simp))
     exact q q2 H' ks (hold _ (jK.none pU)) Sg hs (Ed.mv Fi (by simpa using hqd)) hw5 ⟨H1,jK.none pU,J3,abu.mv.trans agM⟩
theorem HB (T:Txt K mg a) {f:Addr} {W2:Sp} (k:KG K C) (m:Meth K C "pass_on" f) (c:df P w K mg base 4 f ["self","to"] [] W2):df P w K mg base 5 a.cX ["self","to"] [] (Ai C W2):=
 ⟨⟨_,_,UB T k m c,T.sF.binds fun _ _ _ _ _ _=>dJ fun _ _=>rfl,.nil⟩⟩
def BZ (C:Addr):Sp:=fun vs H Q _=>∃(p d:Addr) (n:Int) (ts:List (Str × Int)) (fr:List (Str × V)) (x:Str),vs=[.ref p,.str x]/\ud C H p d n ts fr/\(∀t,(x,t)∈ts->Q (.int t) H)/\(x∉ts.map (·.1)->Q .aQ H)
theorem Jb (T:Txt K mg a) (k:KG K C):aP P w K mg base eG 1 a.bh a.pj ["self","name"] (BZ C):=by
 have n1:=k.n1;have n2:=k.n2;have cl:=k.cl
 refine T.kz.ok xX (fun vs H Q E h=>?_) (fun c7 A outer s H vs Q E hr h=>?_)
 . obtain⟨_,_,_,_,_,_,rfl,_⟩:=h;rfl
 . obtain⟨p,d,n,ts,fr,x,rfl,hw,q1,q2⟩:=h
   have hi:=hw.ins;have hd:=hw.dd
   refine⟨_,(ah (aD (R6 (iz hr) (au (pv 0) rfl) (pv 1) ⟨rfl,rfl,rfl,rfl⟩))),?_⟩
   repeat' (walk_at "rd1")
   refine Rk hd (fun e he v' hv'=>?_) (fun he=>?_)
   . obtain⟨t,rfl⟩:=KU he
     obtain rfl:=hv'.int_inv
     exact q1 t (OT he)
   . exact q2 fun z=>by have:=x8.mpr z;rw [he] at this;cases this
theorem zc (T:Txt K mg a) (k:KG K C):df P w K mg base 1 a.bh ["self","name"] [] (BZ C):=
 ⟨⟨_,_,Jb T k,T.kz.binds fun _ _ _ _ _ _=>dJ fun _ _=>rfl,.nil⟩⟩
def Dd (C:Addr):Sp:=fun vs H Q _=>∃(p d:Addr) (n:Int) (ts:List (Str × Int)) (fr:List (Str × V)),vs=[.ref p]/\ud C H p d n ts fr/\(ts=[]->Q .aQ H)/\(∀t∈ts.map (·.2),(∀u∈ts.map (·.2),t<=u)->Q (.int t) H)
theorem MN (T:Txt K mg a) (k:KG K C):aP P w K mg base eG 1 a.bJ a.sE ["self"] (Dd C):=by
 have n1:=k.n1;have n2:=k.n2;have cl:=k.cl
 refine T.oC.ok AW (fun vs H Q E h=>?_) (fun c7 A outer s H vs Q E hr h=>?_)
 . obtain⟨_,_,_,_,_,rfl,_⟩:=h;rfl
 . obtain⟨p,d,n,ts,fr,rfl,hw,q1,q2⟩:=h
   have hi:=hw.ins;have hd:=hw.dd
   refine⟨_,(ag (bB (iY (bI (au (pv 0) rfl) (fun _=>rfl)))
    (ah (aD eC))
    aN)
    (ah (aD (Tf (au (pv 0) rfl) rfl rfl T.vx)))),?_⟩
   repeat' (walk_at "rd1")
   refine Kj hd ?_
   repeat' (walk_at "rd1")
   . rename_i hb
     exact q1 (by cases ts with|nil=>rfl|cons y r=>simp [rC] at hb)
   . rename_i hb
     have mS:0<(ts.map (·.2)).length:=by
      cases ts with
      |nil=>simp [rC] at hb
      |cons y r=>simp
     refine Z6 hd (ns:=ts.map (·.2)) (by unfold rC;rw [GM,GM];rfl) mS (fun t ht hm=>?_)
     exact q2 t ht hm
theorem qk (T:Txt K mg a) (k:KG K C):df P w K mg base 1 a.bJ ["self"] [] (Dd C):=
 ⟨⟨_,_,MN T k,T.oC.binds fun _ _ _ _ _ _=>kO fun _=>rfl,.nil⟩⟩
def oY:Sp:=fun vs H Q _=>∃v n t,vs=[v,n,t]/\Q .aQ H
theorem N3 (T:Txt K mg a):aP P w K mg base eG 4 a.fC a.wC ["self","name","time"] oY:=by
 refine T.rT.ok Fq (fun vs H Q E h=>?_) (fun c7 A outer s H vs Q E hr h=>?_)
 . obtain⟨_,_,_,rfl,_⟩:=h;rfl
 . obtain⟨v,n,t,rfl,q⟩:=h
   refine⟨_,(ah K3),?_⟩
   repeat' (walk_at "rd1")
   exact q
theorem IL (T:Txt K mg a):df P w K mg base 4 a.fC ["self","name","time"] [] oY:=
 ⟨⟨_,_,N3 T,T.rT.binds fun _ _ _ _ _ _=>jr fun _ _ _=>rfl,.nil⟩⟩
theorem NM (T:Txt K mg a):aP P w K mg base eG 3 a.fN a.xA ["self","name","time"] oY:=by
 refine T.tH.ok E1 (fun vs H Q E h=>?_) (fun c7 A outer s H vs Q E hr h=>?_)
 . obtain⟨_,_,_,rfl,_⟩:=h;rfl
 . obtain⟨v,n,t,rfl,q⟩:=h
   refine⟨_,(ah K3),?_⟩
   repeat' (walk_at "rd1")
   exact q
theorem IK (T:Txt K mg a):df P w K mg base 3 a.fN ["self","name","time"] [] oY:=
 ⟨⟨_,_,NM T,T.tH.binds fun _ _ _ _ _ _=>jr fun _ _ _=>rfl,.nil⟩⟩
def leD (t:Int) (x:Str × BB):Bool:=match x.2 with
 | .int u=>decide (u<=t)
 |_=>false
def vK (C:Addr):Sp:=fun vs H Q _=>∃(p d:Addr) (n:Int) (ts:List (Str × Int)) (t:Int),vs=[.ref p,.int t]/\ud C H p d n ts []/\ts.length<60/\∀q H',ay H H'->H q=none->dg H' q (((ts.filter fun x=>decide (x.2<=t)).map (·.1)).map EQ)->Q (.ref q) H'
theorem Jv (T:Txt K mg a):aP P w K mg base eG 4 a.dY a.sI ["self","to"] (vK a.aR):=by
 have n1:=T.jH;have n2:=T.fU;have cl:=T.ez
 refine T.nR.ok Bh (fun vs H Q E h=>?_) (fun c7 A outer s H vs Q E hr h=>?_)
 . obtain⟨_,_,_,_,_,rfl,_⟩:=h;rfl
 . obtain⟨p,d,n,ts,t,rfl,hw,hl,q⟩:=h
   have hi:=hw.ins;have hd:=hw.dd
   refine⟨_,(ah (aD (Vj (xH (T:=["name","time"]) (M:=["self","to"]) (R4 (ao jU) ["self","to"] rfl rfl (by decide+kernel)) rfl (Qv (au (pv 0) rfl)) (fun _ _ _ _ _=>(KP (K:=K) (n:=2) rfl rfl (gL (a0 (i:=0) (show OE (["name","time","self","to"]:List Str) by decide+kernel) rfl (FS rfl)) (gL (a0 (i:=1) (show OE (["name","time","self","to"]:List Str) by decide+kernel) rfl (FS rfl)) wN)))) (Gw (pP (by decide) (pP (by decide) D7))) (fun _ _ _ _ _=>(xM (aI qQ (pv 1) (pv 3) (aK _)))) (fun _ _ _ _ _=>(pv 0)))))),?_⟩
   repeat' (walk_at "rd1")
   refine ab5 hd (fun R hR=>?_) (leD t) (fun x=>.str x.1) (by rw [zY];omega) (fun _=>rfl) (fun y c Hf H2 N hc mvf hrd jK hy yes no=>?_) (fun q1 H1 Bi mI yC=>?_)
   . repeat' (walk_at "rd1")
     exact hR
   . obtain⟨x,hx,rfl⟩:=AN.mp hc
     refine ED hy (fun w1 w2 f1 f2=>?_)
     obtain rfl:=f1.str_inv
     obtain rfl:=f2.int_inv
     repeat' (walk_at "rd1")
     refine oO (fun hb=>?_) (fun hb=>no hb _ (ay.refl _))
     repeat' (walk_at "rd1")
     exact yes hb _ _ (ay.refl _) (.str _)
   have T8:dg H1 q1 (((ts.filter fun x=>decide (x.2<=t)).map (·.1)).map EQ):=by
    unfold rC at yC
    rw [AaF,GM] at yC
    rw [GM];exact yC
   repeat' (walk_at "rd1")
   exact q q1 H1 Bi mI T8
theorem HC (T:Txt K mg a):df P w K mg base 4 a.dY ["self","to"] [] (vK a.aR):=
 ⟨⟨_,_,Jv T,T.nR.binds fun _ _ _ _ _ _=>dJ fun _ _=>rfl,.nil⟩⟩
theorem Jg (T:Txt K mg a):df P w K mg base 1 a.aX ["self","now"] [] (vW a.aR):=⟨⟨_,_,Ga T T.ez T.jH T.fU,Le T,.nil⟩⟩
theorem O2 {us:List V} (eu:us=[.int n]) (k:∀x H2 d,ay H H2->H x=none->H d=none->ud C H2 x d n [] []->Q (.ref x) H2):uq C (vW C) us H Q E:=by
 refine⟨_,eu,fun x dx hx hd ne=>⟨x,dx,n,rfl,av,fun H' d mv h1 h2 h3=>⟨rfl,?_⟩⟩⟩
 exact k x _ d (Fo hx hd mv) hx (xN h1) ⟨⟨dx,h3⟩,h2,⟨rfl,rfl,rfl,rfl⟩,by decide⟩
def Told (a:Ad) (kd:Bool) (H:Hp) (x:Addr) (S:List Addr) (n:Int) (ts:List (Str × Int)):Prop:=
 (ts.map (·.1)).Nodup/\((kd=true/\∃d,S=[x,d]/\ud a.aR H x d n ts [])\/(kd=false/\∃d m us G d9,S=x::d::m::G.foot/\Ch us/\F6 a.ai a.aj H x d m n us G ts d9))
section
variable {x:Addr} {S':List Addr}
theorem F6.wt {d m:Addr} {G:fc} (h:F6 C CW H p d m n us G ts d9):ud C H p d n ts [("wheels",.ref G.q),("far",.ref G.f),("moves",.ref m)]:=⟨h.ws.ex,h.ws.dd,⟨rfl,rfl,rfl,rfl⟩,LF rfl⟩
theorem Told.keeps (sm:ay H H') (h:Told a kd H x S n ts):Told a kd H' x S n ts:=by
 obtain⟨h0,⟨k,d,e,h1⟩|⟨k,d,m,us,G,d9,e,hc,h1⟩⟩:=h
 . exact⟨h0,.inl ⟨k,d,e,h1.keeps sm⟩⟩
 . exact⟨h0,.inr ⟨k,d,m,us,G,d9,e,hc,h1.keeps sm⟩⟩
theorem Told.mv (mv:Mv S' H H') (hn:∀b∈S,b∉S') (h:Told a kd H x S n ts):Told a kd H' x S n ts:=by
 obtain⟨h0,⟨k,d,rfl,h1⟩|⟨k,d,m,us,G,d9,rfl,hc,h1⟩⟩:=h
 . exact⟨h0,.inl ⟨k,d,rfl,h1.mv mv (hn x (by simp)) (hn d (by simp))⟩⟩
 . exact⟨h0,.inr ⟨k,d,m,us,G,d9,rfl,hc,h1.mv mv hn⟩⟩
theorem Told.alive (h:Told a kd H x S n ts):∀b∈S,H b≠none:=by
 obtain⟨h0,⟨k,d,rfl,h1⟩|⟨k,d,m,us,G,d9,rfl,hc,h1⟩⟩:=h
 . intro b hb
   have:b=x\/b=d:=by simpa using hb
   rcases this with rfl|rfl
   . obtain⟨dx,e⟩:=h1.ex
     rw [e];simp
   . obtain⟨kvs,e2,_⟩:=h1.dd
     rw [e2];simp
 . exact h1.ws.alive
theorem Told.self (h:Told a kd H x S n ts):x∈S:=by
 obtain⟨h0,⟨k,d,rfl,h1⟩|⟨k,d,m,us,G,d9,rfl,hc,h1⟩⟩:=h <;>exact BC
end
def Dh (a:Ad) (kd:Bool) (H:Hp) (x:Addr) (S:List Addr) (n:Int) (ts:List (Str × Int)) (R:Hp->Prop):Prop:=∀S' H',Mv S H H'->Told a kd H' x S' n ts->(∀b∈S',b∈S\/H b=none)->R H'
section
variable {x d m:Addr} {G:fc} {nm:Str}
theorem XY (h0:(ts.map (·.1)).Nodup) (h1:ud a.aR H x d n ts []) (hl:ts.length<=1000) (hn:nm∉ts.map (·.1)) (ht:n<t) (q:Dh a true H x [x,d] n (ts++[(nm,t)]) (Q .aQ)):Ae a.aR oY [.ref x,.str nm,.int t] H Q E:=
 ⟨x,d,n,ts,[],nm,t,rfl,h1,hl,hn,ht,fun H1 mv hw=>⟨fun H2=>H2=H1,fun _ h=>⟨_,_,_,rfl,h _ rfl⟩,fun H2 e=>by
  subst e
  exact q [x,d] H2 (cS mv (by simp)) ⟨z0 h0 hn,.inl ⟨rfl,d,rfl,hw⟩⟩ fun b hb=>.inl hb⟩⟩
theorem W0 (hc:Ch us) (h1:F6 a.ai a.aj H x d m n us G ts d9) (hl:ts.length<=1000) (hn:nm∉ts.map (·.1)) (ht:n<t) (q:Dh a false H x (x::d::m::G.foot) n (ts++[(nm,t)]) (Q .aQ)):Ae a.ai (B8 a.ai a.aj) [.ref x,.str nm,.int t] H Q E:=
 ⟨x,d,n,ts,_,nm,t,rfl,h1.wt,hl,hn,ht,fun H1 mv hw=>by
  have zo:=h1.ws.JB mv hw.dd
  have WG:nm∉d9.map (·.1):=fun z=>hn ((h1.mem nm).mp z)
  have F4:=h1.ahd
  refine⟨fun H2=>∃G',Mv (m::G.foot) H1 H2/\gA a.ai a.aj H2 x d m n G' (ts++[(nm,t)]) (d9++[(nm,0)])/\GI us n (ts++[(nm,t)]) G'/\∀b∈G'.foot,b∈G.foot\/H1 b=none,fun Q' h=>?_,fun H2 ⟨G',gH,vQ,yU,hs⟩=>?_⟩
  . exact⟨x,d,m,n,G,us,ts++[(nm,t)],ts,d9,nm,t,rfl,zo,h1.gi,h1.uo,hn,WG,by omega,by omega,fun H3 G' pG vQ yU hs=>h H3 ⟨G',pG,vQ,yU,hs⟩⟩
  . refine q _ H2 ((cS mv fun b hb=>by simp [AR.mp hb]).trans (cS gH fun b hb=>AL _ (AL _ hb))) ⟨z0 h1.nd hn,.inr ⟨rfl,d,m,us,G',_,rfl,hc,⟨vQ,yU,h1.uo,z0 h1.nd hn,z0 h1.ZS WG,fun y=>?_⟩⟩⟩ fun b hb=>?_
    . rw [CS,CS,Co,Co,h1.mem y];rfl
    . simp only [AD] at hb ⊢
      rcases hb with hb|hb|hb|hb
      . exact .inl (.inl hb)
      . exact .inl (.inr (.inl hb))
      . exact .inl (.inr (.inr (.inl hb)))
      . rcases hs b hb with r|r
        . exact .inl (.inr (.inr (.inr r)))
        . exact .inr (mv.none r)⟩
theorem UY (h0:(ts.map (·.1)).Nodup) (h1:ud a.aR H x d n ts []) (ht:(nm,t)∈ts) (q:Dh a true H x [x,d] n (iQ ts nm) (Q (.int t))):xk a.aR oY [.ref x,.str nm] H Q E:=
 ⟨x,d,n,ts,[],nm,t,rfl,h1,h0,ht,fun H1 mv hw=>⟨fun H2=>H2=H1,fun _ h=>⟨_,_,_,rfl,h _ rfl⟩,fun H2 e=>by
  subst e
  exact q [x,d] H2 (cS mv (by simp)) ⟨tN h0,.inl ⟨rfl,d,rfl,hw⟩⟩ fun b hb=>.inl hb⟩⟩
theorem T1 (hc:Ch us) (h1:F6 a.ai a.aj H x d m n us G ts d9) (hl:ts.length<=1000) (ht:(nm,t)∈ts) (q:Dh a false H x (x::d::m::G.foot) n (iQ ts nm) (Q (.int t))):xk a.ai (AG a.ai a.aj) [.ref x,.str nm] H Q E:=
 ⟨x,d,n,ts,_,nm,t,rfl,h1.wt,h1.nd,ht,fun H1 mv hw=>by
  have zo:=h1.ws.JB mv hw.dd
  refine⟨fun H2=>∃G',Mv (m::G.foot) H1 H2/\gA a.ai a.aj H2 x d m n G' (iQ ts nm) (iQ d9 nm)/\GI us n (iQ ts nm) G'/\∀b∈G'.foot,b∈G.foot,fun Q' h=>?_,fun H2 ⟨G',gH,vQ,yU,hs⟩=>?_⟩
  . exact⟨x,d,m,n,G,us,_,ts,d9,nm,t,rfl,zo,h1.gi,h1.uo,ht,h1.nd,(h1.mem _).mpr (Cc (f:=(·.1)) ht),by omega,fun H3 G' pG vQ yU hs=>h H3 ⟨G',pG,vQ,yU,hs⟩⟩
  . refine q _ H2 ((cS mv fun b hb=>by simp [AR.mp hb]).trans (cS gH fun b hb=>AL _ (AL _ hb))) ⟨tN h1.nd,.inr ⟨rfl,d,m,us,G',_,rfl,hc,⟨vQ,yU,h1.uo,tN h1.nd,tN h1.ZS,fun y=>?_⟩⟩⟩ fun b hb=>?_
    . rw [Ee,Ee,h1.mem y]
    . simp only [AD] at hb ⊢
      exact .inl (hb.imp_right fun hb=>hb.imp_right fun hb=>hb.imp_right fun hb=>hs b hb)⟩
def Yb (a:Ad) (kd:Bool) (H:Hp) (x:Addr) (S:List Addr) (t:Int) (ts:List (Str × Int)) (Q:VK):Prop:=∀S' H' (l:Addr) (ks:List (Int × Str)),Mv S H H'->Told a kd H' x S' t (ts.filter fun y=>decide (t<y.2))->(∀b∈S',b∈S\/H b=none)->H l=none->l∉S'->ks.Perm ((ts.filter fun y=>decide (y.2<=t)).map R9)->ZK ks->dg H' l (ks.map pairD)->Q (.ref l) H'
theorem FJ {f:Str × Int->Bool} (h:(ts.map (·.1)).Nodup):((ts.filter f).map (·.1)).Nodup:=h.sublist (IR.map _)
theorem Xd (h0:(ts.map (·.1)).Nodup) (h1:ud a.aR H x d n ts []) (hl:ts.length<60) (Om:n<=t) (q:Yb a true H x [x,d] t ts Q):Ai a.aR (vK a.aR) [.ref x,.int t] H Q E:=
 ⟨x,d,n,ts,[],t,rfl,h1,hl,h0,Om,⟨fun H1=>ay H H1,fun Q' h=>⟨x,d,n,ts,t,rfl,h1,hl,fun q0 H1 sm hn hq=>by
    refine h q0 H1 _ (h1.keeps sm) (FJ h0) (fun y=>?_) hn hq (fun b=>sm.none) sm
    rw [AN]
    constructor
    . rintro⟨z,hz,rfl⟩
      obtain⟨z1,z2⟩:=B0.mp hz
      exact⟨z.2,z1,of_decide_eq_true z2⟩
    . rintro⟨u,hu,hut⟩
      exact⟨(y,u),B0.mpr ⟨hu,decide_eq_true hut⟩,rfl⟩⟩,
  fun l H' ks hn hp hs hq hw ⟨H1,mI,sm,mv⟩=>by
   refine q [x,d] H' l ks (sm.mv.trans mv) ⟨FJ h0,.inl ⟨rfl,d,rfl,hw⟩⟩ (fun b hb=>.inl hb) hn (fun z=>?_) hp hs hq
   have Je:Told a true H x [x,d] n ts:=⟨h0,.inl ⟨rfl,d,rfl,h1⟩⟩
   exact Je.alive l z hn⟩⟩
theorem X5 (hc:Ch us) (h1:F6 a.ai a.aj H x d m n us G ts d9) (hl:ts.length<60) (Om:n<=t) (q:Yb a false H x (x::d::m::G.foot) t ts Q):Ai a.ai (ye a.ai a.aj) [.ref x,.int t] H Q E:=
 ⟨x,d,n,ts,_,t,rfl,h1.wt,hl,h1.nd,Om,by
  refine⟨fun H1=>∃G' md,Mv (m::G.foot) H H1/\gA a.ai a.aj H1 x d m n G' ts md/\GI us t (ts.filter fun y=>decide (t<y.2)) G'/\(md.map (·.1)).Nodup/\(∀y,y∈md.map (·.1)↔y∈(ts.filter fun y=>decide (t<y.2)).map (·.1))/\(∀b∈G'.foot,b∈G.foot\/H b=none)/\G'.q=G.q/\G'.f=G.f,?_,?_⟩
  . refine fun Q' h=>⟨x,d,m,n,us,G,ts,d9,t,rfl,h1,hc,Om,by omega,fun q0 H1 G1 T9 ov iE jn WZ TU Ux Zc SW ZH mI hq0=>?_⟩
    obtain⟨f1,f2,f3,f4,f5,f6⟩:=h1.ws.zq
    obtain⟨dx,e1⟩:=h1.ws.ex
    obtain⟨dx1,e2⟩:=jn.ex
    have e3:=iE.at (a:=x) (fun z=>by
     rcases AD.mp z with z|z
     . exact f2 z
     . exact f4 z) e1
    rw [e3] at e2
    obtain⟨_,e5⟩:=HO.ins.inj (Do e2) |>.2
    simp only [Wj,List.cons.injEq,Prod.mk.injEq,V.ref.injEq,true_and,and_true] at e5
    refine h q0 H1 ov ⟨⟨dx,e3⟩,jn.dd,⟨rfl,rfl,rfl,rfl⟩,LF rfl⟩ TU Ux mI hq0 (fun b=>iE.none) ⟨G1,T9,iE,jn,WZ,Zc,fun y=>?_,ZH,e5.1.symm,e5.2.symm⟩
    constructor
    . intro hx
      obtain⟨⟨_,v'⟩,hv,rfl⟩:=AN.mp hx
      obtain⟨u,v,h1,h2,_⟩:=(SW _ v').mp hv
      exact AN.mpr ⟨_,B0.mpr ⟨h1,decide_eq_true h2⟩,rfl⟩
    . intro hx
      obtain⟨⟨x0,u⟩,hu,e0⟩:=AN.mp hx
      have e0:x0=y:=e0
      subst e0
      obtain⟨g1,g2⟩:=B0.mp hu
      have g2:t<u:=of_decide_eq_true g2
      obtain⟨y,hy,e⟩:=AN.mp ((h1.mem x0).mpr (AN.mpr ⟨_,g1,rfl⟩))
      have e:y.1=x0:=e
      refine AN.mpr ⟨(x0,_),(SW x0 _).mpr ⟨u,y.2,g1,g2,?_,rfl⟩,rfl⟩
      rw [<-e];exact hy
  . rintro l H' ks hn hp hs hq hw ⟨H1,mI,⟨G1,T9,iE,jn,WZ,Zc,SW,ZH,eq1,eq2⟩,mv⟩
    obtain⟨f1,f2,f3,f4,f5,f6⟩:=jn.zq
    have K9:gA a.ai a.aj H' x d m t G1 (ts.filter fun y=>decide (t<y.2)) T9:=⟨by rw [eq1,eq2];exact hw.ex,hw.dd,jn.mm.mv mv (by simp;exact⟨Me f2,Me f3⟩),jn.g.mv mv (fun b hb=>by simp;exact⟨fun z=>f4 (z▸hb),fun z=>f5 (z▸hb)⟩),jn.nd⟩
    refine q _ H' l ks ?_ ⟨FJ h1.nd,.inr ⟨rfl,d,m,us,G1,T9,rfl,hc,⟨K9,WZ,h1.uo,FJ h1.nd,Zc,SW⟩⟩⟩ (fun b hb=>?_) hn (fun z=>jn.alive l z mI) hp hs hq
    . exact Mv.step (cS iE fun b hb=>by simp only [AD] at hb ⊢;exact .inr (.inr hb)) mv fun b hb=>.inl (by simp at hb ⊢;rcases hb with hb|hb <;>simp [hb])
    . simp only [AD] at hb ⊢
      rcases hb with hb|hb|hb|hb
      . exact .inl (.inl hb)
      . exact .inl (.inr (.inl hb))
      . exact .inl (.inr (.inr (.inl hb)))
      . exact(ZH b hb).imp (fun r=>.inr (.inr (.inr r))) id⟩
end
structure iS where
 ru:RU
 wt:Int
 hm:Option Str
 dy:Bool
 no:Int
 st:Option (Int × Int)
 sn:Option Int
 un:Option Int
def LV:Option Str->V|none=>.aQ|some s=>.str s
def eK (n:Str) (rv sv:V) (x:iS):List (Str × V):=[("name",.str n),("rule",rv),("weight",.int x.wt),("home",LV x.hm),("by_day",.bl x.dy),("number",.int x.no),("stretch",sv),("since",ow x.sn),("until",ow x.un)]
def gu (a:Ad) (H:Hp) (b:Addr) (n:Str) (x:iS):Prop:=∃rv sv,jF H (.ref b) a.ax (eK n rv sv x)/\qL a H rv x.ru/\Dv H sv (Zy x.st)
theorem tV (o:Option (Int × Int)):D1 (Zy o)=true:=by cases o <;>rfl
theorem gu.keeps {n:Str} {x:iS} (s:ay H H') (h:gu a H b n x):gu a H' b n x:=by
 obtain⟨rv,sv,h1,h2,h3⟩:=h
 exact⟨rv,sv,h1.keeps s,h2.keeps s,h3.keeps s⟩
theorem qL.mv {fs:List (Str × V)} {r:RU} (T:Txt K mg a) (m:Mv [b] H H') (e:H b=some (.ins a.ax dx fs)) (h:qL a H v r):qL a H' v r:=
 qL.fr (cs:=[a.ax]) (S:=[]) (Fr.RE m e BC)
  (by simpa using T.kW)
  h
theorem gu.upd {n:Str} {x:iS} {sv:V} (T:Txt K mg a) (e:∃fs,H b=some (.ins a.ax dx fs)) (hr:qL a H rv x.ru) (hs:Dv H sv (Zy x.st)):Mv [b] H (upd H b (.ins a.ax dx (eK n rv sv x)))/\gu a (upd H b (.ins a.ax dx (eK n rv sv x))) b n x:=by
 obtain⟨fs,e⟩:=e
 have mv:Mv [b] H (L2.upd H b (.ins a.ax dx (eK n rv sv x))):=.aS e (by intro _ z;cases z)
 exact⟨mv,rv,sv,⟨b,dx,rfl,av⟩,hr.mv T mv e,mv.dat (tV _) hs⟩
def lead (x:iS) (sh:Int):Int:=if x.dy=true then sh else 0
def EB (a:Ad):Sp:=fun vs H Q _=>∃b n x sh,vs=[.ref b,.int sh]/\gu a H b n x/\Q (.int (lead x sh)) H
theorem XG {n:Str} {x:iS} {sh:Int} (h:gu a H b n x) (q:Q (.int (lead x sh)) H):EB a [.ref b,.int sh] H Q E:=⟨b,n,x,sh,rfl,h,q⟩
theorem UP (T:Txt K mg a):aP P w K mg base eG 1 a.fz a.wo ["self","shift"] (EB a):=by
 have cl:=T.aT;have n1:=T.fO
 refine T.sG.ok EI (fun vs H Q E h=>?_) (fun c7 A outer s H vs Q E hr h=>?_)
 . obtain⟨_,_,_,_,rfl,_⟩:=h;rfl
 . obtain⟨b,n,x,sh,rfl,⟨rv,sv,hi,hR,hd⟩,q⟩:=h
   unfold eK at hi
   unfold lead at q
   refine⟨_,(ah (aD (Au (bI (au (pv 0) rfl) (fun _=>rfl)) (pv 1) aq))),?_⟩
   cases hx:x.dy
   . rw [hx] at hi q
     repeat' (walk_at "rd1")
     exact q
   . rw [hx] at hi q
     repeat' (walk_at "rd1")
     exact q
theorem GN (T:Txt K mg a):df P w K mg base 1 a.fz ["self","shift"] [] (EB a):=
 ⟨⟨_,_,UP T,T.sG.binds fun _ _ _ _ _ _=>dJ fun _ _=>rfl,.nil⟩⟩
def yR (a:Ad):Sp:=fun vs H Q _=>∃b n x,vs=[.ref b]/\gu a H b n x/\Q (.bl x.st.isNone) H
theorem PY {n:Str} {x:iS} (h:gu a H b n x) (q:Q (.bl x.st.isNone) H):yR a [.ref b] H Q E:=⟨b,n,x,rfl,h,q⟩
theorem Ma (T:Txt K mg a):aP P w K mg base eG 1 a.dw a.qF ["self"] (yR a):=by
 have cl:=T.aT;have n1:=T.b7
 refine T.lP.ok zW (fun vs H Q E h=>?_) (fun c7 A outer s H vs Q E hr h=>?_)
 . obtain⟨_,_,_,rfl,_⟩:=h;rfl
 . obtain⟨b,n,x,rfl,⟨rv,sv,hi,hR,hd⟩,q⟩:=h
   unfold eK at hi
   refine⟨_,(ah (aD (m3 AZ (au (pv 0) rfl) eC (aK _)))),?_⟩
   cases hx:x.st with
   |none=>
    rw [hx] at hd q
    obtain rfl:=hd.T6
    repeat' (walk_at "rd1")
    exact q
   |some p=>
    rw [hx] at hd q
    cases hd
    repeat' (walk_at "rd1")
    exact q
theorem BQ (T:Txt K mg a):df P w K mg base 1 a.dw ["self"] [] (yR a):=
 ⟨⟨_,_,Ma T,T.lP.binds fun _ _ _ _ _ _=>kO fun _=>rfl,.nil⟩⟩
def yk (a:Ad):Sp:=fun vs H Q _=>∃b n x,vs=[.ref b]/\gu a H b n x/\Q (.bl x.sn.isSome) H
theorem Ph {n:Str} {x:iS} (h:gu a H b n x) (q:Q (.bl x.sn.isSome) H):yk a [.ref b] H Q E:=⟨b,n,x,rfl,h,q⟩
theorem NC (T:Txt K mg a):aP P w K mg base eG 1 a.bQ a.lM ["self"] (yk a):=by
 have cl:=T.aT;have n1:=T.cz
 refine T.iH.ok vg (fun vs H Q E h=>?_) (fun c7 A outer s H vs Q E hr h=>?_)
 . obtain⟨_,_,_,rfl,_⟩:=h;rfl
 . obtain⟨b,n,x,rfl,⟨rv,sv,hi,hR,hd⟩,q⟩:=h
   unfold eK at hi
   refine⟨_,(ah (aD (m3 tT (au (pv 0) rfl) eC (aK _)))),?_⟩
   cases hx:x.sn with
   |none=>
    rw [hx] at hi q
    simp only [ow] at hi
    repeat' (walk_at "rd1")
    exact q
   |some p=>
    rw [hx] at hi q
    simp only [ow] at hi
    repeat' (walk_at "rd1")
    exact q
theorem Jc (T:Txt K mg a):df P w K mg base 1 a.bQ ["self"] [] (yk a):=
 ⟨⟨_,_,NC T,T.iH.binds fun _ _ _ _ _ _=>kO fun _=>rfl,.nil⟩⟩
def rest (x:iS):iS:={x with sn:=none,un:=none}
def EG (a:Ad):Sp:=fun vs H Q _=>∃b n x,vs=[.ref b]/\gu a H b n x/\∀H',Mv [b] H H'->gu a H' b n (rest x)->Q .aQ H'
theorem aad {n:Str} {x:iS} (h:gu a H b n x) (q:∀H',Mv [b] H H'->gu a H' b n (rest x)->Q .aQ H'):EG a [.ref b] H Q E:=⟨b,n,x,rfl,h,q⟩
theorem UT (T:Txt K mg a):aP P w K mg base eG 1 a.fw a.wX ["self"] (EG a):=by
 have cl:=T.aT;have n1:=T.cz;have n2:=T.cY
 refine T.sR.ok Fp (fun vs H Q E h=>?_) (fun c7 A outer s H vs Q E hr h=>?_)
 . obtain⟨_,_,_,rfl,_⟩:=h;rfl
 . obtain⟨b,n,x,rfl,⟨rv,sv,⟨p,dx,e,hi⟩,hR,hd⟩,q⟩:=h
   cases e
   have hi0:∃fs,H b=some (.ins a.ax dx fs):=⟨_,hi⟩
   unfold eK at hi
   refine⟨_,(ag (aV (pv 0) eC rfl)
    (ah (aV (pv 0) eC rfl))),?_⟩
   repeat' (walk_at "rd1")
   simp only [jN]
   obtain⟨mv,hb⟩:=gu.upd (n:=n) (x:=rest x) T hi0 hR hd
   exact q _ mv hb
theorem Ru (T:Txt K mg a):df P w K mg base 1 a.fw ["self"] [] (EG a):=
 ⟨⟨_,_,UT T,T.sR.binds fun _ _ _ _ _ _=>kO fun _=>rfl,.nil⟩⟩
def wait (x:iS) (now sh f l:Int):iS:={x with sn:=some (max (f - lead x sh) (now+1)),un:=some (l - lead x sh)}
local macro_rules|`(tactic|walk_at "bat")=>`(tactic|first|(refine' gu.keeps ?s ?m;(case s=>assumption);(case m=>walk_at "bat"))|fail)
set_option hygiene false in
local macro_rules|`(tactic|walk_at "bat")=>`(tactic|first|assumption|fail)
local macro_rules|`(tactic|walk_at "use")=>`(tactic|first|((with_reducible refine' Ph ?e ?_);case e=>walk_at "bat")|fail)
local macro_rules|`(tactic|walk_at "use")=>`(tactic|first|((with_reducible refine' PY ?e ?_);case e=>walk_at "bat")|fail)
local macro_rules|`(tactic|walk_at "use")=>`(tactic|first|((with_reducible refine' XG ?e ?_);case e=>walk_at "bat")|fail)
def BG (a:Ad):Sp:=fun vs H Q _=>∃b n x now sh f l,vs=[.ref b,.int now,.int sh]/\gu a H b n x/\x.st=some (f,l)/\∀H',Mv [b] H H'->gu a H' b n (wait x now sh f l)->Q .aQ H'
theorem SR {n:Str} {x:iS} {now sh f:Int} (h:gu a H b n x) (hs:x.st=some (f,l)) (q:∀H',Mv [b] H H'->gu a H' b n (wait x now sh f l)->Q .aQ H'):BG a [.ref b,.int now,.int sh] H Q E:=⟨b,n,x,now,sh,f,l,rfl,h,hs,q⟩
theorem Q5 (T:Txt K mg a):aP P w K mg base eG 2 a.fR a.xj ["self","now","shift"] (BG a):=by
 have cl:=T.aT;have n1:=T.b7;have n2:=T.cz;have n3:=T.cY
 have ZV:=T.sr
 have Zh:=GN (P:=P) (w:=w) (base:=base) T
 refine T.su.ok xa (fun vs H Q E h=>?_) (fun c7 A outer s H vs Q E hr h=>?_)
 . obtain⟨_,_,_,_,_,_,_,rfl,_⟩:=h;rfl
 . obtain⟨b,n,x,now,sh,f,l,rfl,hB,hs,q⟩:=h
   obtain⟨rv,sv,⟨p,dx,e,hi⟩,hR,hd⟩:=id hB
   cases e
   have hi0:∃fs,H b=some (.ins a.ax dx fs):=⟨_,hi⟩
   unfold eK at hi
   have HI:=hd
   rw [hs] at hd
   have hd:Dv H sv (.tuple [.int f,.int l]):=hd
   refine⟨_,(ag (aE (i:=3) xa.nd rfl (FS rfl) (aB (pv 0) cl ZV Zh (hr.mono (by decide)) (ae (pv 2) af)))
    (ag (aV (pv 0) (aU (yO rfl) rfl T.yo Aa4 (ae (aC rL (bG ik (au (pv 0) rfl) aq (fun _ _=>rfl)) (pv 3)) (ae (aC gB (pv 1) aq) af))) rfl)
    (ah (aV (pv 0) (aC rL (bG ik (au (pv 0) rfl) aq (fun _ _=>rfl)) (pv 3)) rfl)))),?_⟩
   repeat' (walk_at "rd1")
   rename_i sn e1 e2 e3
   obtain rfl:sn=max (f - lead x sh) (now+1):=by omega
   have Av:=(Mv.aS (o:=.ins a.ax dx [("name",.str n),("rule",rv),("weight",.int x.wt),("home",LV x.hm),("by_day",.bl x.dy),("number",.int x.no),("stretch",sv),("since",.int (max (f - lead x sh) (now+1))),("until",ow x.un)]) hi (by intro _ z;cases z)).dat rfl hd
   repeat' (walk_at "rd1")
   simp only [jN]
   obtain⟨mv,hb⟩:=gu.upd (n:=n) (x:=wait x now sh f l) T hi0 hR HI
   exact q _ mv hb
theorem ME (T:Txt K mg a):df P w K mg base 2 a.fR ["self","now","shift"] [] (BG a):=
 ⟨⟨_,_,Q5 T,T.su.binds fun _ _ _ _ _ _=>jr fun _ _ _=>rfl,.nil⟩⟩
def sV (x:iS) (l t:Int):iS:=if t<l then x else {x with no:=(VR x.ru x.no l t).1,st:=(VR x.ru x.no l t).2}
def missed (n:Str) (x:iS) (l t:Int):List BB:=if t<l then [] else [.tuple [.str "missed",.str n,.int x.no,.int ((VR x.ru x.no l t).1 - 1)]]
def A7 (a:Ad):Sp:=fun vs H Q _=>∃b n x f l t,vs=[.ref b,.int t]/\gu a H b n x/\x.st=some (f,l)/\0<=x.no/\x.no<10^99/\t<10^80/\t - l<10^80/\∀q H',Mv [b] H H'->H q=none->dg H' q (missed n x l t)->gu a H' b n (sV x l t)->Q (.ref q) H'
theorem T5 {n:Str} {x:iS} {f:Int} (h:gu a H b n x) (hs:x.st=some (f,l)) (h1:0<=x.no) (h2:x.no<10^99) (h3:t<10^80) (h4:t - l<10^80) (q:∀q H',Mv [b] H H'->H q=none->dg H' q (missed n x l t)->gu a H' b n (sV x l t)->Q (.ref q) H'):A7 a [.ref b,.int t] H Q E:=⟨b,n,x,f,l,t,rfl,h,hs,h1,h2,h3,h4,q⟩
theorem Qc (T:Txt K mg a):aP P w K mg base eG 5 a.cJ a.ph ["self","shown"] (A7 a):=by
 have cl:=T.aT;have n0:=T.bz;have n1:=T.b7;have n2:=T.dz;have n3:=T.fV
 have Dc:=Hg (P:=P) (w:=w) (base:=base) T
 refine T.kq.ok gb (fun vs H Q E h=>?_) (fun c7 A outer s H vs Q E hr h=>?_)
 . obtain⟨_,_,_,_,_,_,rfl,_⟩:=h;rfl
 . obtain⟨b,n,x,f,l,t,rfl,hB,hs,h1,h2,h3,h4,q⟩:=h
   obtain⟨rv,sv,⟨p,dx,e,hi⟩,hR,hd⟩:=id hB
   cases e
   have hi0:∃fs,H b=some (.ins a.ax dx fs):=⟨_,hi⟩
   unfold eK at hi
   have HI:=hd
   rw [hs] at hd
   have hd:Dv H sv (.tuple [.int f,.int l]):=hd
   refine⟨_,(ag (aE (i:=2) gb.nd rfl (FS rfl) (au (pv 0) rfl))
    (ag (aE (i:=3) gb.nd rfl (FS rfl) (bG ik (au (pv 0) rfl) aq (fun _ _=>rfl)))
    (ag (bB (aI DA (pv 3) (pv 1) (aK _))
     (ah (aD (b9 af)))
     aN)
    (cN (aE (i:=4) gb.nd rfl (FS rfl) (aB (au (pv 0) rfl) T.fq T.uz Dc (hr.mono (by decide)) (ae (pv 2) (ae (pv 3) (ae (pv 1) af)))))
    (ag (aV (pv 0) (bG ik (pv 4) aq (fun _ _=>rfl)) rfl)
    (ag (aV (pv 0) (bG ik (pv 4) aq (fun _ _=>rfl)) rfl)
    (ah (aD (b9 (ae (dS (ae jy (ae (au (pv 0) rfl) (ae (pv 2) (ae (aC rL (au (pv 0) rfl) aq) af))))) af)))))))))),?_⟩
   repeat' (walk_at "rd1")
   . rename_i hb q1 H1 s1 mI yC
     refine q _ _ s1.mv mI ?_ ?_
     . unfold missed;rw [if_pos hb];exact yC
     . unfold sV;rw [if_pos hb];exact hB.keeps s1
   . rename_i hb
     refine gw (fun σ' H'=>ay H H'/\∃pv,σ'=[some (.ref b),some (.int t),some (.int x.no),some (.int l),some pv]/\Dv H' pv (.tuple [.int (VR x.ru x.no l t).1,Zy (VR x.ru x.no l t).2])) ?_ ?_
     . cases hru:x.ru with
       |once f0 l0=>
        rw [hru] at hR
        have Kr:=hR
        obtain⟨hp,_⟩:=hR
        repeat' (walk_at "rd1")
        exact⟨by walk_at "same",_,rfl,by assumption⟩
     rintro σ' H1 ⟨s1,pv,rfl,hpv⟩
     have hR1:=hR.keeps s1
     have vR:=s1 _ _ hi
     have akJ:∃fs,H1 b=some (.ins a.ax dx fs):=⟨_,vR⟩
     clear hi
     generalize hlb:VR x.ru x.no l t=lb at*
     obtain⟨k,o⟩:=lb
     have afj:Dv H1 pv (.tuple [.int k,Zy o]):=hpv
     have alA:Dv (upd H1 b (.ins a.ax dx [("name",.str n),("rule",rv),("weight",.int x.wt),("home",LV x.hm),("by_day",.bl x.dy),("number",.int k),("stretch",sv),("since",ow x.sn),("until",ow x.un)])) pv (.tuple [.int k,Zy o]):=(Mv.aS vR (by intro _ z;cases z)).dat (by simp [D1,dj,tV]) afj
     repeat' (walk_at "rd1")
     rename_i sv2 ae9 tv H3 s3 htv q4 H4 s4 LR Ed
     have iE:=Mv.aS (o:=.ins a.ax dx [("name",.str n),("rule",rv),("weight",.int x.wt),("home",LV x.hm),("by_day",.bl x.dy),("number",.int k),("stretch",sv),("since",ow x.sn),("until",ow x.un)]) vR (by intro _ z;cases z)
     obtain⟨gH,Ih⟩:=gu.upd (n:=n) (x:={x with no:=k,st:=o}) T ⟨_,av⟩ (hR1.mv T iE vR) ae9
     have s34:ay _ H4:=s3.trans s4
     have HY:=(s1.mv (S:=[b])).trans (iE.trans gH)
     refine q q4 H4 (HY.trans s34.mv) ?_ ?_ ?_
     . exact HY.none (s3.none LR)
     . unfold missed;rw [if_neg hb,hlb];exact Ed
     . unfold sV;rw [if_neg hb,hlb];exact Ih.keeps s34
theorem MV (T:Txt K mg a):df P w K mg base 5 a.cJ ["self","shown"] [] (A7 a):=
 ⟨⟨_,_,Qc T,T.kq.binds fun _ _ _ _ _ _=>dJ fun _ _=>rfl,.nil⟩⟩
def mj (r:RU) (wt:Int) (hm:Option Str) (dy:Bool):iS:=⟨r,wt,hm,dy,0,some (N5 r),none,none⟩
def Ce (a:Ad):Sp:=fun vs H Q _=>∃p dx n rv r wt hm dy,vs=[.ref p,.str n,rv,.int wt,LV hm,.bl dy]/\H p=some (.ins a.ax dx [])/\qL a H rv r/\∀H',Mv [p] H H'->gu a H' p n (mj r wt hm dy)->Q .aQ H'
theorem P1 (T:Txt K mg a):aP P w K mg base eG 8 a.cH a.pq ["self","name","rule","weight","home","by_day"] (Ce a):=by
 have cl:=T.aT;have n0:=T.bz;have n1:=T.b7;have n2:=T.dz;have n3:=T.fV;have n4:=T.fx;have n5:=T.iM;have n6:=T.fO;have n7:=T.cz;have n8:=T.cY
 have HQ:=Nb (P:=P) (w:=w) (base:=base) T
 have EZ:=Gf (P:=P) (w:=w) (base:=base) T
 refine T.kc.ok yG (fun vs H Q E h=>?_) (fun c7 A outer s H vs Q E hr h=>?_)
 . obtain⟨_,_,_,_,_,_,_,_,rfl,_⟩:=h;rfl
 . obtain⟨p,dx,n,rv,r,wt,hm,dy,rfl,hp,hR,q⟩:=h
   refine⟨_,(ag (aV (pv 0) (pv 1) rfl)
    (cN (aV (pv 0) (eF (pv 2) T.fq T.yX HQ (hr.mono (by decide))) rfl)
    (ag (aV (pv 0) (pv 3) rfl)
    (ag (aV (pv 0) (pv 4) rfl)
    (ag (aV (pv 0) (pv 5) rfl)
    (ag (aV (pv 0) aq rfl)
    (cN (aV (pv 0) (eF (au (pv 0) rfl) T.fq T.v7 EZ (hr.mono (by decide))) rfl)
    (ag (aV (pv 0) eC rfl)
    (ah (aV (pv 0) eC rfl)))))))))),?_⟩
   repeat' (walk_at "rd1")
   have iE:=Mv.aS (o:=.ins a.ax dx [("name",.str n)]) hp (by intro _ z;cases z)
   have hR1:=hR.mv T iE hp
   have e1:upd H p (.ins a.ax dx [("name",.str n)]) p=some (.ins a.ax dx [("name",.str n)]):=av
   generalize upd H p (.ins a.ax dx [("name",.str n)])=H1 at*
   refine gw (fun σ' H'=>∃Ig,σ'=[some (.ref p),some (.str n),some rv,some (.int wt),some (LV hm),some (.bl dy)]/\Mv [p] H H'/\H' p=some (.ins a.ax dx [("name",.str n),("rule",Ig)])/\qL a H' Ig r) ?_ ?_
   . cases r with
     |once f0 l0=>
      have Kr:=hR1
      obtain⟨hp0,_⟩:=hR1
      repeat' (walk_at "rd1")
      rename_i Ig H2 s2 hr2
      have gH:=Mv.aS (o:=.ins a.ax dx [("name",.str n),("rule",Ig)]) (s2 _ _ e1) (by intro _ z;cases z)
      exact⟨Ig,rfl,iE.trans (s2.mv.trans gH),av,hr2.mv T gH (s2 _ _ e1)⟩
   rintro σ' H2 ⟨Ig,rfl,gH,e2,hR2⟩
   clear e1 hR1 iE
   repeat' (walk_at "rd1")
   simp only [jN]
   have pG:Mv [p] H (upd H2 p (.ins a.ax dx [("name",.str n),("rule",Ig),("weight",.int wt),("home",LV hm),("by_day",.bl dy),("number",.int 0)])):=gH.trans (Mv.aS e2 (by intro _ z;cases z))
   have hR3:=hR2.mv T (Mv.aS (o:=.ins a.ax dx [("name",.str n),("rule",Ig),("weight",.int wt),("home",LV hm),("by_day",.bl dy),("number",.int 0)]) e2 (by intro _ z;cases z)) e2
   refine gw (fun σ' H'=>∃sv,σ'=[some (.ref p),some (.str n),some rv,some (.int wt),some (LV hm),some (.bl dy)]/\Mv [p] H H'/\H' p=some (.ins a.ax dx [("name",.str n),("rule",Ig),("weight",.int wt),("home",LV hm),("by_day",.bl dy),("number",.int 0),("stretch",sv)])/\qL a H' Ig r/\Dv H' sv (pD (N5 r))) ?_ ?_
   . cases r with
     |once f0 l0=>
      have Kr:=hR3
      obtain⟨hp0,_⟩:=hR3
      repeat' (walk_at "rd1")
      rename_i sv H4 s4 hs4
      have tX:=Mv.aS (o:=.ins a.ax dx [("name",.str n),("rule",Ig),("weight",.int wt),("home",LV hm),("by_day",.bl dy),("number",.int 0),("stretch",sv)]) (s4 _ _ av) (by intro _ z;cases z)
      exact⟨sv,rfl,pG.trans (s4.mv.trans tX),av,(Kr.keeps s4).mv T tX (s4 _ _ av),tX.dat rfl hs4⟩
   rintro σ' H5 ⟨sv,rfl,Fi,e5,hR5,hs5⟩
   repeat' (walk_at "rd1")
   simp only [jN]
   obtain⟨mv6,hb6⟩:=gu.upd (n:=n) (x:=mj r wt hm dy) T ⟨_,e5⟩ hR5 hs5
   exact q _ (Fi.trans mv6) hb6
theorem IH (T:Txt K mg a):df P w K mg base 8 a.cH ["self","name","rule","weight","home","by_day"] [] (Ce a):=
 ⟨⟨_,_,P1 T,T.kc.binds fun _ _ _ _ _ _=>ac5 fun _ _ _ _ _ _=>rfl,.nil⟩⟩
theorem Ui {n:Str} {r:RU} {wt:Int} {hm:Option Str} {dy:Bool} {us:List V} (eu:us=[.str n,rv,.int wt,LV hm,.bl dy]) (hR:qL a H rv r) (k:∀b H2,ay H H2->H b=none->gu a H2 b n (mj r wt hm dy)->Q (.ref b) H2):uq a.ax (Ce a) us H Q E:=by
 refine⟨_,eu,fun x dx hx hd ne=>⟨x,dx,n,rv,r,wt,hm,dy,rfl,av,hR.keeps (fun b u e=>?_),fun H' mv hg=>⟨rfl,?_⟩⟩⟩
 . rw [az (aA e hx),az (aA e hd)];exact e
 . refine k _ _ (fun b u e=>?_) hx hg
   have hb:b≠x:=aA e hx
   refine mv.kp b u (by simpa using hb) ?_
   rw [az hb,az (aA e hd)]
   exact e
def Xe:RU->Int->Option (Int × Int)
 | .once _ _,_=>none
def zX (x:iS):iS:={x with st:=Xe x.ru x.no,no:=x.no+1}
def E8 (a:Ad):Sp:=fun vs H Q _=>∃b n x t,vs=[.ref b,.int t]/\gu a H b n x/\0<=x.no/\x.no<10^50/\∀H',Mv [b] H H'->gu a H' b n (zX x)->Q .aQ H'
theorem Zk {n:Str} {x:iS} (h:gu a H b n x) (h0:0<=x.no) (h1:x.no<10^50) (q:∀H',Mv [b] H H'->gu a H' b n (zX x)->Q .aQ H'):E8 a [.ref b,.int t] H Q E:=⟨b,n,x,t,rfl,h,h0,h1,q⟩
theorem UC (T:Txt K mg a):aP P w K mg base eG 3 a.dZ a.sf ["self","at"] (E8 a):=by
 have cl:=T.aT;have n1:=T.b7;have n2:=T.dz;have n3:=T.fV
 have CO:=FC (P:=P) (w:=w) (base:=base) T
 refine T.oG.ok Ax (fun vs H Q E h=>?_) (fun c7 A outer s H vs Q E hr h=>?_)
 . obtain⟨_,_,_,_,rfl,_⟩:=h;rfl
 . obtain⟨b,n,x,t,rfl,⟨rv,sv,⟨p,dx,e,hi⟩,hR,hd⟩,h0,h1,q⟩:=h
   cases e
   have hi0:∃fs,H b=some (.ins a.ax dx fs):=⟨_,hi⟩
   unfold eK at hi
   refine⟨_,(cN (aV (pv 0) (aB (au (pv 0) rfl) T.fq T.ur CO (hr.mono (by decide)) (ae (au (pv 0) rfl) (ae (pv 1) af))) rfl)
    (ah (aV (pv 0) (aC gB (au (pv 0) rfl) aq) rfl))),?_⟩
   refine gw (fun σ' H'=>∃sv2,σ'=[some (.ref b),some (.int t)]/\Mv [b] H H'/\H' b=some (.ins a.ax dx (eK n rv sv2 x))/\qL a H' rv x.ru/\Dv H' sv2 (Zy (Xe x.ru x.no))) ?_ ?_
   . cases hx:x.ru with
     |once f0 l0=>
      rw [hx] at hR
      have Kr:=hR
      obtain⟨hp0,_⟩:=hR
      repeat' (walk_at "rd1")
      have gH:=Mv.aS (o:=.ins a.ax dx (eK n rv .aQ x)) hi (by intro _ z;cases z)
      exact⟨.aQ,rfl,gH,av,Kr.mv T gH hi,.aQ⟩
   rintro σ' H2 ⟨sv2,rfl,gH,e2,hR2,Cz⟩
   have e20:∃fs,H2 b=some (.ins a.ax dx fs):=⟨_,e2⟩
   unfold eK at e2
   repeat' (walk_at "rd1")
   obtain⟨mv,hb⟩:=gu.upd (n:=n) (x:=zX x) T e20 hR2 Cz
   exact q _ (gH.trans mv) hb
theorem QY (T:Txt K mg a):df P w K mg base 3 a.dZ ["self","at"] [] (E8 a):=
 ⟨⟨_,_,UC T,T.oG.binds fun _ _ _ _ _ _=>dJ fun _ _=>rfl,.nil⟩⟩
def Rj (t1 t2:TE):TE:=fun σ H Q=>t1 σ H Q\/t2 σ H Q
theorem D6 {t1 t2:TE} (h:t1 σ H Q):Rj t1 t2 σ H Q:=.inl h
theorem D8 {t1 t2:TE} (h:t2 σ H Q):Rj t1 t2 σ H Q:=.inr h
theorem YQ {t1 t2:TE} (h:Rj t1 t2 σ H Q):abr t1 t2 σ H Q:=h
def Lw (H:Hp) (p x:Addr):Prop:=∃C dx fs k,H p=some (.ins C dx fs)/\(k,V.ref x)∈fs
structure jR (cs:List Addr) (p:Addr) (pd:List Addr) (H H':Hp):Prop where
 al:H p≠none
 kp:∀x o,H x=some o->(∀xs,o=.lst xs->¬Lw H p x)->(∀kvs,o=.dK kvs->x∈pd)->(∀C dx fs,o=.ins C dx fs->C∉cs)->H' x=some o
 dm:∀x,H' x=none->H x=none
 lw:∀x xs,Lw H' p x->H x=some (.lst xs)->Lw H p x
section
variable {cs Sv pd S':List Addr} {H1:Hp} {x:Addr} {n':Int} {Z3:List (Str × Int)}
theorem uJ (al:H p≠none) (h:∀o,H p=some o->H' p=some o) (l:Lw H' p x):Lw H p x:=by
 obtain⟨C,dx,fs,k,e,m⟩:=l
 cases e0:H p with
 |none=>exact absurd e0 al
 |some o=>
  rw [h o e0] at e
  exact⟨C,dx,fs,k,e0.trans e,m⟩
theorem jR.refl (al:H p≠none):jR cs p pd H H:=⟨al,fun _ _ h _ _ _=>h,fun _ h=>h,fun _ _ h _=>h⟩
theorem jR.off (f:jR cs p pd H H') (h:H q=some (.lst xs)) (n:¬Lw H p q):¬Lw H' p q:=fun z=>n (f.lw _ _ z h)
theorem jR.trans (f:jR cs p pd H H1) (g:jR cs p pd H1 H'):jR cs p pd H H':=
 ⟨f.al,fun x o h a b c=>g.kp x o (f.kp x o h a b c) (fun xs e=>by subst e;exact f.off h (a xs rfl)) b c,fun x h=>f.dm x (g.dm x h),fun x xs z h=>Classical.byContradiction fun n=>
  n (f.lw x xs (g.lw x xs z (f.kp x _ h (fun _ _=>n) (by intro _ e;cases e) (by intro _ _ _ e;cases e))) h)⟩
theorem jR.al' (f:jR cs p pd H H'):H' p≠none:=fun z=>f.al (f.dm _ z)
theorem eB (al:H p≠none) (s:ay H H'):jR cs p pd H H':=⟨al,fun x o h _ _ _=>s x o h,fun _ h=>s.none h,fun _ _ l _=>uJ al (s p) l⟩
theorem jR.step (f:jR cs p pd H H1) (s:ay H1 H'):jR cs p pd H H':=f.trans (eB f.al' s)
theorem jR.RE {fs:List (Str × V)} (al:H p≠none) (m:Mv [b] H H') (h:H b=some (.ins C dx fs)) (hC:C∈cs) (n:p≠b):jR cs p pd H H':=⟨al,fun x o e _ _ c=>m.kp x o (fun z=>by
 rw [AR.mp z,h] at e
 cases e
 exact c _ _ _ rfl hC) e,m.dm,fun _ _ l _=>uJ al (fun o e=>m.kp p o (by simpa using n) e) l⟩
theorem jR.dkM (al:H p≠none) (m:Mv [b] H H') (h:H b=some (.dK kvs)) (hb:b∉pd) (n:p≠b):jR cs p pd H H':=⟨al,fun x o e _ d _=>m.kp x o (fun z=>by
 have z:=AR.mp z
 subst z
 rw [h] at e
 cases e
 exact hb (d _ rfl)) e,m.dm,fun _ _ l _=>uJ al (fun o e=>m.kp p o (by simpa using n) e) l⟩
theorem jR.wide (f:jR cs p pd H H') (h:∀C∈cs,C∈Sv):jR Sv p pd H H':=⟨f.al,fun x o e a b c=>f.kp x o e a b fun C dx fs e' z=>c C dx fs e' (h C z),f.dm,f.lw⟩
theorem jR.none (f:jR cs p pd H H') (h:H' q=Option.none):H q=Option.none:=f.dm q h
theorem jR.tup {xs:List V} (f:jR cs p pd H H') (h:H q=some (.tup xs)):H' q=some (.tup xs):=f.kp q _ h (by intro _ z;cases z) (by intro _ z;cases z) (by intro _ _ _ z;cases z)
theorem jR.ins {fs:List (Str × V)} (f:jR cs p pd H H') (hC:C∉cs) (h:jF H v C fs):jF H' v C fs:=by
 obtain⟨y,dx,rfl,e⟩:=h
 exact⟨y,dx,rfl,f.kp y _ e (by intro _ z;cases z) (by intro _ z;cases z) (by intro _ _ _ z;cases z;exact hC)⟩
theorem jR.yw (f:jR cs p pd H H') (i:D1 d=true) (h:Dv H v d):Dv H' v d:=h.yw (fun _ _ e=>f.tup e) i
theorem jR.lat (f:jR cs p pd H H') (n:¬Lw H p q) (h:dg H q ds):dg H' q ds:=by
 obtain⟨xs,e,dv,im⟩:=h
 exact⟨xs,f.kp q _ e (fun _ _=>n) (by intro _ z;cases z) (by intro _ _ _ z;cases z),dv.yw (fun a xs e=>f.tup e) im,im⟩
theorem jR.agO (f:jR cs p pd H H') (n:¬Lw H p q) (h:dg H q ds):¬Lw H' p q:=let ⟨_,e,_⟩:=h;f.off e n
theorem jR.sql (f:jR cs p pd H H') (n:¬Lw H p q) (h:gD K H q xs):gD K H' q xs:=by
 rcases h with(h|⟨o,h⟩)|h
 . exact .inl (.inl (f.kp _ _ h (fun _ _=>n) (by intro _ z;cases z) (by intro _ _ _ z;cases z)))
 . exact .inl (.inr ⟨o,f.kp _ _ h (by intro _ z;cases z) (by intro _ z;cases z) (by intro _ _ _ z;cases z)⟩)
 . exact .inr h
def ub (p:Addr) (H:Hp) (q:Addr) (ds:List BB):Prop:=dg H q ds/\¬Lw H p q
theorem ub.fr (h:ub p H q ds) (f:jR cs p pd H H'):ub p H' q ds:=⟨f.lat h.2 h.1,f.agO h.2 h.1⟩
theorem qL.frw {r:RU} (f:jR cs p pd H H') (nO:a.aM∉cs) (h:qL a H v r):qL a H' v r:=by
 cases r with
 |once=>exact⟨f.ins nO h.1,h.2⟩
theorem Told.kind (h:Told a kd H x S n ts) {o:HO} (hb:b∈S) (e:H b=some o):(∃C dx fs,o=.ins C dx fs/\C∈[a.aR,a.ai,a.aj])\/(∃xs,o=.lst xs/\Lw H x b)\/∃kvs,o=.dK kvs:=by
 have hd:∀{d:Addr} {m:List (Str × BB)},b=d->oq H d m->∃kvs,o=.dK kvs:=fun {d m} z hd=>by
  obtain⟨kvs,e2,_⟩:=hd
  rw [z,e2] at e
  exact⟨kvs,(Do e).symm⟩
 obtain⟨h0,⟨_,d,rfl,h1⟩|⟨_,d,m,us,G,d9,rfl,hc,h1⟩⟩:=h
 . rcases AD.mp hb with z|hb
   . obtain⟨dx,e1⟩:=h1.ex
     rw [z,e1] at e
     exact .inl ⟨_,_,_,(Do e).symm,by simp⟩
   . exact .inr (.inr (hd (AR.mp hb) h1.dd))
 . obtain⟨dx,e1⟩:=h1.ws.ex
   rcases AD.mp hb with z|hb
   . rw [z,e1] at e
     exact .inl ⟨_,_,_,(Do e).symm,by simp⟩
   . rcases AD.mp hb with z|hb
     . exact .inr (.inr (hd z h1.ws.dd))
     . rcases AD.mp hb with z|hb
       . exact .inr (.inr (hd z h1.ws.mm))
       . rcases AD.mp hb with z|hb
         . rw [z,h1.ws.g.q] at e
           exact .inr (.inl ⟨_,(Do e).symm,z▸⟨_,_,_,"wheels",e1,by simp [Wj]⟩⟩)
         . rcases AD.mp hb with z|hb
           . obtain⟨xs,e2,_⟩:=h1.ws.g.f
             rw [z,e2] at e
             exact .inr (.inl ⟨_,(Do e).symm,z▸⟨_,_,_,"far",e1,by simp [Wj]⟩⟩)
           . obtain⟨y,hy,hb⟩:=Lm.mp hb
             have hw:=h1.ws.g.w y hy
             rcases AD.mp hb with z|hb
             . obtain⟨dy,e2⟩:=hw.i
               rw [z,e2] at e
               exact .inl ⟨_,_,_,(Do e).symm,by simp⟩
             . rcases AD.mp hb with z|hb
               . rw [z,hw.d] at e
                 exact .inr (.inr ⟨_,(Do e).symm⟩)
               . obtain⟨c,hc,z⟩:=AN.mp hb
                 exact .inr (.inr (hd z.symm (hw.c c hc)))
theorem Told.lwS (h:Told a kd H x S n ts) (l:Lw H x b):b∈S:=by
 obtain⟨C,dx,fs,k,e,m⟩:=l
 obtain⟨h0,⟨_,d,rfl,h1⟩|⟨_,d,mm,us,G,d9,rfl,hc,h1⟩⟩:=h
 . obtain⟨dy,e1⟩:=h1.ex
   rw [e] at e1
   cases e1
   have m:k="times"/\b=d:=by simpa using m
   rw [m.2];simp
 . obtain⟨dy,e1⟩:=h1.ws.ex
   rw [e] at e1
   cases e1
   simp only [Wj,AD,Prod.mk.injEq,reduceCtorEq,and_false,V.ref.injEq,false_or,NH,or_false] at m
   rcases m with z|z|z|z <;>rw [z.2] <;>simp [fc.foot]
theorem Ag (h:Told a kd H x S n ts) (h':Told a kd H' x S' n' Z3) (mv:Mv S H H') (hs:∀b∈S',b∈S\/H b=none) (hp:∀b∈S,b∉pd):jR [a.aR,a.ai,a.aj] x pd H H':=
 ⟨h.alive x h.self,fun y o e c1 c2 c3=>mv.kp y o (fun z=>by
  rcases h.kind z e with⟨C,dx,fs,r,hC⟩|⟨xs,r,l⟩|⟨kvs,r⟩
  . exact c3 C dx fs r hC
  . exact c1 xs r l
  . exact hp y z (c2 kvs r)) e,mv.dm,fun y xs l e=>by
  rcases hs y (h'.lwS l) with z|z
  . rcases h.kind z e with⟨C,dx,fs,r,hC⟩|⟨xs,r,l⟩|⟨kvs,r⟩
    . cases r
    . exact l
    . cases r
  . rw [z] at e;cases e⟩
end
set_option hygiene false in
local macro_rules|`(tactic|walk_at "rd1")=>`(tactic|first|with_reducible refine YQ ?_|fail)
structure KS where
 now:Int
 sh:Int
 f:Str->Option iS
 t:Str->Option Int
structure Lay where
 p:Addr
 wp:Addr
 pd:List Addr
 rv:V
 bd:Addr
 gv:V
 ad:Str->Addr
 nm:List Str
def bp (L:Lay) (now sh:Int):List (Str × V):=[("waits",.ref L.wp),("rounds",L.rv),("now",.int now),("shift",.int sh),("groups",L.gv),("by_name",.ref L.bd)]
structure cE (a:Ad) (H:Hp) (L:Lay) (k:KS):Prop where
 ins:jF H (.ref L.p) a.ak (bp L k.now k.sh)
 wt:∃kd S ts,Told a kd H L.wp S k.now ts/\(∀b∈S,b∉L.bd::L.pd)/\∀n u,(n,u)∈ts↔k.t n=some u
 bd:∃ns,qE H L.bd ns (fun n=>.ref (L.ad n))/\ns.Nodup/\∀n,n∈ns↔(k.f n).isSome=true
 bl:∀n x,k.f n=some x->gu a H (L.ad n) n x
 ne:L.bd∉L.pd
 nl:L.nm.length<=55
 nt:∀n,(k.t n).isSome=true->n∈L.nm
 nf:∀n,(k.f n).isSome=true->n∈L.nm
 pl:∀b∈L.pd,H b≠none
abbrev qY (a:Ad) (L:Lay) (H H':Hp):Prop:=jR [a.ax,a.ak,a.aR,a.ai,a.aj] L.wp L.pd H H'
theorem Bx {α:Type} [DecidableEq α]:∀{l m:List α},l.Nodup->(∀x∈l,x∈m)->l.length<=m.length
 |[],_,_,_=>KF _
 |x::l,m,h,hs=>by
  rw [EO] at h
  have h1:=Bx (l:=l) (m:=m.erase x) h.2 fun y hy=>(List.mem_erase_of_ne (fun e:y=x=>h.1 (by rw [<-e];exact hy))).mpr (hs y (AL _ hy))
  have h2:=List.length_erase_of_mem (hs x BC)
  have h3:0<m.length:=List.length_pos_of_mem (hs x BC)
  rw [FF]
  omega
section
variable {L:Lay} {k:KS} {n:Str} {x x':iS}
theorem cE.keeps (s:ay H H') (h:cE a H L k):cE a H' L k:=by
 obtain⟨kd,S,ts,w1,w2,w3⟩:=h.wt
 obtain⟨ns,b1,b2,b3⟩:=h.bd
 exact⟨h.ins.keeps s,⟨kd,S,ts,w1.keeps s,w2,w3⟩,⟨ns,b1.keeps s,b2,b3⟩,fun n x e=>(h.bl n x e).keeps s,h.ne,h.nl,h.nt,h.nf,fun b hb z=>h.pl b hb (s.none z)⟩
theorem gu.at (h:gu a H b n x):∃dx rv sv,H b=some (.ins a.ax dx (eK n rv sv x)):=by
 obtain⟨rv,sv,⟨p,dx,e,hi⟩,_⟩:=h
 cases e
 exact⟨dx,rv,sv,hi⟩
theorem UO {D:Addr} {fs gs:List (Str × V)} (m:Mv [b] H H') (e:H b=some (.ins D dx gs)) (nq:C≠D) (h:jF H v C fs):jF H' v C fs:=by
 obtain⟨p,dy,rfl,hi⟩:=h
 refine⟨p,dy,rfl,m.at (fun z=>?_) hi⟩
 rw [AR.mp z,e] at hi
 cases hi
 exact nq rfl
theorem Fm {fs:List (Str × V)} (m:Mv [b] H H') (e:H b=some (.dK kvs)) (h:jF H v C fs):jF H' v C fs:=by
 obtain⟨p,dy,rfl,hi⟩:=h
 refine⟨p,dy,rfl,m.at (fun z=>?_) hi⟩
 rw [AR.mp z,e] at hi
 cases hi
theorem gu.mvB (T:Txt K mg a) {m':Str} {y:iS} {c:Addr} (h:gu a H b n x) (g:gu a H c m' y) (nq:n≠m') (m:Mv [c] H H'):gu a H' b n x:=by
 obtain⟨dx,Ig,sv2,e⟩:=g.at
 obtain⟨rv,sv,⟨p,dy,e0,hi⟩,h2,h3⟩:=h
 cases e0
 refine⟨rv,sv,⟨b,dy,rfl,m.at (fun z=>?_) hi⟩,h2.mv T m e,m.dat (tV _) h3⟩
 rw [AR.mp z,e] at hi
 have hi:HO.ins a.ax dx (eK m' Ig sv2 y)=HO.ins a.ax dy (eK n rv sv x):=Do hi
 injection hi with _ _ hf
 unfold eK at hf
 injection hf with h4 _
 injection h4 with _ h5
 injection h5 with h6
 exact nq h6.symm
theorem qL.mvD {c:Addr} {r:RU} (m:Mv [c] H H') (e:H c=some (.dK kvs)) (h:qL a H v r):qL a H' v r:=qL.fr (cs:=[]) (S:=[c]) (Fr.dkM m e BC)
 (by simp)
 h
theorem gu.mvD {c:Addr} (m:Mv [c] H H') (e:H c=some (.dK kvs)) (h:gu a H b n x):gu a H' b n x:=by
 obtain⟨rv,sv,h1,h2,h3⟩:=h
 exact⟨rv,sv,Fm m e h1,h2.mvD m e,m.dat (tV _) h3⟩
theorem cE.al (h:cE a H L k):H L.wp≠none:=let ⟨_,_,_,w1,_⟩:=h.wt;w1.alive _ w1.self
theorem cE.noB (T:Txt K mg a) (h:cE a H L k) {fs:List (Str × V)} (e:H b=some (.ins C dx fs)) (nC:C∉[a.aR,a.ai,a.aj]):∀kd S ts,Told a kd H L.wp S k.now ts->∀y∈S,y∉[b]:=fun kd S ts w y hy z=>by
 rw [<-AR.mp z] at e
 rcases w.kind hy e with⟨_,_,_,r,hC⟩|⟨_,r,_⟩|⟨_,r⟩
 . cases r;exact nC hC
 . cases r
 . cases r
theorem Txt.nB (T:Txt K mg a):a.ax∉[a.aR,a.ai,a.aj]:=by simp [T.nE,T.iR,T.jL]
theorem Txt.nK (T:Txt K mg a):a.ak∉[a.aR,a.ai,a.aj]:=by simp [T.jT,T.fZ,T.gZ]
theorem Txt.nO (T:Txt K mg a):a.aM∉[a.aR,a.ai,a.aj]:=by simp [T.nH,T.iK,T.jM]
theorem cE.fresh (h:cE a H L k) (hn:H q=none):¬Lw H L.wp q:=fun z=>by
 obtain⟨_,_,_,w1,_⟩:=h.wt
 exact w1.alive _ (w1.lwS z) hn
theorem cE.mj (T:Txt K mg a) (h:cE a H L k) (hx:k.f n=some x) (hn:H q=none) (m:Mv [L.ad n] H H'):¬Lw H' L.wp q:=fun z=>by
 obtain⟨_,_,_,w1,_⟩:=h.wt
 obtain⟨_,_,_,e⟩:=(h.bl n x hx).at
 exact h.fresh hn (uJ h.al (fun o e'=>m.kp _ o (h.noB T e T.nB _ _ _ w1 _ w1.self) e') z)
theorem cE.new (h:cE a H L k) (hn:H q=none) (s:ay H H'):¬Lw H' L.wp q:=fun z=>h.fresh hn (uJ h.al (s _) z)
theorem cE.Uv (T:Txt K mg a) (h:cE a H L k) (hx:k.f n=some x) (m:Mv [L.ad n] H H') (hb:gu a H' (L.ad n) n x'):cE a H' L {k with f:=cQ k.f n (some x')}/\qY a L H H':=by
 have hB:=h.bl n x hx
 obtain⟨dx,rv,sv,e⟩:=hB.at
 obtain⟨kd,S,ts,w1,w2,w3⟩:=h.wt
 obtain⟨ns,b1,b2,b3⟩:=h.bd
 have nd1:∀{d:Addr} {kvs:List (Key × V)},H d=some (.dK kvs)->d∉[L.ad n]:=fun {d kvs} e2 z=>by rw [AR.mp z,e] at e2;cases e2
 have N1:=h.noB T e T.nB _ _ _ w1
 refine⟨⟨UO m e (Me T.fJ) h.ins,⟨kd,S,ts,w1.mv m N1,w2,w3⟩,⟨ns,b1.mv m (nd1 b1),b2,fun y=>?_⟩,fun y z hz=>?_,h.ne,h.nl,h.nt,fun y hy=>?_,fun b hb z=>h.pl b hb (m.dm _ z)⟩,jR.RE h.al m e BC fun z=>N1 _ w1.self (by simp [z])⟩
 . rw [b3]
   by_cases ey:y=n
   . subst ey;simp [aG,hx]
   . show _↔(cQ k.f n (some x') y).isSome=true
     rw [b8 ey]
 . by_cases ey:y=n
   . subst ey
     have hz:cQ k.f y (some x') y=some z:=hz
     rw [aG] at hz
     cases hz
     exact hb
   . have hz:cQ k.f n (some x') y=some z:=hz
     rw [b8 ey] at hz
     exact(h.bl y z hz).mvB T hB ey m
 . by_cases ey:y=n
   . subst ey;exact h.nf y (by rw [hx];rfl)
   . refine h.nf y ?_
     have hy:(cQ k.f n (some x') y).isSome=true:=hy
     rwa [b8 ey] at hy
theorem Ft (T:Txt K mg a) {cs pd:List Addr} (f:jR cs p pd H H') (hB:a.ax∉cs) (hO:a.aM∉cs) (h:gu a H b n x):gu a H' b n x:=by
 obtain⟨rv,sv,h1,h2,h3⟩:=h
 exact⟨rv,sv,f.ins hB h1,qL.frw f
  hO
  h2,f.yw (tV _) h3⟩
theorem cE.CK (T:Txt K mg a) (h:cE a H L k) {XS:Int} {S':List Addr} {ts0:List (Str × Int)} {t':Str->Option Int} (w0:Told a kd H L.wp S k.now ts0) (wn:∀b∈S,b∉L.bd::L.pd) (m:Mv S H H') (w:Told a kd H' L.wp S' XS ts) (hs:∀b∈S',b∈S\/H b=none) (w3:∀n u,(n,u)∈ts↔t' n=some u) (w4:∀n,(t' n).isSome=true->n∈L.nm) (hi:jF H (.ref L.p) a.ak (bp L XS k.sh)):cE a H' L {k with t:=t',now:=XS}/\qY a L H H':=by
 obtain⟨ns,b1,b2,b3⟩:=h.bd
 have f:=Ag w0 w m hs (pd:=L.bd::L.pd) wn
 have f':jR [a.aR,a.ai,a.aj] L.wp L.pd H H':=Ag w0 w m hs fun b hb z=>wn b hb (AL _ z)
 refine⟨⟨f.ins T.nK hi,⟨kd,S',ts,w,fun b hb z=>?_,w3⟩,⟨ns,f.kp _ _ b1 (by intro _ z;cases z) (by intro _ _;exact BC) (by intro _ _ _ z;cases z),b2,b3⟩,fun y z hz=>Ft T f T.nB
  T.nO
  (h.bl y z hz),h.ne,h.nl,w4,h.nf,fun b hb z=>h.pl b hb (f.dm _ z)⟩,f'.wide fun C hC=>by simp only [AD] at hC ⊢;exact .inr (.inr hC)⟩
 rcases hs b hb with r|r
 . exact wn b r z
 . rcases AD.mp z with z|z
   . rw [z,b1] at r;cases r
   . exact h.pl b z r
theorem cE.pop (T:Txt K mg a) (h:cE a H L k) (b1:qE H L.bd ns (fun n=>.ref (L.ad n))) (b2:ns.Nodup) (b3:∀n,n∈ns↔(k.f n).isSome=true) (m:Mv [L.bd] H H') (Yu:qE H' L.bd (ns.filter fun y=>decide (y≠n)) (fun n=>.ref (L.ad n))):cE a H' L {k with f:=cQ k.f n none}/\qY a L H H':=by
 obtain⟨kd,S,ts,w1,w2,w3⟩:=h.wt
 have N1:∀b∈S,b∉[L.bd]:=fun b hb z=>w2 b hb (by rw [AR.mp z];exact BC)
 have hf:∀y,(cQ k.f n none y).isSome=true↔y≠n/\(k.f y).isSome=true:=fun y=>by
  by_cases ey:y=n
  . subst ey;simp [aG]
  . rw [b8 ey];simp [ey]
 refine⟨⟨Fm m b1 h.ins,⟨kd,S,ts,w1.mv m N1,w2,w3⟩,⟨_,Yu,b2.sublist IR,fun y=>?_⟩,fun y z hz=>?_,h.ne,h.nl,h.nt,fun y hy=>h.nf y ((hf y).mp hy).2,fun b hb z=>h.pl b hb (m.dm _ z)⟩,jR.dkM h.al m b1 h.ne fun z=>N1 _ w1.self (by simp [z])⟩
 . show _↔(cQ k.f n none y).isSome=true
   rw [hf,B0,b3];simp [and_comm]
 . have hz:cQ k.f n none y=some z:=hz
   by_cases ey:y=n
   . subst ey;rw [aG] at hz;cases hz
   . rw [b8 ey] at hz
     exact(h.bl y z hz).mvD m b1
theorem cE.agI (T:Txt K mg a) (h:cE a H L k) (b1:qE H L.bd ns (fun n=>.ref (L.ad n))) (b2:ns.Nodup) (b3:∀n,n∈ns↔(k.f n).isSome=true) (hn:k.f n=none) (hm:n∈L.nm) (hb:gu a H b n x) (m:Mv [L.bd] H H') (Yu:qE H' L.bd (ns++[n]) (cQ (fun n=>.ref (L.ad n)) n (.ref b))):cE a H' {L with ad:=cQ L.ad n b} {k with f:=cQ k.f n (some x)}/\qY a L H H':=by
 obtain⟨kd,S,ts,w1,w2,w3⟩:=h.wt
 have N1:∀b∈S,b∉[L.bd]:=fun b hb z=>w2 b hb (by rw [AR.mp z];exact BC)
 have hf:∀y,(cQ k.f n (some x) y).isSome=true↔y=n\/(k.f y).isSome=true:=fun y=>by
  by_cases ey:y=n
  . subst ey;simp [aG]
  . rw [b8 ey];simp [ey]
 have QQ:n∉ns:=fun z=>by rw [b3,hn] at z;cases z
 refine⟨⟨Fm m b1 h.ins,⟨kd,S,ts,w1.mv m N1,w2,w3⟩,⟨_,Yu.congr fun y hy=>?_,?_,fun y=>?_⟩,fun y z hz=>?_,h.ne,h.nl,h.nt,fun y hy=>?_,fun b hb z=>h.pl b hb (m.dm _ z)⟩,jR.dkM h.al m b1 h.ne fun z=>N1 _ w1.self (by simp [z])⟩
 . show cQ (fun n=>V.ref (L.ad n)) n (V.ref b) y=V.ref (cQ L.ad n b y)
   by_cases ey:y=n
   . subst ey;rw [aG,aG]
   . rw [b8 ey,b8 ey]
 . rw [Go]
   refine⟨b2,by simp,fun y hy z hz=>?_⟩
   rw [AR.mp hz]
   exact fun e=>QQ (e▸hy)
 . show _↔(cQ k.f n (some x) y).isSome=true
   rw [hf,Co,b3,AR,or_comm]
 . have hz:cQ k.f n (some x) y=some z:=hz
   show gu a H' (cQ L.ad n b y) y z
   by_cases ey:y=n
   . subst ey
     rw [aG] at hz
     cases hz
     rw [aG]
     exact hb.mvD m b1
   . rw [b8 ey] at hz
     rw [b8 ey]
     exact(h.bl y z hz).mvD m b1
 . rcases (hf y).mp hy with e|hy
   . rw [e];exact hm
   . exact h.nf y hy
end
local macro_rules|`(tactic|walk_at "vat")=>`(tactic|first|(refine' qE.keeps ?s ?m;(case s=>assumption);(case m=>walk_at "vat"))|fail)
set_option hygiene false in
local macro_rules|`(tactic|walk_at "vat")=>`(tactic|first|assumption|fail)
local macro_rules|`(tactic|walk_at "kat")=>`(tactic|first|(refine' cE.keeps ?s ?m;(case s=>assumption);(case m=>walk_at "kat"))|fail)
set_option hygiene false in
local macro_rules|`(tactic|walk_at "kat")=>`(tactic|first|assumption|fail)
local macro_rules|`(tactic|walk_at "rd1")=>`(tactic|first|((with_reducible refine' acM ?e1 ?_);(case e1=>walk_at "vat"))|fail)
local macro_rules|`(tactic|walk_at "rd1")=>`(tactic|first|((with_reducible refine' UZ ?e1 ?e2 ?_);(case e1=>walk_at "vat");(case e2=>assumption))|fail)
local macro_rules|`(tactic|walk_at "rd1")=>`(tactic|first|((with_reducible refine' YM ?e1 (fun _ _ _=>?_));(case e1=>walk_at "vat"))|fail)
def vD (a:Ad):Sp:=fun vs H Q _=>∃v b n x,vs=[v,.ref b]/\gu a H b n x/\x.hm=none/\Q (.bl true) H
theorem Nf {n:Str} {x:iS} (h:gu a H b n x) (hx:x.hm=none) (q:Q (.bl true) H):vD a [v,.ref b] H Q E:=⟨v,b,n,x,rfl,h,hx,q⟩
theorem JY (T:Txt K mg a):aP P w K mg base eG 4 a.bZ a.pC ["self","bell"] (vD a):=by
 have cl:=T.aT;have n1:=T.iM
 refine T.kJ.ok yH (fun vs H Q E h=>?_) (fun c7 A outer s H vs Q E hr h=>?_)
 . obtain⟨_,_,_,_,rfl,_⟩:=h;rfl
 . obtain⟨v,b,n,x,rfl,⟨rv,sv,hi,hR,hd⟩,hx,q⟩:=h
   unfold eK at hi
   rw [hx] at hi
   simp only [LV] at hi
   refine⟨_,(ah (aD (aaP (m3 AZ (au (pv 1) rfl) eC (aK _)) (AQ Ci)))),?_⟩
   repeat' (walk_at "rd1")
   exact q
theorem GU (T:Txt K mg a):df P w K mg base 4 a.bZ ["self","bell"] [] (vD a):=
 ⟨⟨_,_,JY T,T.kJ.binds fun _ _ _ _ _ _=>dJ fun _ _=>rfl,.nil⟩⟩
def BU (a:Ad):Sp:=fun vs H Q _=>∃L k b n x,vs=[.ref L.p,.ref b]/\cE a H L k/\gu a H b n x/\Q (.int (k.now+lead x k.sh)) H
theorem LC {L:Lay} {k:KS} {n:Str} {x:iS} (h:cE a H L k) (hb:gu a H b n x) (q:Q (.int (k.now+lead x k.sh)) H):BU a [.ref L.p,.ref b] H Q E:=⟨L,k,b,n,x,rfl,h,hb,q⟩
theorem Ri (T:Txt K mg a):aP P w K mg base eG 5 a.bY a.o8 ["self","bell"] (BU a):=by
 have cl:=T.aL;have n1:=T.bu;have n2:=T.dE
 have GD:=GN (P:=P) (w:=w) (base:=base) T
 refine T.kA.ok yj (fun vs H Q E h=>?_) (fun c7 A outer s H vs Q E hr h=>?_)
 . obtain⟨_,_,_,_,_,rfl,_⟩:=h;rfl
 . obtain⟨L,k,b,n,x,rfl,hk,hb,q⟩:=h
   have hi:=hk.ins
   unfold bp at hi
   have hbi:∃fs,jF H (.ref b) a.ax fs/\fs.lookup ("lead":Str)=none:=by
    obtain⟨rv,sv,hi,_⟩:=hb
    exact⟨_,hi,by unfold eK;walk_at "lk"⟩
   obtain⟨fs,hbi,hbl⟩:=hbi
   refine⟨_,(ah (aD (aC gB (au (pv 0) rfl) (aB (pv 1) T.aT T.sr GD (hr.mono (by decide)) (ae (au (pv 0) rfl) af))))),?_⟩
   repeat' (walk_at "rd1")
   exact q
theorem Dj (T:Txt K mg a):df P w K mg base 5 a.bY ["self","bell"] [] (BU a):=
 ⟨⟨_,_,Ri T,T.kA.binds fun _ _ _ _ _ _=>dJ fun _ _=>rfl,.nil⟩⟩
theorem gu.oJ {n:Str} {x:iS} (h:gu a H b n x):∃fs,jF H (.ref b) a.ax fs/\fs.lookup ("lead":Str)=none/\fs.lookup ("is_over":Str)=none/\fs.lookup ("is_waiting":Str)=none/\fs.lookup ("catch_up":Str)=none/\fs.lookup ("wait":Str)=none/\fs.lookup ("rest":Str)=none/\fs.lookup ("move":Str)=none/\fs.lookup ("about":Str)=none/\fs.lookup ("name":Str)=some (.str n)/\fs.lookup ("until":Str)=some (ow x.un)/\fs.lookup ("since":Str)=some (ow x.sn)/\fs.lookup ("by_day":Str)=some (.bl x.dy)/\fs.lookup ("weight":Str)=some (.int x.wt)/\fs.lookup ("number":Str)=some (.int x.no):=by
 obtain⟨rv,sv,hi,_⟩:=h
 refine⟨_,hi,?_⟩
 unfold eK
 exact⟨by walk_at "lk",by walk_at "lk",by walk_at "lk",by walk_at "lk",by walk_at "lk",by walk_at "lk",by walk_at "lk",by walk_at "lk",by walk_at "lk",by walk_at "lk",by walk_at "lk",by walk_at "lk",by walk_at "lk",by walk_at "lk"⟩
theorem ud.oJ {d:Addr} {fr:List (Str × V)} (h:ud C H p d n ts fr) (hf:fr=[]\/∃q f m,fr=([("wheels",V.ref q),("far",V.ref f),("moves",V.ref m)]:List (Str × V))):∃fs,jF H (.ref p) C fs/\fs.lookup ("put":Str)=none/\fs.lookup ("take":Str)=none/\fs.lookup ("time_of":Str)=none/\fs.lookup ("due":Str)=none/\fs.lookup ("least":Str)=none:=by
 refine⟨_,h.ins,?_⟩
 rcases hf with rfl|⟨q,f,m,rfl⟩ <;>exact⟨by walk_at "lk",by walk_at "lk",by walk_at "lk",by walk_at "lk",by walk_at "lk"⟩
theorem cE.ZZ {L:Lay} {k:KS} (hk:cE a H L k) (w1:Told a kd H L.wp S n ts) (w3:∀n u,(n,u)∈ts↔k.t n=some u):ts.length<60:=by
 have:=Bx w1.1 (m:=L.nm) fun y hy=>by
  obtain⟨z,hz,rfl⟩:=AN.mp hy
  exact hk.nt z.1 (by rw [(w3 z.1 z.2).mp hz];rfl)
 have h55:=hk.nl
 rw [AE] at this
 omega
def Cq (a:Ad):Sp:=fun vs H Q _=>∃L k n x,vs=[.ref L.p,.ref (L.ad n)]/\cE a H L k/\k.f n=some x/\∀H',qY a L H H'->cE a H' L {k with f:=cQ k.f n (some (rest x)),t:=cQ k.t n none}->Q .aQ H'
theorem LQ {L:Lay} {k:KS} {n:Str} {x:iS} (h:cE a H L k) (hx:k.f n=some x) (q:∀H',qY a L H H'->cE a H' L {k with f:=cQ k.f n (some (rest x)),t:=cQ k.t n none}->Q .aQ H'):Cq a [.ref L.p,.ref (L.ad n)] H Q E:=⟨L,k,n,x,rfl,h,hx,q⟩
theorem Q7 (T:Txt K mg a):aP P w K mg base eG 6 a.eO a.xS ["self","bell"] (Cq a):=by
 have cl:=T.aL;have n1:=T.bx;have cb:=T.aT;have n2:=T.bz;have cr:=T.ez;have cw:=T.aO
 have F3:=Ru (P:=P) (w:=w) (base:=base) T
 have CV:=zc (P:=P) (w:=w) (base:=base) T T.Nc
 have x9:=zc (P:=P) (w:=w) (base:=base) T T.tU
 have IT:=Dx (P:=P) (w:=w) (base:=base) T T.Nc T.mP T.zt (IK T)
 have C6:=Dx (P:=P) (w:=w) (base:=base) T T.tU T.jW T.sW (M9 T)
 refine T.tI.ok FV (fun vs H Q E h=>?_) (fun c7 A outer s H vs Q E hr h=>?_)
 . obtain⟨_,_,_,_,rfl,_⟩:=h;rfl
 . obtain⟨L,k,n,x,rfl,hk,hx,q⟩:=h
   have hi:=hk.ins
   unfold bp at hi
   have hB:=hk.bl n x hx
   obtain⟨fs,hb,l1,l2,l3,l4,l5,l6,l7,l8,l9,l10,Zg,WM,XI,Zj⟩:=hB.oJ
   obtain⟨kd,S,ts,w1,w2,w3⟩:=hk.wt
   have hlen:=hk.ZZ w1 w3
   have hun:n∉ts.map (·.1)->cQ k.t n none=k.t:=fun hn=>by
    funext y
    by_cases ey:y=n
    . subst ey
      rw [aG]
      cases e:k.t y with
      |none=>rfl
      |some u=>exact absurd (Cc (f:=(·.1)) ((w3 y u).mpr e)) hn
    . rw [b8 ey]
   have hdr:∀{u:Int},(n,u)∈ts->∀{R:Hp->Prop},(∀H',qY a L H H'->cE a H' L {k with t:=cQ k.t n none}->R H')->Dh a kd H L.wp S k.now (iQ ts n) R:=fun {u} hu R hR S' H' mv w' hs=>by
    have f1:∀y v,(y,v)∈iQ ts n↔cQ k.t n none y=some v:=fun y v=>by
     rw [c9]
     by_cases ey:y=n
     . subst ey;simp [aG]
     . rw [w3,b8 ey];simp [ey]
    have f2:∀y,(cQ k.t n none y).isSome=true->y∈L.nm:=fun y hy=>by
     by_cases ey:y=n
     . subst ey;rw [aG] at hy;cases hy
     . rw [b8 ey] at hy;exact hk.nt y hy
    obtain⟨JM,fr⟩:=hk.CK T w1 w2 mv w' hs f1 f2 hk.ins
    exact hR H' fr JM
   refine⟨_,(cN (bB (aI tT (x5 (aB (au (pv 0) rfl) T.ez T.uF CV (hr.mono (by decide)) (ae (au (pv 1) rfl) af)) (aB (au (pv 0) rfl) T.aO T.oV x9 (hr.mono (by decide)) (ae (au (pv 1) rfl) af))) eC (aK _))
    (ah (aF (x5 (aB (au (pv 0) rfl) T.ez T.A8 IT (hr.mono (by decide)) (ae (au (pv 1) rfl) af)) (aB (au (pv 0) rfl) T.aO T.uI C6 (hr.mono (by decide)) (ae (au (pv 1) rfl) af)))))
    aN)
    (ah (aF (eF (pv 1) T.aT T.zy F3 (hr.mono (by decide)))))),?_⟩
   refine gw (fun σ' H'=>σ'=[some (.ref L.p),some (.ref (L.ad n))]/\qY a L H H'/\cE a H' L {k with t:=cQ k.t n none}) ?_ ?_
   . obtain⟨h0,⟨rfl,d,rfl,h1⟩|⟨rfl,d,m,us,G,d9,rfl,hc,h1⟩⟩:=w1
     . obtain⟨gs,hw,k1,k2,k3,k4,k5⟩:=h1.oJ (.inl rfl)
       repeat' (walk_at "rd1")
       refine D6 ?_
       repeat' (walk_at "rd1")
       refine⟨L.wp,d,k.now,ts,[],n,rfl,h1,fun t ht=>?_,fun ht=>?_⟩
       . repeat' (walk_at "rd1")
         refine D6 ?_
         repeat' (walk_at "rd1")
         refine UY h0 h1 ht (hdr ht fun H' fr JM=>?_)
         repeat' (walk_at "rd1")
         exact⟨rfl,fr,JM⟩
       . repeat' (walk_at "rd1")
         exact⟨rfl,jR.refl hk.al,by rw [hun ht];exact hk⟩
     . obtain⟨gs,hw,k1,k2,k3,k4,k5⟩:=h1.wt.oJ (.inr ⟨_,_,_,rfl⟩)
       repeat' (walk_at "rd1")
       refine D8 ?_
       repeat' (walk_at "rd1")
       refine⟨L.wp,d,k.now,ts,_,n,rfl,h1.wt,fun t ht=>?_,fun ht=>?_⟩
       . repeat' (walk_at "rd1")
         refine D8 ?_
         repeat' (walk_at "rd1")
         refine T1 hc h1 (by omega) ht (hdr ht fun H' fr JM=>?_)
         repeat' (walk_at "rd1")
         exact⟨rfl,fr,JM⟩
       . repeat' (walk_at "rd1")
         exact⟨rfl,jR.refl hk.al,by rw [hun ht];exact hk⟩
   rintro σ' H1 ⟨rfl,CA,lq⟩
   have J3:=lq.bl n x hx
   obtain⟨fs1,Ke,_,_,_,_,_,m6,_⟩:=J3.oJ
   repeat' (walk_at "rd1")
   refine aad J3 (fun H2 gH Si=>?_)
   repeat' (walk_at "rd1")
   obtain⟨ll,zx⟩:=lq.Uv T hx gH Si
   exact q _ (CA.trans zx) ll
theorem Ea (T:Txt K mg a):df P w K mg base 6 a.eO ["self","bell"] [] (Cq a):=
 ⟨⟨_,_,Q7 T,T.tI.binds fun _ _ _ _ _ _=>dJ fun _ _=>rfl,.nil⟩⟩
theorem pM {β:Type} {f:Str->β} {k:Str} {u v:β}:cQ (cQ f k u) k v=cQ f k v:=by
 funext y
 by_cases e:y=k
 . rw [e,aG,aG]
 . rw [b8 e,b8 e,b8 e]
local macro_rules|`(tactic|walk_at "fr")=>`(tactic|first|(refine' jR.step ?m ?s;(case s=>assumption);(case m=>walk_at "fr"))|fail)
local macro_rules|`(tactic|walk_at "fr")=>`(tactic|first|(refine' jR.trans ?m ?s;(case s=>assumption);(case m=>walk_at "fr"))|fail)
set_option hygiene false in
local macro_rules|`(tactic|walk_at "fr")=>`(tactic|first|assumption|fail)
def vj (a:Ad):Sp:=fun vs H Q _=>∃L k n x f l,vs=[.ref L.p,.ref (L.ad n)]/\cE a H L k/\k.f n=some x/\x.st=some (f,l)/\k.t n=none/\k.now<l - lead x k.sh/\∀H',qY a L H H'->cE a H' L {k with f:=cQ k.f n (some (wait x k.now k.sh f l)),t:=cQ k.t n (some (l - lead x k.sh))}->Q .aQ H'
theorem NP {L:Lay} {k:KS} {n:Str} {x:iS} {f:Int} (h:cE a H L k) (hx:k.f n=some x) (hs:x.st=some (f,l)) (ht:k.t n=none) (hl:k.now<l - lead x k.sh) (q:∀H',qY a L H H'->cE a H' L {k with f:=cQ k.f n (some (wait x k.now k.sh f l)),t:=cQ k.t n (some (l - lead x k.sh))}->Q .aQ H'):vj a [.ref L.p,.ref (L.ad n)] H Q E:=⟨L,k,n,x,f,l,rfl,h,hx,hs,ht,hl,q⟩
theorem Iy (T:Txt K mg a):aP P w K mg base eG 6 a.b5 a.pF ["self","bell"] (vj a):=by
 have cl:=T.aL;have n1:=T.bx;have n3:=T.bu;have n4:=T.dE;have cb:=T.aT;have n2:=T.bz;have n5:=T.cY;have cr:=T.ez;have cw:=T.aO
 have HX:=ME (P:=P) (w:=w) (base:=base) T
 have MD:=Hh (P:=P) (w:=w) (base:=base) T T.Nc T.zD (IL T)
 have Fe:=Hh (P:=P) (w:=w) (base:=base) T T.tU T.rS (Nk T)
 refine T.ku.ok yr (fun vs H Q E h=>?_) (fun c7 A outer s H vs Q E hr h=>?_)
 . obtain⟨_,_,_,_,_,_,rfl,_⟩:=h;rfl
 . obtain⟨L,k,n,x,f,l,rfl,hk,hx,hs,ht,hl,q⟩:=h
   have hi:=hk.ins
   unfold bp at hi
   have hB:=hk.bl n x hx
   obtain⟨fs,hb,l1,l2,l3,l4,l5,l6,l7,l8,l9,l10,Zg,WM,XI,Zj⟩:=hB.oJ
   refine⟨_,(cN (aF (aB (pv 1) T.aT T.zp HX (hr.mono (by decide)) (ae (au (pv 0) rfl) (ae (au (pv 0) rfl) af))))
    (ah (aF (x5 (aB (au (pv 0) rfl) T.ez T.Dw MD (hr.mono (by decide)) (ae (au (pv 1) rfl) (ae (au (pv 1) rfl) af))) (aB (au (pv 0) rfl) T.aO T.vV Fe (hr.mono (by decide)) (ae (au (pv 1) rfl) (ae (au (pv 1) rfl) af))))))),?_⟩
   repeat' (walk_at "rd1")
   refine gw (fun σ' H'=>σ'=[some (.ref L.p),some (.ref (L.ad n))]/\qY a L H H'/\cE a H' L {k with f:=cQ k.f n (some (wait x k.now k.sh f l))}) ?_ ?_
   . repeat' (walk_at "rd1")
     refine SR hB hs (fun H2 gH Si=>?_)
     repeat' (walk_at "rd1")
     obtain⟨ll,zx⟩:=hk.Uv T hx gH Si
     exact⟨rfl,zx,ll⟩
   rintro σ' H1 ⟨rfl,CA,lq⟩
   clear hi hB hb l1 l2 l3 l4 l5 l6 l7 l8 l9 l10 Zg WM XI Zj
   have hi:=lq.ins
   unfold bp at hi
   have hB:=lq.bl n (wait x k.now k.sh f l) aG
   obtain⟨fs,hb,l1,l2,l3,l4,l5,l6,l7,l8,l9,l10,Zg,WM,XI,Zj⟩:=hB.oJ
   have l10:fs.lookup ("until":Str)=some (.int (l - lead x k.sh)):=l10
   obtain⟨kd,S,ts,w1,w2,w3⟩:=lq.wt
   have X7:({k with f:=cQ k.f n (some (wait x k.now k.sh f l))}:KS).t n=none:=ht
   have hlen:=lq.ZZ w1 w3
   have QQ:n∈L.nm:=lq.nf n (by show(cQ k.f n (some _) n).isSome=true;rw [aG];rfl)
   have f0:n∉ts.map (·.1):=fun z=>by
    obtain⟨y,hy,rfl⟩:=AN.mp z
    have:=(w3 y.1 y.2).mp hy
    rw [X7] at this
    cases this
   have hpt:∀{R:Hp->Prop},(∀H',qY a L H H'->cE a H' L {k with f:=cQ k.f n (some (wait x k.now k.sh f l)),t:=cQ k.t n (some (l - lead x k.sh))}->R H')->Dh a kd H1 L.wp S k.now (ts++[(n,l - lead x k.sh)]) R:=fun {R} hR S' H' mv w' hs=>by
    have f1:∀y v,(y,v)∈ts++[(n,l - lead x k.sh)]↔cQ k.t n (some (l - lead x k.sh)) y=some v:=fun y v=>by
     rw [Co,w3]
     by_cases ey:y=n
     . subst ey
       rw [aG]
       show k.t y=some v\/_↔_
       rw [ht]
       simp [eq_comm]
     . rw [b8 ey];simp [ey]
    have f2:∀y,(cQ k.t n (some (l - lead x k.sh)) y).isSome=true->y∈L.nm:=fun y hy=>by
     by_cases ey:y=n
     . subst ey;exact QQ
     . rw [b8 ey] at hy;exact lq.nt y hy
    obtain⟨ll,zx⟩:=lq.CK T w1 w2 mv w' hs f1 f2 lq.ins
    exact hR H' (CA.trans zx) ll
   obtain⟨h0,⟨rfl,d,rfl,h1⟩|⟨rfl,d,m,us,G,d9,rfl,hc,h1⟩⟩:=w1
   . obtain⟨gs,hw,k1,k2,k3,k4,k5⟩:=h1.oJ (.inl rfl)
     repeat' (walk_at "rd1")
     refine D6 ?_
     repeat' (walk_at "rd1")
     refine XY h0 h1 (by omega) f0 hl (hpt fun H2 zx ll=>?_)
     repeat' (walk_at "rd1")
     exact q _ zx ll
   . obtain⟨gs,hw,k1,k2,k3,k4,k5⟩:=h1.wt.oJ (.inr ⟨_,_,_,rfl⟩)
     repeat' (walk_at "rd1")
     refine D8 ?_
     repeat' (walk_at "rd1")
     refine W0 hc h1 (by omega) f0 hl (hpt fun H2 zx ll=>?_)
     repeat' (walk_at "rd1")
     exact q _ zx ll
theorem GY (T:Txt K mg a):df P w K mg base 6 a.b5 ["self","bell"] [] (vj a):=
 ⟨⟨_,_,Iy T,T.ku.binds fun _ _ _ _ _ _=>dJ fun _ _=>rfl,.nil⟩⟩
def yJ (a:Ad):Sp:=fun vs H Q _=>∃L k n x,vs=[.ref L.p,.ref (L.ad n)]/\cE a H L k/\k.f n=some x/\∀H',qY a L H H'->cE a H' L {k with f:=cQ k.f n none,t:=cQ k.t n none}->gu a H' (L.ad n) n (rest x)->Q .aQ H'
theorem RW {L:Lay} {k:KS} {n:Str} {x:iS} (h:cE a H L k) (hx:k.f n=some x) (q:∀H',qY a L H H'->cE a H' L {k with f:=cQ k.f n none,t:=cQ k.t n none}->gu a H' (L.ad n) n (rest x)->Q .aQ H'):yJ a [.ref L.p,.ref (L.ad n)] H Q E:=⟨L,k,n,x,rfl,h,hx,q⟩
theorem Mu (T:Txt K mg a):aP P w K mg base eG 7 a.cU a.tM ["self","bell"] (yJ a):=by
 have cl:=T.aL;have n1:=T.a9;have cb:=T.aT;have n2:=T.bz
 have Iw:=T.om
 have JV:=Ea (P:=P) (w:=w) (base:=base) T
 refine T.nZ.ok BH (fun vs H Q E h=>?_) (fun c7 A outer s H vs Q E hr h=>?_)
 . obtain⟨_,_,_,_,rfl,_⟩:=h;rfl
 . obtain⟨L,k,n,x,rfl,hk,hx,q⟩:=h
   have hi:=hk.ins
   unfold bp at hi
   refine⟨_,(ag (aF (aB (pv 0) cl Iw JV (hr.mono (by decide)) (ae (pv 1) af)))
    (ah (aF (iy Lu On PM qm (au (pv 0) rfl) (ae (au (pv 1) rfl) af))))),?_⟩
   repeat' (walk_at "rd1")
   refine LQ hk hx (fun H1 CA lq=>?_)
   have vR:=lq.ins
   unfold bp at vR
   have hB:=lq.bl n (rest x) aG
   obtain⟨fs,hb,l1,l2,l3,l4,l5,l6,l7,l8,l9,l10,Zg,WM,XI,Zj⟩:=hB.oJ
   obtain⟨ns,b1,b2,b3⟩:=lq.bd
   have hn:n∈ns:=by rw [b3];show(cQ k.f n (some _) n).isSome=true;rw [aG];rfl
   repeat' (walk_at "rd1")
   refine S9 b1 hn (fun H2 gH Yu=>?_)
   repeat' (walk_at "rd1")
   obtain⟨ll,zx⟩:=lq.pop T b1 b2 b3 gH Yu
   have ll:cE a H2 L {k with f:=cQ (cQ k.f n (some (rest x))) n none,t:=cQ k.t n none}:=ll
   rw [pM] at ll
   exact q _ (CA.trans zx) ll (hB.mvD gH b1)
theorem JP (T:Txt K mg a):df P w K mg base 7 a.cU ["self","bell"] [] (yJ a):=
 ⟨⟨_,_,Mu T,T.nZ.binds fun _ _ _ _ _ _=>dJ fun _ _=>rfl,.nil⟩⟩
def Ar (n:Str):BB:=.tuple [.str "over",.str n]
def yT (a:Ad):Sp:=fun vs H Q _=>∃L k n x,vs=[.ref L.p,.ref (L.ad n)]/\cE a H L k/\k.f n=some x/\∀q H',qY a L H H'->H q=none->ub L.wp H' q [Ar n]->cE a H' L {k with f:=cQ k.f n none,t:=cQ k.t n none}->Q (.ref q) H'
theorem Ht {L:Lay} {k:KS} {n:Str} {x:iS} (h:cE a H L k) (hx:k.f n=some x) (q:∀q H',qY a L H H'->H q=none->ub L.wp H' q [Ar n]->cE a H' L {k with f:=cQ k.f n none,t:=cQ k.t n none}->Q (.ref q) H'):yT a [.ref L.p,.ref (L.ad n)] H Q E:=⟨L,k,n,x,rfl,h,hx,q⟩
theorem NK (T:Txt K mg a):aP P w K mg base eG 8 a.cZ a.sD ["self","bell"] (yT a):=by
 have cl:=T.aL;have cb:=T.aT;have n2:=T.bz
 have Qo:=T.qO
 have QT:=JP (P:=P) (w:=w) (base:=base) T
 refine T.nV.ok Az (fun vs H Q E h=>?_) (fun c7 A outer s H vs Q E hr h=>?_)
 . obtain⟨_,_,_,_,rfl,_⟩:=h;rfl
 . obtain⟨L,k,n,x,rfl,hk,hx,q⟩:=h
   have hi:=hk.ins
   unfold bp at hi
   refine⟨_,(ag (aF (aB (pv 0) cl Qo QT (hr.mono (by decide)) (ae (pv 1) af)))
    (ah (aD (b9 (ae (dS (ae jy (ae (au (pv 1) rfl) af))) af))))),?_⟩
   repeat' (walk_at "rd1")
   refine RW hk hx (fun H1 CA lq hB=>?_)
   obtain⟨fs,hb,l1,l2,l3,l4,l5,l6,l7,l8,l9,l10,Zg,WM,XI,Zj⟩:=hB.oJ
   repeat' (walk_at "rd1")
   rename_i v2 H2 s2 Rp q3 H3 s3 pU pL
   exact q _ _ ((CA.step s2).step s3) (CA.none (s2.none pU)) ⟨pL,(lq.keeps s2).new pU s3⟩ ((lq.keeps s2).keeps s3)
theorem vh (T:Txt K mg a):df P w K mg base 8 a.cZ ["self","bell"] [] (yT a):=
 ⟨⟨_,_,NK T,T.nV.binds fun _ _ _ _ _ _=>dJ fun _ _=>rfl,.nil⟩⟩
def eR (k:KS) (x:iS):Int:=k.now+lead x k.sh
def layB (k:KS) (x:iS) (l:Int):iS:=sV (rest x) l (eR k x)
def tu (k:KS) (n:Str) (x:iS) (l:Int):KS:=match (layB k x l).st with
 |none=>{k with f:=cQ k.f n none,t:=cQ k.t n none}
 |some (f',l')=>{k with f:=cQ k.f n (some (wait (layB k x l) k.now k.sh f' l')),t:=cQ k.t n (some (l' - lead x k.sh))}
def yS (k:KS) (n:Str) (x:iS) (l:Int):List BB:=missed n (rest x) l (eR k x)++(match (layB k x l).st with
 |none=>[Ar n]
 |some _=>[])
structure wG (k:KS) (x:iS) (f l:Int):Prop where
 st:x.st=some (f,l)
 hm:x.hm=none
 n0:0<=x.no
 n1:x.no<10^99
 t1:eR k x<10^80
 t2:eR k x - l<10^80
theorem Dp (k:KS) (x:iS) (l sh:Int):lead (layB k x l) sh=lead x sh:=by unfold layB sV;split <;>rfl
theorem gu.ris {n:Str} {x:iS} (h:gu a H b n x):∃v,qL a H v x.ru:=let ⟨rv,_,_,h2,_⟩:=h;⟨rv,h2⟩
theorem Vt {k:KS} {x:iS} {f f' l':Int} (hR:qL a H v x.ru) (ok:wG k x f l) (e:(layB k x l).st=some (f',l')):eR k x<l':=by
 unfold layB sV at e
 split at e
 . rename_i h
   have e:x.st=some (f',l'):=e
   rw [ok.st] at e
   cases e
   exact h
 . exact(aam (r:=x.ru) (n:=x.no) (s:=l) (t:=eR k x) hR e).1
def IA (a:Ad):Sp:=fun vs H Q _=>∃L k n x f l,vs=[.ref L.p,.ref (L.ad n)]/\cE a H L k/\k.f n=some x/\wG k x f l/\∀q H',qY a L H H'->H q=none->ub L.wp H' q (yS k n x l)->cE a H' L (tu k n x l)->Q (.ref q) H'
theorem VQ {L:Lay} {k:KS} {n:Str} {x:iS} {f:Int} (h:cE a H L k) (hx:k.f n=some x) (ok:wG k x f l) (q:∀q H',qY a L H H'->H q=none->ub L.wp H' q (yS k n x l)->cE a H' L (tu k n x l)->Q (.ref q) H'):IA a [.ref L.p,.ref (L.ad n)] H Q E:=⟨L,k,n,x,f,l,rfl,h,hx,ok,q⟩
theorem Y7 (T:Txt K mg a):aP P w K mg base eG 9 a.fP a.zu ["self","bell"] (IA a):=by
 have cl:=T.aL;have cb:=T.aT
 have Iw:=T.om;have Jl:=T.nF;have vn:=T.jj;have sZ:=T.ia;have IX:=T.ni
 have JV:=Ea (P:=P) (w:=w) (base:=base) T
 have I9:=GU (P:=P) (w:=w) (base:=base) T
 have uY:=Dj (P:=P) (w:=w) (base:=base) T
 have tQ:=vh (P:=P) (w:=w) (base:=base) T
 have JZ:=GY (P:=P) (w:=w) (base:=base) T
 have zL:=MV (P:=P) (w:=w) (base:=base) T
 have lO:=BQ (P:=P) (w:=w) (base:=base) T
 refine T.ve.ok zb (fun vs H Q E h=>?_) (fun c7 A outer s H vs Q E hr h=>?_)
 . obtain⟨_,_,_,_,_,_,rfl,_⟩:=h;rfl
 . obtain⟨L,k,n,x,f,l,rfl,hk,hx,ok,q⟩:=h
   have hi:=hk.ins
   unfold bp at hi
   obtain⟨rv,hR⟩:=(hk.bl n x hx).ris
   refine⟨_,(ag (aF (aB (pv 0) cl Iw JV (hr.mono (by decide)) (ae (pv 1) af)))
    (ag (bB (iY (bI (aB (pv 0) cl Jl I9 (hr.mono (by decide)) (ae (pv 1) af)) (fun _=>rfl)))
     (ah (aD (b9 af)))
     aN)
    (ag (aE (i:=2) zb.nd rfl (FS rfl) (aB (pv 1) T.aT T.qJ zL (hr.mono (by decide)) (ae (aB (pv 0) cl vn uY (hr.mono (by decide)) (ae (pv 1) af)) af)))
    (ag (bB (bI (eF (pv 1) T.aT T.lX lO (hr.mono (by decide))) (fun _=>rfl))
     (ah (aD (aC JO (pv 2) (aB (pv 0) cl sZ tQ (hr.mono (by decide)) (ae (pv 1) af)))))
     aN)
    (ag (aF (aB (pv 0) cl IX JZ (hr.mono (by decide)) (ae (pv 1) af)))
    (ah (aD (pv 2)))))))),?_⟩
   repeat' (walk_at "rd1")
   refine LQ hk hx (fun H1 CA lq=>?_)
   have vR:=lq.ins
   unfold bp at vR
   have J3:=lq.bl n (rest x) aG
   obtain⟨fs,hb,l1,l2,l3,l4,l5,l6,l7,l8,l9,l10,Zg,WM,XI,Zj⟩:=J3.oJ
   repeat' (walk_at "rd1")
   refine Nf J3 ok.hm ?_
   repeat' (walk_at "rd1")
   refine LC lq J3 ?_
   repeat' (walk_at "rd1")
   refine T5 J3 ok.st ok.n0 ok.n1 ok.t1 ok.t2 (fun q2 H2 gH mR vz Si=>?_)
   obtain⟨ll,zx⟩:=lq.Uv T (x:=rest x) aG gH Si
   have ll:cE a H2 L {k with f:=cQ (cQ k.f n (some (rest x))) n (some (layB k x l)),t:=cQ k.t n none}:=ll
   have Si:gu a H2 (L.ad n) n (layB k x l):=Si
   have vz:dg H2 q2 (missed n (rest x) l (eR k x)):=vz
   rw [pM] at ll
   have no2:=lq.mj T (x:=rest x) aG mR gH
   have J1:=ll.ins
   unfold bp at J1
   obtain⟨fs2,Ih,_,o2,_⟩:=Si.oJ
   have hgt:∀{f' l':Int},(layB k x l).st=some (f',l')->eR k x<l':=fun e=>Vt hR ok e
   unfold yS tu at q
   cases uh:(layB k x l).st with
   |none=>
    rw [uh] at q
    repeat' (walk_at "rd1")
    . refine Ht ll aG (fun q3 H3 yn pU pL rp=>?_)
      have rp:cE a H3 L {k with f:=cQ (cQ k.f n (some (layB k x l))) n none,t:=cQ (cQ k.t n none) n none}:=rp
      rw [pM,pM] at rp
      have af7:=yn.lat no2 vz
      refine JU af7 pL.1 (by unfold missed;split <;>exact LF rfl) (fun q4 H4 s4 LR Ed=>?_)
      repeat' (walk_at "rd1")
      exact q _ _ (((CA.trans zx).trans yn).step s4) (CA.none (zx.none (yn.none LR))) ⟨Ed,rp.new LR s4⟩ (rp.keeps s4)
    . rename_i hb
      rw [uh] at hb
      cases hb
   |some fl=>
    obtain⟨f',l'⟩:=fl
    rw [uh] at q
    have hgt:=hgt uh
    repeat' (walk_at "rd1")
    . rename_i hb
      rw [uh] at hb
      cases hb
    . refine NP ll aG uh aG (by show k.now<l' - lead (layB k x l) k.sh;rw [Dp];unfold eR at hgt;omega) (fun H3 yn rp=>?_)
      have rp:cE a H3 L {k with f:=cQ (cQ k.f n (some (layB k x l))) n (some (wait (layB k x l) k.now k.sh f' l')),t:=cQ (cQ k.t n none) n (some (l' - lead (layB k x l) k.sh))}:=rp
      rw [pM,pM,Dp] at rp
      repeat' (walk_at "rd1")
      exact q _ _ ((CA.trans zx).trans yn) (CA.none mR) (by rw [NG];exact ub.fr ⟨vz,no2⟩ yn) rp
theorem Kh (T:Txt K mg a):df P w K mg base 9 a.fP ["self","bell"] [] (IA a):=
 ⟨⟨_,_,Y7 T,T.ve.binds fun _ _ _ _ _ _=>dJ fun _ _=>rfl,.nil⟩⟩
theorem ZG {k:KS} {n m:Str} {x:iS} (h:m≠n):(tu k n x l).f m=k.f m:=by
 unfold tu
 split <;>exact b8 h
theorem Qa (k:KS) (n:Str) (x:iS) (l:Int):(tu k n x l).now=k.now/\(tu k n x l).sh=k.sh:=by
 unfold tu
 split <;>exact⟨rfl,rfl⟩
theorem Pw (k:KS) (n:Str) (x:iS) (l:Int):(yS k n x l).length<=3:=by
 unfold yS missed
 rw [Da]
 split <;>split <;>exact LF rfl
theorem wG.same {k k':KS} {x:iS} {f:Int} (h:wG k x f l) (e1:k'.now=k.now) (e2:k'.sh=k.sh):wG k' x f l:=by
 have e:eR k' x=eR k x:=by unfold eR;rw [e1,e2]
 exact⟨h.st,h.hm,h.n0,h.n1,by rw [e];exact h.t1,by rw [e];exact h.t2⟩
theorem Gn {k:KS} {n:Str} {x y:iS}:tu {k with f:=cQ k.f n (some y)} n x l=tu k n x l:=by
 unfold tu
 show(match (layB k x l).st with|none=>_|some (f',l')=>_)=(match (layB k x l).st with|none=>_|some (f',l')=>_)
 cases (layB k x l).st with
 |none=>simp only [pM]
 |some p=>simp only [pM];rfl
def BK (k:KS) (n:Str) (x:iS):List BB:=match Xe x.ru x.no with
 |none=>[Ar n]
 |some (_,l)=>yS k n (zX x) l
def wM (k:KS) (n:Str) (x:iS):KS:=match Xe x.ru x.no with
 |none=>{k with f:=cQ k.f n none,t:=cQ k.t n none}
 |some (_,l)=>tu k n (zX x) l
theorem Zv {r:RU} {f:Int} (h:qL a H v r) (hn:0<=n) (e:Xe r n=some (f,l)):0<=f/\f<=l:=by
 cases r with
 |once=>cases e
def x4 (a:Ad):Sp:=fun vs H Q _=>∃L k n x t,vs=[.ref L.p,.ref (L.ad n),.int t]/\cE a H L k/\k.f n=some x/\x.hm=none/\0<=x.no/\x.no<10^50/\eR k x<10^79/\∀q H',qY a L H H'->H q=none->ub L.wp H' q (BK k n x)->cE a H' L (wM k n x)->Q (.ref q) H'
theorem O1 {L:Lay} {k:KS} {n:Str} {x:iS} (h:cE a H L k) (hx:k.f n=some x) (hm:x.hm=none) (h0:0<=x.no) (h1:x.no<10^50) (h2:eR k x<10^79) (q:∀q H',qY a L H H'->H q=none->ub L.wp H' q (BK k n x)->cE a H' L (wM k n x)->Q (.ref q) H'):x4 a [.ref L.p,.ref (L.ad n),.int t] H Q E:=⟨L,k,n,x,t,rfl,h,hx,hm,h0,h1,h2,q⟩
theorem MY (T:Txt K mg a):aP P w K mg base eG 10 a.cW a.rW ["self","bell","at"] (x4 a):=by
 have cl:=T.aL;have cb:=T.aT
 have sZ:=T.ia;have QW:=T.p8
 have tQ:=vh (P:=P) (w:=w) (base:=base) T
 have Ql:=Kh (P:=P) (w:=w) (base:=base) T
 have C7:=QY (P:=P) (w:=w) (base:=base) T
 have lO:=BQ (P:=P) (w:=w) (base:=base) T
 refine T.n9.ok Aw (fun vs H Q E h=>?_) (fun c7 A outer s H vs Q E hr h=>?_)
 . obtain⟨_,_,_,_,_,rfl,_⟩:=h;rfl
 . obtain⟨L,k,n,x,t,rfl,hk,hx,hm,h0,h1,h2,q⟩:=h
   have hi:=hk.ins
   unfold bp at hi
   have hB:=hk.bl n x hx
   obtain⟨rv,sv,hI,hR,hd⟩:=id hB
   unfold eK at hI
   refine⟨_,(ag (aF (aB (pv 1) T.aT T.uH C7 (hr.mono (by decide)) (ae (pv 2) af)))
    (ag (bB (bI (eF (pv 1) T.aT T.lX lO (hr.mono (by decide))) (fun _=>rfl))
     (ah (aD (aB (pv 0) cl sZ tQ (hr.mono (by decide)) (ae (pv 1) af))))
     aN)
    (ah (aD (aB (pv 0) cl QW Ql (hr.mono (by decide)) (ae (pv 1) af)))))),?_⟩
   repeat' (walk_at "rd1")
   refine Zk hB h0 h1 (fun H1 iE J3=>?_)
   obtain⟨lq,CA⟩:=hk.Uv T hx iE J3
   have vR:=lq.ins
   unfold bp at vR
   obtain⟨fs1,Ke,_,o1,_⟩:=J3.oJ
   have est:(zX x).st=Xe x.ru x.no:=rfl
   unfold BK wM at q
   cases uh:Xe x.ru x.no with
   |none=>
    rw [uh] at q est
    repeat' (walk_at "rd1")
    . refine Ht lq aG (fun q3 H3 yn pU pL rp=>?_)
      have rp:cE a H3 L {k with f:=cQ (cQ k.f n (some (zX x))) n none,t:=cQ k.t n none}:=rp
      rw [pM] at rp
      repeat' (walk_at "rd1")
      exact q _ _ (CA.trans yn) (CA.none pU) pL rp
    . rename_i hb
      rw [est] at hb
      cases hb
   |some fl=>
    obtain⟨f,l⟩:=fl
    rw [uh] at q est
    have QQ:=Zv hR h0 uh
    have hsw:eR {k with f:=cQ k.f n (some (zX x))} (zX x)=eR k x:=rfl
    have eE:yS {k with f:=cQ k.f n (some (zX x))} n (zX x) l=yS k n (zX x) l:=rfl
    repeat' (walk_at "rd1")
    . rename_i hb
      rw [est] at hb
      cases hb
    . refine VQ lq aG ⟨est,hm,by show 0<=x.no+1;omega,by show x.no+1<10^99;omega,by rw [hsw];omega,by rw [hsw];omega⟩ (fun q3 H3 yn pU pL rp=>?_)
      rw [Gn] at rp
      rw [eE] at pL
      repeat' (walk_at "rd1")
      exact q _ _ (CA.trans yn) (CA.none pU) pL rp
theorem Jq (T:Txt K mg a):df P w K mg base 10 a.cW ["self","bell","at"] [] (x4 a):=
 ⟨⟨_,_,MY T,T.n9.binds fun _ _ _ _ _ _=>jr fun _ _ _=>rfl,.nil⟩⟩
theorem Yv {k:KS} {n m:Str} {x:iS} (h:m≠n):(wM k n x).f m=k.f m:=by
 unfold wM
 split
 . exact b8 h
 . exact ZG h
theorem OD (k:KS) (n:Str) (x:iS):(wM k n x).now=k.now/\(wM k n x).sh=k.sh:=by
 unfold wM
 split
 . exact⟨rfl,rfl⟩
 . exact Qa _ _ _ _
theorem AA (k:KS) (n:Str) (x:iS):(BK k n x).length<=3:=by
 unfold BK
 split
 . simp
 . exact Pw _ _ _ _
def KI (H H':Hp):Prop:=∀x o,H x=some o->(∀xs,o≠.lst xs)->H' x=some o
section
variable {H1:Hp} {L:Lay} {k:KS} {n:Str} {x:iS}
theorem Ys (m:Mv [q] H H') (h:dg H q ds):KI H H':=fun y o e nl=>m.kp y o (fun z=>by
 obtain⟨xs,e2,_⟩:=h
 rw [AR.mp z,e2] at e
 cases e
 exact nl _ rfl) e
theorem KI.ins {C:Addr} {v:V} {fs:List (Str × V)} (s:KI H H') (h:jF H v C fs):jF H' v C fs:=by
 obtain⟨p,dx,rfl,e⟩:=h
 exact⟨p,dx,rfl,s _ _ e (by intro _ z;cases z)⟩
theorem KI.tup (s:KI H H'):∀a xs,H a=some (.tup xs)->H' a=some (.tup xs):=fun _ _ e=>s _ _ e (by intro _ z;cases z)
theorem KI.ris {r:RU} (s:KI H H') (h:qL a H v r):qL a H' v r:=by cases r <;>exact⟨s.ins h.1,h.2⟩
theorem KI.bat (s:KI H H') (h:gu a H b n x):gu a H' b n x:=by
 obtain⟨rv,sv,h1,h2,h3⟩:=h
 exact⟨rv,sv,s.ins h1,s.ris h2,h3.yw s.tup (tV _)⟩
theorem cE.ext (h:cE a H L k) {ds':List BB} (hq:ub L.wp H q ds) (m:Mv [q] H H') (vP:dg H' q ds'):cE a H' L k/\ub L.wp H' q ds':=by
 obtain⟨kd,S,ts,w1,w2,w3⟩:=h.wt
 obtain⟨ns,b1,b2,b3⟩:=h.bd
 have s:=Ys m hq.1
 have t7:∀b∈S,b∉[q]:=fun b hb z=>by
  obtain⟨xs,e,_⟩:=hq.1
  rw [<-AR.mp z] at e
  rcases w1.kind hb e with⟨_,_,_,r,_⟩|⟨_,_,l⟩|⟨_,r⟩
  . cases r
  . exact hq.2 (AR.mp z▸l)
  . cases r
 exact⟨⟨s.ins h.ins,⟨kd,S,ts,w1.mv m t7,w2,w3⟩,⟨ns,s _ _ b1 (by intro _ z;cases z),b2,b3⟩,fun n x e=>s.bat (h.bl n x e),h.ne,h.nl,h.nt,h.nf,fun b hb z=>h.pl b hb (m.dm _ z)⟩,vP,fun z=>hq.2 (uJ h.al (fun o e=>m.kp _ o (t7 _ w1.self) e) z)⟩
theorem cE.wne (h:cE a H L k) (hq:dg H q ds):L.wp∉[q]:=fun z=>by
 obtain⟨xs,e,_⟩:=hq
 rw [<-AR.mp z] at e
 obtain⟨_,_,_,⟨h0,⟨_,d,_,h1⟩|⟨_,d,m,us,G,d9,_,hc,h1⟩⟩,_⟩:=h.wt
 . obtain⟨_,e1⟩:=h1.ex
   rw [e] at e1;cases e1
 . obtain⟨_,e1⟩:=h1.ws.ex
   rw [e] at e1;cases e1
theorem cE.ahs (h:cE a H L k) {y:Addr} (hq:dg H q ds) (m:Mv [q] H H') (no:¬Lw H L.wp y):¬Lw H' L.wp y:=fun z=>no (uJ h.al (fun o e=>m.kp _ o (h.wne hq) e) z)
theorem Ky {cs pd:List Addr} (f:jR cs p pd H H1) (m:Mv [q] H1 H') (hn:H q=none):jR cs p pd H H':=
 have hpq:p∉[q]:=fun z=>f.al (by rw [AR.mp z];exact hn)
 ⟨f.al,fun y o e a b c=>m.kp y o (fun z=>by rw [AR.mp z,hn] at e;cases e) (f.kp y o e a b c),fun y e=>f.dm y (m.dm y e),fun y xs l e=>f.lw y xs (uJ f.al' (fun o e=>m.kp _ o hpq e) l) e⟩
end
theorem HR (h:dg H p (ss.map EQ)):H p=some (.lst (ss.map V.str)):=by
 obtain⟨xs,e,dv,im⟩:=h
 have:xs=ss.map V.str:=by
  clear e im
  induction ss generalizing xs with
  |nil=>cases dv;rfl
  |cons s ss ih=>
   cases dv with
   |cons h r=>
    rw [h.str_inv,ih _ r];rfl
 rw [this] at e
 exact e
theorem La {f:Str->V} (hp:qE H p ns f) (hl:ns.length<64) (h:∀q H' ss,ay H H'->H q=none->ss.Perm ns->Vm ss->dg H' q (ss.map EQ)->Q (.ref q) H'):Lr [.ref p] H Q:=⟨_,rfl,p,_,ns,rfl,hp,qE.acd,hl,h⟩
def An (k:KS) (ss:List Str):Prop:=Vm ss/\∀n,n∈ss↔(k.f n).isSome=true
theorem cE.len {L:Lay} {k:KS} (h:cE a H L k) (b2:ns.Nodup) (b3:∀n,n∈ns↔(k.f n).isSome=true):ns.length<60:=by
 have:=Bx b2 (m:=L.nm) fun y hy=>h.nf y ((b3 y).mp hy)
 have:=h.nl
 omega
theorem An.len {L:Lay} {k:KS} (h:cE a H L k) (hs:An k ss) (nd:ss.Nodup):ss.length<60:=h.len nd hs.2
def Eu (a:Ad):Sp:=fun vs H Q _=>∃L k,vs=[.ref L.p]/\cE a H L k/\∀q H' ss,ay H H'->H q=none->An k ss->ss.Nodup->H' q=some (.lst (ss.map fun n=>.ref (L.ad n)))->Q (.ref q) H'
theorem Yz {L:Lay} {k:KS} (h:cE a H L k) (q:∀q H' ss,ay H H'->H q=none->An k ss->ss.Nodup->H' q=some (.lst (ss.map fun n=>.ref (L.ad n)))->Q (.ref q) H'):Eu a [.ref L.p] H Q E:=⟨L,k,rfl,h,q⟩
theorem UH (T:Txt K mg a):aP P w K mg base eG 4 a.bF a.nA ["self"] (Eu a):=by
 have cl:=T.aL;have n1:=T.a9
 refine T.jz.ok xQ (fun vs H Q E h=>?_) (fun c7 A outer s H vs Q E hr h=>?_)
 . obtain⟨_,_,rfl,_⟩:=h;rfl
 . obtain⟨L,k,rfl,hk,q⟩:=h
   have hi:=hk.ins
   unfold bp at hi
   obtain⟨ns,b1,b2,b3⟩:=hk.bd
   have hlen:=hk.len b2 b3
   refine⟨_,(ah (aD (xH (T:=["name"]) (M:=["self"]) (R4 (ao gn) ["self"] rfl rfl (by decide+kernel)) rfl (cR (aU (Cu rfl) rfl T.e7 Q1 (ae (au (pv 0) rfl) af))) (fun _ _ _ _ _=>(a0 (i:=0) (show OE (["name","self"]:List Str) by decide+kernel) rfl (FS rfl))) (fX (by decide)) (fun _ _ _ _ _=>tS) (fun _ _ _ _ _=>(mM (iz hr) (Aj (K:=K) rfl (pv 1) rfl) (pv 0) (fun _ _=>rfl)))))),?_⟩
   repeat' (walk_at "rd1")
   refine La b1 (by omega) (fun q1 H1 ss s1 mI DT R8 yC=>?_)
   have hN:An k ss:=⟨R8,fun n=>by rw [DT.mem_iff,b3]⟩
   have V1:ss.length=ns.length:=DT.length_eq
   refine Wq (xs:=ss.map V.str) (.inl (.inl (HR yC))) (by rw [AE];omega) (fun i acc H'=>ay H1 H'/\acc=(ss.take i).map fun n=>.ref (L.ad n)) ⟨ay.refl _,rfl⟩ (fun i acc H' hi ⟨s2,e⟩=>⟨ay.seq s2 (.inl (.inl (HR yC))),by rw [e,AE,AE,KM];omega⟩) (fun i x acc H' N hx ⟨s2,e⟩ yes no=>?_) (fun acc H' q2 ⟨s2,e⟩ mR=>?_)
   . rw [Fa] at hx
     obtain⟨n,hn,rfl⟩:=NO.mp hx
     have mK:n∈ns:=DT.mem_iff.mp (Cf hn)
     have J1:=(hi.keeps s1).keeps s2
     have b12:=(b1.keeps s1).keeps s2
     repeat' (walk_at "rd1")
     refine oO (fun _=>?_) (fun hb=>by cases hb)
     repeat' (walk_at "rd1")
     exact yes _ _ ⟨s2,by rw [AbZ hn,CS,e];rfl⟩
   . rw [AE,SO] at e
     refine q q2 _ ss ((s1.trans s2).trans (cP mR)) ((s1.trans s2).none mR) hN (DT.nodup_iff.mpr b2) ?_
     rw [av,e]
theorem QJ (T:Txt K mg a):df P w K mg base 4 a.bF ["self"] [] (Eu a):=
 ⟨⟨_,_,UH T,T.jz.binds fun _ _ _ _ _ _=>kO fun _=>rfl,.nil⟩⟩
def Eo (a:Ad):Sp:=fun vs H Q _=>∃L k n x b,vs=[.ref L.p,.ref b]/\cE a H L k/\k.f n=none/\n∈L.nm/\gu a H b n x/\∀H',qY a L H H'->cE a H' {L with ad:=cQ L.ad n b} {k with f:=cQ k.f n (some x)}->Q .aQ H'
theorem aak {L:Lay} {k:KS} {n:Str} {x:iS} (h:cE a H L k) (hx:k.f n=none) (hm:n∈L.nm) (hb:gu a H b n x) (q:∀H',qY a L H H'->cE a H' {L with ad:=cQ L.ad n b} {k with f:=cQ k.f n (some x)}->Q .aQ H'):Eo a [.ref L.p,.ref b] H Q E:=⟨L,k,n,x,b,rfl,h,hx,hm,hb,q⟩
theorem UU (T:Txt K mg a):aP P w K mg base eG 4 a.eL a.wO ["self","bell"] (Eo a):=by
 have cl:=T.aL;have n1:=T.a9;have cb:=T.aT;have n2:=T.bz
 refine T.tq.ok FE (fun vs H Q E h=>?_) (fun c7 A outer s H vs Q E hr h=>?_)
 . obtain⟨_,_,_,_,_,rfl,_⟩:=h;rfl
 . obtain⟨L,k,n,x,b,rfl,hk,hx,hm,hB,q⟩:=h
   have hi:=hk.ins
   unfold bp at hi
   obtain⟨ns,b1,b2,b3⟩:=hk.bd
   have hlen:=hk.len b2 b3
   obtain⟨fs,hb,l1,l2,l3,l4,l5,l6,l7,l8,l9,l10,Zg,WM,XI,Zj⟩:=hB.oJ
   have QQ:n∉ns:=fun z=>by rw [b3,hx] at z;cases z
   refine⟨_,(ah (t6 (iz hr) (au (pv 0) rfl) (au (pv 1) rfl) (pv 1) rfl)),?_⟩
   repeat' (walk_at "rd1")
   refine Tq b1 (by omega) QQ (fun H2 gH Yu=>?_)
   repeat' (walk_at "rd1")
   obtain⟨ll,zx⟩:=hk.agI T b1 b2 b3 hx hm hB gH Yu
   exact q _ zx ll
theorem OL (T:Txt K mg a):df P w K mg base 4 a.eL ["self","bell"] [] (Eo a):=
 ⟨⟨_,_,UU T,T.tq.binds fun _ _ _ _ _ _=>dJ fun _ _=>rfl,.nil⟩⟩
def JG (a:Ad):Sp:=fun vs H Q _=>∃L k n rv r wt dy,vs=[.ref L.p,.str n,rv,.int wt,.aQ,.bl dy]/\cE a H L k/\k.f n=none/\n∈L.nm/\qL a H rv r/\1<=wt/\wG k (mj r wt none dy) (N5 r).1 (N5 r).2/\∀q H' b,qY a L H H'->H q=none->ub L.wp H' q (yS k n (mj r wt none dy) (N5 r).2)->cE a H' {L with ad:=cQ L.ad n b} (tu k n (mj r wt none dy) (N5 r).2)->Q (.ref q) H'
theorem ac0 {L:Lay} {k:KS} {n:Str} {r:RU} {wt:Int} {dy:Bool} (h:cE a H L k) (hx:k.f n=none) (hm:n∈L.nm) (hR:qL a H rv r) (hw:1<=wt) (ok:wG k (mj r wt none dy) (N5 r).1 (N5 r).2) (q:∀q H' b,qY a L H H'->H q=none->ub L.wp H' q (yS k n (mj r wt none dy) (N5 r).2)->cE a H' {L with ad:=cQ L.ad n b} (tu k n (mj r wt none dy) (N5 r).2)->Q (.ref q) H'):JG a [.ref L.p,.str n,rv,.int wt,.aQ,.bl dy] H Q E:=⟨L,k,n,rv,r,wt,dy,rfl,h,hx,hm,hR,hw,ok,q⟩
theorem XQ (T:Txt K mg a):aP P w K mg base eG 13 a.eT a.nY ["self","name","rule","weight","group","by_day"] (JG a):=by
 have cl:=T.aL;have n1:=T.a9;have cb:=T.aT
 have Xk:=T.uD;have QW:=T.p8
 have Zd:=OL (P:=P) (w:=w) (base:=base) T
 have Ql:=Kh (P:=P) (w:=w) (base:=base) T
 have Pr:=IH (P:=P) (w:=w) (base:=base) T
 refine T.qe.ok uv (fun vs H Q E h=>?_) (fun c7 A outer s H vs Q E hr h=>?_)
 . obtain⟨_,_,_,_,_,_,_,rfl,_⟩:=h;rfl
 . obtain⟨L,k,n,rv,r,wt,dy,rfl,hk,hx,hm,hR,hw,ok,q⟩:=h
   have hi:=hk.ins
   unfold bp at hi
   obtain⟨ns,b1,b2,b3⟩:=hk.bd
   have QQ:n∉ns:=fun z=>by rw [b3,hx] at z;cases z
   refine⟨_,(ag (bB (E4 (R5 (iz hr) (pv 1) (au (pv 0) rfl)) rfl)
    (ah fA)
    aN)
    (ag (bB (PW.pt (vG (aI tT (pv 4) eC (aK _)) (pR (iY (bI Ci (fun _=>rfl))))))
     (ah fA)
     aN)
    (ag (bB (aI zh (pv 3) aq (aK _))
     (ah fA)
     aN)
    (ag (aE (i:=6) uv.nd rfl (FS rfl) (mX T.Ot Pr (hr.mono (by decide)) rfl T.LU (ae (pv 1) (ae (pv 2) (ae (pv 3) (ae (pv 4) (ae (pv 5) af)))))))
    (ag (aF (aB (pv 0) cl Xk Zd (hr.mono (by decide)) (ae (pv 6) af)))
    (ah (aD (aB (pv 0) cl QW Ql (hr.mono (by decide)) (ae (pv 6) af))))))))),?_⟩
   repeat' (walk_at "rd1")
   . rename_i o e1 e2 hb
     exact absurd (e1.mp hb) QQ
   . refine Ui (hm:=none) rfl hR (fun b H1 s1 mI J3=>?_)
     have lq:=hk.keeps s1
     have vR:=lq.ins
     unfold bp at vR
     repeat' (walk_at "rd1")
     refine aak lq hx hm J3 (fun H2 zx ll=>?_)
     have J1:jF H2 (.ref L.p) a.ak (bp {L with ad:=cQ L.ad n b} k.now k.sh):=ll.ins
     unfold bp at J1
     repeat' (walk_at "rd1")
     have eb:b=({L with ad:=cQ L.ad n b}:Lay).ad n:=aG.symm
     rw [show(V.ref b)=V.ref (({L with ad:=cQ L.ad n b}:Lay).ad n) by rw [<-eb]]
     refine VQ (L:={L with ad:=cQ L.ad n b}) ll (x:=mj r wt none dy) aG (ok.same rfl rfl) (fun q3 H3 yn pU pL rp=>?_)
     repeat' (walk_at "rd1")
     have yn:qY a L H2 H3:=yn
     rw [Gn] at rp
     exact q _ _ b (((eB hk.al s1).trans zx).trans yn) (s1.none (zx.none pU)) pL rp
def sU (t:Str->Option Int) (to:Int):Str->Option Int:=fun n=>(t n).filter fun u=>decide (to<u)
def yx (a:Ad):Sp:=fun vs H Q _=>∃L k to,vs=[.ref L.p,.int to]/\cE a H L k/\k.now<=to/\∀q H' ks,qY a L H H'->H q=none->(∀u n,(u,n)∈ks↔k.t n=some u/\u<=to)->ZK ks->(ks.map (·.2)).Nodup->ub L.wp H' q ((ks.map (·.2)).map EQ)->cE a H' L {k with now:=to,t:=sU k.t to}->Q (.ref q) H'
theorem QX {L:Lay} {k:KS} (h:cE a H L k) (h0:k.now<=to) (q:∀q H' ks,qY a L H H'->H q=none->(∀u n,(u,n)∈ks↔k.t n=some u/\u<=to)->ZK ks->(ks.map (·.2)).Nodup->ub L.wp H' q ((ks.map (·.2)).map EQ)->cE a H' L {k with now:=to,t:=sU k.t to}->Q (.ref q) H'):yx a [.ref L.p,.int to] H Q E:=⟨L,k,to,rfl,h,h0,q⟩
theorem L8 (T:Txt K mg a):aP P w K mg base eG 7 a.cD a.qq ["self","time"] (yx a):=by
 have cl:=T.aL;have n1:=T.bu;have n2:=T.bx;have cr:=T.ez;have cw:=T.aO
 have L0:=HB (P:=P) (w:=w) (base:=base) T T.Nc T.uR (HC T)
 have Fl:=HB (P:=P) (w:=w) (base:=base) T T.tU T.pe (Jo T)
 refine T.mx.ok zH (fun vs H Q E h=>?_) (fun c7 A outer s H vs Q E hr h=>?_)
 . obtain⟨_,_,_,rfl,_⟩:=h;rfl
 . obtain⟨L,k,to,rfl,hk,h0,q⟩:=h
   obtain⟨p,dx,e,hi⟩:=hk.ins
   cases e
   have iE:=Mv.aS (o:=.ins a.ak dx (bp L to k.sh)) hi (by intro _ z;cases z)
   obtain⟨kd,S,ts,w1,w2,w3⟩:=hk.wt
   obtain⟨ns,b1,b2,b3⟩:=hk.bd
   have hlen:=hk.ZZ w1 w3
   have N1:=hk.noB T hi T.nK _ _ _ w1
   have fk1:qY a L H _:=jR.RE hk.al iE hi (AL _ BC) fun z=>N1 _ w1.self (by simp [z])
   have fi1:jR [a.ak] L.wp L.pd H _:=jR.RE hk.al iE hi BC fun z=>N1 _ w1.self (by simp [z])
   have vR:upd H L.p (.ins a.ak dx (bp L to k.sh)) L.p=some (.ins a.ak dx (bp L to k.sh)):=av
   have hbp:L.bd∉[L.p]:=fun z=>by rw [<-AR.mp z,b1] at hi;cases hi
   have hkb:∀y z,k.f y=some z->gu a (upd H L.p (.ins a.ak dx (bp L to k.sh))) (L.ad y) y z:=fun y z hz=>Ft T fi1 (by simpa using T.fJ)
    (by simpa using T.iO)
    (hk.bl y z hz)
   unfold bp at hi
   refine⟨_,(cN (aV (pv 0) (pv 1) rfl)
    (ah (aD (xH (T:=["due","name"]) (M:=["self","time"]) (R4 (ao jm) ["self","time"] rfl rfl (by decide+kernel)) rfl (cR (x5 (aB (au (pv 0) rfl) T.ez T.DY L0 (hr.mono (by decide)) (ae (pv 1) af)) (aB (au (pv 0) rfl) T.aO T.wm Fl (hr.mono (by decide)) (ae (pv 1) af)))) (fun _ _ _ _ _=>(KP (K:=K) (n:=2) rfl rfl (gL (a0 (i:=0) (show OE (["due","name","self","time"]:List Str) by decide+kernel) rfl (FS rfl)) (gL (a0 (i:=1) (show OE (["due","name","self","time"]:List Str) by decide+kernel) rfl (FS rfl)) wN)))) (Gw (pP (by decide) (pP (by decide) D7))) (fun _ _ _ _ _=>tS) (fun _ _ _ _ _=>(pv 1)))))),?_⟩
   refine gw (fun σ' H'=>σ'=[some (.ref L.p),some (.int to)]/\H'=upd H L.p (.ins a.ak dx (bp L to k.sh))) ?_ ?_
   . repeat' (walk_at "rd1")
     exact⟨rfl,rfl⟩
   rintro σ' H1 ⟨rfl,eH⟩
   rw [<-eH] at iE fk1 fi1 vR hkb
   clear eH
   have w1':=w1.mv iE N1
   have hiK:jF H1 (.ref L.p) a.ak (bp L to k.sh):=⟨_,_,rfl,vR⟩
   have aaK:Yb a kd H1 L.wp S to ts (fun v H2=>∃l ks,v=.ref l/\qY a L H1 H2/\H1 l=none/\(∀u n,(u,n)∈ks↔k.t n=some u/\u<=to)/\ZK ks/\(ks.map (·.2)).Nodup/\ks.length<60/\dg H2 l (ks.map pairD)/\cE a H2 L {k with now:=to,t:=sU k.t to}):=fun S' H2 l ks gH zo hs mR Kp MH Cz vz=>by
    have f:=Ag w1' zo gH hs (pd:=L.bd::L.pd) w2
    have f':qY a L H1 H2:=(Ag w1' zo gH hs fun b hb z=>w2 b hb (AL _ z)).wide fun C hC=>by simp only [AD] at hC ⊢;exact .inr (.inr hC)
    refine⟨l,ks,rfl,f',mR,fun u n=>?_,Cz,?_,?_,vz,f.ins T.nK hiK,⟨kd,S',_,zo,fun b hb z=>?_,fun n u=>?_⟩,⟨ns,f.kp _ _ (b1.mv iE hbp) (by intro _ z;cases z) (by intro _ _;exact BC) (by intro _ _ _ z;cases z),b2,b3⟩,fun y z hz=>Ft T f T.nB
     T.nO
     (hkb y z hz),hk.ne,hk.nl,fun y hy=>hk.nt y ?_,hk.nf,fun b hb z=>hk.pl b hb (iE.dm _ (f.dm _ z))⟩
    . rw [MH.mem_iff,AN]
      constructor
      . rintro⟨y,hy,ey⟩
        obtain⟨h1,h2⟩:=B0.mp hy
        cases ey
        exact⟨(w3 _ _).mp h1,of_decide_eq_true h2⟩
      . rintro⟨h1,h2⟩
        exact⟨(n,u),B0.mpr ⟨(w3 n u).mpr h1,decide_eq_true h2⟩,rfl⟩
    . refine(MH.map _).nodup_iff.mpr ?_
      rw [GM]
      exact w1.1.sublist (IR.map _)
    . have:=MH.length_eq
      rw [AE] at this
      have:=JJ (fun x:Str × Int=>decide (x.2<=to)) ts
      omega
    . rcases hs b hb with r|r
      . exact w2 b r z
      . rcases AD.mp z with z|z
        . rw [z,b1.mv iE hbp] at r;cases r
        . exact hk.pl b z (iE.dm _ r)
    . rw [B0,w3]
      show _↔(k.t n).filter _=some u
      simp [Option.filter_eq_some_iff]
    . have hy:((k.t y).filter fun u=>decide (to<u)).isSome=true:=hy
      cases e:k.t y with
      |none=>rw [e] at hy;cases hy
      |some u=>rfl
   unfold bp at hiK
   obtain⟨h00,⟨rfl,d,rfl,h1⟩|⟨rfl,d,m,us,G,d9,rfl,hc,h1⟩⟩:=w1'
   . obtain⟨gs,hw,k1,k2,k3,k4,k5⟩:=h1.oJ (.inl rfl)
     repeat' (walk_at "rd1")
     refine D6 ?_
     repeat' (walk_at "rd1")
     refine Xd h00 h1 (by omega) h0 fun S' H2 l ks a1 a2 a3 a4 a5 a6 a7 a8=>?_
     obtain⟨l,ks,e,fk2,mR,hkm,Cz,Ep,hlk,vz,ll⟩:=aaK S' H2 l ks a1 a2 a3 a4 a5 a6 a7 a8
     cases e
     refine EW (cs:=ks) (gd:=pairD) (fun _=>true) (fun x=>.str x.2) vz.dv (by omega) (fun _=>rfl) (fun y c H' N hc sm' rl yes no=>?_) (fun q3 H3 s3 pU pL=>?_)
     . refine ED rl (fun w1 w2 f1 f2=>?_)
       obtain rfl:=f1.int_inv
       obtain rfl:=f2.str_inv
       repeat' (walk_at "rd1")
       refine oO (fun _=>?_) (fun hb=>by cases hb)
       repeat' (walk_at "rd1")
       exact yes rfl _ _ (ay.refl _) (.str _)
     . rw [qc] at pL
       repeat' (walk_at "rd1")
       exact q q3 H3 ks ((fk1.trans fk2).step s3) (fk1.none (fk2.none pU)) hkm Cz Ep ⟨by rw [GM];exact pL,ll.new pU s3⟩ (ll.keeps s3)
   . obtain⟨gs,hw,k1,k2,k3,k4,k5⟩:=h1.wt.oJ (.inr ⟨_,_,_,rfl⟩)
     repeat' (walk_at "rd1")
     refine D8 ?_
     repeat' (walk_at "rd1")
     refine X5 hc h1 (by omega) h0 fun S' H2 l ks a1 a2 a3 a4 a5 a6 a7 a8=>?_
     obtain⟨l,ks,e,fk2,mR,hkm,Cz,Ep,hlk,vz,ll⟩:=aaK S' H2 l ks a1 a2 a3 a4 a5 a6 a7 a8
     cases e
     refine EW (cs:=ks) (gd:=pairD) (fun _=>true) (fun x=>.str x.2) vz.dv (by omega) (fun _=>rfl) (fun y c H' N hc sm' rl yes no=>?_) (fun q3 H3 s3 pU pL=>?_)
     . refine ED rl (fun w1 w2 f1 f2=>?_)
       obtain rfl:=f1.int_inv
       obtain rfl:=f2.str_inv
       repeat' (walk_at "rd1")
       refine oO (fun _=>?_) (fun hb=>by cases hb)
       repeat' (walk_at "rd1")
       exact yes rfl _ _ (ay.refl _) (.str _)
     . rw [qc] at pL
       repeat' (walk_at "rd1")
       exact q q3 H3 ks ((fk1.trans fk2).step s3) (fk1.none (fk2.none pU)) hkm Cz Ep ⟨by rw [GM];exact pL,ll.new pU s3⟩ (ll.keeps s3)
theorem Cg (T:Txt K mg a):df P w K mg base 7 a.cD ["self","time"] [] (yx a):=
 ⟨⟨_,_,L8 T,T.mx.binds fun _ _ _ _ _ _=>dJ fun _ _=>rfl,.nil⟩⟩
def Gx (a:Ad):Sp:=fun vs H Q _=>∃L k to,vs=[.ref L.p,.int to]/\cE a H L k/\(∀n u,k.t n=some u->u<=to->Q (.bl true) H)/\((∀n u,k.t n=some u->to<u)->Q (.bl false) H)
theorem PR (T:Txt K mg a):aP P w K mg base eG 5 a.bU a.lu ["self","to"] (Gx a):=by
 have cl:=T.aL;have n2:=T.bx;have cr:=T.ez;have cw:=T.aO
 have rB:=qk (P:=P) (w:=w) (base:=base) T T.Nc
 have lD:=qk (P:=P) (w:=w) (base:=base) T T.tU
 refine T.iX.ok mz (fun vs H Q E h=>?_) (fun c7 A outer s H vs Q E hr h=>?_)
 . obtain⟨_,_,_,rfl,_⟩:=h;rfl
 . obtain⟨L,k,to,rfl,hk,q1,q2⟩:=h
   have hi:=hk.ins
   unfold bp at hi
   obtain⟨kd,S,ts,w1,w2,w3⟩:=hk.wt
   refine⟨_,(ag (aE (i:=2) mz.nd rfl (FS rfl) (x5 (eF (au (pv 0) rfl) T.ez T.sx rB (hr.mono (by decide))) (eF (au (pv 0) rfl) T.aO T.lN lD (hr.mono (by decide)))))
    (ah (aD (EC (m3 tT (pv 2) eC (aK _)) (AQ (m3 qQ (pv 2) (pv 1) (aK _))))))),?_⟩
   obtain⟨h00,⟨rfl,d,rfl,h1⟩|⟨rfl,d,m,us,G,d9,rfl,hc,h1⟩⟩:=w1
   . obtain⟨gs,hw,k1,k2,k3,k4,k5⟩:=h1.oJ (.inl rfl)
     repeat' (walk_at "rd1")
     refine D6 ?_
     repeat' (walk_at "rd1")
     refine⟨L.wp,d,k.now,ts,_,rfl,h1,fun e=>?_,fun t ht hm=>?_⟩
     . repeat' (walk_at "rd1")
       exact q2 fun n u hu=>by rw [<-w3,e] at hu;cases hu
     . obtain⟨y,hy,rfl⟩:=AN.mp ht
       have LI:=(w3 y.1 y.2).mp hy
       repeat' (walk_at "rd1")
       by_cases hle:y.2<=to
       . rw [show decide (y.2<=to)=true from decide_eq_true hle]
         exact q1 _ _ LI hle
       . rw [show decide (y.2<=to)=false from decide_eq_false hle]
         refine q2 fun n u hu=>?_
         have:=hm u (AN.mpr ⟨(n,u),(w3 n u).mpr hu,rfl⟩)
         omega
   . obtain⟨gs,hw,k1,k2,k3,k4,k5⟩:=h1.wt.oJ (.inr ⟨_,_,_,rfl⟩)
     repeat' (walk_at "rd1")
     refine D8 ?_
     repeat' (walk_at "rd1")
     refine⟨L.wp,d,k.now,ts,_,rfl,h1.wt,fun e=>?_,fun t ht hm=>?_⟩
     . repeat' (walk_at "rd1")
       exact q2 fun n u hu=>by rw [<-w3,e] at hu;cases hu
     . obtain⟨y,hy,rfl⟩:=AN.mp ht
       have LI:=(w3 y.1 y.2).mp hy
       repeat' (walk_at "rd1")
       by_cases hle:y.2<=to
       . rw [show decide (y.2<=to)=true from decide_eq_true hle]
         exact q1 _ _ LI hle
       . rw [show decide (y.2<=to)=false from decide_eq_false hle]
         refine q2 fun n u hu=>?_
         have:=hm u (AN.mpr ⟨(n,u),(w3 n u).mpr hu,rfl⟩)
         omega
theorem MU (T:Txt K mg a):df P w K mg base 5 a.bU ["self","to"] [] (Gx a):=
 ⟨⟨_,_,PR T,T.iX.binds fun _ _ _ _ _ _=>dJ fun _ _=>rfl,.nil⟩⟩
theorem RQ {X:Cx} {k:Nat} {f:Addr} {sp:Sp} {eI:List V} {p pos:Pos} (M:Mk X.K C f) (F:df X.prog X.w X.K X.mg X.base k f ps eI sp) (hr:cO (k+1) X.A) (hg:Gl X x) (hm:X.mg x=some (.ref C)) (zR:(x==("__debug__":Str))=false:=by decide):PE X (.Call (.Name x p) [] [] pos) (Bk C sp eI E0 Ge):=by
 rw [DE]
 obtain⟨fd,ds,F,hb,hd⟩:=F.ex
 exact OV M F hr hg hm hb hd Dy zR
def R3 (C:Addr):Sp:=fun vs H Q _=>∃p dx,vs=[.ref p]/\H p=some (.ins C dx [])/\∀H',Mv [p] H H'->Q .aQ H'
theorem abb (T:Txt K mg a):aP P w K mg base eG 1 a.bN a.lA ["self"] (R3 a.bS):=by
 have n1:=T.eU;have n2:=T.gT;have cl:=T.jx
 refine T.jf.ok vm (fun vs H Q E h=>?_) (fun c7 A outer s H vs Q E hr h=>?_)
 . obtain⟨_,_,rfl,_⟩:=h;rfl
 . obtain⟨p,dx,rfl,hp,q⟩:=h
   refine⟨_,(ag (aV (pv 0) lU rfl)
    (ah (aV (pv 0) lU rfl))),?_⟩
   repeat' (walk_at "rd1")
   rename_i d1 H1 s1 mI Av d2 H2 s2 mR hd2
   have e1:=s1 _ _ hp
   have iE:=Mv.aS (o:=.ins a.bS dx [("above_of",.ref d1)]) e1 (by intro _ z;cases z)
   have e2:=s2 _ _ (av (H:=H1) (a:=p) (o:=.ins a.bS dx [("above_of",.ref d1)]))
   have gH:=Mv.aS (o:=.ins a.bS dx [("above_of",.ref d1),("marks",.ref d2)]) e2 (by intro _ z;cases z)
   exact q _ ((s1.mv (S:=[p])).trans (iE.trans (s2.mv.trans gH)))
theorem Ff (T:Txt K mg a):df P w K mg base 1 a.bN ["self"] [] (R3 a.bS):=
 ⟨⟨_,_,abb T,T.jf.binds fun _ _ _ _ _ _=>kO fun _=>rfl,.nil⟩⟩
theorem DP {x:Addr} {o:HO} (hx:H x=none) (hd:H dx=none) (m:Mv [x] (upd (upd H dx (.own x)) x o) H'):ay H H':=fun b u e=>by
 have hb:b≠x:=aA e hx
 refine m.kp b u (by simpa using hb) ?_
 rw [az hb,az (aA e hd)]
 exact e
theorem Vv (k:∀v H2,ay H H2->Q v H2):uq C (R3 C) [] H Q E:=
 ⟨_,rfl,fun x dx hx hd _=>⟨x,dx,rfl,av,fun H' mv=>⟨rfl,k _ _ (DP hx hd mv)⟩⟩⟩
def k0 (now:Int):KS:=⟨now,0,fun _=>none,fun _=>none⟩
def WU (H:Hp) (rv:V):Prop:=rv=.aQ\/∃(l:Addr) (rs:List Int),rv=.ref l/\dg H l (rs.map Pd)/\1<=rs.length/\rs.length<=6/\∀r∈rs,2<=r/\r<=60
def sd (a:Ad):Sp:=fun vs H Q _=>∃p dx rv now nm,vs=[.ref p,rv,.int now]/\H p=some (.ins a.ak dx [])/\WU H rv/\(nm:List Str).length<=55/\∀H' L,Mv [p] H H'->L.p=p->L.nm=nm->(∀b,Lw H' L.wp b->H b=none)->cE a H' L (k0 now)->Q .aQ H'
theorem RA (T:Txt K mg a):aP P w K mg base eG 7 a.bX a.oZ ["self","rounds","now"] (sd a):=by
 have cl:=T.aL;have n1:=T.bx;have n2:=T.fS;have n3:=T.bu;have n4:=T.dE;have n5:=T.fY;have n6:=T.a9
 have U3:=Jg (P:=P) (w:=w) (base:=base) T
 have JF:=Fv (P:=P) (w:=w) (base:=base) T
 have Jh:=Ff (P:=P) (w:=w) (base:=base) T
 refine T.kD.ok yl (fun vs H Q E h=>?_) (fun c7 A outer s H vs Q E hr h=>?_)
 . obtain⟨_,_,_,_,_,rfl,_⟩:=h;rfl
 . obtain⟨p,dx,rv,now,nm,rfl,hp,Sz,Z4,q⟩:=h
   refine⟨_,(cN (aV (pv 0) (Au (aI AZ (pv 1) eC (aK _)) (mX T.VN U3 (hr.mono (by decide)) rfl T.Pb (ae (pv 2) af)) (mX T.F8 JF (hr.mono (by decide)) rfl T.D4 (ae (pv 1) (ae (pv 2) af)))) rfl)
    (cN (aV (pv 0) (Au (aI AZ (pv 1) eC (aK _)) eC (DR HK rfl T.p9 XV (ae (pv 1) af))) rfl)
    (ag (aV (pv 0) (pv 2) rfl)
    (ag (aV (pv 0) aq rfl)
    (ag (aV (pv 0) (RQ T.Gm Jh (hr.mono (by decide)) rfl T.DX) rfl)
    (ah (aV (pv 0) lU rfl))))))),?_⟩
   refine gw (fun σ' H'=>σ'=[some (.ref p),some rv,some (.int now)]/\∃wp kd S,Mv [p] H H'/\H' p=some (.ins a.ak dx [("waits",.ref wp)])/\Told a kd H' wp S now []/\∀b∈S,H b=none) ?_ ?_
   . have fin:∀{H1:Hp} {wp:Addr} {kd:Bool} {S:List Addr},ay H H1->Told a kd H1 wp S now []->(∀b∈S,H b=none)->∃wp' kd S,Mv [p] H (upd H1 p (.ins a.ak dx [("waits",.ref wp)]))/\upd H1 p (.ins a.ak dx [("waits",.ref wp)]) p=some (.ins a.ak dx [("waits",.ref wp')])/\Told a kd (upd H1 p (.ins a.ak dx [("waits",.ref wp)])) wp' S now []/\∀b∈S,H b=none:=fun {H1 wp kd S} s1 ht hS=>by
      have iE:=Mv.aS (o:=.ins a.ak dx [("waits",.ref wp)]) (s1 _ _ hp) (by intro _ z;cases z)
      exact⟨wp,kd,S,(s1.mv (S:=[p])).trans iE,av,ht.mv iE (fun b hb z=>by rw [AR.mp z] at hb;rw [hS p hb] at hp;cases hp),hS⟩
     rcases Sz with rfl|⟨l,rs,rfl,hl,Kr,Z0,Et⟩
     . repeat' (walk_at "rd1")
       refine O2 rfl (fun wp H1 d s1 mI Av jn=>?_)
       have e1:=s1 _ _ hp
       repeat' (walk_at "rd1")
       exact⟨rfl,fin s1 (kd:=true) (S:=[wp,d]) ⟨.nil,.inl ⟨rfl,d,rfl,jn⟩⟩ (by simp [mI,Av])⟩
     . repeat' (walk_at "rd1")
       refine Ow rfl hl Kr Z0 Et (fun wp d m G H1 s1 hS jn=>?_)
       have e1:=s1 _ _ hp
       repeat' (walk_at "rd1")
       exact⟨rfl,fin s1 (kd:=false) ⟨.nil,.inr ⟨rfl,d,m,_,G,[],rfl,JR Kr Z0 Et,jn⟩⟩ hS⟩
   rintro σ' H1 ⟨rfl,wp,kd,S,iE,DT,ht1,hS⟩
   have hSp:∀b∈S,b∉[p]:=fun b hb z=>by rw [AR.mp z] at hb;rw [hS p hb] at hp;cases hp
   refine gw (fun σ' H'=>σ'=[some (.ref p),some rv,some (.int now)]/\∃Wm,Mv [p] H1 H'/\H' p=some (.ins a.ak dx [("waits",.ref wp),("rounds",Wm)])) ?_ ?_
   . rcases Sz with rfl|⟨l,rs,rfl,hl,Kr,Z0,Et⟩
     . repeat' (walk_at "rd1")
       exact⟨rfl,.aQ,Mv.aS DT (by intro _ z;cases z),av⟩
     . have F1:dg H1 l (rs.map Pd):=hl.mv iE (fun z=>by
        obtain⟨xs,e,_⟩:=hl
        rw [AR.mp z,hp] at e
        cases e)
       repeat' (walk_at "rd1")
       rename_i _ lr H2 s2 mR vz
       exact⟨rfl,.ref lr,(s2.mv (S:=[p])).trans (Mv.aS (s2 _ _ DT) (by intro _ z;cases z)),av⟩
   rintro σ' H2 ⟨rfl,Wm,gH,MH⟩
   repeat' (walk_at "rd1")
   rw [jN]
   have pG:=Mv.aS (o:=.ins a.ak dx [("waits",.ref wp),("rounds",Wm),("now",.int now),("shift",.int 0)]) MH (by intro _ z;cases z)
   refine Vv (fun gv H3 s3=>?_)
   have e3:=s3 _ _ (av (H:=H2) (a:=p) (o:=.ins a.ak dx [("waits",.ref wp),("rounds",Wm),("now",.int now),("shift",.int 0)]))
   have tX:=Mv.aS (o:=.ins a.ak dx [("waits",.ref wp),("rounds",Wm),("now",.int now),("shift",.int 0),("groups",gv)]) e3 (by intro _ z;cases z)
   repeat' (walk_at "rd1")
   repeat' (walk_at "rd1")
   rename_i bd H5 s5 Zb SG
   have e5:=s5 _ _ (av (H:=H3) (a:=p) (o:=.ins a.ak dx [("waits",.ref wp),("rounds",Wm),("now",.int now),("shift",.int 0),("groups",gv)]))
   have Fi:=Mv.aS (o:=.ins a.ak dx [("waits",.ref wp),("rounds",Wm),("now",.int now),("shift",.int 0),("groups",gv),("by_name",.ref bd)]) e5 (by intro _ z;cases z)
   have mA:Mv [p] H1 _:=(gH.trans pG).trans (s3.mv.trans tX)
   have mB:=(mA.trans (s5.mv (S:=[p]))).trans Fi
   have Yk:H1 bd=none:=mA.none Zb
   have nbd:bd∉[p]:=fun z=>by rw [AR.mp z,DT] at Yk;cases Yk
   have htB:=ht1.mv mB hSp
   refine q _ ⟨p,wp,[],Wm,bd,gv,fun _=>0,nm⟩ (iE.trans mB) rfl rfl (fun b l=>hS b (htB.lwS l)) ⟨⟨p,dx,rfl,av⟩,⟨kd,S,[],htB,fun b hb z=>?_,fun n u=>by simp [k0]⟩,⟨[],(TH SG).mv Fi nbd,List.nodup_nil,fun n=>by simp [k0]⟩,fun n x e=>(by cases e),NH,Z4,fun n e=>(by cases e),fun n e=>(by cases e),fun b hb=>(by cases hb)⟩
   have z:b=bd:=by simpa using z
   exact ht1.alive b hb (z▸Yk)
theorem NQ (T:Txt K mg a):df P w K mg base 7 a.bX ["self","rounds","now"] [] (sd a):=
 ⟨⟨_,_,RA T,T.kD.binds fun _ _ _ _ _ _=>jr fun _ _ _=>rfl,.nil⟩⟩
theorem Pl (T:Txt K mg a):aP P w K mg base eG 8 a.bK a.ig ["self","rounds","now"] (sd a):=by
 have zG:=NQ (P:=P) (w:=w) (base:=base) T
 refine T.iZ.ok vd (fun vs H Q E h=>?_) (fun c7 A outer s H vs Q E hr h=>?_)
 . obtain⟨_,_,_,_,_,rfl,_⟩:=h;rfl
 . obtain⟨p,dx,rv,now,nm,rfl,hp,Sz,Z4,q⟩:=h
   refine⟨_,(ah (aF (EF rfl T.Kq T.qx zG (hr.mono (by decide)) (ae (pv 0) (ae (pv 1) (ae (pv 2) af)))))),?_⟩
   repeat' (walk_at "rd1")
   refine⟨p,dx,rv,now,nm,rfl,hp,Sz,Z4,fun H' L m e1 e2 e3 hk=>?_⟩
   repeat' (walk_at "rd1")
   exact q H' L m e1 e2 e3 hk
theorem Vi {now:Int} {us:List V} (nm:List Str) (eu:us=[rv,.int now]) (Sz:WU H rv) (Z4:nm.length<=55) (k:∀L H2,ay H H2->L.nm=nm->(∀b,Lw H2 L.wp b->H b=none)->cE a H2 L (k0 now)->Q (.ref L.p) H2):uq a.ak (sd a) us H Q E:=by
 refine⟨_,eu,fun x dx hx hd ne=>?_⟩
 have sm:ay H (upd (upd H dx (.own x)) x (.ins a.ak dx [])):=fun b u e=>by rw [az (aA e hx),az (aA e hd)];exact e
 refine⟨x,dx,rv,now,nm,rfl,av,?_,Z4,fun H' L m e1 e2 e3 hk=>⟨rfl,?_⟩⟩
 . rcases Sz with h|⟨l,rs,h,hl,hh⟩
   . exact .inl h
   . exact .inr ⟨l,rs,h,hl.keeps sm,hh⟩
 . subst e1
   exact k L _ (DP hx hd m) e2 (fun b l=>xN (e3 b l)) hk
def A6 (n:Str) (no now sn un:Int):BB:=.tuple [.str "rang",.str n,.int no,.int now,.int sn,.int un]
def JN (a:Ad):Sp:=fun vs H Q _=>∃b n x,vs=[.ref b]/\gu a H b n x/\∀v' H',ay H H'->Dv H' v' (.tuple [.int (-x.wt),.str n])->Q v' H'
theorem ab4 {n:Str} {x:iS} (h:gu a H b n x) (q:∀v' H',ay H H'->Dv H' v' (.tuple [.int (-x.wt),.str n])->Q v' H'):JN a [.ref b] H Q E:=⟨b,n,x,rfl,h,q⟩
theorem Xz (T:Txt K mg a):aP P w K mg base eG 4 a.fu a.xF ["bell"] (JN a):=by
 have cl:=T.aT;have n1:=T.fx;have n2:=T.bz
 refine T.rY.ok Ey (fun vs H Q E h=>?_) (fun c7 A outer s H vs Q E hr h=>?_)
 . obtain⟨_,_,_,rfl,_⟩:=h;rfl
 . obtain⟨b,n,x,rfl,⟨rv,sv,hi,hR,hd⟩,q⟩:=h
   unfold eK at hi
   refine⟨_,(ah (aD (dS (ae (Kc E2 (au (pv 0) rfl)) (ae (au (pv 0) rfl) af))))),?_⟩
   repeat' (walk_at "rd1")
   exact q _ _ (by walk_at "same") (by walk_at "dat")
theorem VA (T:Txt K mg a):df P w K mg base 4 a.fu ["bell"] [] (JN a):=
 ⟨⟨_,_,Xz T,T.rY.binds fun _ _ _ _ _ _=>kO fun _=>rfl,.nil⟩⟩
def K0 (a:Ad):Sp:=fun vs H Q _=>∃L k n x sn un,vs=[.ref L.p,.ref (L.ad n),.aQ]/\cE a H L k/\k.f n=some x/\x.sn=some sn/\x.un=some un/\x.hm=none/\0<=x.no/\x.no<10^50/\eR k x<10^79/\∀q H',qY a L H H'->H q=none->ub L.wp H' q (A6 n x.no k.now sn un::BK k n x)->cE a H' L (wM k n x)->Q (.ref q) H'
theorem Ud (T:Txt K mg a):aP P w K mg base eG 11 a.d6 a.sL ["self","bell","deed"] (K0 a):=by
 have cl:=T.aL;have cb:=T.aT;have n1:=T.bu;have n2:=T.bz;have n3:=T.dz;have n4:=T.cz;have n5:=T.cY
 have OZ:=T.qu;have vn:=T.jj;have sZ:=T.ia
 have PU:=Jq (P:=P) (w:=w) (base:=base) T
 have uY:=Dj (P:=P) (w:=w) (base:=base) T
 have tQ:=vh (P:=P) (w:=w) (base:=base) T
 refine T.oF.ok tO (fun vs H Q E h=>?_) (fun c7 A outer s H vs Q E hr h=>?_)
 . obtain⟨_,_,_,_,_,_,rfl,_⟩:=h;rfl
 . obtain⟨L,k,n,x,sn,un,rfl,hk,hx,es,eu,hm,h0,h1,h2,q⟩:=h
   have hi:=hk.ins
   unfold bp at hi
   have hB:=hk.bl n x hx
   obtain⟨rv,sv,hI,hR,hd⟩:=id hB
   unfold eK at hI
   rw [es,eu] at hI
   simp only [ow] at hI
   refine⟨_,(ag (aE (i:=3) tO.nd rfl (FS rfl) (dS (ae jy (ae (au (pv 1) rfl) (ae (au (pv 1) rfl) (ae (au (pv 0) rfl) (ae (au (pv 1) rfl) (ae (au (pv 1) rfl) af))))))))
    (ag (bB (PW.pt (vG (aI tT (pv 2) eC (aK _)) (pR (aI Xb Ci wx (aK _)))))
     (ah (aD (aC JO (b9 (ae (pv 3) af)) (aB (pv 0) cl sZ tQ (hr.mono (by decide)) (ae (pv 1) af)))))
     aN)
    (ah (aD (aC JO (b9 (ae (pv 3) af)) (aB (pv 0) cl OZ PU (hr.mono (by decide)) (ae (pv 1) (ae (aB (pv 0) cl vn uY (hr.mono (by decide)) (ae (pv 1) af)) af)))))))),?_⟩
   repeat' (walk_at "rd1")
   rename_i v1 H1 s1 hv1 _ q2 H2 s2 mR vz
   have lq:=hk.keeps s1
   have ll:=lq.keeps s2
   have Si:=(hB.keeps s1).keeps s2
   refine LC ll Si ?_
   repeat' (walk_at "rd1")
   refine O1 ll hx hm h0 h1 h2 (fun q3 H3 yn pU pL rp=>?_)
   have hl:=AA k n x
   refine JU (yn.lat (lq.new mR s2) vz) pL.1 (by simp only [FF,Aaz];omega) (fun q4 H4 s4 LR Ed=>?_)
   repeat' (walk_at "rd1")
   exact q _ _ (((eB hk.al (s1.trans s2)).trans yn).step s4) (s1.none (s2.none (yn.none LR))) ⟨Ed,rp.new LR s4⟩ (rp.keeps s4)
theorem RN (T:Txt K mg a):df P w K mg base 11 a.d6 ["self","bell","deed"] [] (K0 a):=
 ⟨⟨_,_,Ud T,T.oF.binds fun _ _ _ _ _ _=>jr fun _ _ _=>rfl,.nil⟩⟩
def gK (k:KS) (n:Str):Bool:=(k.f n).any fun x=>x.sn.any fun s=>decide (s<=k.now)
def jq (s:KS × List BB) (n:Str):KS × List BB:=match s.1.f n with
 |some x=>(wM s.1 n x,s.2++(A6 n x.no s.1.now (x.sn.getD 0) (x.un.getD 0)::BK s.1 n x))
 |none=>s
def fv (u:Int) (n:Str):BB:=.tuple [.str "woke",.int u,.str n]
def CF (k:KS) (n:Str):Int × Str:=((k.f n).elim 0 fun x=>-x.wt,n)
structure aa5 (k:KS):Prop where
 hm:∀n x,k.f n=some x->x.hm=none/\0<=x.no/\x.no<10^50
 un:∀n x s,k.f n=some x->x.sn=some s->∃u,x.un=some u
 nw:∀n u,k.t n=some u->k.now<=u/\u<10^59
 tx:∃n u,k.t n=some u
 sb:k.sh<10^59
theorem L3 (s:KS × List BB) (n:Str):(jq s n).1.now=s.1.now/\(jq s n).1.sh=s.1.sh/\(∀m,m≠n->(jq s n).1.f m=s.1.f m)/\(jq s n).2.length<=s.2.length+4:=by
 unfold jq
 cases e:s.1.f n with
 |none=>exact⟨rfl,rfl,fun _ _=>rfl,Nat.le_add_right _ _⟩
 |some x=>
  obtain⟨a1,a2⟩:=OD s.1 n x
  refine⟨a1,a2,fun m hm=>Yv (x:=x) hm,?_⟩
  have:=AA s.1 n x
  simp only [Da,FF]
  omega
theorem yd:∀(ns:List Str) (s:KS × List BB),(ns.foldl jq s).1.now=s.1.now/\(ns.foldl jq s).1.sh=s.1.sh/\(∀m,m∉ns->(ns.foldl jq s).1.f m=s.1.f m)/\(ns.foldl jq s).2.length<=s.2.length+4*ns.length
 |[],s=>⟨rfl,rfl,fun _ _=>rfl,BN _⟩
 |n::r,s=>by
  obtain⟨h1,h2,h3,h4⟩:=yd r (jq s n)
  obtain⟨g1,g2,g3,g4⟩:=L3 s n
  refine⟨h1.trans g1,h2.trans g2,fun m hm=>?_,?_⟩
  . rw [AD,not_or] at hm
    exact(h3 m hm.2).trans (g3 m hm.1)
  . rw [List.foldl_cons,FF]
    omega
theorem Dg {s:KS × List BB} {n:Str} {x:iS} {sn un:Int} (h:s.1.f n=some x) (es:x.sn=some sn) (eu:x.un=some un):jq s n=(wM s.1 n x,s.2++(A6 n x.no s.1.now sn un::BK s.1 n x)):=by
 unfold jq
 rw [h]
 simp only [es,eu,Option.getD_some]
theorem OW {t1 t2:TE} (C:Int->Prop) (h1:(∀u,C u->Q (.int u) H)->Rj t1 t2 σ H Q) (h2:∀u,C u->Q (.int u) H):Rj t1 t2 σ H Q:=h1 h2
theorem GR {β:Type} {g:α->β} {l m:List β} (h:l.Perm m):∀rs:List α,m=rs.map g->∃ns:List α,ns.Perm rs/\l=ns.map g:=by
 induction h with
 |nil=>intro rs e;cases rs with
  |nil=>exact⟨[],.nil,rfl⟩
  |cons=>cases e
 |cons x _ ih=>intro rs e;cases rs with
  |nil=>cases e
  |cons r rs=>
   injection e with e1 e2
   obtain⟨ns,p,rfl⟩:=ih rs e2
   exact⟨r::ns,p.cons r,by rw [e1];rfl⟩
 |swap x y l=>intro rs e;match rs,e with
  |r::t::rs,e=>
   injection e with e1 e2
   injection e2 with e2 e3
   exact⟨t::r::rs,.swap r t rs,by rw [e1,e2,e3];rfl⟩
 |trans _ _ ih1 ih2=>
  intro rs e
  obtain⟨ns,p,e2⟩:=ih2 rs e
  obtain⟨ns',p',e3⟩:=ih1 ns e2
  exact⟨ns',p'.trans p,e3⟩
def Ba (a:Ad):Sp:=fun vs H Q _=>∃L k,vs=[.ref L.p,.aQ]/\cE a H L k/\aa5 k/\∀(q:Addr) (H':Hp) (u0:Int) (n0:Str) (r0 ks:List (Int × Str)) (ns:List Str),qY a L H H'->H q=none->(∀u n,(u,n)∈ks↔k.t n=some u/\u<=u0)->ZK ks->ks=(u0,n0)::r0->(∀n u,k.t n=some u->u0<=u)->ns.Nodup->(∀n,n∈ns↔gK {k with now:=u0,t:=sU k.t u0} n=true)->ns.Pairwise (fun c d=>aW (CF k d) (CF k c)=false)->ub L.wp H' q (ns.foldl jq ({k with now:=u0,t:=sU k.t u0},[fv u0 n0])).2->cE a H' L (ns.foldl jq ({k with now:=u0,t:=sU k.t u0},[fv u0 n0])).1->Q (.ref q) H'
theorem Jf (T:Txt K mg a):aP P w K mg base eG 12 a.bT a.mn ["self","deed"] (Ba a):=by
 have cl:=T.aL;have n1:=T.bu;have n2:=T.bx;have cb:=T.aT;have n3:=T.cz;have cr:=T.ez;have cw:=T.aO
 have Hd:=T.ml;have yK:=T.jG;have ZM:=T.uB
 have G9:=QJ (P:=P) (w:=w) (base:=base) T
 have x3:=Cg (P:=P) (w:=w) (base:=base) T
 have aai:=RN (P:=P) (w:=w) (base:=base) T
 have Hl:=VA (P:=P) (w:=w) (base:=base) T
 have wc:=Jc (P:=P) (w:=w) (base:=base) T
 have rB:=qk (P:=P) (w:=w) (base:=base) T T.Nc
 have lD:=qk (P:=P) (w:=w) (base:=base) T T.tU
 refine T.iN.ok dr (fun vs H Q E h=>?_) (fun c7 A outer s H vs Q E hr h=>?_)
 . obtain⟨_,_,rfl,_⟩:=h;rfl
 . obtain⟨L,k,rfl,hk,ok,q⟩:=h
   have hi:=hk.ins
   unfold bp at hi
   obtain⟨kd,S,ts,w1,w2,w3⟩:=hk.wt
   refine⟨_,(ag (aE (i:=2) dr.nd rfl (FS rfl) (aB (pv 0) cl yK x3 (hr.mono (by decide)) (ae (x5 (eF (au (pv 0) rfl) T.ez T.sx rB (hr.mono (by decide))) (eF (au (pv 0) rfl) T.aO T.lN lD (hr.mono (by decide)))) af)))
    (ag (aE (i:=3) dr.nd rfl (FS rfl) (b9 (ae (dS (ae jy (ae (au (pv 0) rfl) (ae (bG ik (pv 2) aq (fun _ _=>rfl)) af)))) af)))
    (ag (Wo (i:=4) dr.nd rfl (FS rfl) (T:=["bell"]) (M:=["self","deed","names","entries","may_ring","05"]) (R4 (ao fg) ["self","deed","names","entries","may_ring","bell"] rfl rfl (by decide+kernel)) rfl (cR (eF (pv 0) cl Hd G9 (hr.mono (by decide)))) (fun _ _ _ _ _=>(a0 (i:=0) (show OE (["bell","self","deed","names","entries","may_ring","05"]:List Str) by decide+kernel) rfl (FS rfl))) (fX (by decide)) (fun _ _ _ _ _=>(xM (PW.pt (vG (Mt (K:=K) rfl (eF (pv 0) T.aT T.nh wc (hr.mono (by decide))) (fun _=>rfl)) (pR (aI qQ (Aj (K:=K) rfl (pv 0) rfl) (Aj (K:=K) rfl (pv 1) rfl) (aK _))))))) (fun _ _ _ _ _=>(pv 0)) rfl)
    (ag (kC KB rfl (cR (PX Hl (hr.mono (by decide)) rfl T.e7 (Af rfl T.wV rfl) (ae (pv 4) af))) (a0 (i:=5) dr.nd rfl (FS rfl))
     (ah (aF (iy GG Su SB oM (pv 3) (ae (aB (pv 0) cl ZM aai (hr.mono (by decide)) (ae (pv 5) (ae (pv 1) af))) af)))))
    (ah (aD (pv 3))))))),?_⟩
   repeat' (walk_at "rd1")
   refine OW (fun u0=>u0∈ts.map (·.2)/\∀u∈ts.map (·.2),u0<=u) (fun hq=>?_) (fun u0 ⟨SV,hle⟩=>?_)
   . have mS:ts≠[]:=fun e=>by
      obtain⟨n,u,e1⟩:=ok.tx
      have:=(w3 n u).mpr e1
      rw [e] at this
      cases this
     obtain⟨h00,⟨rfl,d,rfl,h1⟩|⟨rfl,d,m,us,G,d9,rfl,hc,h1⟩⟩:=w1
     . obtain⟨gs,hw,k1,k2,k3,k4,k5⟩:=h1.oJ (.inl rfl)
       refine D6 ?_
       repeat' (walk_at "rd1")
       exact⟨L.wp,d,k.now,ts,_,rfl,h1,fun e=>absurd e mS,fun t ht hm=>hq t ⟨ht,hm⟩⟩
     . obtain⟨gs,hw,k1,k2,k3,k4,k5⟩:=h1.wt.oJ (.inr ⟨_,_,_,rfl⟩)
       refine D8 ?_
       repeat' (walk_at "rd1")
       exact⟨L.wp,d,k.now,ts,_,rfl,h1.wt,fun e=>absurd e mS,fun t ht hm=>hq t ⟨ht,hm⟩⟩
   . obtain⟨⟨m0,XD⟩,VG,e0⟩:=AN.mp SV
     have e0:XD=u0:=e0
     subst e0
     have VG:=(w3 m0 XD).mp VG
     have UL:∀n u,k.t n=some u->XD<=u:=fun n u e=>hle u (AN.mpr ⟨(n,u),(w3 n u).mpr e,rfl⟩)
     repeat' (walk_at "rd1")
     refine⟨L,k,XD,rfl,hk,(ok.nw m0 XD VG).1,fun q1 H1 ks CA mI hks hsr j9 yC lq=>?_⟩
     cases ks with
     |nil=>have:=(hks XD m0).mpr ⟨VG,AaR _⟩;cases this
     |cons c0 r0=>
      obtain⟨uc,n0⟩:=c0
      have hc:=(hks uc n0).mp BC
      obtain rfl:uc=XD:=Int.le_antisymm hc.2 (UL n0 uc hc.1)
      have vR:=lq.ins
      unfold bp at vR
      have i0:t5 (((uc,n0)::r0).map (·.2) |>.map EQ) 0=some (.str n0):=xg (j:=0) rfl
      obtain⟨yC,no1⟩:=yC
      repeat' (walk_at "rd1")
      rename_i v1 H2 s2 Rp q3 H3 s3 pU pL
      have pL:dg H3 q3 [fv uc n0]:=pL
      have rp:=(lq.keeps s2).keeps s3
      refine Yz rp (fun q4 H4 ss s4 LR hN acT Ed=>?_)
      have hlen:=hN.len rp acT
      have hk4:=rp.keeps s4
      generalize ek:({k with now:=uc,t:=sU k.t uc}:KS)=k' at*
      have ekf:k'.f=k.f:=by rw [<-ek]
      have ekn:k'.now=uc:=by rw [<-ek]
      refine Wq (xs:=ss.map fun n=>.ref (L.ad n)) (.inl (.inl Ed)) (by rw [AE];omega) (fun i acc H'=>ay H4 H'/\acc=((ss.take i).filter (gK k')).map (fun n=>.ref (L.ad n))/\acc.length<=i) ⟨ay.refl _,rfl,BN _⟩ (fun i acc H' hi ⟨s5,_,e⟩=>⟨ay.seq s5 (.inl (.inl Ed)),by omega⟩) (fun i v acc H' N hx ⟨s5,ea,Je⟩ yes no=>?_) (fun acc H' q5 ⟨s5,ea,afF⟩ Zb=>?_)
      . rw [Fa] at hx
        obtain⟨n,hn,rfl⟩:=NO.mp hx
        obtain⟨x,hfx⟩:=VT.mp ((hN.2 n).mp (Cf hn))
        have GL:=hk4.keeps s5
        have SE:=GL.ins
        unfold bp at SE
        have hB:=GL.bl n x hfx
        obtain⟨rv,sv,hI,hR,hd⟩:=id hB
        unfold eK at hI
        have hsn:(ss.take (i+1)).filter (gK k')=(ss.take i).filter (gK k')++(if gK k' n=true then [n] else []):=by
         rw [AbZ hn,Q3]
         congr 1
         rw [Op,AaE]
        have Oi:gK k' n=x.sn.any fun s=>decide (s<=k'.now):=by unfold gK;rw [hfx];rfl
        cases VX:x.sn with
        |none=>
         rw [VX] at Oi hI
         simp only [ow] at hI
         have Oi:gK k' n=false:=Oi
         rw [if_neg (by rw [Oi];exact FM),NG] at hsn
         repeat' (walk_at "rd1")
         . rename_i hb
           rw [VX] at hb
           cases hb
         . refine oO (fun hb=>by cases hb) (fun _=>?_)
           refine no _ ⟨s5,?_,by omega⟩
           rw [hsn,ea]
        |some sn=>
         rw [VX] at Oi hI
         simp only [ow] at hI
         have Oi:gK k' n=decide (sn<=k'.now):=Oi
         repeat' (walk_at "rd1")
         . refine oO (fun hb=>?_) (fun hb=>?_)
           . have hb:decide (sn<=k'.now)=true:=hb
             rw [if_pos (by rw [Oi];exact hb)] at hsn
             repeat' (walk_at "rd1")
             refine yes _ _ ⟨s5,?_,by rw [Da,AaY];omega⟩
             rw [hsn,ea,CS];rfl
           . have hb:decide (sn<=k'.now)=false:=hb
             rw [if_neg (by rw [Oi,hb];exact FM),NG] at hsn
             refine no _ ⟨s5,?_,by omega⟩
             rw [hsn,ea]
         . rename_i hb
           rw [VX] at hb
           cases hb
      . rw [AE,SO] at ea
        repeat' (walk_at "rd1")
        have s6:ay H4 (upd H' q5 (.lst acc)):=s5.trans (cP Zb)
        have Lb:=hk4.keeps s6
        have MZ:upd H' q5 (.lst acc) q5=some (.lst acc):=av
        generalize upd H' q5 (.lst acc)=H6 at*
        have pK:∀n∈ss.filter (gK k'),∃x,k'.f n=some x:=fun n hn=>by
         have:=(B0.mp hn).2
         unfold gK at this
         cases e:k'.f n with
         |none=>rw [e] at this;cases this
         |some x=>exact⟨x,rfl⟩
        obtain⟨kf,hkf⟩:∃kf:V->Int × Str,∀n∈ss.filter (gK k'),kf (.ref (L.ad n))=CF k' n:=by
         classical
         refine⟨fun v=>if h:∃n,n∈ss.filter (gK k')/\v=.ref (L.ad n) then CF k' h.choose else (0,⟨#[]⟩),fun n hn=>?_⟩
         have h:∃m,m∈ss.filter (gK k')/\V.ref (L.ad n)=.ref (L.ad m):=⟨n,hn,rfl⟩
         show(if h:∃m,m∈ss.filter (gK k')/\V.ref (L.ad n)=.ref (L.ad m) then CF k' h.choose else (0,⟨#[]⟩))=CF k' n
         rw [dif_pos h]
         obtain⟨g1,g2⟩:=h.choose_spec
         obtain⟨x,hx⟩:=pK n hn
         obtain⟨y,hy⟩:=pK _ g1
         have e:L.ad n=L.ad h.choose:=by injection g2
         obtain⟨dx,r1,r2,b1⟩:=(Lb.bl n x hx).at
         obtain⟨dy,r3,r4,b2⟩:=(Lb.bl _ y hy).at
         rw [<-e,b1] at b2
         have b2:=Do b2
         injection b2 with _ _ hf
         unfold eK at hf
         injection hf with h4 _
         injection h4 with _ h5
         injection h5 with h6
         rw [<-h6]
        refine⟨q5,acc,kf,rfl,.inl (.inl MZ),by rw [AE] at afF;omega,fun v hv H7 s7=>?_,fun q8 ys H8 s8 hn8 ado ⟨hpm,R7⟩=>?_⟩
        . rw [ea] at hv
          obtain⟨n,hn,rfl⟩:=AN.mp hv
          obtain⟨x,hx⟩:=pK n hn
          rw [hkf n hn]
          refine ab4 ((Lb.keeps s7).bl n x hx) (fun v' H'' s'' d''=>⟨s'',?_⟩)
          unfold CF
          rw [hx]
          exact d''
        . obtain⟨ns,ML,rfl⟩:=GR hpm _ ea
          have s9:ay H6 (upd H8 q8 (.lst (ns.map fun n=>.ref (L.ad n)))):=s8.trans (cP ado)
          have Sx:upd H8 q8 (.lst (ns.map fun n=>V.ref (L.ad n))) q8=some (.lst (ns.map fun n=>.ref (L.ad n))):=av
          have UE:H6 q8=none:=hn8
          generalize upd H8 q8 (.lst (ns.map fun n=>.ref (L.ad n)))=H9 at*
          have hk9:=Lb.keeps s9
          have s39:ay H3 H9:=(s4.trans s6).trans s9
          have agd:=pL.keeps s39
          have QQ:ns.Nodup:=ML.nodup_iff.mpr (acT.filter _)
          have mK:∀n,n∈ns↔gK k' n=true:=fun n=>by
           rw [ML.mem_iff,B0]
           refine⟨fun h=>h.2,fun h=>⟨(hN.2 n).mpr ?_,h⟩⟩
           unfold gK at h
           cases e:k'.f n with
           |none=>rw [e] at h;cases h
           |some x=>rfl
          have fr9:qY a L H H9:=CA.step ((s2.trans s3).trans s39)
          have no9:¬Lw H9 L.wp q8:=Lb.new UE s9
          have af6:ub L.wp H9 q3 [fv uc n0]:=⟨agd,fun z=>(lq.keeps s2).new pU s3 (uJ rp.al (s39 _) z)⟩
          have Wv:=(ok.nw m0 uc VG)
          have Ih:=ok.sb
          have akV:k'.sh=k.sh:=by rw [<-ek]
          have ado:H q8=none:=CA.none ((s2.trans s3).none (s4.none (s6.none UE)))
          have aaR:H q3=none:=CA.none (s2.none pU)
          have hnl:ns.length<=60:=by rw [ML.length_eq];have:=JJ (gK k') ss;omega
          have afO:∀n∈ns,∃x sn un,k'.f n=some x/\x.sn=some sn/\x.un=some un:=fun n hn=>by
           have h:=(mK n).mp hn
           unfold gK at h
           cases e:k'.f n with
           |none=>rw [e] at h;cases h
           |some x=>
            rw [e] at h
            cases es:x.sn with
            |none=>simp [es] at h
            |some sn=>
             obtain⟨un,eu⟩:=ok.un n x sn (by rw [<-ekf];exact e) es
             exact⟨x,sn,un,rfl,es,eu⟩
          repeat' (walk_at "rd1")
          refine forL (xs:=ns.map fun n=>.ref (L.ad n)) (.inl (.inl Sx)) (fun i σ' H'=>∃z,σ'=[some (.ref L.p),some .aQ,some (.ref q1),some (.ref q3),some (.ref q5),z]/\qY a L H H'/\(H' q8=some (.lst (ns.map fun n=>.ref (L.ad n)))/\¬Lw H' L.wp q8)/\ub L.wp H' q3 ((ns.take i).foldl jq (k',[fv uc n0])).2/\cE a H' L ((ns.take i).foldl jq (k',[fv uc n0])).1) ⟨_,rfl,fr9,⟨Sx,no9⟩,af6,hk9⟩ (fun i σ' H' _ ⟨_,_,_,Sg,_⟩=>.inl (.inl Sg.1)) ?_ ?_
          . rintro i y σ' Ha hy ⟨z,rfl,fra,⟨hpa,noa⟩,hqa,YD⟩
            rw [Fa] at hy
            obtain⟨n,hn,rfl⟩:=NO.mp hy
            have ak8:=hqa.1
            have hia:=YD.ins
            unfold bp at hia
            obtain⟨x,sn,un,hx,es,eu⟩:=afO n (Cf hn)
            have hni:n∉ns.take i:=by
             have:=KJ (f:=id) (l:=ns) (j:=i) (c:=n) (by rw [List.map_id];exact QQ) hn
             rwa [List.map_id] at this
            obtain⟨e1,e2,e3,e4⟩:=yd (ns.take i) (k',[fv uc n0])
            have ajd:(ns.take i).length<=ns.length:=by rw [KM];omega
            have K5:=(e3 n hni).trans hx
            obtain⟨o1,o2,o3⟩:=ok.hm n x (by rw [<-ekf];exact hx)
            repeat' (walk_at "rd1")
            refine⟨L,_,n,x,sn,un,rfl,YD,K5,es,eu,o1,o2,o3,by unfold eR;rw [e1,e2];show k'.now+lead x k'.sh<10^79;unfold lead;split <;>omega,fun qb Hb frb N1 hqb hkb=>?_⟩
            have S7:=hqa.fr frb
            have ai0:=S7.1
            have hlb:=AA ((ns.take i).foldl jq (k',[fv uc n0])).1 n x
            repeat' (walk_at "rd1")
            refine AF S7.1 hqb.1 (by simp only [FF] at e4 ⊢;simp only [Aaz] at e4;omega) (fun Hc mvc hqc=>?_)
            have mS:q8≠q3:=fun z=>by
             have:H6 q3≠none:=fun zz=>by
              obtain⟨xs,ex,_⟩:=id pL
              rw [(s4.trans s6) _ _ ex] at zz;cases zz
             exact this (z▸UE)
            have hpb:Hb q8=some (.lst (ns.map fun n=>.ref (L.ad n))):=frb.kp q8 _ hpa (by intro _ _;exact noa) (by intro _ z;cases z) (by intro _ _ _ z;cases z)
            have hs:(ns.take (i+1)).foldl jq (k',[fv uc n0])=(wM ((ns.take i).foldl jq (k',[fv uc n0])).1 n x,((ns.take i).foldl jq (k',[fv uc n0])).2++(A6 n x.no ((ns.take i).foldl jq (k',[fv uc n0])).1.now sn un::BK ((ns.take i).foldl jq (k',[fv uc n0])).1 n x)):=by
             rw [AbZ hn,AbO]
             exact Dg K5 es eu
            obtain⟨hkc,af4⟩:=hkb.ext S7 mvc hqc
            have nob:=frb.off hpa noa
            refine⟨_,rfl,Ky (fra.trans frb) mvc aaR,⟨mvc.kp q8 _ (by simpa using mS) hpb,hkb.ahs S7.1 mvc nob⟩,?_,?_⟩
            . rw [hs];exact af4
            . rw [hs];exact hkc
          . rintro σ' Ha ⟨z,rfl,fra,hpa,hqa,YD⟩
            rw [AE,SO] at hqa YD
            repeat' (walk_at "rd1")
            subst ek
            refine q _ _ uc n0 r0 _ ns fra aaR hks hsr rfl UL QQ mK ?_ hqa YD
            have:ns.Pairwise (fun c d=>aW (kf (.ref (L.ad d))) (kf (.ref (L.ad c)))=false):=Nl.mp R7
            refine this.imp_of_mem fun {c d} hc hd h=>?_
            rw [hkf c (ML.mem_iff.mp hc),hkf d (ML.mem_iff.mp hd)] at h
            exact h
theorem Gj (T:Txt K mg a):df P w K mg base 12 a.bT ["self","deed"] [] (Ba a):=
 ⟨⟨_,_,Jf T,T.iN.binds fun _ _ _ _ _ _=>dJ fun _ _=>rfl,.nil⟩⟩
def WT (to:Int) (k:KS) (es:List BB) (k2:KS):Prop:=∃(u0:Int) (n0:Str) (r0 ks:List (Int × Str)) (ns:List Str),u0<=to/\(∀u n,(u,n)∈ks↔k.t n=some u/\u<=u0)/\ZK ks/\ks=(u0,n0)::r0/\(∀n u,k.t n=some u->u0<=u)/\ns.Nodup/\(∀n,n∈ns↔gK {k with now:=u0,t:=sU k.t u0} n=true)/\ns.Pairwise (fun c d=>aW (CF k d) (CF k c)=false)/\ns.foldl jq ({k with now:=u0,t:=sU k.t u0},[fv u0 n0])=(k2,es)
inductive Wn (to:Int):Nat->KS->List BB->KS->Prop
 |done {m:Nat} {k:KS} (h:∀n u,k.t n=some u->to<u):Wn to (m+1) k [] {k with now:=to}
 |last {k k1:KS} {es:List BB} (h:WT to k es k1):Wn to 1 k es k1
 |more {m:Nat} {k k1 k2:KS} {es Sw:List BB} (h:WT to k es k1) (g:Wn to (m+1) k1 Sw k2):Wn to (m+2) k (es++Sw) k2
structure VP (to:Int) (J:Nat->KS->Prop):Prop where
 rg:∀c k,J c k->(∃n u,k.t n=some u)->aa5 k
 st:∀c k es k1,J c k->WT to k es k1->∃c1,es.length+c1<=c/\J c1 k1
theorem WT.now {k k2:KS} (h:WT to k es k2):k2.now<=to:=by
 obtain⟨u0,n0,r0,ks,ns,g0,_,_,_,_,_,_,_,e⟩:=h
 have:=(yd ns ({k with now:=u0,t:=sU k.t u0},[fv u0 n0])).1
 rw [e] at this
 rw [show k2.now=u0 from this]
 exact g0
def Wd (a:Ad):Sp:=fun vs H Q _=>∃L k to m c J,vs=[.ref L.p,.int to,.int m,.aQ]/\cE a H L k/\k.now<=to/\1<=m/\m<=60/\c<=3000/\VP to J/\J c k/\∀q H' es k2,Wn to m.toNat k es k2->es.length<=3000->qY a L H H'->H q=none->ub L.wp H' q es->cE a H' L k2->Q (.ref q) H'
theorem acZ (T:Txt K mg a):aP P w K mg base eG 13 a.fD a.pZ ["self","to","most","deed"] (Wd a):=by
 have cl:=T.aL;have n1:=T.bu
 have J5:=T.nI;have yK:=T.jG;have Iv:=T.nM
 have Ip:=MU (P:=P) (w:=w) (base:=base) T
 have x3:=Cg (P:=P) (w:=w) (base:=base) T
 have Jx:=Gj (P:=P) (w:=w) (base:=base) T
 refine T.sN.ok k9 (fun vs H Q E h=>?_) (fun c7 A outer s H vs Q E hr h=>?_)
 . obtain⟨_,_,_,_,_,_,rfl,_⟩:=h;rfl
 . obtain⟨L,k,to,m,c,J,rfl,hk,h0,V7,hm2,hmm,hJ,hJk,q⟩:=h
   have hi:=hk.ins
   unfold bp at hi
   refine⟨_,(ag (bB (aI zh (pv 1) (au (pv 0) rfl) (aK _))
    (ah fA)
    aN)
    (ag (aE (i:=4) k9.nd rfl (FS rfl) (b9 af))
    (ag (aE (i:=5) k9.nd rfl (FS rfl) aq)
    (ag (pE KB (bI (aB (pv 0) cl J5 Ip (hr.mono (by decide)) (ae (pv 1) af)) (fun _=>rfl))
     (ag (aF (iy GG Su SB oM (pv 4) (ae (aB (pv 0) cl Iv Jx (hr.mono (by decide)) (ae (pv 3) af)) af)))
     (ag (aE (i:=5) k9.nd rfl (FS rfl) (aC gB (pv 5) aq))
     (ah (bB (aI (mD hr.F0) (pv 5) (pv 2) (aK _))
      (ah (aD (pv 4)))
      aN)))))
    (ag (aF (aB (pv 0) cl yK x3 (hr.mono (by decide)) (ae (pv 1) af)))
    (ah (aD (pv 4)))))))),?_⟩
   repeat' (walk_at "rd1")
   rename_i q1 H1 s1 mI yC
   have lq:=hk.keeps s1
   refine tW (fun r σ' H'=>∃(j cj:Nat) (Od:List BB) (kj:KS),σ'=[some (.ref L.p),some (.int to),some (.int m),some .aQ,some (.ref q1),some (.int (j:Int))]/\(r:Int)+j=m/\1<=r/\qY a L H H'/\ub L.wp H' q1 Od/\Od.length+cj<=c/\cE a H' L kj/\kj.now<=to/\J cj kj/\∀es k2,Wn to r kj es k2->Wn to m.toNat k (Od++es) k2) ⟨m.toNat,0,c,[],k,rfl,by omega,by omega,eB hk.al s1,⟨yC,hk.new mI s1⟩,Nat.le_of_eq (Nat.zero_add _),lq,h0,hJk,fun es k2 h=>by rw [List.nil_append];exact h⟩ ?_
   rintro r σ' Hj ⟨j,cj,Od,kj,rfl,hrj,Kr,frj,hqj,hlj,Ss,hnj,hJj,gj⟩
   have akU:=hqj.1
   have vX:=Ss.ins
   unfold bp at vX
   repeat' (walk_at "rd1")
   refine⟨L,kj,to,rfl,Ss,fun n u e1 e2=>?_,fun h1=>?_⟩
   . have rg:=hJ.rg cj kj hJj ⟨n,u,e1⟩
     repeat' (walk_at "rd1")
     refine⟨L,kj,rfl,Ss,rg,fun q2 H2 u0 n0 r0 ks ns zx mR g1 g2 g3 g4 g5 g6 g7 vz ll=>?_⟩
     have wk:WT to kj (ns.foldl jq ({kj with now:=u0,t:=sU kj.t u0},[fv u0 n0])).2 (ns.foldl jq ({kj with now:=u0,t:=sU kj.t u0},[fv u0 n0])).1:=⟨u0,n0,r0,ks,ns,Int.le_trans (g4 n u e1) e2,g1,g2,g3,g4,g5,g6,g7,rfl⟩
     generalize ns.foldl jq ({kj with now:=u0,t:=sU kj.t u0},[fv u0 n0])=S at*
     obtain⟨c1,Wu,hJ1⟩:=hJ.st _ _ _ _ hJj wk
     have WR:=hqj.fr zx
     have aiF:=WR.1
     have akT:=vz.1
     have ajH:j<=60:=by omega
     repeat' (walk_at "rd1")
     refine AF WR.1 vz.1 (by omega) (fun H3 pG pL=>?_)
     obtain⟨rp,adM⟩:=ll.ext WR pG pL
     have yn:qY a L H H3:=Ky (frj.trans zx) pG mI
     repeat' (walk_at "rd1")
     . obtain rfl:r=1:=by omega
       exact q _ _ _ _ (gj _ _ (.last wk)) (by rw [Da];omega) yn mI adM rp
     . obtain⟨r2,rfl⟩:∃r2,r=r2+2:=⟨r - 2,by omega⟩
       refine⟨r2+1,by omega,j+1,c1,_,_,rfl,by omega,by omega,yn,adM,by rw [Da];omega,rp,wk.now,hJ1,fun es k2 g=>?_⟩
       rw [Os]
       exact gj _ _ (.more wk g)
   . repeat' (walk_at "rd1")
     refine QX Ss hnj (fun q2 H2 ks zx mR hm2 _ _ vz ll=>?_)
     repeat' (walk_at "rd1")
     have e:sU kj.t to=kj.t:=by
      funext n
      unfold sU
      cases et:kj.t n with
      |none=>rfl
      |some u=>rw [SC,if_pos (decide_eq_true (h1 n u et))]
     rw [e] at ll
     obtain⟨r',rfl⟩:∃r',r=r'+1:=⟨r - 1,by omega⟩
     have g:=gj _ _ (.done (m:=r') h1)
     rw [NG] at g
     exact q _ _ _ _ g (by omega) (frj.trans zx) mI (hqj.fr zx) ll
theorem ZD (T:Txt K mg a):Binds K a.pZ ["self","to","most","deed"] [.int 60 a.fE,.none]:=T.sN.binds fun _ _ _ _ _ _ s us kx hl=>by
 obtain⟨o,n,h1,h2⟩:=T.za.ex
 have hl:us.length=2:=by simp at hl;omega
 obtain⟨_,_,rfl⟩:=ln2 hl
 exact WA kx rfl h1 h2 rfl rfl
theorem QG (T:Txt K mg a):df P w K mg base 13 a.fD ["self","to","most","deed"] [.int 60,.aQ] (Wd a):=⟨⟨_,_,acZ T,ZD T,.cons ⟨_,rfl⟩ (.cons rfl .nil)⟩⟩
def Jz:Nat->Nat->List Nat
 |0,n=>[97+n]
 |k+1,n=>if n<26 then [97+n] else Jz k (n / 26)++[97+n % 26]
theorem aa8:∀(k j n:Nat),n<k->n<j->Jz k n=Jz j n
 |0,_,_,h,_=>absurd h (Nat.not_lt_zero _)
 |_+1,0,_,_,h=>absurd h (Nat.not_lt_zero _)
 |k+1,j+1,n,h,g=>by
  rw [Jz,Jz]
  split
  . rfl
  . rw [aa8 k j (n / 26) (by omega) (by omega)]
def dig (n:Nat):List Nat:=Jz (n+1) n
theorem Mb (n:Nat):dig n=if h:n<26 then [97+n] else dig (n / 26)++[97+n % 26]:=by
 unfold dig
 rw [Jz]
 split
 . rfl
 . rw [aa8 n (n / 26+1) (n / 26) (by omega) (by omega)]
def und (l:List Nat):Nat:=l.foldl (fun a c=>a*26+(c - 97)) 0
theorem KR (n:Nat):und (dig n)=n:=by
 induction n using Nat.strongRecOn with
 |ind n ih=>
  rw [Mb]
  split
  . simp [und]
  . have:=ih (n / 26) (by omega)
    unfold und at*
    rw [AbO,this]
    simp
    omega
theorem TB {n m:Nat} (h:dig n=dig m):n=m:=by rw [<-KR n,h,KR]
theorem LO:∀(k n:Nat),n<26^(k+1)->(dig n).length<=k+1
 |0,n,h=>by rw [Mb];rw [dif_pos (by simpa using h)];simp
 |k+1,n,h=>by
  rw [Mb]
  split
  . simp
  . have:n / 26<26^(k+1):=by rw [Nat.div_lt_iff_lt_mul (by decide)];rw [Abz] at h;exact h
    have:=LO k (n / 26) this
    simp;omega
def vq (l:List Nat):Str:=⟨l.toArray⟩
theorem Hr {a b:List Nat} (h:vq a=vq b):a=b:=by
 unfold vq at h
 have:=congrArg (fun s:Str=>s.cps.toList) h
 simpa using this
def nameEnd (n:Nat) (l:List Nat):List Nat:=if n=0/\l≠[] then l else dig n++l
theorem Fb {n:Nat} {l:List Nat} (h:¬(n=0/\l≠[])):nameEnd (n / 26) ((97+n % 26)::l)=nameEnd n l:=by
 unfold nameEnd
 rw [if_neg h]
 by_cases h2:n<26
 . rw [if_pos ⟨by omega,by simp⟩]
   rw [Mb]
   rw [dif_pos h2]
   have:n % 26=n:=by omega
   rw [this];rfl
 . rw [if_neg (by omega)]
   conv=>rhs;rw [Mb]
   rw [dif_neg h2,Os];rfl
def yN (n:Nat):Str:=vq (dig n)
theorem Pa {n m:Nat} (h:yN n=yN m):n=m:=TB (Hr h)
theorem YK (N:Nat):∀c∈dig N,c<0x110000:=by
 induction N using Nat.strongRecOn with
 |ind n ih=>
  intro c hc
  rw [Mb] at hc
  split at hc
  . have:c=97+n:=by simpa using hc
    omega
  . rcases Co.mp hc with hc|hc
    . exact ih (n / 26) (by omega) c hc
    . have:c=97+n % 26:=by simpa using hc
      omega
theorem acS (N:Nat):LM (.str (yN N))=true:=by
 show(Str.cps (yN N)).all (·<0x110000)=true
 rw [Array.all_eq_true']
 intro c hc
 exact decide_eq_true (YK N c (by simpa [yN,vq] using hc))
def FG:Sp:=fun vs H Q _=>∃c k,vs=[.int c,.int k]/\0<=k/\k<61/\Q (.str (yN (c % 3000000007*61+k).toNat)) H
theorem XC {c k:Int} (h1:0<=k) (h2:k<61) (q:Q (.str (yN (c % 3000000007*61+k).toNat)) H):FG [.int c,.int k] H Q E:=⟨c,k,rfl,h1,h2,q⟩
theorem ZU (h0:0<=n) (h1:n<26):t5 (Str.cps "abcdefghijklmnopqrstuvwxyz").toList n=some (97+n.toNat):=by
 obtain⟨m,rfl⟩:=AaA h0
 have hm:m<26:=by omega
 refine xg ?_
 have:∀m:Fin 26,(Str.cps "abcdefghijklmnopqrstuvwxyz").toList[m.val]? =some (97+m.val):=by decide+kernel
 exact this ⟨m,hm⟩
theorem S6 (T:Txt K mg a):aP P w K mg base eG 1 a.eP a.xc ["_law_cell","_law_k"] FG:=by
 refine T.rZ.ok jh (fun vs H Q E h=>?_) (fun c7 A outer s H vs Q E hr h=>?_)
 . obtain⟨_,_,rfl,_⟩:=h;rfl
 . obtain⟨c,k,rfl,h1,h2,q⟩:=h
   refine⟨_,(ag (aE (i:=2) jh.nd rfl (FS rfl) (aC gB (aC EA (aC cG (pv 0) aq) aq) (pv 1)))
    (ag (aE (i:=3) jh.nd rfl (FS rfl) jy)
    (ag (pE KB (PW.pt (DZ (aI DA (pv 2) aq (aK _)) (BI (aI (mD hr.F0) (pv 3) jy (aK _)))))
     (ag (aE (i:=3) jh.nd rfl (FS rfl) (aC Um (bG ik jy (aC cG (pv 2) aq) (fun _ _=>rfl)) (pv 3)))
     (ah (aE (i:=2) jh.nd rfl (FS rfl) (aC bH (pv 2) aq)))))
    (ah (aD (pv 3)))))),?_⟩
   have hN:(c % 3000000007*61+k)=((c % 3000000007*61+k).toNat:Int):=by omega
   have hB:(c % 3000000007*61+k).toNat<26^9:=by have:(26:Nat)^9=5429503678976:=by decide
                                                omega
   generalize (c % 3000000007*61+k).toNat=N at hN hB q
   repeat' (walk_at "rd1")
   rw [hN]
   refine tW (fun m σ' H'=>∃(n:Nat) (l:List Nat),σ'=[some (.int c),some (.int k),some (.int n),some (.str (vq l))]/\H'=H/\n<26^9/\nameEnd n l=dig N/\m=n+(if l=[] then 1 else 0)) ⟨_,N,[],rfl,rfl,hB,by simp [nameEnd],rfl⟩ ?_
   rintro m σ' H' ⟨n,l,rfl,rfl,hn,he,rfl⟩
   have hl:l.length<=9:=by
    have h1:=LO 8 N hB
    rw [<-he] at h1
    unfold nameEnd at h1
    split at h1
    . exact h1
    . rw [Da] at h1;omega
   have Kp:(vq l).length<=9:=by show l.toArray.size<=9;simpa using hl
   have step:¬(n=0/\l≠[])->∀σ2:St,σ2=[some (.int c),some (.int k),some (.int ((n:Int) / 26)),some (.str (vq ((97+n % 26)::l)))]->∃m',m'<n+(if l=[] then 1 else 0)/\∃(n':Nat) (l':List Nat),σ2=[some (.int c),some (.int k),some (.int n'),some (.str (vq l'))]/\H'=H'/\n'<26^9/\nameEnd n' l'=dig N/\m'=n'+(if l'=[] then 1 else 0):=by
    intro hs σ2 e
    refine⟨n / 26,?_,n / 26,(97+n % 26)::l,by rw [e,show((n / 26:Nat):Int)=(n:Int) / 26 by omega],rfl,by omega,by rw [Fb hs];exact he,by simp⟩
    by_cases h0:l=[]
    . rw [if_pos h0];omega
    . rw [if_neg h0]
      have:n≠0:=fun z=>hs ⟨z,h0⟩
      omega
   have cat:∀x:Nat,(⟨#[x]⟩:Str)++vq l=vq (x::l):=fun x=>by
    show(⟨#[x]++l.toArray⟩:Str)=⟨(x::l).toArray⟩
    congr 1
    simp
   have ix:t5 (Str.cps "abcdefghijklmnopqrstuvwxyz").toList ((n:Int) % 26)=some (97+n % 26):=by
    rw [ZU (by omega) (by omega)]
    rw [show((n:Int) % 26).toNat=n % 26 by omega]
   have adN:(Str.length "abcdefghijklmnopqrstuvwxyz")<=EM:=by decide
   repeat' (walk_at "rd1")
   . refine Qh adN ix (Rz rfl (Ji ?_ ?_))
     . show 1+(vq l).length<=4000;omega
     . rw [cat]
       repeat' (walk_at "rd1")
       exact step (by omega) _ rfl
   . refine Qh adN ix (Rz rfl (Ji ?_ ?_))
     . show 1+(vq l).length<=4000;omega
     . rw [cat]
       repeat' (walk_at "rd1")
       refine step ?_ _ rfl
       rename_i Ke hb _ _
       intro z
       have:vq l=vq []:=V.str.inj hb
       exact z.2 (Hr this)
   . rename_i Ke hb
     have h0:n=0:=by omega
     have mS:l≠[]:=fun z=>hb (by rw [z];rfl)
     have:nameEnd n l=l:=by unfold nameEnd;rw [if_pos ⟨h0,mS⟩]
     rw [this] at he
     rw [he]
     exact q
theorem O9 (T:Txt K mg a):df P w K mg base 1 a.eP ["_law_cell","_law_k"] [] FG:=
 ⟨⟨_,_,S6 T,T.rZ.binds fun _ _ _ _ _ _=>dJ fun _ _=>rfl,.nil⟩⟩
local macro_rules|`(tactic|walk_at "use")=>`(tactic|first|((with_reducible refine' XC ?e1 ?e2 ?_);(case e1=>omega);(case e2=>omega))|fail)
def aa7 (K:At) (x:V) (g:TG) (tb:TS) (D:Ends) (σ:St) (H1:Hp):Prop:=∃a,x=.ref a/\(∃xs,zZ K H1 a xs)/\∃W:Nat->Nat->St->Hp->Prop,(∃m,W 0 m σ H1)/\∀i m σ H,W i m σ H->
 ((WL K a).stop i H/\D.nx σ H)\/((WL K a).go i H/\∃N:St->Hp->Prop,(∀σ' H',N σ' H'->∃m',m'<m/\W (i+1) m' σ' H')/\∀x H',(WL K a).Sf i H x H'->g x σ H' fun σ2 H2=>tb {D with nx:=N,ct:=N,bk:=D.nx} σ2 H2)
section
variable {D:Ends} {g:TG} {tb:TS}
theorem YB {tl:TE} (h:tl σ H fun x H1=>aa7 K x g tb D σ H1):QP (abt K tl) g tb D σ H:=h
theorem afC (hd:Dv H v (.tuple ds)) (S:Nat->St->Prop) (h0:S 0 σ) (hs:∀i d x σ',ds[i]? =some d->Dv H x d->S i σ'->g x σ' H fun σ2 H2=>tb {D with nx:=fun Zt H'=>S (i+1) Zt/\H'=H,ct:=fun Zt H'=>S (i+1) Zt/\H'=H,bk:=D.nx} σ2 H2) (he:∀σ',S ds.length σ'->D.nx σ' H):aa7 K v g tb D σ H:=by
 cases hd with
 |tup h r=>
  rename_i a xs
  refine⟨a,rfl,⟨xs,.of h⟩,SD (fun i σ' H'=>S i σ'/\H'=H) ⟨h0,rfl⟩ (fun i σ' H' _ p=>by rw [p.2];exact .of h) (fun i x σ' H' hx p=>?_) (fun σ' H' p=>?_)⟩
  . obtain⟨p1,rfl⟩:=p
    have hl:=r.length
    have hi:i<ds.length:=by have:=(AS.mp hx).1;omega
    obtain⟨x',uA,rl⟩:=r.get (i:=i) (d:=ds[i]) (AC hi)
    rw [hx] at uA
    cases uA
    exact hs i _ x σ' (AC hi) rl p1
  . obtain⟨p1,rfl⟩:=p
    rw [r.length] at p1
    exact he σ' p1
end
set_option hygiene false in
local macro_rules|`(tactic|walk_at "rd1")=>`(tactic|first|with_reducible refine YB ?_|fail)
def Flat (d:BB):Prop:=(∃s,d=.str s)\/∃i,d=.int i
def Ent (e:BB):Prop:=∃ps,e=.tuple ps/\∀p∈ps,Flat p
def Cj:Sp:=fun vs H Q _=>∃v es,vs=[v]/\Dv H v (.list es)/\(∀e∈es,Ent e)/\Q (.bl true) H
theorem UI (h:Dv H v (.list es)) (he:∀e∈es,Ent e) (q:Q (.bl true) H):Cj [v] H Q E:=⟨v,es,rfl,h,he,q⟩
theorem Fj (T:Txt K mg a):aP P w K mg base eG 1 a.dF a.uU ["_law_found"] pz:=by
 refine T.p7.ok C9 (fun vs H Q E h=>?_) (fun c7 A outer s H vs Q E hr h=>?_)
 . obtain⟨_,_,rfl,_⟩:=h;rfl
 . obtain⟨v,d,rfl,hd,k⟩:=h
   refine⟨_,(ah (aD (EC (aU jZ rfl T.bq LB (ae (pv 0) (ae (mZ (v:=.ty "int") rfl T.Bz PyProof.Rows.boot_int rfl) af))) (AQ (RT (aU jZ rfl T.bq LB (ae (pv 0) (ae (mZ (v:=.ty "bool") rfl T.wg PyProof.Rows.boot_bool rfl) af)))))))),?_⟩
   repeat' (walk_at "rd1")
   . refine UQ ?_;cases d <;>simp_all [isInt,isBool]
   . refine UQ ?_;cases d <;>simp_all [isInt,isBool]
theorem C0 (T:Txt K mg a):df P w K mg base 1 a.dF ["_law_found"] [] pz:=
 ⟨⟨_,_,Fj T,T.p7.binds fun _ _ _ _ _ _=>kO fun _=>rfl,.nil⟩⟩
theorem P7 (T:Txt K mg a):aP P w K mg base eG 2 a.dR a.uE ["_law_found"] Cj:=by
 have FQ:=C0 (P:=P) (w:=w) (base:=base) T
 refine T.pV.ok og (fun vs H Q E h=>?_) (fun c7 A outer s H vs Q E hr h=>?_)
 . obtain⟨_,_,rfl,_⟩:=h;rfl
 . obtain⟨v,es,rfl,hv,he,q⟩:=h
   refine⟨_,(ag (bB (iY (bI (aU jZ rfl T.bq LB (ae (pv 0) (ae (mZ (v:=.ty "list") rfl T.p9 XV rfl) af))) (fun _=>rfl)))
    (ah (aD wx))
    aN)
    (ag (kC KB rfl (cR (pv 0)) (a0 (i:=1) og.nd rfl (FS rfl))
     (ag (bB (iY (bI (aU jZ rfl T.bq LB (ae (pv 1) (ae (mZ (v:=.ty "tuple") rfl T.v9 PyProof.Rows.boot_tuple rfl) af))) (fun _=>rfl)))
      (ah (aD wx))
      aN)
     (ah (kC KB rfl (Yw (pv 1)) (a0 (i:=2) og.nd rfl (FS rfl))
      (ah (bB (PW.pt (vG (iY (bI (aU jZ rfl T.bq LB (ae (pv 2) (ae (mZ (v:=.ty "str") rfl T.FK PyProof.Rows.boot_str rfl) af))) (fun _=>rfl))) (pR (iY (bI (dA FQ (hr.mono (by decide)) rfl T.ux T.uK (ae (pv 2) af)) (fun _=>rfl))))))
       (ah (aD wx))
       aN))))))
    (ah (aD wx)))),?_⟩
   repeat' (walk_at "rd1")
   refine afs (cs:=es) (gd:=fun d=>d) (by rw [List.map_id'];exact hv) (fun i σ' H'=>H'=H/\∃z1 z2,σ'=[some v,z1,z2]) ⟨rfl,_,_,rfl⟩ (fun i σ' H' _ ⟨e,_⟩ b xs _ hx=>by rw [e];exact hx) ?_ ?_
   . rintro i e x σ' H' hi ⟨rfl,z1,z2,rfl⟩ _ hx
     obtain⟨ps,rfl,hps⟩:=he e (Cf hi)
     have hx:Dv H' x (.tuple ps):=hx (ay.refl _)
     repeat' (walk_at "rd1")
     refine afC hx (fun j σ'=>∃z,σ'=[some v,some x,z]) ⟨_,rfl⟩ ?_ ?_
     . rintro j d y σ' hj hy ⟨z,rfl⟩
       rcases hps d (Cf hj) with⟨s,rfl⟩|⟨n,rfl⟩
       . obtain rfl:=hy.str_inv
         repeat' (walk_at "rd1")
         exact⟨⟨_,rfl⟩,rfl⟩
       . obtain rfl:=hy.int_inv
         repeat' (walk_at "rd1")
         exact⟨⟨_,rfl⟩,rfl⟩
     . rintro σ' ⟨z,rfl⟩
       exact⟨rfl,_,_,rfl⟩
   . rintro σ' H' ⟨rfl,z1,z2,rfl⟩
     repeat' (walk_at "rd1")
     exact q
theorem Nm (T:Txt K mg a):df P w K mg base 2 a.dR ["_law_found"] [] Cj:=
 ⟨⟨_,_,P7 T,T.pV.binds fun _ _ _ _ _ _=>kO fun _=>rfl,.nil⟩⟩
structure vB (ds:List BB):Prop where
 c:AaP ds=true
 d:AaH ds<=3
 e:BB.eqvAll ds ds=true
theorem vB.nil:vB []:=⟨rfl,KF _,rfl⟩
theorem vB.cons {d:BB} {ds:List BB} (h1:d.canLay0=true) (h2:d.depth<=3) (h3:Sm d d=true) (h:vB ds):vB (d::ds):=by
 refine⟨?_,?_,?_⟩
 . rw [AaP,h1,h.c];rfl
 . have:=h.d;rw [AaH];omega
 . rw [BB.eqvAll,h3,h.e];rfl
theorem VV {x y:V} (h1:Dv H x (.list ds)) (h2:Dv H y (.list ds)) (hl:vB ds) (h:Q (.bl (f true)) H):Jm K f x y H Q:=by
 refine OJ h1 h2 (by rw [LM];exact hl.c) (by rw [LM];exact hl.c) ?_ ?_
 . have:=hl.d
   rw [BB.depth]
   omega
 . rw [Sm,hl.e];exact h
theorem Ur (h:vB ds) (hd:AaH ds<=2):(BB.tuple ds).canLay0=true/\(BB.tuple ds).depth<=3/\Sm (.tuple ds) (.tuple ds)=true:=by
 refine⟨by rw [LM];exact h.c,?_,by rw [Sm];exact h.e⟩
 rw [BB.depth]
 omega
theorem Flat.lay (h:Flat d) (hs:∀s,d=.str s->LM (.str s)=true):d.canLay0=true/\d.depth=0/\Sm d d=true:=by
 rcases h with⟨s,rfl⟩|⟨i,rfl⟩
 . exact⟨hs s rfl,rfl,by simp [Sm]⟩
 . exact⟨rfl,rfl,by simp [Sm]⟩
theorem Lh:∀{ps:List BB},(∀p∈ps,Flat p)->(∀s,EQ s∈ps->LM (.str s)=true)->vB ps/\AaH ps=0
 |[],_,_=>⟨.nil,rfl⟩
 |p::ps,h,hs=>by
  obtain⟨g1,g2⟩:=Lh (ps:=ps) (fun q hq=>h q (AL _ hq)) (fun s hq=>hs s (AL _ hq))
  obtain⟨l1,l2,l3⟩:=(h p BC).lay fun s e=>hs s (by rw [<-e];exact BC)
  refine⟨.cons l1 (by omega) l3 g1,?_⟩
  rw [AaH,l2,g2];rfl
theorem Ln (h:∀e∈ds,∃ps,e=.tuple ps/\(∀p∈ps,Flat p)/\∀s,EQ s∈ps->LM (.str s)=true):vB ds:=by
 induction ds with
 |nil=>exact .nil
 |cons d ds ih=>
  obtain⟨ps,rfl,h1,h2⟩:=h d BC
  obtain⟨g1,g2⟩:=Lh h1 h2
  obtain⟨l1,l2,l3⟩:=Ur g1 (by omega)
  exact .cons l1 l2 l3 (ih fun e he=>h e (AL _ he))
section
open PySem PySem.Spec PyProof.Rows PySem.W
section
variable {prog:Fk} {w:World} {A:IS} {E:Value->AM->Prop} {s:AM}
theorem Vb {x y:Addr} {i j f f' l':Int} {t u t2 u2 t3 u3 t4 u4:Tok} {c d:Str} {Q:Bool->AM->Prop} (hx:IsTup s.heap x #[.int i t,.str c t2,.int f t3,.int l t4]) (hy:IsTup s.heap y #[.int j u,.str d u2,.int f' u3,.int l' u4]) (hs:i=j->c=d->f=f'/\l=l') (h:Q (aW (i,c) (j,d)) s):
 wpAny (model prog w) A (keyLt' (tuples' true) (.ref x) (.ref y)) Q E s:=by
 obtain⟨ox,hox,cx,nx,dx⟩:=hx
 obtain⟨oy,hoy,cy,ny,dy⟩:=hy
 refine kat_lt hox dx hoy dy ?_
 refine kat_cons (Aal ?_)
 by_cases e:i=j
 . rw [show(i==j)=true from beq_iff_eq.mpr e]
   refine kat_yes (kat_cons (wpAny_eqBool_str ?_))
   by_cases e2:c=d
   . obtain⟨e3,e4⟩:=hs e e2
     rw [decide_eq_true e2]
     refine kat_yes (kat_cons (Aal ?_))
     rw [show(f==f')=true from beq_iff_eq.mpr e3]
     refine kat_yes (kat_cons (Aal ?_))
     rw [show(l==l')=true from beq_iff_eq.mpr e4]
     refine kat_yes (kat_nil ?_)
     have:aW (i,c) (j,d)=false:=by rw [e,e2];exact gI _
     rw [this] at h
     exact h
   . rw [decide_eq_false e2]
     refine kat_no (kat_one _ _ (lt_str ?_))
     have:aW (i,c) (j,d)=D0 c d:=by unfold aW;simp [e]
     rw [this] at h
     exact h
 . rw [show(i==j)=false from beq_eq_false_iff_ne.mpr e]
   refine kat_no (oneLt_int ?_)
   have:aW (i,c) (j,d)=decide (i<j):=by unfold aW;simp [e]
   rw [this] at h
   exact h
end
def nL (k:(Int × Str) × Int × Int):BB:=.tuple [.int k.1.1,.str k.1.2,.int k.2.1,.int k.2.2]
theorem EJ {k:(Int × Str) × Int × Int} (h:Dv H v (nL k)):∃a,v=.ref a/\H a=some (.tup [.int k.1.1,.str k.1.2,.int k.2.1,.int k.2.2]):=by
 unfold nL at h
 cases h with
 |tup ha r=>
  cases r with
  |cons h1 r=>
   cases r with
   |cons h2 r=>
    cases r with
    |cons h3 r=>
     cases r with
     |cons h4 r=>
      cases r
      rw [h1.int_inv,h2.str_inv,h3.int_inv,h4.int_inv] at ha
      exact⟨_,rfl,ha⟩
def YF (H:Hp):V->(Int × Str) × Int × Int
 | .ref a=>match H a with
   |some (.tup [.int i,.str x,.int f,.int l])=>((i,x),f,l)
   |_=>((0,AbX),0,0)
 |_=>((0,AbX),0,0)
theorem IW {k:(Int × Str) × Int × Int} (h:Dv H v (nL k)):YF H v=k:=by
 obtain⟨a,rfl,e⟩:=EJ h
 simp only [YF,e]
theorem KO {H:Hp}:∀{xs:List V} {ks:List ((Int × Str) × Int × Int)},dB H xs (ks.map nL)->dB H xs (xs.map fun v=>nL (YF H v))/\xs.map (YF H)=ks
 |_,[],.nil=>⟨.nil,rfl⟩
 |_,_::_,.cons h r=>by
  obtain⟨h1,h2⟩:=KO r
  refine⟨.cons (by show Dv H _ (nL (YF H _));rw [IW h];exact h) h1,?_⟩
  rw [EN,IW h,h2]
section
variable {X:Cx} {pins:List (Addr × Obj)} {σ:L2.St} {s:AM}
theorem Ml {s':AM} {ys:List V} {us:List Value} {A:IS} (I:Inv X pins σ H' s') (rv:Vals ys us) (dv:dB H' ys (xs.map fun v=>.tuple [.int (kf v).1,.str (kf v).2,.int (rf v).1,.int (rf v).2])) (hk:(xs.map kf).Nodup):
 U4 xs.length (fun i j=>aW (kf (xs.getD i .aQ)) (kf (xs.getD j .aQ))) (fun z=>z=s') (kas_ask X.prog X.w A (tuples' true) us):=by
 intro i j C z hi hj hz hC
 subst hz
 have one:∀i,i<xs.length->∃x t t2 t3 t4,us.getD i Of=.ref x/\IsTup z.heap x #[.int (kf (xs.getD i .aQ)).1 t,.str (kf (xs.getD i .aQ)).2 t2,.int (rf (xs.getD i .aQ)).1 t3,.int (rf (xs.getD i .aQ)).2 t4]:=fun i hi=>by
  have d:=Bn dv hi
  have r:=tZ i rv
  generalize ys.getD i .aQ=y at d r
  generalize us.getD i Of=u at r
  obtain⟨a,rfl,e⟩:=EJ (k:=(kf (xs.getD i .aQ),rf (xs.getD i .aQ))) d
  obtain⟨aZ,rr,tt,_⟩:=I.tuple (.of e)
  cases rr with
  |cons r1 rr=>
   cases rr with
   |cons r2 rr=>
    cases rr with
    |cons r3 rr=>
     cases rr with
     |cons r4 rr=>
      cases rr
      obtain⟨t1,rfl⟩:=r1
      obtain⟨t2,rfl⟩:=r2
      obtain⟨t3,rfl⟩:=r3
      obtain⟨t4,rfl⟩:=r4
      exact⟨_,t1,t2,t3,t4,r,tt⟩
 obtain⟨x,t,t2,t3,t4,e1,hx⟩:=one i hi
 obtain⟨y,u,u2,u3,u4,e2,hy⟩:=one j hj
 show wpAny (model X.prog X.w) A (keyLt' (tuples' true) (us.getD i Of) (us.getD j Of)) C (fun _ _=>False) z
 rw [e1,e2]
 refine Vb hx hy (fun z1 z2=>?_) (hC _ rfl)
 have vX:i=j:=by
  have hp:=NJ.mp (List.nodup_iff_pairwise_ne.mp hk)
  have ek:kf (xs.getD i .aQ)=kf (xs.getD j .aQ):=Ab3 z1 z2
  have g:∀i (hi:i<xs.length),xs.getD i .aQ=xs[i]:=fun i hi=>by rw [Lo,AC hi];rfl
  rw [g i hi,g j hj] at ek
  rcases Nat.lt_trichotomy i j with h|h|h
  . exact absurd (by rw [Aa8,Aa8];exact ek) (hp i j (by simpa using hi) (by simpa using hj) h)
  . exact h
  . exact absurd (by rw [Aa8,Aa8];exact ek.symm) (hp j i (by simpa using hj) (by simpa using hi) h)
 subst vX
 exact⟨rfl,rfl⟩
theorem AI {H':Hp} {s':AM}:∀{xs ys:List V} {us:List Value},Inv X pins σ H' s'->Vals ys us->dB H' ys (xs.map fun v=>.tuple [.int (kf v).1,.str (kf v).2,.int (rf v).1,.int (rf v).2])->
 ∃fs,KatTups s'.heap us fs/\fs.length=us.length/\∀v∈fs,Looks (model X.prog X.w) s'.heap (typeOf v) (.type "int")
 |[],_,_,I,rv,dv=>by
  cases dv
  cases rv
  exact⟨[],trivial,rfl,fun _ z=>nomatch z⟩
 |x::xs,_,_,I,rv,dv=>by
  cases dv with
  |cons d dv=>
   cases rv with
   |cons r rv=>
    obtain⟨fs,h1,h2,h3⟩:=AI I rv dv
    obtain⟨a,rfl,e⟩:=EJ (k:=(kf x,rf x)) d
    obtain⟨aZ,rr,tt,_⟩:=I.tuple (.of e)
    cases rr with
    |cons r1 rr=>
     obtain⟨t1,rfl⟩:=r1
     cases r
     obtain⟨o,ho,hc,n,hd⟩:=tt
     refine⟨_::fs,KatTups.cons ho hc hd rfl h1,by simp [h2],fun v hv=>?_⟩
     rcases AD.mp hv with rfl|hv
     . exact .now
     . exact h3 v hv
theorem G7 {l:Addr} {E:Value->AM->Prop} (I:Inv X pins σ H s) (hl:gD X.K H l xs) (h64:xs.length<64) (dv:dB H xs (xs.map fun v=>.tuple [.int (kf v).1,.str (kf v).2,.int (rf v).1,.int (rf v).2])) (hk:(xs.map kf).Nodup) (fin:wD X pins σ H aW kf xs Q):
 wpAny (model X.prog X.w) X.A (call (.builtin "sorted") [.ref l]) (EP X pins σ Q) E s:=
 A4 I hl h64 (fun I r=>AI I r dv) (fun I r=>Ml I r dv hk) fin
def Rx:List V->Hp->VK->Prop:=fun xs H Q=>∃(v:V) (ks:List ((Int × Str) × Int × Int)),xs=[v]/\Dv H v (.list (ks.map nL))/\(ks.map (·.1)).Nodup/\ks.length<64/\∀q H' (Fh:List ((Int × Str) × Int × Int)),ay H H'->H q=none->Fh.Perm ks->Fh.Pairwise (fun c d=>aW d.1 c.1=false)->dg H' q (Fh.map nL)->Q (.ref q) H'
theorem Js:iL X (.builtin "sorted") Rx:=by
 intro pins s σ H xs us Q I r h
 obtain⟨v,ks,rfl,hd,j9,hl,q⟩:=h
 obtain⟨u,rfl,ru⟩:=vals1 r
 obtain⟨p,ys,rfl,e,dv⟩:=hd.lst_inv
 cases ru
 obtain⟨f1,f2⟩:=KO dv
 refine G7 (kf:=fun v=>(YF H v).1) (rf:=fun v=>(YF H v).2) I (e X.K) (by rw [dv.length,AE];exact hl) f1 (by rw [<-f2,GM] at j9;exact j9) fun a zs H' sm hn hn' ord=>?_
 obtain⟨pm,pw⟩:=ord
 obtain⟨Fh,pc,dv'⟩:=dv.perm pm
 have jK:ay H (upd H' a (.lst zs)):=sm.trans (cP hn')
 exact q a _ Fh jK hn pc (dB.pairwise (R:=fun a b=>aW b a=false) (key:=fun k=>k.1) (fun v c hv=>by rw [IW hv]) dv' pw) ⟨zs,av,dv'.keeps jK,bE (fun _=>rfl) _⟩
end
section
variable {σ:L2.St}
theorem Vu {ks:List ((Int × Str) × Int × Int)} (hp:Dv H v (.list (ks.map nL))) (hn:(ks.map (·.1)).Nodup) (hl:ks.length<64) (h:∀q H' (Fh:List ((Int × Str) × Int × Int)),ay H H'->H q=none->Fh.Perm ks->Fh.Pairwise (fun c d=>aW d.1 c.1=false)->dg H' q (Fh.map nL)->Q (.ref q) H'):Rx [v] H Q:=⟨v,ks,rfl,hp,hn,hl,h⟩
end
end
structure g9 where
 (n:Str) (f l w:Int)
structure g9.Ok (b:g9):Prop where
 f0:1<=b.f
 fl:b.f<=b.l
 l1:b.l<10^40 - 1
 w0:1<=b.w
 nm:LM (.str b.n)=true
def bD (b:g9):BB:=.tuple [.str b.n,.int b.f,.int b.l,.int b.w]
def oT (b:g9):iS:=⟨.once b.f b.l,b.w,none,false,0,some (b.f,b.l),some b.f,some b.l⟩
def iD (bs:List g9) (y:Str):Option g9:=bs.find? fun b=>decide (b.n=y)
def kB (now:Int) (bs:List g9):KS:=⟨now,0,fun y=>(iD bs y).map oT,fun y=>(iD bs y).map (·.l)⟩
abbrev Nd (bs:List g9):Prop:=(bs.map (·.n)).Nodup
theorem k8 {bs:List g9} {y:Str} {b:g9} (h:iD bs y=some b):b∈bs/\b.n=y:=⟨Uf h,of_decide_eq_true (List.find?_some (p:=fun b:g9=>decide (b.n=y)) h)⟩
theorem BP {bs:List g9} (hn:Nd bs) {b c:g9} (hb:b∈bs) (hc:c∈bs) (e:b.n=c.n):b=c:=by
 induction bs with
 |nil=>cases hb
 |cons y r ih=>
  have hn:y.n∉r.map (·.n)/\Nd r:=by simpa [Nd] using hn
  rcases AD.mp hb with z1|h1 <;>rcases AD.mp hc with z2|h2
  . rw [z1,z2]
  . exact absurd (by rw [<-z1,e];exact Cc (f:=(·.n)) h2) hn.1
  . exact absurd (by rw [<-z2,<-e];exact Cc (f:=(·.n)) h1) hn.1
  . exact ih hn.2 h1 h2
theorem vo {bs:List g9} (hn:Nd bs) {b:g9} (hb:b∈bs):iD bs b.n=some b:=by
 cases e:iD bs b.n with
 |none=>exact absurd rfl (of_decide_eq_false ((Aaq _).mp (So.mp e b hb)))
 |some c=>
  obtain⟨h1,h2⟩:=k8 e
  rw [BP hn h1 hb h2]
theorem Ak {bs:List g9} {y:Str} (h:y∉bs.map (·.n)):iD bs y=none:=So.mpr fun b hb=>by
 rw [decide_eq_true_eq]
 exact fun e=>h (e▸Cc hb)
theorem vF {bs:List g9} {p:g9->Bool} (h:Nd bs):Nd (bs.filter p):=h.sublist (IR.map _)
theorem Q8 {bs:List g9} (hn:Nd bs) (p:g9->Bool) (y:Str):iD (bs.filter p) y=(iD bs y).filter p:=by
 cases e:iD bs y with
 |none=>
  refine Ak fun z=>?_
  obtain⟨b,hb,rfl⟩:=AN.mp z
  rw [vo hn (B0.mp hb).1] at e
  cases e
 |some b=>
  obtain⟨h1,rfl⟩:=k8 e
  rw [SC]
  split
  . rename_i hp
    exact vo (vF hn) (B0.mpr ⟨h1,hp⟩)
  . rename_i hp
    refine Ak fun z=>?_
    obtain⟨c,hc,e2⟩:=AN.mp z
    obtain⟨c1,c2⟩:=B0.mp hc
    rw [BP hn c1 h1 e2] at c2
    exact hp c2
theorem Vl {bs:List g9} {b:g9} (h:b.n∉bs.map (·.n)):iD (bs++[b])=cQ (iD bs) b.n (some b):=by
 funext y
 unfold iD
 rw [List.find?_append]
 by_cases e:y=b.n
 . rw [e,aG]
   have:=Ak h
   unfold iD at this
   rw [this]
   simp
 . rw [b8 e]
   have:([b].find? fun c=>decide (c.n=y))=none:=by simp;exact fun z=>e z.symm
   rw [this,Option.or_none]
theorem ab3 {bs:List g9} {b:g9} (ok:b.Ok) (h:b.n∉bs.map (·.n)):tu (kB 0 bs) b.n (mj (.once b.f b.l) b.w none false) b.l=kB 0 (bs++[b])/\yS (kB 0 bs) b.n (mj (.once b.f b.l) b.w none false) b.l=[]:=by
 have hf:=ok.f0;have hl:=ok.fl
 have e1:layB (kB 0 bs) (mj (.once b.f b.l) b.w none false) b.l=mj (.once b.f b.l) b.w none false:=by
  unfold layB sV
  refine if_pos ?_
  show(0:Int)+0<b.l
  omega
 have e2:missed b.n (rest (mj (.once b.f b.l) b.w none false)) b.l (eR (kB 0 bs) (mj (.once b.f b.l) b.w none false))=[]:=by
  unfold missed
  refine if_pos ?_
  show(0:Int)+0<b.l
  omega
 constructor
 . unfold tu
   rw [e1]
   show(⟨0,0,cQ _ b.n (some (wait (mj (.once b.f b.l) b.w none false) 0 0 b.f b.l)),cQ _ b.n (some (b.l - 0))⟩:KS)=kB 0 (bs++[b])
   have e3:wait (mj (.once b.f b.l) b.w none false) 0 0 b.f b.l=oT b:=by
    show iS.mk _ _ _ _ _ _ (some (max (b.f - 0) (0+1))) (some (b.l - 0))=oT b
    rw [show max (b.f - 0) (0+1)=b.f by omega,Int.sub_zero];rfl
   rw [e3,Int.sub_zero]
   unfold kB
   rw [Vl h]
   congr 1
   . funext y
     by_cases e:y=b.n
     . rw [e,aG,aG];rfl
     . rw [b8 e,b8 e]
   . funext y
     by_cases e:y=b.n
     . rw [e,aG,aG];rfl
     . rw [b8 e,b8 e]
 . unfold yS
   rw [e2,e1];rfl
def BX (b:g9):Int × Str:=(-b.w,b.n)
def vZ (u:Int) (b:g9):List BB:=[A6 b.n 0 u b.f b.l,Ar b.n]
def Rg (u:Int) (bs:List g9) (es:List BB):Prop:=∃(n0:Str) (rs:List g9),(∃b∈bs,b.n=n0/\b.l=u)/\(∀b∈bs,b.l=u->D0 b.n n0=false)/\rs.Perm (bs.filter fun b=>decide (b.f<=u))/\rs.Pairwise (fun c d=>aW (BX d) (BX c)=false)/\es=fv u n0::rs.flatMap (vZ u)
theorem Kx {cs:List g9} (hn:Nd cs):∀{xs ys:List g9},xs.Perm ys->(∀x∈xs,x∈cs)->xs.Pairwise (fun c d=>aW (BX d) (BX c)=false)->ys.Pairwise (fun c d=>aW (BX d) (BX c)=false)->xs=ys
 |[],ys,h,_,_,_=>h.nil_eq
 |x::xs,[],h,_,_,_=>absurd h.length_eq (by simp)
 |x::xs,y::ys,h,hc,hx,hy=>by
  rw [OR] at hx hy
  have e:x=y:=by
   rcases AD.mp (h.mem_iff.mp BC) with e|hm
   . exact e
   . rcases AD.mp (h.mem_iff.mpr BC) with e|Ug
     . exact e.symm
     . have e:=Gk (hx.1 y Ug) (hy.1 x hm)
       exact BP hn (hc x BC) (hc y (AL _ Ug)) (AaT e).2.symm
  subst e
  rw [Kx hn (Ab9.cons_inv h) (fun z hz=>hc z (AL _ hz)) hx.2 hy.2]
theorem Rg.det {bs:List g9} {Oj:List BB} (hn:Nd bs) (h:Rg u bs es) (g:Rg u bs Oj):es=Oj:=by
 obtain⟨n0,rs,⟨b,hb,rfl,hl⟩,h1,h2,h3,rfl⟩:=h
 obtain⟨m0,rs',⟨c,hc,rfl,CB⟩,g1,g2,g3,rfl⟩:=g
 rw [FX (h1 c hc CB) (g1 b hb hl),Kx hn (h2.trans g2.symm) (fun x hx=>(B0.mp (h2.mem_iff.mp hx)).1) h3 g3]
inductive Du (to:Int):List g9->List BB->List g9->Prop
 |stop {bs:List g9} (h:∀b∈bs,to<b.l):Du to bs [] bs
 |step {bs lf:List g9} {u:Int} {es Sw:List BB} (h1:∃b∈bs,b.l=u) (h2:∀b∈bs,u<=b.l) (h3:u<=to) (h4:Rg u bs es) (h5:Du to (bs.filter fun b=>decide (u<b.f)) Sw lf):Du to bs (es++Sw) lf
theorem Du.det {bs lf:List g9} (h:Du to bs es lf):Nd bs->∀{Oj lf'},Du to bs Oj lf'->es=Oj/\lf=lf':=by
 induction h with
 |stop h=>
  intro _ Oj lf' g
  cases g with
  |stop=>exact⟨rfl,rfl⟩
  |step h1 h2 h3=>
   obtain⟨b,hb,rfl⟩:=h1
   have:=h b hb
   omega
 |@step bs lf u es Sw h1 h2 h3 h4 _ ih=>
  intro hn Oj lf' g
  obtain⟨b,hb,e⟩:=h1
  cases g with
  |stop h=>have:=h b hb;omega
  |@step _ _ u' _ _ g1 g2 g3 g4 g5=>
   obtain⟨c,hc,e'⟩:=g1
   have a1:=h2 c hc
   have a2:=g2 b hb
   obtain rfl:u=u':=by omega
   obtain⟨i1,i2⟩:=ih (vF hn) g5
   exact⟨by rw [h4.det hn g4,i1],i2⟩
theorem Du.left {bs lf:List g9} (h:Du to bs es lf):(∀b∈lf,b∈bs/\to<b.l)/\lf.length<=bs.length/\(Nd bs->Nd lf):=by
 induction h with
 |stop h=>exact⟨fun b hb=>⟨hb,h b hb⟩,BN _,id⟩
 |step _ _ _ _ _ ih=>exact⟨fun b hb=>⟨(B0.mp (ih.1 b hb).1).1,(ih.1 b hb).2⟩,Mo ih.2.1 (JJ _ _),fun h=>ih.2.2 (vF h)⟩
def Ia {β:Type} (f:Str->Option β) (ns:List Str):Str->Option β:=fun y=>if y∈ns then none else f y
theorem O0 (f:Str->Option β) (n:Str) (ns:List Str):Ia (cQ f n none) ns=Ia f (n::ns):=by
 funext y
 unfold Ia
 by_cases e:y=n
 . simp [e,aG]
 . rw [b8 e];simp [e]
theorem P5:∀(rs:List g9) (k:KS) (acc:List BB),Nd rs->(∀b∈rs,k.f b.n=some (oT b))->(rs.map (·.n)).foldl jq (k,acc)=({k with f:=Ia k.f (rs.map (·.n)),t:=Ia k.t (rs.map (·.n))},acc++rs.flatMap (vZ k.now))
 |[],k,acc,_,_=>by
  have e:∀{β:Type} (f:Str->Option β),Ia f []=f:=fun f=>funext fun y=>if_neg (by simp)
  simp [e]
 |b::rs,k,acc,hn,hf=>by
  have hn:b.n∉rs.map (·.n)/\Nd rs:=by simpa [Nd] using hn
  rw [EN,List.foldl_cons,Dg (x:=oT b) (sn:=b.f) (un:=b.l) (hf b BC) rfl rfl]
  have e1:wM k b.n (oT b)={k with f:=cQ k.f b.n none,t:=cQ k.t b.n none}:=rfl
  have e2:BK k b.n (oT b)=[Ar b.n]:=rfl
  show(rs.map (·.n)).foldl jq (wM k b.n (oT b),acc++(A6 b.n 0 k.now b.f b.l::BK k b.n (oT b)))=_
  rw [e1,e2,P5 rs _ _ hn.2 fun c hc=>?_]
  . simp only [O0,NL,Os];rfl
  . show cQ k.f b.n none c.n=some (oT c)
    rw [b8 fun e=>hn.1 (by rw [<-e];exact Cc (f:=(·.n)) hc)]
    exact hf c (AL _ hc)
theorem Hy {now:Int} {bs:List g9} (hn:Nd bs) {y:Str}:(kB now bs).t y=some u↔∃b∈bs,b.n=y/\b.l=u:=by
 show(iD bs y).map (·.l)=some u↔_
 rw [NO]
 constructor
 . rintro⟨b,e,rfl⟩
   obtain⟨h1,h2⟩:=k8 e
   exact⟨b,h1,h2,rfl⟩
 . rintro⟨b,hb,rfl,rfl⟩
   exact⟨b,vo hn hb,rfl⟩
theorem Rb {bs:List g9} (hn:Nd bs) (Fz:∀b∈bs,b.f<=b.l) {now:Int} {k2:KS} (h:WT to (kB now bs) es k2):∃u,(∃b∈bs,b.l=u)/\(∀b∈bs,u<=b.l)/\u<=to/\Rg u bs es/\k2=kB u (bs.filter fun b=>decide (u<b.f)):=by
 obtain⟨u,n0,r0,ks,ns,g0,g1,gs,g3,g4,g5,g6,g7,e⟩:=h
 obtain⟨b0,Wv,e0,e1⟩:=(Hy hn).mp ((g1 u n0).mp (by rw [g3];exact BC)).1
 have UL:∀b∈bs,u<=b.l:=fun b hb=>g4 b.n b.l ((Hy hn).mpr ⟨b,hb,rfl,rfl⟩)
 have mK:∀y,y∈ns↔∃b∈bs,b.n=y/\b.f<=u:=fun y=>by
  rw [g6]
  unfold gK
  show((iD bs y).map oT).any _=true↔_
  cases ea:iD bs y with
  |none=>
   simp only [Option.map_none,Option.any_none,IF,false_iff]
   rintro⟨b,hb,rfl,_⟩
   rw [vo hn hb] at ea
   cases ea
  |some b=>
   obtain⟨h1,rfl⟩:=k8 ea
   show decide (b.f<=u)=true↔_
   rw [decide_eq_true_eq]
   exact⟨fun h=>⟨b,h1,rfl,h⟩,fun⟨c,hc,e2,h⟩=>BP hn hc h1 e2▸h⟩
 obtain⟨rs,Et,hrn⟩:∃rs:List g9,(∀b∈rs,b∈bs)/\rs.map (·.n)=ns:=by
  have:∀l:List Str,(∀y∈l,∃b∈bs,b.n=y)->∃rs:List g9,(∀b∈rs,b∈bs)/\rs.map (·.n)=l:=by
   intro l
   induction l with
   |nil=>exact fun _=>⟨[],fun _ h=>(by cases h),rfl⟩
   |cons y l ih=>
    intro h
    obtain⟨rs,h1,h2⟩:=ih fun z hz=>h z (AL _ hz)
    obtain⟨b,hb,e⟩:=h y BC
    refine⟨b::rs,fun c hc=>?_,by rw [EN,e,h2]⟩
    rcases AD.mp hc with rfl|hc
    . exact hb
    . exact h1 c hc
  exact this ns fun y hy=>by obtain⟨b,hb,e,_⟩:=(mK y).mp hy;exact⟨b,hb,e⟩
 subst hrn
 have hrd:Nd rs:=g5
 have hrf:∀b,b∈rs↔b∈bs/\b.f<=u:=fun b=>by
  constructor
  . intro hb
    obtain⟨c,hc,e,h⟩:=(mK b.n).mp (Cc hb)
    rw [BP hn hc (Et b hb) e] at h
    exact⟨Et b hb,h⟩
  . rintro⟨hb,h⟩
    obtain⟨c,hc,e⟩:=AN.mp ((mK b.n).mpr ⟨b,hb,rfl,h⟩)
    exact BP hn (Et c hc) hb e▸hc
 have O4:∀{l:List g9},Nd l->l.Nodup:=fun {l} h=>by
  have h:(l.map (·.n)).Pairwise (·≠·):=h
  rw [Nl] at h
  exact h.imp fun {x y} CD e=>CD (by rw [e])
 have uN:rs.Perm (bs.filter fun b=>decide (b.f<=u)):=(Aag (O4 hrd) ((O4 hn).filter _)).mpr fun b=>by rw [hrf,B0,decide_eq_true_eq]
 have hfo:∀b∈rs,({kB now bs with now:=u,t:=sU (kB now bs).t u}:KS).f b.n=some (oT b):=fun b hb=>by
  show(iD bs b.n).map oT=_
  rw [vo hn (Et b hb)];rfl
 rw [P5 rs _ _ hrd hfo] at e
 obtain⟨ek,ee⟩:=AaT e
 refine⟨u,⟨b0,Wv,e1⟩,UL,g0,⟨n0,rs,⟨b0,Wv,e0,e1⟩,fun b hb hl=>?_,uN,?_,ee.symm⟩,?_⟩
 . have hk:(u,b.n)∈ks:=(g1 u b.n).mpr ⟨(Hy hn).mpr ⟨b,hb,rfl,hl⟩,AaR _⟩
   rw [g3] at hk gs
   have gs:((u,n0)::r0).Pairwise (fun c d=>aW d c=false):=gs
   rw [OR] at gs
   rcases AD.mp hk with z|z
   . rw [(AaT z).2];exact FW _
   . exact(fT.mp (gs.1 _ z)).2 rfl
 . rw [Nl] at g7
   refine g7.imp_of_mem fun {c d} hc hd h=>?_
   have ek:∀b∈rs,CF (kB now bs) b.n=BX b:=fun b hb=>by
    show(((iD bs b.n).map oT).elim 0 fun x=>-x.wt,b.n)=_
    rw [vo hn (Et b hb)];rfl
   rw [ek c hc,ek d hd] at h
   exact h
 . rw [<-ek]
   have Ic:∀b,iD bs b.n=some b->(b.n∈rs.map (·.n)↔b.f<=u):=fun b hb=>by
    have hb:=(k8 hb).1
    constructor
    . intro h
      obtain⟨c,hc,e⟩:=AN.mp h
      exact BP hn (Et c hc) hb e▸((hrf c).mp hc).2
    . exact fun h=>Cc ((hrf b).mpr ⟨hb,h⟩)
   show(⟨u,0,Ia (fun y=>(iD bs y).map oT) (rs.map (·.n)),Ia (sU (fun y=>(iD bs y).map (·.l)) u) (rs.map (·.n))⟩:KS)=kB u _
   unfold kB
   congr 1
   . funext y
     show(if y∈rs.map (·.n) then none else (iD bs y).map oT)=(iD (bs.filter _) y).map oT
     rw [Q8 hn]
     cases ea:iD bs y with
     |none=>split <;>rfl
     |some b=>
      obtain rfl:=(k8 ea).2
      by_cases hf:b.f<=u
      . rw [if_pos ((Ic b ea).mpr hf),SC,if_neg (by simpa using hf)];rfl
      . rw [if_neg fun z=>hf ((Ic b ea).mp z),SC,if_pos (by simpa using hf)]
   . funext y
     show(if y∈rs.map (·.n) then none else ((iD bs y).map (·.l)).filter fun v=>decide (u<v))=(iD (bs.filter _) y).map (·.l)
     rw [Q8 hn]
     cases ea:iD bs y with
     |none=>split <;>rfl
     |some b=>
      obtain⟨hb,rfl⟩:=k8 ea
      have:=Fz b hb
      by_cases hf:b.f<=u
      . rw [if_pos ((Ic b ea).mpr hf),SC,if_neg (by simpa using hf)];rfl
      . rw [if_neg fun z=>hf ((Ic b ea).mp z),SC,if_pos (by simpa using hf),Aac,SC,if_pos (decide_eq_true (by omega))]
theorem IP {bs:List g9} (h:∃b∈bs,b.l=u) (Fz:∀b∈bs,b.f<=b.l):(bs.filter fun b=>decide (u<b.f)).length<bs.length:=by
 obtain⟨b,hb,e⟩:=h
 refine List.length_filter_lt_length_iff_exists.mpr ⟨b,hb,?_⟩
 have:=Fz b hb
 simp;omega
theorem LJ (bs:List g9) (u:Int):(bs.filter fun b=>decide (b.f<=u)).length+(bs.filter fun b=>decide (u<b.f)).length=bs.length:=by
 have:=List.length_eq_countP_add_countP (fun b:g9=>decide (b.f<=u)) (l:=bs)
 rw [List.countP_eq_length_filter,List.countP_eq_length_filter] at this
 rw [this]
 congr 2
 refine Tk fun b _=>?_
 rw [NE];simp
theorem ag1 {m:Nat} {k k2:KS} (g:Wn to m k es k2):∀(bs:List g9) (now:Int),k=kB now bs->Nd bs->(∀b∈bs,b.f<=b.l)->bs.length<m->∃lf,Du to bs es lf/\k2=kB to lf:=by
 induction g with
 |@done m k h=>
  intro bs now hk hn Fz _
  refine⟨bs,.stop fun b hb=>h b.n b.l (by rw [hk];exact(Hy hn).mpr ⟨b,hb,rfl,rfl⟩),by rw [hk];rfl⟩
 |@last k k1 es h=>
  intro bs now hk hn Fz hl
  rw [hk] at h
  obtain⟨u,⟨b,hb,_⟩,_⟩:=Rb hn Fz h
  cases bs with
  |nil=>cases hb
  |cons=>simp at hl
 |@more m k k1 k2 es Sw h g ih=>
  intro bs now hk hn Fz hl
  rw [hk] at h
  obtain⟨u,h1,h2,h3,h4,h5⟩:=Rb hn Fz h
  have:=IP h1 Fz
  obtain⟨lf,d,e⟩:=ih _ u h5 (vF hn) (fun b hb=>Fz b (B0.mp hb).1) (by omega)
  exact⟨lf,.step h1 h2 h3 h4 d,e⟩
theorem Rg.len {bs:List g9} (h:Rg u bs es):es.length=1+2*(bs.filter fun b=>decide (b.f<=u)).length:=by
 obtain⟨n0,rs,_,_,hp,_,rfl⟩:=h
 rw [<-hp.length_eq,FF]
 have:∀l:List g9,(l.flatMap (vZ u)).length=2*l.length:=fun l=>by
  induction l with
  |nil=>rfl
  |cons b l ih=>rw [NL,Da,ih,FF];show 2+_=_;omega
 rw [this];omega
def J53 (c:Nat) (k:KS):Prop:=∃bs:List g9,k=kB k.now bs/\Nd bs/\(∀b∈bs,b.Ok)/\(∀b∈bs,k.now<=b.l)/\3*bs.length<=c
theorem adh (to:Int):VP to J53:=by
 refine⟨fun c k ⟨bs,hk,hn,bb,ab7,_⟩ ht=>?_,fun c k es k1 ⟨bs,hk,hn,bb,ab7,hc⟩ h=>?_⟩
 . have hf:∀y x,k.f y=some x->∃b∈bs,x=oT b:=fun y x hy=>by
    rw [hk] at hy
    obtain⟨b,e,rfl⟩:=NO.mp hy
    exact⟨b,(k8 e).1,rfl⟩
   refine⟨fun y x hy=>?_,fun y x s hy _=>?_,fun y u hy=>?_,ht,?_⟩
   . obtain⟨b,hb,rfl⟩:=hf y x hy
     exact⟨rfl,AaR _,(by show(0:Int)<10^50;decide)⟩
   . obtain⟨b,hb,rfl⟩:=hf y x hy
     exact⟨_,rfl⟩
   . rw [hk] at hy
     obtain⟨b,hb,_,rfl⟩:=(Hy hn).mp hy
     have:=(bb b hb).l1
     exact⟨ab7 b hb,by omega⟩
   . rw [hk];show(0:Int)<10^59;decide
 . rw [hk] at h
   obtain⟨u,h1,h2,h3,h4,h5⟩:=Rb hn (fun b hb=>(bb b hb).fl) h
   refine⟨3*(bs.filter fun b=>decide (u<b.f)).length,?_,bs.filter fun b=>decide (u<b.f),by rw [h5];rfl,vF hn,fun b hb=>bb b (B0.mp hb).1,fun b hb=>by rw [h5];exact h2 b (B0.mp hb).1,BN _⟩
   have e1:=h4.len
   have e2:=LJ bs u
   have e3:=IP h1 fun b hb=>(bb b hb).fl
   omega
theorem Yj {bs:List g9} (h:∀b∈bs,b.Ok):vB (bs.map bD):=Ln fun e he=>by
 obtain⟨b,hb,rfl⟩:=AN.mp he
 refine⟨_,rfl,fun p hp=>?_,fun s hs=>?_⟩
 . simp only [AD,NH,or_false] at hp
   rcases hp with rfl|rfl|rfl|rfl
   . exact .inl ⟨_,rfl⟩
   . exact .inr ⟨_,rfl⟩
   . exact .inr ⟨_,rfl⟩
   . exact .inr ⟨_,rfl⟩
 . simp only [AD,NH,or_false,Aa9,reduceCtorEq] at hs
   rw [hs];exact(h b hb).nm
theorem XJ {x y:V} (h1:Dv H x (.list ds)) (h2:Dv H y (.list [])) (hl:vB ds) (h:Q (.bl (f ds.isEmpty)) H):Jm K f x y H Q:=by
 refine OJ h1 h2 (by rw [LM];exact hl.c) rfl ?_ ?_
 . have:=hl.d
   rw [BB.depth]
   omega
 . rw [show Sm (.list ds) (.list [])=ds.isEmpty by cases ds <;>rfl];exact h
theorem Be (g:α->BB):∀{cs:List α},0<cs.length->∃c∈cs,t5 (cs.map g) (-1)=some (g c):=fun {cs} h=>by
 have hc:cs≠[]:=fun e=>by rw [e] at h;cases h
 obtain⟨xs,z,rfl⟩:∃xs z,cs=xs++[z]:=⟨cs.dropLast,cs.getLast hc,(List.dropLast_concat_getLast hc).symm⟩
 exact⟨z,by simp,Ej⟩
def Kl:Sp:=fun vs H Q _=>∃(c k:Int) (p:Addr) (bs:List g9) (B:Int),vs=[.int c,.int k,.ref p]/\dg H p (bs.map bD)/\bs.length<=30/\(0<=k/\k<61)/\(∀b∈bs,1<=b.f/\b.f<=b.l/\b.l<=B)/\(10^39<=B/\B<=10^40)/\∀v H' f l w,ay H H'->1<=f->f<=l->l<=B+1+10^38->1<=w->Dv H' v (bD ⟨yN (c / 3 % 3000000007*61+k).toNat,f,l,w⟩)->Q v H'
theorem S8 (T:Txt K mg a):aP P w K mg base eG 2 a.eJ a.xO ["_law_cell","_law_k","_law_bells"] Kl:=by
 have HG:=O9 (P:=P) (w:=w) (base:=base) T
 refine T.tG.ok dP (fun vs H Q E h=>?_) (fun c7 A outer s H vs Q E hr h=>?_)
 . obtain⟨_,_,_,_,_,rfl,_⟩:=h;rfl
 . obtain⟨c,k,p,bs,B,rfl,hp,hlen,⟨hk0,lq⟩,hb,⟨hB0,J3⟩,q⟩:=h
   have VE:(bs.map bD).length=bs.length:=AE ..
   refine⟨_,(ag (aE (i:=3) dP.nd rfl (FS rfl) (aC cG (aC bH (pv 0) aq) aq))
    (cN (bB (aI (mD hr.F0) (aC cG (pv 0) aq) aq (aK _))
     (ah (aE (i:=3) dP.nd rfl (FS rfl) (aC cG (aC bH (pv 0) aq) (aC FP aq aq))))
     aN)
    (cN (bB (PW.pt (vG (aI DA (aC cG (pv 0) aq) aq (aK _)) (pR (aI DA (aU iC rfl T.lW T0 (ae (pv 2) af)) aq (aK _)))))
     (ah (aE (i:=3) dP.nd rfl (FS rfl) (aC gB (bG ik (bG ik (pv 2) (Kc E2 aq) (fun _ _=>rfl)) (aC gB aq (aC cG (pv 0) aq)) (fun _ _=>rfl)) (aC cG (aC bH (pv 0) aq) aq))))
     aN)
    (ag (aE (i:=4) dP.nd rfl (FS rfl) (aC cG (aC bH (pv 0) aq) aq))
    (cN (bB (aI (mD hr.F0) (aC cG (aC bH (pv 0) aq) aq) aq (aK _))
     (ah (aE (i:=4) dP.nd rfl (FS rfl) (aC cG (aC bH (pv 0) aq) (aC FP aq aq))))
     aN)
    (ag (aE (i:=5) dP.nd rfl (FS rfl) (aC gB aq (aC cG (aC bH (pv 0) aq) aq)))
    (cN (bB (aI (mD hr.F0) (aC cG (aC bH (pv 0) aq) aq) aq (aK _))
     (ah (aE (i:=5) dP.nd rfl (FS rfl) (aC gB aq (aC cG (aC bH (pv 0) aq) (aC rL (aC FP aq aq) aq)))))
     aN)
    (ah (aD (dS (ae (dA HG (hr.mono (by decide)) rfl T.wA T.wj (ae (aC bH (pv 0) aq) (ae (pv 1) af))) (ae (aU (yO rfl) rfl T.yo Aa4 (ae aq (ae (pv 3) af))) (ae (aC gB (aU (yO rfl) rfl T.yo Aa4 (ae aq (ae (pv 3) af))) (pv 4)) (ae (pv 5) af)))))))))))))),?_⟩
   repeat' (walk_at "rd1")
   refine gw (fun σ' H'=>H'=H/\∃f:Int,0<=f/\f<=10^39/\σ'=[some (.int c),some (.int k),some (.ref p),some (.int f),none,none]) ?_ ?_
   . repeat' (walk_at "rd1")
     all_goals exact⟨rfl,_,by omega,by omega,rfl⟩
   rintro σ' H1 ⟨rfl,f0,hf0,hf1,rfl⟩
   refine gw (fun σ' H'=>H'=H1/\∃f:Int,0<=f/\f<=B+1/\σ'=[some (.int c),some (.int k),some (.ref p),some (.int f),none,none]) ?_ ?_
   . repeat' (walk_at "rd1")
     . rename_i _ _ _ Wv
       obtain⟨bl,hbl,il⟩:∃bl∈bs,t5 (bs.map bD) (-1)=some (bD bl):=Be bD (by omega)
       obtain⟨k0,k1,k2⟩:=hb bl hbl
       refine Eh (.inr hp.dv) il (Ab fun v1 hv1=>?_)
       unfold bD at hv1
       have N6:c % 2=0\/c % 2=1:=by omega
       rcases N6 with e|e
       . have i1:t5 [EQ bl.n,.int bl.f,.int bl.l,.int bl.w] (1+c % 2)=some (.int bl.f):=by rw [e];rfl
         repeat' (walk_at "rd1")
         refine Eh (.inl hv1) i1 (Ab fun v2 Rp=>?_)
         obtain rfl:=Rp.int_inv
         repeat' (walk_at "rd1")
         exact⟨rfl,_,by omega,by omega,rfl⟩
       . have i1:t5 [EQ bl.n,.int bl.f,.int bl.l,.int bl.w] (1+c % 2)=some (.int bl.l):=by rw [e];rfl
         repeat' (walk_at "rd1")
         refine Eh (.inl hv1) i1 (Ab fun v2 Rp=>?_)
         obtain rfl:=Rp.int_inv
         repeat' (walk_at "rd1")
         exact⟨rfl,_,by omega,by omega,rfl⟩
     . exact⟨rfl,f0,hf0,by omega,rfl⟩
     . exact⟨rfl,f0,hf0,by omega,rfl⟩
   rintro σ' H2 ⟨rfl,f1,Ry,Xo,rfl⟩
   repeat' (walk_at "rd1")
   refine gw (fun σ' H'=>H'=H2/\∃wd:Int,0<=wd/\wd<=10^38/\σ'=[some (.int c),some (.int k),some (.ref p),some (.int f1),some (.int wd),none]) ?_ ?_
   . repeat' (walk_at "rd1")
     all_goals exact⟨rfl,_,by omega,by omega,rfl⟩
   rintro σ' H3 ⟨rfl,wd,XX,jn,rfl⟩
   repeat' (walk_at "rd1")
   refine gw (fun σ' H'=>H'=H3/\∃wt:Int,1<=wt/\σ'=[some (.int c),some (.int k),some (.ref p),some (.int f1),some (.int wd),some (.int wt)]) ?_ ?_
   . repeat' (walk_at "rd1")
     all_goals exact⟨rfl,_,by omega,rfl⟩
   rintro σ' H4 ⟨rfl,wt,ht0,rfl⟩
   repeat' (walk_at "rd1")
   rename_i x1 y1 y2 y3 x2 y4 y5 y6 v5 H5 s5 Y9
   obtain rfl:x1=x2:=by omega
   exact q v5 H5 x1 (x1+wd) wt s5 (by omega) (by omega) (by omega) ht0 Y9
theorem Rv (T:Txt K mg a):df P w K mg base 2 a.eJ ["_law_cell","_law_k","_law_bells"] [] Kl:=
 ⟨⟨_,_,S8 T,T.tG.binds fun _ _ _ _ _ _=>jr fun _ _ _=>rfl,.nil⟩⟩
def L4 (b:g9):(Int × Str) × Int × Int:=((0 - b.w,b.n),b.f,b.l)
def Ld:Sp:=fun vs H Q _=>∃(u:Int) (v:V) (bs:List g9),vs=[.int u,v]/\Dv H v (.list (bs.map bD))/\bs.length<=30/\Nd bs/\(∃b∈bs,b.l=u)/\∀q H' es,ay H H'->H q=none->Rg u bs es->dg H' q es->Q (.ref q) H'
theorem Vp (T:Txt K mg a):aP P w K mg base eG 1 a.eN a.xu ["_law_time","_law_left"] Ld:=by
 refine T.rG.ok jl (fun vs H Q E h=>?_) (fun c7 A outer s H vs Q E hr h=>?_)
 . obtain⟨_,_,_,rfl,_⟩:=h;rfl
 . obtain⟨u,v,bs,rfl,hv,hlen,hn,⟨b0,Wv,hl0⟩,q⟩:=h
   refine⟨_,(ag (aE (i:=2) jl.nd rfl (FS rfl) (aU BL rfl T.e7 Q1 (ae (xH (T:=["_law_bell_here"]) (M:=["_law_time","_law_left","_law_names","_law_found","_law_ringing","05"]) (R4 (ao j5) ["_law_time","_law_left","_law_names","_law_found","_law_ringing","_law_bell_here"] rfl rfl (by decide+kernel)) rfl (cR (pv 1)) (fun _ _ _ _ _=>(a0 (i:=0) (show OE (["_law_bell_here","_law_time","_law_left","_law_names","_law_found","_law_ringing","05"]:List Str) by decide+kernel) rfl (FS rfl))) (fX (by decide)) (fun _ _ _ _ _=>(xM (aI (Yi (K:=K) rfl hr.F0) (bG (rN (K:=K) rfl) (pv 0) aq (fun _ _=>rfl)) (pv 1) (aK _)))) (fun _ _ _ _ _=>(bG (rN (K:=K) rfl) (pv 0) aq (fun _ _=>rfl)))) af)))
    (ag (aE (i:=3) jl.nd rfl (FS rfl) (b9 (ae (dS (ae jy (ae (pv 0) (ae (bG ik (pv 2) aq (fun _ _=>rfl)) af)))) af)))
    (ag (aE (i:=4) jl.nd rfl (FS rfl) (aU Js rfl T.e7 Q1 (ae (xH (T:=["_law_bell_here"]) (M:=["_law_time","_law_left","_law_names","_law_found","_law_ringing","05"]) (R4 (ao j5) ["_law_time","_law_left","_law_names","_law_found","_law_ringing","_law_bell_here"] rfl rfl (by decide+kernel)) rfl (cR (pv 1)) (fun _ _ _ _ _=>(a0 (i:=0) (show OE (["_law_bell_here","_law_time","_law_left","_law_names","_law_found","_law_ringing","05"]:List Str) by decide+kernel) rfl (FS rfl))) (fX (by decide)) (fun _ _ _ _ _=>(xM (aI qQ (bG (rN (K:=K) rfl) (pv 0) aq (fun _ _=>rfl)) (pv 1) (aK _)))) (fun _ _ _ _ _=>(dS (ae (aC rL aq (bG (rN (K:=K) rfl) (pv 0) aq (fun _ _=>rfl))) (ae (bG (rN (K:=K) rfl) (pv 0) aq (fun _ _=>rfl)) (ae (bG (rN (K:=K) rfl) (pv 0) aq (fun _ _=>rfl)) (ae (bG (rN (K:=K) rfl) (pv 0) aq (fun _ _=>rfl)) af))))))) af)))
    (ag (kC KB rfl (cR (pv 4)) (a0 (i:=5) jl.nd rfl (FS rfl))
     (ag (aF (iy GG PP P3 lj (pv 3) (ae (dS (ae jy (ae (bG ik (pv 5) aq (fun _ _=>rfl)) (ae aq (ae (pv 0) (ae (bG ik (pv 5) aq (fun _ _=>rfl)) (ae (bG ik (pv 5) aq (fun _ _=>rfl)) af))))))) af)))
     (ah (aF (iy GG PP P3 lj (pv 3) (ae (dS (ae jy (ae (bG ik (pv 5) aq (fun _ _=>rfl)) af))) af))))))
    (ah (aD (pv 3))))))),?_⟩
   repeat' (walk_at "rd1")
   refine EW (cs:=bs) (gd:=bD) (fun b=>decide (b.l=u)) (fun b=>.str b.n) hv (by omega) (fun _=>rfl) (fun y b H2 N hb jK hy yes no=>?_) (fun q1 H1 Bi mI yC=>?_)
   . unfold bD at hy
     repeat' (walk_at "rd1")
     have ed:id (decide (V.int b.l=V.int u))=decide (b.l=u):=by simp
     refine oO (fun xK=>?_) (fun xK=>no (ed▸xK) _ (ay.refl _))
     repeat' (walk_at "rd1")
     exact yes (ed▸xK) _ _ (by walk_at "same") (by walk_at "dat")
   have T8:Dv H1 (.ref q1) (.list (((bs.filter fun b=>decide (b.l=u)).map (·.n)).map EQ)):=by
    rw [GM];exact yC.dv
   have hf1:((bs.filter fun b=>decide (b.l=u)).map (·.n)).length<64:=by
    rw [AE]
    have:=JJ (fun b:g9=>decide (b.l=u)) bs
    omega
   repeat' (walk_at "rd1")
   rename_i q2 H2 ss jK mR MH hu2 vz
   have Rp:=(hv.keeps Bi).keeps jK
   have Ke:b0.n∈ss:=MH.mem_iff.mpr (Cc (f:=(·.n)) (B0.mpr ⟨Wv,decide_eq_true hl0⟩))
   cases ss with
   |nil=>cases Ke
   |cons n0 ss=>
    have i0:t5 ((n0::ss).map EQ) 0=some (.str n0):=xg (j:=0) rfl
    repeat' (walk_at "rd1")
    rename_i v3 H3 s3 Oc q4 H4 s4 LR Ed
    have Ed:dg H4 q4 [fv u n0]:=Ed
    have hv4:=(Rp.keeps s3).keeps s4
    refine EW (cs:=bs) (gd:=bD) (fun b=>decide (b.f<=u)) (fun b=>nL (L4 b)) hv4 (by omega) (fun _=>rfl) (fun y b H5 N hb Gq hy yes no=>?_) (fun q5 H5 Gq Zb Tj=>?_)
    . unfold bD at hy
      repeat' (walk_at "rd1")
      refine oO (fun xK=>?_) (fun xK=>no xK _ (ay.refl _))
      repeat' (walk_at "rd1")
      exact yes xK _ _ (by walk_at "same") (by unfold nL L4;walk_at "dat")
    have ZN:Dv H5 (.ref q5) (.list (((bs.filter fun b=>decide (b.f<=u)).map L4).map nL)):=by
     rw [GM];exact Tj.dv
    have hf5:((bs.filter fun b=>decide (b.f<=u)).map L4).length<64:=by
     rw [AE]
     have:=JJ (fun b:g9=>decide (b.f<=u)) bs
     omega
    have GL:(((bs.filter fun b=>decide (b.f<=u)).map L4).map (·.1)).Nodup:=by
     rw [GM,OE,Nl]
     have h:((bs.filter fun b=>decide (b.f<=u)).map (·.n)).Pairwise (·≠·):=vF hn
     rw [Nl] at h
     exact h.imp fun {x y} CD e=>CD (AaT e).2
    repeat' (walk_at "rd1")
    refine Vu ZN GL hf5 (fun q6 H6 ks s6 hn6 hp6 hw6 MZ=>?_)
    obtain⟨rs,hrp,rfl⟩:=GR hp6 _ rfl
    have ahl:=(Ed.keeps Gq).keeps s6
    have mS:q6≠q4:=fun z=>by
     obtain⟨xs,e,_⟩:=Ed.keeps Gq
     rw [<-z,hn6] at e;cases e
    have hrl:rs.length<=30:=by
     rw [hrp.length_eq]
     have:=JJ (fun b:g9=>decide (b.f<=u)) bs
     omega
    repeat' (walk_at "rd1")
    refine G4 (Hb:=H6) (cs:=rs) (gd:=fun b=>nL (L4 b)) (by rw [GM] at MZ;exact MZ.dv) (fun j σ' H'=>∃z5,σ'=[some (.int u),some v,some (.ref q2),some (.ref q4),some (.ref q6),z5]/\Mv [q4] H6 H'/\dg H' q4 (fv u n0::(rs.take j).flatMap (vZ u))) ⟨_,rfl,Mv.refl,ahl⟩ (fun i σ' H' _ ⟨_,_,mv,_⟩ a' xs e hx=>by cases e;exact mv.sq (by simpa using mS) hx) ?_ ?_
    . rintro j b x σ' H7 hj ⟨z5,rfl,mv7,Kt⟩ ZW _
      have hx:Dv H7 x (.tuple [.int (0 - b.w),.str b.n,.int b.f,.int b.l]):=ZW rfl mv7.tp
      have htl:((rs.take j).flatMap (vZ u)).length<=60:=by
       have h1:((rs.take j).flatMap (vZ u)).length=2*(rs.take j).length:=by
        generalize rs.take j=l
        induction l with
        |nil=>rfl
        |cons b l ih=>rw [NL,Da,ih,FF];show 2+_=_;omega
       rw [h1,KM];omega
      repeat' (walk_at "rd1")
      rename_i v8 H8 s8 hv8 H9 m9 Sx
      have hx9:=m9.dat rfl (hx.keeps s8)
      repeat' (walk_at "rd1")
      rename_i v10 H10 s10 ajF H11 m11 RG
      refine⟨_,rfl,mv7.trans (s8.mv.trans (m9.trans (s10.mv.trans m11))),?_⟩
      have e:fv u n0::(rs.take (j+1)).flatMap (vZ u)=(fv u n0::(rs.take j).flatMap (vZ u)++[A6 b.n 0 u b.f b.l])++[Ar b.n]:=by
       rw [AbZ hj,LG,Os];rfl
      rw [e];exact RG
    . rintro σ' H7 ⟨z5,rfl,mv7,Kt⟩
      rw [SO] at Kt
      repeat' (walk_at "rd1")
      have s06:ay H H6:=Bi.trans (jK.trans (s3.trans (s4.trans (Gq.trans s6))))
      have ac4:H q4=none:=Bi.none (jK.none (s3.none LR))
      have mK:∀b∈bs,b.l=u->b.n∈n0::ss:=fun b hb hl=>MH.mem_iff.mpr (Cc (f:=(·.n)) (B0.mpr ⟨hb,decide_eq_true hl⟩))
      refine q q4 H7 _ (Mv.Lq s06 mv7 ac4) ac4 ⟨n0,rs,?_,fun b hb hl=>?_,hrp,?_,rfl⟩ Kt
      . obtain⟨b,hb,e⟩:=AN.mp (MH.mem_iff.mp BC)
        exact⟨b,(B0.mp hb).1,e,of_decide_eq_true (B0.mp hb).2⟩
      . rcases AD.mp (mK b hb hl) with e|hm
        . rw [e];exact FW _
        . exact(OR.mp hu2).1 _ hm
      . refine(Nl.mp hw6).imp fun {c d} h=>?_
        have h:aW (0 - d.w,d.n) (0 - c.w,c.n)=false:=h
        rwa [Int.zero_sub,Int.zero_sub] at h
theorem RZ (T:Txt K mg a):df P w K mg base 1 a.eN ["_law_time","_law_left"] [] Ld:=
 ⟨⟨_,_,Vp T,T.rG.binds fun _ _ _ _ _ _=>dJ fun _ _=>rfl,.nil⟩⟩
def afl (x y:V) (H:Hp) (Q:VK):Prop:=L6 [x,y] H Q
theorem Xx {x y:V} (h:afl x y H Q):L6 [x,y] H Q:=h
set_option hygiene false in
local macro_rules|`(tactic|walk_at "rd1")=>`(tactic|first|with_reducible refine Xx ?_|fail)
theorem Yq (m:Mv [q] H H') (h:Dv H v (.list ds)) (mS:v≠.ref q) (im:dj ds=true):Dv H' v (.list ds):=by
 cases h with
 |lst hr r=>
  refine .lst ?_ (r.yw m.tp im)
  rcases hr with h|⟨o,h⟩
  . exact .inl (m.kp _ _ (by simpa using fun z=>mS (by rw [z])) h)
  . exact .inr ⟨o,m.kp _ _ (by simpa using fun z=>mS (by rw [z])) h⟩
theorem W3 (h:Dv H v (.list ds)) (hn:H q=none):v≠.ref q:=by
 cases h with
 |lst hr r=>
  intro z
  cases z
  rcases hr with h|⟨o,h⟩ <;>rw [hn] at h <;>cases h
def G8:Sp:=fun vs H Q _=>∃(v:V) (to:Int) (bs:List g9),vs=[v,.int to]/\Dv H v (.list (bs.map bD))/\bs.length<=30/\Nd bs/\(∀b∈bs,b.Ok)/\∀t H' es lf qf w2,ay H H'->Du to bs es lf->H' t=some (.tup [.ref qf,w2])->Dv H' (.ref qf) (.list es)->Dv H' w2 (.list (lf.map bD))->((w2=v/\lf=bs)\/∃p,w2=.ref p/\H p=none/\dg H' p (lf.map bD))->Q (.ref t) H'
theorem PH (T:Txt K mg a):aP P w K mg base eG 2 a.fy a.zi ["_law_left","_law_to"] G8:=by
 have Hi:=RZ (P:=P) (w:=w) (base:=base) T
 refine T.u6.ok nD (fun vs H Q E h=>?_) (fun c7 A outer s H vs Q E hr h=>?_)
 . obtain⟨_,_,_,rfl,_⟩:=h;rfl
 . obtain⟨v,to,bs,rfl,hv,hlen,hn,bb,q⟩:=h
   refine⟨_,(ag (aE (i:=2) nD.nd rfl (FS rfl) (b9 af))
    (ag (pE KB (PW.pt (vG (aI (A0 hr.F0) (pv 0) (b9 af) (aK _)) (pR (aI qQ (aU (Ek rfl) rfl T.vx Aa5 (ae (xH (T:=["_law_bell_here"]) (M:=["_law_left","_law_to","_law_found","_law_time"]) (R4 (ao jC) ["_law_left","_law_to","_law_found","_law_time"] rfl rfl (by decide+kernel)) rfl (cR (pv 0)) (fun _ _ _ _ _=>(a0 (i:=0) (show OE (["_law_bell_here","_law_left","_law_to","_law_found","_law_time"]:List Str) by decide+kernel) rfl (FS rfl))) (fX (by decide)) (fun _ _ _ _ _=>tS) (fun _ _ _ _ _=>(bG (rN (K:=K) rfl) (pv 0) aq (fun _ _=>rfl)))) af)) (pv 1) (aK _)))))
     (ag (aE (i:=3) nD.nd rfl (Or.inr rfl) (aU (Ek rfl) rfl T.vx Aa5 (ae (xH (T:=["_law_bell_here"]) (M:=["_law_left","_law_to","_law_found","_law_time"]) (R4 (ao jC) ["_law_left","_law_to","_law_found","_law_time"] rfl rfl (by decide+kernel)) rfl (cR (pv 0)) (fun _ _ _ _ _=>(a0 (i:=0) (show OE (["_law_bell_here","_law_left","_law_to","_law_found","_law_time"]:List Str) by decide+kernel) rfl (FS rfl))) (fX (by decide)) (fun _ _ _ _ _=>tS) (fun _ _ _ _ _=>(bG (rN (K:=K) rfl) (pv 0) aq (fun _ _=>rfl)))) af)))
     (ag (aF (iy GG Su SB oM (pv 2) (ae (dA Hi (hr.mono (by decide)) rfl T.wy T.wz (ae (pv 3) (ae (pv 0) af))) af)))
     (ah (Wo (i:=0) nD.nd rfl (FS rfl) (T:=["_law_bell_here"]) (M:=["_law_left","_law_to","_law_found","_law_time"]) (R4 (ao jC) ["_law_left","_law_to","_law_found","_law_time"] rfl rfl (by decide+kernel)) rfl (cR (pv 0)) (fun _ _ _ _ _=>(a0 (i:=0) (show OE (["_law_bell_here","_law_left","_law_to","_law_found","_law_time"]:List Str) by decide+kernel) rfl (FS rfl))) (fX (by decide)) (fun _ _ _ _ _=>(xM (aI DA (bG (rN (K:=K) rfl) (pv 0) aq (fun _ _=>rfl)) (pv 4) (aK _)))) (fun _ _ _ _ _=>(pv 0)) rfl)))))
    (ah (aD (dS (ae (pv 2) (ae (pv 0) af))))))),?_⟩
   repeat' (walk_at "rd1")
   rename_i q1 H1 s1 mI yC
   refine tW (fun r σ' H'=>∃(z:Option V) (vl:V) (Od:List BB) (cur:List g9),σ'=[some vl,some (.int to),some (.ref q1),z]/\ay H H'/\Dv H' vl (.list (cur.map bD))/\dg H' q1 Od/\Od.length+3*cur.length<=100/\(cur.length<=r/\cur.length<=30/\vl≠.ref q1/\((vl=v/\cur=bs)\/∃p,vl=.ref p/\H p=none/\dg H' p (cur.map bD)))/\Nd cur/\(∀b∈cur,b.Ok)/\∀es lf,Du to cur es lf->Du to bs (Od++es) lf) ⟨bs.length,none,v,[],bs,rfl,s1,hv.keeps s1,yC,by simp;omega,⟨BN _,hlen,W3 hv mI,.inl ⟨rfl,rfl⟩⟩,hn,bb,fun es lf h=>h⟩ ?_
   rintro r σ' H2 ⟨z,vl,Od,cur,rfl,s2,Rp,vz,hel,⟨hcr,akt,hvq,hvo⟩,Vw,Jn,gj⟩
   repeat' (walk_at "rd1")
   rename_i q3 H3 s3 pU pL
   have Oc:=Rp.keeps s3
   refine XJ Oc pL.dv (Yj Jn) ?_
   by_cases hcn:cur=[]
   . rw [show(cur.map bD).isEmpty=true by rw [hcn];rfl]
     repeat' (walk_at "rd1")
     have hd:=gj [] cur (.stop fun b hb=>by rw [hcn] at hb;cases hb)
     rw [NG] at hd
     have adL:=vz.keeps s3
     refine Qb (LF rfl) (.cons adL.dv (.cons Oc .nil)) (fun p H4 s4 LR he4=>?_)
     repeat' (walk_at "rd1")
     exact q p H4 Od cur q1 vl ((s2.trans s3).trans s4) hd he4 (adL.keeps s4).dv (Oc.keeps s4) (hvo.imp_right fun⟨p,e,n,h⟩=>⟨p,e,n,(h.keeps s3).keeps s4⟩)
   . rw [show(cur.map bD).isEmpty=false by cases cur with|nil=>exact absurd rfl hcn|cons=>rfl]
     have yy:0<cur.length:=List.length_pos_iff.mpr hcn
     repeat' (walk_at "rd1")
     refine EW (cs:=cur) (gd:=bD) (fun _=>true) (fun b=>.int b.l) Oc (by omega) (fun _=>rfl) (fun y b H5 N hb Gq hy yes no=>?_) (fun q5 H5 Gq Zb Tj=>?_)
     . unfold bD at hy
       repeat' (walk_at "rd1")
       refine oO (fun _=>?_) (fun xK=>by cases xK)
       repeat' (walk_at "rd1")
       exact yes rfl _ _ (by walk_at "same") (by walk_at "dat")
     rw [qc] at Tj
     have ZN:Dv H5 (.ref q5) (.list ((cur.map (·.l)).map Pd)):=by rw [GM];exact Tj.dv
     repeat' (walk_at "rd1")
     refine QI ZN (by rw [AE];exact yy) (fun u hu Wy=>?_)
     have F4:∀b∈cur,u<=b.l:=fun b hb=>Wy _ (Cc (f:=(·.l)) hb)
     repeat' (walk_at "rd1")
     . rename_i hut
       have Y9:=Oc.keeps Gq
       refine EW (cs:=cur) (gd:=bD) (fun _=>true) (fun b=>.int b.l) Y9 (by omega) (fun _=>rfl) (fun y b H6 N hb sm6 hy yes no=>?_) (fun q6 H6 sm6 hn6 MZ=>?_)
       . unfold bD at hy
         repeat' (walk_at "rd1")
         refine oO (fun _=>?_) (fun xK=>by cases xK)
         repeat' (walk_at "rd1")
         exact yes rfl _ _ (by walk_at "same") (by walk_at "dat")
       rw [qc] at MZ
       have agp:Dv H6 (.ref q6) (.list ((cur.map (·.l)).map Pd)):=by rw [GM];exact MZ.dv
       repeat' (walk_at "rd1")
       refine QI agp (by rw [AE];exact yy) (fun u2 hu2 WO=>?_)
       obtain rfl:u=u2:=Int.le_antisymm (Wy u2 hu2) (WO u hu)
       have Q6:=Y9.keeps sm6
       have ahf:=((vz.keeps s3).keeps Gq).keeps sm6
       obtain⟨b1,Ke,F1⟩:=AN.mp hu
       repeat' (walk_at "rd1")
       refine⟨u,vl,cur,rfl,Q6,by omega,Vw,⟨b1,Ke,F1⟩,fun q7 H7 es sm7 hn7 Oi Kt=>?_⟩
       have afQ:=ahf.keeps sm7
       have hrl:=Oi.len
       have hfa:=IP (u:=u) ⟨b1,Ke,F1⟩ fun b hb=>(Jn b hb).fl
       have hfb:(cur.filter fun b=>decide (b.f<=u)).length+(cur.filter fun b=>decide (u<b.f)).length=cur.length:=LJ cur u
       repeat' (walk_at "rd1")
       refine AF afQ Kt (by omega) (fun H8 m8 hq8=>?_)
       have s28:ay H2 H7:=s3.trans (Gq.trans (sm6.trans sm7))
       have ajS:H q1=none:=mI
       have s08:ay H H8:=Mv.Lq (s2.trans s28) m8 mI
       have him:∀l:List g9,dj (l.map bD)=true:=fun l=>bE (fun _=>rfl) _
       have hv8:=Yq m8 (Q6.keeps sm7) hvq (him cur)
       repeat' (walk_at "rd1")
       refine EW (cs:=cur) (gd:=bD) (fun b=>decide (u<b.f)) bD hv8 (by omega) (fun _=>rfl) (fun y b H9 N hb sm9 hy yes no=>?_) (fun q9 H9 sm9 UE Sx=>?_)
       . have hy0:=hy
         unfold bD at hy
         repeat' (walk_at "rd1")
         refine oO (fun xK=>?_) (fun xK=>no xK _ (ay.refl _))
         repeat' (walk_at "rd1")
         exact yes xK _ _ (by walk_at "same") (by assumption)
       repeat' (walk_at "rd1")
       obtain⟨r',rfl⟩:∃r',r=r'+1:=⟨r - 1,by omega⟩
       refine⟨r',by omega,_,.ref q9,Od++es,cur.filter fun b=>decide (u<b.f),rfl,s08.trans sm9,Sx.dv,hq8.keeps sm9,by rw [Da];omega,⟨by omega,by omega,fun z=>?_,.inr ⟨q9,rfl,s08.none UE,Sx⟩⟩,vF Vw,fun b hb=>Jn b (B0.mp hb).1,fun Oj lf h=>?_⟩
       . injection z with z
         obtain⟨xs,e,_⟩:=hq8
         rw [<-z,UE] at e;cases e
       . rw [Os]
         exact gj _ _ (.step ⟨b1,Ke,F1⟩ F4 hut Oi h)
     . rename_i hut
       have hd:=gj [] cur (.stop fun b hb=>by have:=F4 b hb;omega)
       rw [NG] at hd
       have acz:=(vz.keeps s3).keeps Gq
       have Y9:=Oc.keeps Gq
       refine Qb (LF rfl) (.cons acz.dv (.cons Y9 .nil)) (fun p H4 s4 LR he4=>?_)
       repeat' (walk_at "rd1")
       exact q p H4 Od cur q1 vl ((s2.trans s3).trans (Gq.trans s4)) hd he4 (acz.keeps s4).dv (Y9.keeps s4) (hvo.imp_right fun⟨p,e,n,h⟩=>⟨p,e,n,((h.keeps s3).keeps Gq).keeps s4⟩)
theorem NZ (T:Txt K mg a):df P w K mg base 2 a.fy ["_law_left","_law_to"] [] G8:=
 ⟨⟨_,_,PH T,T.u6.binds fun _ _ _ _ _ _=>dJ fun _ _=>rfl,.nil⟩⟩
def Bd (a:Ad):Sp:=fun vs H Q _=>∃L k,vs=[.ref L.p]/\cE a H L k/\∀q H' ss,ay H H'->H q=none->An k ss->ss.Nodup->dg H' q (ss.map EQ)->Q (.ref q) H'
theorem Kv {L:Lay} {k:KS} (h:cE a H L k) (q:∀q H' ss,ay H H'->H q=none->An k ss->ss.Nodup->dg H' q (ss.map EQ)->Q (.ref q) H'):Bd a [.ref L.p] H Q E:=⟨L,k,rfl,h,q⟩
theorem QM (T:Txt K mg a):aP P w K mg base eG 1 a.dq a.qz ["self"] (Bd a):=by
 have cl:=T.aL;have n1:=T.a9
 refine T.mw.ok zK (fun vs H Q E h=>?_) (fun c7 A outer s H vs Q E hr h=>?_)
 . obtain⟨_,_,rfl,_⟩:=h;rfl
 . obtain⟨L,k,rfl,hk,q⟩:=h
   have hi:=hk.ins
   unfold bp at hi
   obtain⟨ns,b1,b2,b3⟩:=hk.bd
   have hlen:=hk.len b2 b3
   refine⟨_,(ah (aD (aU (Cu rfl) rfl T.e7 Q1 (ae (au (pv 0) rfl) af)))),?_⟩
   repeat' (walk_at "rd1")
   refine La b1 (by omega) (fun q1 H1 ss s1 mI DT R8 yC=>?_)
   repeat' (walk_at "rd1")
   exact q q1 H1 ss s1 mI ⟨R8,fun n=>by rw [DT.mem_iff,b3]⟩ (DT.nodup_iff.mpr b2) yC
theorem M0 (T:Txt K mg a):df P w K mg base 1 a.dq ["self"] [] (Bd a):=
 ⟨⟨_,_,QM T,T.mw.binds fun _ _ _ _ _ _=>kO fun _=>rfl,.nil⟩⟩
def D9:Sp:=fun vs H Q _=>∃c,vs=[.int c]/\∀rv H',ay H H'->WU H' rv->Q rv H'
theorem NS (T:Txt K mg a):aP P w K mg base eG 1 a.cV a.tR ["_law_cell"] D9:=by
 refine T.oi.ok Cd (fun vs H Q E h=>?_) (fun c7 A outer s H vs Q E hr h=>?_)
 . obtain⟨_,rfl,_⟩:=h;rfl
 . obtain⟨c,rfl,q⟩:=h
   refine⟨_,(ag (bB (aI (mD hr.F0) (aC cG (pv 0) aq) aq (aK _))
    (ah (aD eC))
    aN)
    (ah (aD (b9 (ae (aC gB aq (aC cG (aC bH (pv 0) aq) aq)) (ae (aC gB aq (aC cG (aC bH (pv 0) aq) aq)) (ae (aC gB aq (aC cG (aC bH (pv 0) aq) aq)) af))))))),?_⟩
   repeat' (walk_at "rd1")
   . exact q _ _ (ay.refl _) (.inl rfl)
   . rename_i lr H3 s3 pU pL
     exact q _ _ s3 (.inr ⟨lr,[2+c / 2 % 59,2+c / 118 % 59,2+c / 6962 % 59],rfl,pL,LF rfl,LF rfl,fun r hr=>by simp only [AD,NH,or_false] at hr;omega⟩)
theorem Jw (T:Txt K mg a):df P w K mg base 1 a.cV ["_law_cell"] [] D9:=
 ⟨⟨_,_,NS T,T.oi.binds fun _ _ _ _ _ _=>kO fun _=>rfl,.nil⟩⟩
theorem IJ (T:Txt K mg a):Binds K a.ig ["self","rounds","now"] [.int 0 a.cA]:=T.iZ.binds fun _ _ _ _ _ _ s us kx hl=>by
 obtain⟨o,n,h1,h2⟩:=T.nN.ex
 have hl:us.length=2:=by simp at hl;omega
 obtain⟨_,_,rfl⟩:=ln2 hl
 exact WA kx rfl h1 h2 rfl rfl
theorem FA (T:Txt K mg a):df P w K mg base 8 a.bK ["self","rounds","now"] [.int 0] (sd a):=⟨⟨_,_,Pl T,IJ T,.cons ⟨_,rfl⟩ .nil⟩⟩
theorem S0 (T:Txt K mg a):Binds K a.nY ["self","name","rule","weight","group","by_day"] [.none,.bool false]:=T.qe.binds fun _ _ _ _ _ _ s us kx hl=>by
 obtain⟨o,n,h1,h2⟩:=T.xG.ex
 have hl:us.length=4:=by simp at hl;omega
 obtain⟨_,_,_,_,rfl⟩:=ln4 hl
 exact WA kx rfl h1 h2 rfl rfl
theorem MA (T:Txt K mg a):df P w K mg base 13 a.eT ["self","name","rule","weight","group","by_day"] [.aQ,.bl false] (JG a):=⟨⟨_,_,XQ T,S0 T,.cons rfl (.cons rfl .nil)⟩⟩
def Ie (K:At) (p:Addr) (H:Hp) (l:Addr) (xs:List V):Prop:=(∀H',gD K H' l xs)\/(Rd H l (.lst xs)/\∀ys,H l=some (.lst ys)->¬Lw H p l)
section
variable {l:Addr}
theorem Ie.sql (h:Ie K p H l xs):gD K H l xs:=h.elim (fun h=>h H) fun h=>.inl h.1
theorem Ie.fr {cs pd:List Addr} (f:jR cs p pd H H') (h:Ie K p H l xs):Ie K p H' l xs:=by
 rcases h with h|⟨h|⟨o,h⟩,no⟩
 . exact .inl h
 . exact .inr ⟨.inl (f.kp _ _ h (fun _ _=>no _ h) (by intro _ z;cases z) (by intro _ _ _ z;cases z)),fun _ _=>f.off h (no _ h)⟩
 . have h':=f.kp _ _ h (by intro _ z;cases z) (by intro _ z;cases z) (by intro _ _ _ z;cases z)
   exact .inr ⟨.inr ⟨o,h'⟩,fun ys e=>by rw [h'] at e;cases e⟩
theorem Ie.same (al:H p≠none) (s:ay H H') (h:Ie K p H l xs):Ie K p H' l xs:=h.fr (cs:=[]) (pd:=[]) (eB al s)
theorem Ie.mv (al:H p≠none) (hp:p∉[q]) (hq:(∀H',gD K H' l xs)\/l≠q) (m:Mv [q] H H') (h:Ie K p H l xs):Ie K p H' l xs:=by
 rcases hq with hq|hq
 . exact .inl hq
 . have hl:l∉[q]:=by simpa using hq
   rcases h with h|⟨h|⟨o,h⟩,no⟩
   . exact .inl h
   . exact .inr ⟨.inl (m.kp _ _ hl h),fun _ _ z=>no _ h (uJ al (fun o e=>m.kp _ o hp e) z)⟩
   . have h':=m.kp _ _ hl h
     exact .inr ⟨.inr ⟨o,h'⟩,fun ys e=>by rw [h'] at e;cases e⟩
theorem Ie.new {H0:Hp} (h:gD K H0 l xs) (s:ay H0 H) (hl:∀b,Lw H p b->H0 b=none):Ie K p H l xs:=by
 rcases h with h|h
 . refine .inr ⟨?_,fun ys _ z=>?_⟩
   . rcases h with h|⟨o,h⟩
     . exact .inl (s _ _ h)
     . exact .inr ⟨o,s _ _ h⟩
   . have:=hl _ z
     rcases h with h|⟨o,h⟩ <;>rw [this] at h <;>cases h
 . exact .inl fun _=>.inr h
end
theorem Yh {bs lf:List g9} (h:Du to bs es lf):(∀b∈bs,b.Ok)->∀e∈es,∃ps,e=.tuple ps/\(∀p∈ps,Flat p)/\∀s,EQ s∈ps->LM (.str s)=true:=by
 have cw:LM (.str "woke")=true:=by decide+kernel
 have cr:LM (.str "rang")=true:=by decide+kernel
 have co:LM (.str "over")=true:=by decide+kernel
 induction h with
 |stop=>exact fun _ e he=>by cases he
 |@step bs lf u es Sw h1 h2 h3 h4 _ ih=>
  intro bb e he
  rcases Co.mp he with he|he
  . obtain⟨n0,rs,⟨b0,Wv,rfl,_⟩,_,hp,_,rfl⟩:=h4
    rcases AD.mp he with rfl|he
    . refine⟨_,rfl,fun p hp=>?_,fun s hs=>?_⟩
      . simp only [AD,NH,or_false] at hp
        rcases hp with rfl|rfl|rfl
        . exact .inl ⟨_,rfl⟩
        . exact .inr ⟨_,rfl⟩
        . exact .inl ⟨_,rfl⟩
      . simp only [AD,NH,or_false,Aa9,reduceCtorEq,false_or] at hs
        rcases hs with rfl|rfl
        . exact cw
        . exact(bb b0 Wv).nm
    . obtain⟨b,hb,he⟩:=Lm.mp he
      have WD:=(bb b (B0.mp (hp.mem_iff.mp hb)).1).nm
      unfold vZ at he
      simp only [AD,NH,or_false] at he
      rcases he with rfl|rfl
      . refine⟨_,rfl,fun p hp=>?_,fun s hs=>?_⟩
        . simp only [AD,NH,or_false] at hp
          rcases hp with rfl|rfl|rfl|rfl|rfl|rfl
          . exact .inl ⟨_,rfl⟩
          . exact .inl ⟨_,rfl⟩
          . exact .inr ⟨_,rfl⟩
          . exact .inr ⟨_,rfl⟩
          . exact .inr ⟨_,rfl⟩
          . exact .inr ⟨_,rfl⟩
        . simp only [AD,NH,or_false,Aa9,reduceCtorEq] at hs
          rcases hs with rfl|rfl
          . exact cr
          . exact WD
      . refine⟨_,rfl,fun p hp=>?_,fun s hs=>?_⟩
        . simp only [AD,NH,or_false] at hp
          rcases hp with rfl|rfl
          . exact .inl ⟨_,rfl⟩
          . exact .inl ⟨_,rfl⟩
        . simp only [AD,NH,or_false,Aa9] at hs
          rcases hs with rfl|rfl
          . exact co
          . exact WD
  . exact ih (fun b hb=>bb b (B0.mp hb).1) e he
def Yy (ns:List Int):List Str:=(AbF 22).map fun k=>yN (cell ns k / 3 % 3000000007*61+k).toNat
local macro_rules|`(tactic|walk_at "rd1")=>`(tactic|first|((with_reducible refine' GW ?e1 (K7 ?e2 ?e3) ?_);(case e1=>walk_at "sql");(case e2=>omega);(case e3=>(rw [AE];omega)))|fail)
set_option hygiene false in
local macro_rules|`(tactic|walk_at "rd1")=>`(tactic|first|with_reducible refine Vn ?_|fail)
theorem Xm (T:Txt K mg a):aP P w K mg base eG 15 a.uS a.FI ["_law_script"] (QU K):=by
 have cl:=T.aL;have n1:=T.bu
 have Il:=FA (P:=P) (w:=w) (base:=base) T
 have Bp:=MA (P:=P) (w:=w) (base:=base) T
 have C5:=QG (P:=P) (w:=w) (base:=base) T
 have rR:=M0 (P:=P) (w:=w) (base:=base) T
 have O8:=JW (P:=P) (w:=w) (base:=base) T
 have A2:=Bw (P:=P) (w:=w) (base:=base) T
 have tL:=zJ (P:=P) (w:=w) (base:=base) T
 have HP:=Rv (P:=P) (w:=w) (base:=base) T
 have JH:=NZ (P:=P) (w:=w) (base:=base) T
 have CN:=Jw (P:=P) (w:=w) (base:=base) T
 have Fg:=Nm (P:=P) (w:=w) (base:=base) T
 refine T.PF.ok km (fun vs H Q E h=>?_) (fun c7 A outer s H vs Q E hr h=>?_)
 . obtain⟨_,_,rfl,_⟩:=h;rfl
 . obtain⟨l0,ns,rfl,hS,ajq,q⟩:=h
   refine⟨_,(ag (aE (i:=1) km.nd rfl (FS rfl) (mX T.He Il (hr.mono (by decide)) rfl T.Dm (ae (dA CN (hr.mono (by decide)) rfl T.sY T.rM (ae (dA tL (hr.mono (by decide)) rfl T.kr T.kH (ae (pv 0) (ae aq af))) af)) af)))
    (ag (aE (i:=2) km.nd rfl (FS rfl) (b9 af))
    (ag (kC KB rfl (MO rfl T.vY (ae aq (ae (aU (NF rfl) rfl T.vx Aa5 (ae (aU iC rfl T.lW T0 (ae (pv 0) af)) (ae aq af))) af))) (a0 (i:=3) km.nd rfl (FS rfl))
     (ag (aE (i:=4) km.nd rfl (FS rfl) (dA HP (hr.mono (by decide)) rfl T.xI T.wZ (ae (bG ik (pv 0) (pv 3) (fun _ _=>rfl)) (ae (pv 3) (ae (pv 2) af)))))
     (ag (aF (iy GG PP P3 lj (pv 2) (ae (pv 4) af)))
     (ag (aE (i:=5) km.nd rfl (FS rfl) (mX T.E7 A2 (hr.mono (by decide)) rfl T.Aa (ae (bG ik (pv 4) aq (fun _ _=>rfl)) (ae (bG ik (pv 4) aq (fun _ _=>rfl)) af))))
     (cN (bB (aI (mD hr.F0) (bG ik (pv 4) aq (fun _ _=>rfl)) (bG ik (pv 4) aq (fun _ _=>rfl)) (aK _))
      (ah (aE (i:=5) km.nd rfl (FS rfl) (mX T.E7 O8 (hr.mono (by decide)) rfl T.Aa (ae (bG ik (pv 4) aq (fun _ _=>rfl)) af))))
      aN)
     (ah (bB (aI (A0 hr.F0) (aB (pv 1) T.aL T.xm Bp (hr.mono (by decide)) (ae (bG ik (pv 4) aq (fun _ _=>rfl)) (ae (pv 5) (ae (bG ik (pv 4) aq (fun _ _=>rfl)) af)))) (b9 af) (aK _))
      (ah (aD wx))
      aN)))))))
    (ag (bB (aI (A0 hr.F0) (eF (pv 1) T.aL T.lE rR (hr.mono (by decide))) (aU BL rfl T.e7 Q1 (ae (xH (T:=["_law_bell_here"]) (M:=["_law_script","_law_keeper","_law_bells","_law_k","04","_law_rule","_law_left","_law_to","_law_found","_law_due_here"]) (R4 (ao Ki) ["_law_script","_law_keeper","_law_bells","_law_k","_law_bell_here","_law_rule","_law_left","_law_to","_law_found","_law_due_here"] rfl rfl (by decide+kernel)) rfl (cR (pv 2)) (fun _ _ _ _ _=>(a0 (i:=0) (show OE (["_law_bell_here","_law_script","_law_keeper","_law_bells","_law_k","04","_law_rule","_law_left","_law_to","_law_found","_law_due_here"]:List Str) by decide+kernel) rfl (FS rfl))) (fX (by decide)) (fun _ _ _ _ _=>tS) (fun _ _ _ _ _=>(bG (rN (K:=K) rfl) (pv 0) aq (fun _ _=>rfl)))) af)) (aK _))
     (ah (aD wx))
     aN)
    (ag (aE (i:=6) km.nd rfl (FS rfl) (pv 2))
    (ag (kC KB rfl (cR (b9 (ae (aC cG (dA tL (hr.mono (by decide)) rfl T.kr T.kH (ae (pv 0) (ae aq af))) aq) (ae (aC rL (aC FP aq aq) aq) af)))) (a0 (i:=7) km.nd rfl (FS rfl))
     (ag (aE (i:=8) km.nd rfl (FS rfl) (aB (pv 1) T.aL T.zE C5 (hr.mono (by decide)) (ae (pv 7) af)))
     (ag (ZF (dA JH (hr.mono (by decide)) rfl T.zk T.zr (ae (pv 6) (ae (pv 7) af))) (Fd (n:=2) rfl (gL (a0 (i:=9) km.nd rfl (FS rfl)) (gL (a0 (i:=6) km.nd rfl (FS rfl)) wN))))
     (ah (bB (PW.pt (DZ (iY (bI (dA Fg (hr.mono (by decide)) rfl T.uy T.uC (ae (pv 8) af)) (fun _=>rfl))) (DZ (aI (A0 hr.F0) (pv 8) (pv 9) (aK _)) (BI (aI (A0 hr.F0) (au (pv 1) rfl) (pv 7) (aK _))))))
      (ah (aD wx))
      aN)))))
    (ah (aD (EC (m3 (mD hr.F0) (pv 6) (b9 af) (aK _)) (AQ (m3 (mD hr.F0) (eF (pv 1) T.aL T.lE rR (hr.mono (by decide))) (b9 af) (aK _)))))))))))),?_⟩
   repeat' (walk_at "rd1")
   refine⟨_,rfl,fun rv H1 s1 Sz=>?_⟩
   have hS1:=ay.seq s1 hS
   repeat' (walk_at "rd1")
   refine Vi (Yy ns) rfl Sz (by unfold Yy;simp) (fun L H2 s2 enm hlw ll=>?_)
   have ll:cE a H2 L (kB 0 []):=ll
   have hS2:=ay.seq s2 hS1
   repeat' (walk_at "rd1")
   rename_i qb H3 s3 pU pL z ez1 ez2 ez3
   rw [AE] at ez1 ez2
   refine⟨2,z,rfl,⟨by decide,by decide,by omega,by omega⟩,?_⟩
   have K5:Ie K L.wp H2 l0 (ns.map V.int):=Ie.new hS1 s2 hlw
   have XZ:=K5.same ll.al s3
   have hlq:(∀H',gD K H' l0 (ns.map V.int))\/l0≠qb:=by
    rcases hS1 with h|h
    . refine .inr fun e=>?_
      rcases h with h|⟨o,h⟩
      . have:=s2 _ _ h
        rw [e,pU] at this;cases this
      . have:=s2 _ _ h
        rw [e,pU] at this;cases this
    . exact .inl fun _=>.inr h
   have rp:=ll.keeps s3
   have ho3:ub L.wp H3 qb ([].map bD):=⟨pL,ll.new pU s3⟩
   clear K5 ll hS2 hS1 hlw pL pU s3 s2 s1 Sz hS
   refine Mx (fun i σ' H'=>∃(z3 z4 z5:Option V) (L':Lay) (bs:List g9),σ'=[some (.ref l0),some (.ref L.p),some (.ref qb),z3,z4,z5,none,none,none,none]/\(L'.p=L.p/\L'.nm=L.nm)/\cE a H' L' (kB 0 bs)/\ub L'.wp H' qb (bs.map bD)/\Ie K L'.wp H' l0 (ns.map V.int)/\bs.length<=i/\Nd bs/\∀b∈bs,b.Ok/\b.l<=10^39+(i:Int)*(2*10^38)/\∃N,b.n=yN N/\N % 61<i+2) ⟨none,none,none,L,[],rfl,⟨rfl,rfl⟩,rp,ho3,XZ,BN _,List.nodup_nil,fun b hb=>(by cases hb)⟩ ?_ ?_
   . rintro i σ' H5 hi ⟨z3,z4,z5,L',bs,rfl,⟨e1,e2⟩,GL,ZP,hx5,hbl,j9,Wb⟩
     have akE:i<20:=by omega
     have Ic:(2:Int)+i<ns.length:=by omega
     have hS5:=hx5.sql
     have Tj:=ZP.1
     have SE:=GL.ins
     unfold bp at SE
     rw [e1] at SE
     repeat' (walk_at "rd1")
     generalize hc:cell ns ((2:Int)+i).toNat=c
     refine⟨c,2+i,qb,bs,10^39+(i:Int)*(2*10^38),rfl,Tj,by omega,⟨by omega,by omega⟩,fun b hb=>⟨(Wb b hb).1.f0,(Wb b hb).1.fl,(Wb b hb).2.1⟩,⟨by omega,by omega⟩,fun v H6 f l w s6 hf0 Fz F1 XX Q6=>?_⟩
     have afe:=acS (c / 3 % 3000000007*61+(2+i)).toNat
     have akH:(c / 3 % 3000000007*61+(2+(i:Int))).toNat % 61=i+2:=by omega
     have mK:yN (c / 3 % 3000000007*61+(2+(i:Int))).toNat∈L'.nm:=by
      rw [e2,enm]
      unfold Yy
      refine AN.mpr ⟨2+i,AbA.mpr (by omega),?_⟩
      rw [<-hc,show((2:Int)+i).toNat=2+i by omega]
      congr 3
     have Jk:yN (c / 3 % 3000000007*61+(2+(i:Int))).toNat∉bs.map (·.n):=fun zz=>by
      obtain⟨b,hb,e⟩:=AN.mp zz
      obtain⟨N,hN,hN2⟩:=(Wb b hb).2.2
      rw [hN] at e
      have:=Pa e
      omega
     generalize hgn:(c / 3 % 3000000007*61+(2+(i:Int))).toNat=NN at*
     generalize Z4:yN NN=nm at*
     obtain⟨b,b1,b2,b3,b4⟩:∃b:g9,b.n=nm/\b.f=f/\b.l=l/\b.w=w:=⟨⟨nm,f,l,w⟩,rfl,rfl,rfl,rfl⟩
     subst b1 b2 b3 b4
     have Q6:Dv H6 v (bD b):=Q6
     have okb:b.Ok:=⟨hf0,Fz,by omega,XX,afe⟩
     have agj:=Q6
     unfold bD at Q6
     have Lb:=GL.keeps s6
     have Yd:ub L'.wp H6 qb (bs.map bD):=ZP.fr (cs:=[]) (pd:=[]) (eB GL.al s6)
     have hx6:=hx5.same GL.al s6
     have MZ:=Yd.1
     have VE:(bs.map bD).length=bs.length:=AE ..
     repeat' (walk_at "rd1")
     rename_i H7 m7 Kt
     have Kt:dg H7 qb ((bs++[b]).map bD):=by rw [CS];exact Kt
     obtain⟨Ya,ho7⟩:=Lb.ext Yd m7 Kt
     have hx7:=hx6.mv Lb.al (Lb.wne MZ) hlq m7
     have hv7:=m7.dat rfl Q6
     have hi7:=Ya.ins
     unfold bp at hi7
     rw [e1] at hi7
     clear GL ZP hx5 hS5 Tj SE Lb Yd hx6 MZ Q6 agj m7
     repeat' (walk_at "rd1")
     . exact⟨b.f,by omega,.inr ⟨b.l,rfl,Fz⟩⟩
     rename_i rv8 H8 s8 hr8
     have hR8:qL a H8 rv8 (.once b.f b.l):=⟨hr8,by omega,Fz⟩
     have VO:=Ya.keeps s8
     have ho8:ub L'.wp H8 qb ((bs++[b]).map bD):=ho7.fr (cs:=[]) (pd:=[]) (eB Ya.al s8)
     have hx8:=hx7.same Ya.al s8
     have hv8:=hv7.keeps s8
     clear Ya ho7 hx7 Kt hi7
     refine gw (fun σ' H'=>ay H8 H'/\∃rv9,qL a H' rv9 (.once b.f b.l)/\σ'=[some (.ref l0),some (.ref L.p),some (.ref qb),some (.int (2+(i:Int))),some v,some rv9,none,none,none,none]) ?_ ?_
     . repeat' (walk_at "rd1")
       . exact⟨b.f,by omega,.inl rfl⟩
       . rename_i V8 rv9 H9 s9 hr9
         refine⟨s9,rv9,⟨?_,by omega,Fz⟩,rfl⟩
         rw [<-V8];exact hr9
       . exact⟨ay.refl _,rv8,hR8,rfl⟩
     rintro σ' H9 ⟨s9,rv9,hR9,rfl⟩
     have hk9:=VO.keeps s9
     have ho9:ub L'.wp H9 qb ((bs++[b]).map bD):=ho8.fr (cs:=[]) (pd:=[]) (eB VO.al s9)
     have hx9:=hx8.same VO.al s9
     have hv9:=hv8.keeps s9
     have hi9:=hk9.ins
     unfold bp at hi9
     rw [e1] at hi9
     repeat' (walk_at "rd1")
     rw [<-e1]
     have okA:wG (kB 0 bs) (mj (.once b.f b.l) b.w none false) (N5 (.once b.f b.l)).1 (N5 (.once b.f b.l)).2:=⟨rfl,rfl,AaR _,(by show(0:Int)<10^99;decide),(by show(0:Int)+0<10^80;decide),(by show(0:Int)+0 - b.l<10^80;omega)⟩
     obtain⟨el,ee⟩:=ab3 okb Jk
     refine ac0 hk9 (by show(iD bs b.n).map oT=none;rw [Ak Jk];rfl) mK hR9 XX okA (fun q10 H10 bA Tv aj5 Qt CU=>?_)
     have CU:cE a H10 {L' with ad:=cQ L'.ad b.n bA} (tu (kB 0 bs) b.n (mj (.once b.f b.l) b.w none false) b.l):=CU
     have Qt:ub L'.wp H10 q10 (yS (kB 0 bs) b.n (mj (.once b.f b.l) b.w none false) b.l):=Qt
     rw [el] at CU
     rw [ee] at Qt
     have aiw:=Qt.1
     have Qz:=ho9.fr Tv
     have ahb:=hx9.fr Tv
     repeat' (walk_at "rd1")
     rename_i q11 H11 s11 aa4 RG _
     refine⟨_,_,_,{L' with ad:=cQ L'.ad b.n bA},bs++[b],rfl,⟨rfl,e2⟩,CU.keeps s11,Qz.fr (cs:=[]) (pd:=[]) (eB Tv.al' s11),ahb.same Tv.al' s11,by rw [Da,AaY];omega,?_,fun y hy=>?_⟩
     . show((bs++[b]).map (·.n)).Nodup
       rw [CS,Go]
       refine⟨j9,by simp,fun x hx y hy=>?_⟩
       have hy:y=b.n:=by simpa using hy
       rw [hy];exact fun e=>Jk (e▸hx)
     . rcases Co.mp hy with hy|hy
       . obtain⟨o1,o2,N,o3,o4⟩:=Wb y hy
         exact⟨o1,by omega,N,o3,by omega⟩
       . rw [AR.mp hy]
         exact⟨okb,by omega,NN,Z4.symm,by omega⟩
   . rintro σ' H5 ⟨z3,z4,z5,L',bs,rfl,⟨e1,e2⟩,GL,ZP,hx5,hbl,j9,Wb⟩
     have bb:∀b∈bs,b.Ok:=fun b hb=>(Wb b hb).1
     have agY:bs.length<=20:=by omega
     rw [<-e1]
     clear Wb e1 e2 hbl enm rp ho3 XZ
     have SE:=GL.ins
     unfold bp at SE
     have Tj:=ZP.1
     repeat' (walk_at "rd1")
     refine Kv GL (fun q6 H6 ss s6 hn6 hN agA MZ=>?_)
     have Yd:ub L'.wp H6 qb (bs.map bD):=ZP.fr (cs:=[]) (pd:=[]) (eB GL.al s6)
     have Lb:=GL.keeps s6
     repeat' (walk_at "rd1")
     refine EW (cs:=bs) (gd:=bD) (fun _=>true) (fun b=>.str b.n) Yd.1.dv (by omega) (fun _=>rfl) (fun y b H7 N hb sm7 hy yes no=>?_) (fun q7 H7 s7 hn7 Kt=>?_)
     . unfold bD at hy
       repeat' (walk_at "rd1")
       refine oO (fun _=>?_) (fun xK=>by cases xK)
       repeat' (walk_at "rd1")
       exact yes rfl _ _ (by walk_at "same") (by walk_at "dat")
     rw [qc] at Kt
     have afS:Dv H7 (.ref q7) (.list ((bs.map (·.n)).map EQ)):=by rw [GM];exact Kt.dv
     have hl7:(bs.map (·.n)).length<64:=by rw [AE];omega
     repeat' (walk_at "rd1")
     rename_i q8 H8 ss8 s8 hn8 hp8 F0 hq8
     have ess:ss8=ss:=by
      refine DK ?_ F0 hN.1
      refine hp8.trans ((Aag j9 agA).mpr fun y=>?_)
      rw [hN.2]
      show _↔((iD bs y).map oT).isSome=true
      cases ea:iD bs y with
      |none=>
       simp only [Option.map_none,Option.isSome_none,IF,iff_false]
       intro z
       obtain⟨b,hb,e⟩:=AN.mp z
       rw [<-e,vo j9 hb] at ea
       cases ea
      |some b=>
       obtain⟨h1,h2⟩:=k8 ea
       simp only [Aac,Option.isSome_some,iff_true]
       exact AN.mpr ⟨b,h1,h2⟩
     subst ess
     have ae4:vB (ss8.map EQ):=by
      have:∀l:List Str,(∀y∈l,LM (.str y)=true)->vB (l.map EQ):=by
       intro l
       induction l with
       |nil=>exact fun _=>vB.nil
       |cons y l ih=>exact fun h=>.cons (h y BC) (KF _) (by rw [Sm];simp) (ih fun z hz=>h z (AL _ hz))
      refine this _ fun y hy=>?_
      obtain⟨b,hb,e⟩:=AN.mp (hp8.mem_iff.mp hy)
      rw [<-e];exact(bb b hb).nm
     refine VV ((MZ.keeps s7).keeps s8).dv hq8.dv ae4 ?_
     have VO:=(Lb.keeps s7).keeps s8
     have ho8:ub L'.wp H8 qb (bs.map bD):=Yd.fr (cs:=[]) (pd:=[]) (eB Lb.al (s7.trans s8))
     have hx8:=hx5.same GL.al (s6.trans (s7.trans s8))
     have hS8:=hx8.sql
     clear GL ZP hx5 SE Tj Lb Yd Kt afS hq8 MZ
     repeat' (walk_at "rd1")
     rename_i _ t0 t1 ql H9 s9 UE Sx
     generalize cell ns (Int.toNat 1) % 40=tt at*
     obtain⟨xs9,ex9,dv9,_⟩:=id Sx
     have VX:xs9=[.int tt,.int (10^40 - 1)]:=by
      cases dv9 with
      |cons g1 r1=>
       cases r1 with
       |cons g2 r2=>
        cases r2
        rw [g1.int_inv,g2.int_inv]
     subst VX
     have hk9:=VO.keeps s9
     have no9:¬Lw H9 L'.wp ql:=VO.new UE s9
     have ho9:ub L'.wp H9 qb (bs.map bD):=ho8.fr (cs:=[]) (pd:=[]) (eB VO.al s9)
     clear VO ho8 hx8 hS8 Sx dv9 UE s9
     refine forL (xs:=[.int tt,.int (10^40 - 1)]) (.inl (.inl ex9)) (fun i σ' H'=>∃(z7 z8 z9:Option V) (p:Addr) (cur:List g9) (now:Int),σ'=[some (.ref l0),some (.ref L'.p),some (.ref qb),z3,z4,z5,some (.ref p),z7,z8,z9]/\cE a H' L' (kB now cur)/\ub L'.wp H' p (cur.map bD)/\Nd cur/\(∀b∈cur,b.Ok/\now<=b.l)/\cur.length<=20/\((i=0->now=0)/\(i=1->now=tt)/\(i=2->cur=[]))/\(H' ql=some (.lst [.int tt,.int (10^40 - 1)])/\¬Lw H' L'.wp ql)) ⟨none,none,none,qb,bs,0,rfl,hk9,ho9,j9,fun b hb=>⟨bb b hb,by have:=(bb b hb).f0;have:=(bb b hb).fl;omega⟩,agY,⟨fun _=>rfl,fun h=>by omega,fun h=>by omega⟩,ex9,no9⟩ (fun i σ' H' _ h=>by obtain⟨_,_,_,_,_,_,_,_,_,_,_,_,_,e⟩:=h;exact .inl (.inl e.1)) ?_ ?_
     . rintro i x σ' H10 hx ⟨z7,z8,z9,p,cur,now,rfl,CU,Qz,Vw,Jn,VS,⟨i0,i1,i2⟩,XA,XO⟩
       obtain⟨to,rfl,Ks⟩:∃to,x=.int to/\((i=0/\to=tt)\/(i=1/\to=10^40 - 1)):=by
        match i,hx with
        |0,hx=>exact⟨tt,(Do hx).symm,.inl ⟨rfl,rfl⟩⟩
        |1,hx=>exact⟨10^40 - 1,(Do hx).symm,.inr ⟨rfl,rfl⟩⟩
       have Om:now<=to:=by
        rcases Ks with⟨e1,e2⟩|⟨e1,e2⟩
        . rw [i0 e1];omega
        . rw [i1 e1];omega
       have Xg:=CU.ins
       unfold bp at Xg
       repeat' (walk_at "rd1")
       refine⟨L',kB now cur,to,60,3*cur.length,J53,rfl,CU,Om,by decide,by decide,by omega,adh to,⟨cur,rfl,Vw,fun b hb=>(Jn b hb).1,fun b hb=>(Jn b hb).2,BN _⟩,fun q11 H11 es k11 g hes acb aa4 RG Xj=>?_⟩
       obtain⟨lf,hd,rfl⟩:=ag1 g cur now rfl Vw (fun b hb=>(Jn b hb).1.fl) (by show cur.length<60;omega)
       have adJ:=Qz.fr acb
       have acE:=RG.1
       repeat' (walk_at "rd1")
       refine⟨.ref p,to,cur,rfl,adJ.1.dv,by omega,Vw,fun b hb=>(Jn b hb).1,fun t H12 Sw lf2 qf w2 s12 hd2 afN agk ak6 hww=>?_⟩
       obtain⟨rfl,rfl⟩:=hd.det Vw hd2
       refine(show adi _ _ _ _ _ _ _ from Qp afN ?_)
       have aaL:=Yh hd fun b hb=>(Jn b hb).1
       have abX:vB es:=Ln aaL
       have acD:=(acE.keeps s12).dv
       have abn:=Xj.keeps s12
       have aho:=abn.ins
       unfold bp at aho
       repeat' (walk_at "rd1")
       refine UI acD (fun e h=>by obtain⟨ps,h1,h2,_⟩:=aaL e h;exact⟨ps,h1,h2⟩) ?_
       repeat' (walk_at "rd1")
       refine VV acD agk abX ?_
       repeat' (walk_at "rd1")
       . rename_i hb
         exact absurd rfl hb
       obtain⟨d1,d2,d3⟩:=hd.left
       have adO:=acb.step s12
       have aeX:H12 ql=some (.lst [.int tt,.int (10^40 - 1)]):=adO.kp ql _ XA (fun _ _=>XO) (by intro _ z;cases z) (by intro _ _ _ z;cases z)
       have aeV:=adO.off XA XO
       obtain⟨p2,rfl,agW⟩:∃p2,w2=.ref p2/\ub L'.wp H12 p2 (lf.map bD):=by
        rcases hww with⟨e,rfl⟩|⟨p2,e,mR,Kp⟩
        . exact⟨p,e,adJ.fr (cs:=[]) (pd:=[]) (eB Xj.al s12)⟩
        . exact⟨p2,e,Kp,Xj.new mR s12⟩
       refine⟨_,_,_,p2,lf,to,rfl,abn,agW,d3 Vw,fun b hb=>⟨(Jn b (d1 b hb).1).1,by have:=(d1 b hb).2;omega⟩,by omega,⟨fun h=>by omega,fun h=>?_,fun h=>?_⟩,aeX,aeV⟩
       . rcases Ks with⟨_,e2⟩|⟨e1,_⟩
         . exact e2
         . omega
       . refine List.eq_nil_iff_forall_not_mem.mpr fun b hb=>?_
         have h1:=(d1 b hb).2
         have h2:=(Jn b (d1 b hb).1).1.l1
         rcases Ks with⟨e1,_⟩|⟨_,e2⟩
         . omega
         . omega
     . rintro σ' H10 ⟨z7,z8,z9,p,cur,now,rfl,CU,Qz,Vw,Jn,VS,⟨i0,i1,i2⟩,XA,XO⟩
       have ahk:=i2 rfl
       subst ahk
       have Xg:=CU.ins
       unfold bp at Xg
       have Qt:=Qz.1
       repeat' (walk_at "rd1")
       . rename_i q11 H11 s11 aa4 RG hb
         refine Kv (CU.keeps s11) (fun q12 H12 ss s12 alx hN ah7 alF=>?_)
         have ess:ss=[]:=List.eq_nil_iff_forall_not_mem.mpr fun n hn=>by have:=(hN.2 n).mp hn;cases this
         subst ess
         repeat' (walk_at "rd1")
         rw [show(id ((BB.list (List.map EQ [])).eqv (BB.list [])))=true by show Sm (.list []) (.list [])=true;rw [Sm];rfl]
         exact q _
       . rename_i hb
         cases hb
end
end My
open PySem PySem.W PyProof.Rows
local macro_rules|`(tactic|walk_at "k_dg")=>`(tactic|(refine' ⟨?a,⟨_,L2.Kz ?l ?c⟩,?k⟩;(case a=>k_is);(case l=>k_is);(case c=>k_is);(case k=>k_is)))
local macro_rules|`(tactic|walk_at "k_dm")=>`(tactic|(refine' ⟨?a,⟨_,L2.Kz ?l ?c⟩,?k,?i⟩;(case a=>k_is);(case l=>k_is);(case c=>k_is);(case k=>k_is);(case i=>k_is)))
local macro_rules|`(tactic|walk_at "k_dt")=>`(tactic|(refine' My.Ub ?l;(case l=>k_is)))
local macro_rules|`(tactic|walk_at "k_ck")=>`(tactic|(refine' ⟨?a,?b,?c,?d,?e,?f,?g⟩;(case a=>k_is);(case b=>k_is);(case c=>k_is);(case d=>k_is);(case e=>k_is);(case f=>k_is);(case g=>k_is)))
set_option maxRecDepth 100000 in
set_option maxHeartbeats 0 in
theorem PySem.Challenge.cw_wakefew_k53_bells_that_ring_once_holds : PySem.Challenge.rw_wakefew_k53_bells_that_ring_once.Holds := by
 refine Hd ?_
 k_fill
 refine L2.Qd (l:=PySem.Challenge.rw_wakefew_k53_bells_that_ring_once) (n:=63) (k:=30) (x:="_law_script") (CX:=L2.eG) (sp:=My.QU) rfl (by decide) rfl ⟨rfl,by decide,by decide⟩ (fun w h Y=>PySem.W.kIn_of Y) ?F ?S ?C
 case F=>
  intro w mg fa h KX G hmg
  have T:∃a:My.Ad,a.uS=a.uS/\My.Txt (L2.KOf KX) mg a:=by
   dsimp only [L2.KOf]
   refine' My.ZJ KX G ?h0 ?h1 ?h2 ?h3 ?h4 ?h5 ?h6 ?h7 ?h8 ?h9 ?h12 ?h13 ?h14 ?h15 ?h16 ?h17 ?h18 ?h19 ?h21 ?h22 ?h23 ?h24 ?h25 ?h26 ?h27 ?h28 ?h29 ?h30 ?h31 ?h32 ?h33 ?h34 ?h35 ?h36 ?h37 ?h38 ?h39 ?h40 ?h41 ?h42 ?h43 ?h44 ?h45 ?h46 ?h47 ?h48 ?h49 ?h50 ?h51 ?h52 ?h54 ?h55 ?h56 ?h57 ?h58 ?h59 ?h60 ?h61 ?h62 ?h63 ?h64 ?h65 ?h66 ?h67 ?h68 ?h69 ?h70 ?h71 ?h72 ?h73 ?h74 ?h75 ?h76 ?h77 ?h78 ?h79 ?h80 ?h81 ?h82 ?h83 ?h84 ?h85 ?h86 ?h87 ?h88 ?h89 ?h90 ?h91 ?h92 ?h93 ?h94 ?h95 ?h96 ?h97 ?h98 ?h99 ?h100 ?h101 ?h102 ?h103 ?h104 ?h105 ?h106 ?h107 ?h108 ?h109 ?h113 ?h114 ?h115 ?h116 ?h117 ?h118 ?h119 ?h120 ?h121 ?h122 ?h123 ?h124 ?h125 ?h126 ?h127 ?h128 ?h129 ?h130 ?h131 ?h132 ?h133 ?h134 ?h135 ?h136 ?h137 ?h138 ?h139 ?h140 ?h141 ?h142 ?h143 ?h144 ?h145 ?h146 ?h150 ?h151 ?h152 ?h153 ?h154 ?h155 ?h156 ?h157 ?h158 ?h160 ?h161 ?h162 ?h163 ?h164 ?h165 ?h166 ?h167 ?h168 ?h169 ?h170 ?h174 ?h175 ?h176 ?h177 ?h178 ?h179 ?h180 ?h181 ?h182 ?h183 ?h184 ?h185 ?h189 ?h190 ?h191 ?h192 ?h193 ?h194 ?h197 ?h198 ?h199 ?h200 ?h201 ?h202 ?h203 ?h204 ?h205 ?h206 ?h207 ?h208 ?h209 ?h210 ?h211 ?h212 ?h213 ?h214 ?h215 ?h216 ?h217 ?h218 ?h219 ?h220
   (case h0=>k_is)
   (case h1=>k_is)
   (case h2=>k_is)
   (case h3=>k_is)
   (case h4=>k_is)
   (case h5=>k_is)
   (case h6=>k_is)
   (case h7=>k_is)
   (case h8=>k_is)
   (case h9=>k_is)
   (case h12=>walk_at "k_dm")
   (case h13=>walk_at "k_dm")
   (case h14=>walk_at "k_dm")
   (case h15=>walk_at "k_dm")
   (case h16=>walk_at "k_dm")
   (case h17=>walk_at "k_dm")
   (case h18=>walk_at "k_dm")
   (case h19=>walk_at "k_dm")
   (case h21=>walk_at "k_dm")
   (case h22=>walk_at "k_dm")
   (case h23=>walk_at "k_dt")
   (case h24=>walk_at "k_dm")
   (case h25=>walk_at "k_dm")
   (case h26=>walk_at "k_dm")
   (case h27=>walk_at "k_dm")
   (case h28=>walk_at "k_dm")
   (case h29=>walk_at "k_dm")
   (case h30=>walk_at "k_dm")
   (case h31=>walk_at "k_dm")
   (case h32=>walk_at "k_dm")
   (case h33=>walk_at "k_dg")
   (case h34=>walk_at "k_dg")
   (case h35=>walk_at "k_dg")
   (case h36=>walk_at "k_dg")
   (case h37=>walk_at "k_dm")
   (case h38=>walk_at "k_dm")
   (case h39=>walk_at "k_dm")
   (case h40=>walk_at "k_dm")
   (case h41=>walk_at "k_dm")
   (case h42=>walk_at "k_dm")
   (case h43=>walk_at "k_dm")
   (case h44=>walk_at "k_dm")
   (case h45=>walk_at "k_dt")
   (case h46=>walk_at "k_dm")
   (case h47=>walk_at "k_dm")
   (case h48=>walk_at "k_dm")
   (case h49=>walk_at "k_dm")
   (case h50=>walk_at "k_dm")
   (case h51=>walk_at "k_dm")
   (case h52=>walk_at "k_dm")
   (case h54=>walk_at "k_dm")
   (case h55=>walk_at "k_dm")
   (case h56=>walk_at "k_dm")
   (case h57=>walk_at "k_dm")
   (case h58=>walk_at "k_dm")
   (case h59=>walk_at "k_dm")
   (case h60=>walk_at "k_dm")
   (case h61=>walk_at "k_dm")
   (case h62=>walk_at "k_dm")
   (case h63=>walk_at "k_dm")
   (case h64=>walk_at "k_dm")
   (case h65=>walk_at "k_dg")
   (case h66=>walk_at "k_dm")
   (case h67=>walk_at "k_dt")
   (case h68=>walk_at "k_dm")
   (case h69=>walk_at "k_dt")
   (case h70=>walk_at "k_dm")
   (case h71=>walk_at "k_dt")
   (case h72=>walk_at "k_dm")
   (case h73=>walk_at "k_dm")
   (case h74=>walk_at "k_dm")
   (case h75=>walk_at "k_dm")
   (case h76=>walk_at "k_dg")
   (case h77=>walk_at "k_dm")
   (case h78=>walk_at "k_dm")
   (case h79=>walk_at "k_dt")
   (case h80=>walk_at "k_dm")
   (case h81=>walk_at "k_dm")
   (case h82=>walk_at "k_dm")
   (case h83=>walk_at "k_dm")
   (case h84=>walk_at "k_dg")
   (case h85=>walk_at "k_dg")
   (case h86=>walk_at "k_dg")
   (case h87=>walk_at "k_dg")
   (case h88=>walk_at "k_dg")
   (case h89=>walk_at "k_dg")
   (case h90=>walk_at "k_dg")
   (case h91=>walk_at "k_dg")
   (case h92=>walk_at "k_dg")
   (case h93=>walk_at "k_ck")
   (case h94=>k_is)
   (case h95=>k_is)
   (case h96=>k_is)
   (case h97=>k_is)
   (case h98=>k_is)
   (case h99=>k_is)
   (case h100=>k_is)
   (case h101=>k_is)
   (case h102=>k_is)
   (case h103=>k_is)
   (case h104=>k_is)
   (case h105=>walk_at "k_ck")
   (case h106=>k_is)
   (case h107=>k_is)
   (case h108=>k_is)
   (case h109=>k_is)
   (case h113=>walk_at "k_ck")
   (case h114=>k_is)
   (case h115=>k_is)
   (case h116=>k_is)
   (case h117=>k_is)
   (case h118=>k_is)
   (case h119=>k_is)
   (case h120=>k_is)
   (case h121=>k_is)
   (case h122=>k_is)
   (case h123=>k_is)
   (case h124=>k_is)
   (case h125=>walk_at "k_ck")
   (case h126=>k_is)
   (case h127=>k_is)
   (case h128=>k_is)
   (case h129=>k_is)
   (case h130=>k_is)
   (case h131=>k_is)
   (case h132=>k_is)
   (case h133=>walk_at "k_ck")
   (case h134=>k_is)
   (case h135=>k_is)
   (case h136=>k_is)
   (case h137=>k_is)
   (case h138=>k_is)
   (case h139=>k_is)
   (case h140=>k_is)
   (case h141=>k_is)
   (case h142=>k_is)
   (case h143=>k_is)
   (case h144=>k_is)
   (case h145=>k_is)
   (case h146=>k_is)
   (case h150=>walk_at "k_ck")
   (case h151=>k_is)
   (case h152=>k_is)
   (case h153=>k_is)
   (case h154=>k_is)
   (case h155=>k_is)
   (case h156=>k_is)
   (case h157=>k_is)
   (case h158=>k_is)
   (case h160=>k_is)
   (case h161=>k_is)
   (case h162=>k_is)
   (case h163=>k_is)
   (case h164=>k_is)
   (case h165=>k_is)
   (case h166=>k_is)
   (case h167=>k_is)
   (case h168=>k_is)
   (case h169=>k_is)
   (case h170=>k_is)
   (case h174=>walk_at "k_ck")
   (case h175=>k_is)
   (case h176=>k_is)
   (case h177=>k_is)
   (case h178=>k_is)
   (case h179=>k_is)
   (case h180=>decide)
   (case h181=>decide)
   (case h182=>decide)
   (case h183=>decide)
   (case h184=>decide)
   (case h185=>decide)
   (case h189=>decide)
   (case h190=>decide)
   (case h191=>decide)
   (case h192=>decide)
   (case h193=>decide)
   (case h194=>decide)
   (case h197=>k_is)
   (case h198=>k_is)
   (case h199=>k_is)
   (case h200=>k_is)
   (case h201=>k_is)
   (case h202=>k_is)
   (case h203=>k_is)
   (case h204=>k_is)
   (case h205=>k_is)
   (case h206=>k_is)
   (case h207=>k_is)
   (case h208=>k_is)
   (case h209=>k_is)
   (case h210=>k_is)
   (case h211=>k_is)
   (case h212=>k_is)
   (case h213=>k_is)
   (case h214=>k_is)
   (case h215=>k_is)
   (case h216=>k_is)
   (case h217=>k_is)
   (case h218=>k_is)
   (case h219=>k_is)
   (case h220=>k_is)
  obtain⟨a,_,T⟩:=T
  have e0:=hmg.symm.trans T.QB
  cases e0
  exact⟨a.FI,fun s u=>My.MK T s u,fun base kb nb=>(My.Xm T).mono (by decide)⟩
 case S=>exact fun K H l ns hl hO hS=>⟨l,ns,rfl,hS,hl,fun _=>rfl⟩
 case C=>exact fun H s e s' h=>h
