import PyProof.Rows.All
import Wide.All
import OpenK.KSplit
import OpenK.KNot
import OpenK.KApp
import KE.KPop
import KE.KListMore
import KE.RegKMod
import KE.KDictOf
import KE.KDictMeth
import KE.KEqSeq
import KE.KSlice
import KE.GnPush
import KE.KSorted
import KE.KJoinElse
import KE.RegTryLedger
import KE.KTops
import KE.RegKSuper
import KE.KSort
import KE.KDictLoop
import KE.RegLcTurns
import KE.RegLcAnyAll
import KE.KCat
import KE.KTemps
import KE.KTup
import KE.KxMul
import KE.KxSplit
import KE.KxIndex
import KE.KxText
import KE.KCells
import KE.KPassesOwn
import KE.RegKIsNot
import KE.KTempsTwo
import KE.KSetInts
import KE.KSortedL
import KE.KxBytes
import KE.KClos
import KE.KNestStore
import KE.KOwnIter
import KE.KStopIter
import KE.RegKBase
import KE.KDictOne
import KE.RegKMathG
import KE.KDictAny
import KE.RegKCallOwn
import KE.KSliceW
import KE.KxDecode
import KE.RegKMathGB
import KE.KLam
import KE.KDictBranch
import KE.KTree
import KE.KTreeB
import KE.KNestM
import KE.KDflt
import KE.KOwnIterCall
import KE.KSortedM
import KE.KTurns
import KE.KEqText
import KE.KxLen
import KE.RegKMathGC
import KE.KIsClose
import KE.KEqDict
import KE.KDisp
import KE.KDictAnyGet
import KE.KDictObj
import KE.KSetIn
import KE.KRevSl
import KE.KEqDeep
import KE.KAnyBase
import KE.KBoundM
import KE.KWhile
import KE.KRevIter
import KE.KCount
import KE.KTreeR
import KE.KxStill
import KE.KFinally
import KE.KTopLam
import KE.KWithOwn
import KE.KCases
import KE.KOpsOwn
import KE.KDictNew
import KE.KDictList
import KE.KDictIter
import KE.RegKUnpackStar
import KE.KSortAsk
import KE.KWhileD
import KE.KLcTest
import KE.KSumEnd
import KE.KPopAny
import KE.KGrown
import KE.KItemAt
import KE.KTextLit
import KE.KTupDict
import KE.KFmtOwn
import KE.KUnrMore
import KE.KMinKey
import KE.KTurnsDict
import KE.KExtendNil
import KE.KMethU
import KE.BytesMul
import KE.KCompFold
import KE.KDictSum
import KE.KDictName
import KE.KDictSym
import KE.KTurnsAny
import KE.KDictAnyTail
import KE.RegKStar
import KE.RegKParD
import KE.RegKTupTruth
import KE.RegKTupSum
import KE.KCallJoin
import KE.KMethJoin
import KE.KPathRangeEnd
import KE.KStateW
import KE.RegKParC
import KE.KxWritten
import KE.KxAdd
import KE.KxAffix
import KE.KxField
import KE.RegKIsAll
import KE.RegKMatchCls
import KE.KLcPair
import KE.RegKTryDeep
import KE.KJoinL
import KE.RegKNeg
import KE.KxPercentT
import KE.KBytesCut
import KE.KCellOne
import KE.KCompIf
import KE.KMenu
import KE.KxFormat
import KE.KTypeName
import KE.KCompText
import KE.BytesMulAny
import KE.KDictSymLen
import KE.KSortTup
import KE.KPairAssign
import KE.KTypeOf
import KE.KFinEnd
import KE.KMulAny
import KE.KBytesMenu
import KE.KTextDict
import KE.KPathShort
import KE.KSplitRange
import KE.KKinds
import KE.KxPart
import KE.KRangeItem
import KE.KDictLetter
import KE.KRangeNest
import KE.KSetAt
import KE.KWords
import KE.KxTruthy
import KE.KPairRows
import KE.KBytesMore
import KE.RegKStateDown
import KE.KItemsList
import KE.KRangePlain
import KE.KStateGiven
import KE.KBitsMul
import KE.KTextTable
import KE.KForList
import KE.KIdxIf
import KE.KAssignIn
import KE.KFirstTurn
import KE.KOwnRange
import KE.KLooksOwn
import KE.KDictWord
import KE.KStrOpen
import KE.KTurnsGround
import KE.KListEnd
import KE.KSearch
import KE.KFinFacts
import KE.RegKTryOn
import KE.KCenter
import KE.KStrWords
import KE.KStateTextK
import KE.KBools
import KE.KStateWGiven
import KE.KData
import KE.KCallTup
import KE.KTreeD
import KE.KTreeF
import KE.KEndWord
import KE.KStateBytes
import KE.KRangeEnd
import KE.KOf
import KE.KRepItem
import KE.KListLetter
import KE.KSliceSign
import KE.KCallBy
import KE.KToBytes
import KE.KPathText
import KE.KMinBuiltin
import KE.KFromBytes
import KE.KEqDat
import KE.KBytesUnr
import KE.KIsBytes
import KE.KCallRec
import KE.KEndW
import KE.RegLGe
import KE.RegLGeC
import Wide.FinOn
import Wide.FinOn
import Lean
import PyProof.EqAt
import PyProof.EqKinds
import PyProof.TupleCall
import PyProof.StrLawsRepr
import Open.Tops
import PySem.Challenge.RW_wakefew_k52_one_bell_rings
namespace PySem.W.Fast
theorem tw17878773198537129709:True:=⟨⟩
theorem tw6205779181370732254:True:=⟨⟩
theorem tw18338691573577343483:True:=⟨⟩
theorem tw5646101702430287349:True:=⟨⟩
theorem tw5953033661452248224:True:=⟨⟩
theorem tw5434298795216460559:True:=⟨⟩
theorem tw442766384067184864:True:=⟨⟩
theorem tw11169940341476422744:True:=⟨⟩
theorem tw9577221689991544876:True:=⟨⟩
theorem tw5338102566458338551:True:=⟨⟩
theorem tw10770865470636796478:True:=⟨⟩
theorem tw1124561755530191514:True:=⟨⟩
theorem tw7286070493582675422:True:=⟨⟩
theorem tw15178137618964399204:True:=⟨⟩
theorem tw3864412029950601708:True:=⟨⟩
theorem tw15624282038932753310:True:=⟨⟩
theorem tw16607941713273888881:True:=⟨⟩
theorem tw3787292109546727921:True:=⟨⟩
theorem tw10840962102296534232:True:=⟨⟩
theorem tw433449533723322577:True:=⟨⟩
theorem tw5530337328397523945:True:=⟨⟩
theorem tw10280891094999591707:True:=⟨⟩
theorem tw12065058116673214604:True:=⟨⟩
theorem tw3127784755675372453:True:=⟨⟩
theorem tw17089674670894510620:True:=⟨⟩
theorem tw10398493117465179726:True:=⟨⟩
theorem tw10509143145192330120:True:=⟨⟩
theorem tw5384274166274354063:True:=⟨⟩
theorem tw15717551191377990858:True:=⟨⟩
theorem tw18213048068950378397:True:=⟨⟩
theorem tw16950844257568816438:True:=⟨⟩
theorem tw18419171657143160329:True:=⟨⟩
theorem tw14421806058100157419:True:=⟨⟩
theorem tw12581023948866842235:True:=⟨⟩
theorem tw8024989981840563076:True:=⟨⟩
theorem tw10127615276258628667:True:=⟨⟩
theorem tw10706131643100397356:True:=⟨⟩
theorem tw2407804650245558537:True:=⟨⟩
theorem tw932839701382126404:True:=⟨⟩
theorem tw387439790479957101:True:=⟨⟩
theorem tw10114871838358419674:True:=⟨⟩
theorem tw7737460710696549043:True:=⟨⟩
theorem tw13089500736524491784:True:=⟨⟩
theorem tw10912852554242822862:True:=⟨⟩
theorem tw3887507148386326888:True:=⟨⟩
theorem tw198293077169882717:True:=⟨⟩
theorem tw15566645072643627142:True:=⟨⟩
theorem tw8492529214787903361:True:=⟨⟩
theorem tw5270464623877670997:True:=⟨⟩
theorem tw9827951136399137436:True:=⟨⟩
theorem tw7318734959406586979:True:=⟨⟩
theorem tw2826497804329787899:True:=⟨⟩
theorem tw8375811981988520545:True:=⟨⟩
theorem tw748149187538724641:True:=⟨⟩
theorem tw1268939047144981037:True:=⟨⟩
theorem tw13925150339005124135:True:=⟨⟩
theorem tw15338601281160584150:True:=⟨⟩
theorem tw5003535956813345049:True:=⟨⟩
theorem tw12071291858852918993:True:=⟨⟩
theorem tw18059275656991184227:True:=⟨⟩
theorem tw8733391584393702810:True:=⟨⟩
theorem tw5076983522129390379:True:=⟨⟩
theorem tw12007887615585964704:True:=⟨⟩
theorem tw2780138112500963073:True:=⟨⟩
theorem tw3669552989040741118:True:=⟨⟩
theorem tw13310439171616397214:True:=⟨⟩
theorem tw4117517539130970301:True:=⟨⟩
theorem tw6507080555180375563:True:=⟨⟩
theorem tw16324341270881010847:True:=⟨⟩
theorem tw8791039300013004528:True:=⟨⟩
theorem tw5100975785695152536:True:=⟨⟩
theorem tw1316087986286152420:True:=⟨⟩
theorem tw7355014576538723578:True:=⟨⟩
theorem tw11210968968318344332:True:=⟨⟩
theorem tw13653971060541522046:True:=⟨⟩
theorem tw5568824606943731442:True:=⟨⟩
theorem tw9530388329605336565:True:=⟨⟩
theorem tw1257907350139890037:True:=⟨⟩
theorem tw18268227206213179169:True:=⟨⟩
theorem tw2258556112107802059:True:=⟨⟩
theorem tw4049138910170047373:True:=⟨⟩
theorem tw17979580070261624384:True:=⟨⟩
theorem tw12487793095238341444:True:=⟨⟩
theorem tw18087342288361012174:True:=⟨⟩
theorem tw14375640208791023794:True:=⟨⟩
theorem tw9537990068813546550:True:=⟨⟩
theorem tw17699244282683522888:True:=⟨⟩
theorem tw5683978775287113040:True:=⟨⟩
theorem tw7347646299108533977:True:=⟨⟩
theorem tw9307594452917991678:True:=⟨⟩
theorem tw11181045733492946789:True:=⟨⟩
theorem tw17025041972345676947:True:=⟨⟩
theorem tw2822231583121631232:True:=⟨⟩
theorem tw6215403618687641911:True:=⟨⟩
theorem tw7337770265806773678:True:=⟨⟩
theorem tw8416857220235465103:True:=⟨⟩
theorem tw16124720568972126577:True:=⟨⟩
theorem tw3615922994669712790:True:=⟨⟩
theorem tw14755972100840865495:True:=⟨⟩
theorem tw2786386338239760101:True:=⟨⟩
theorem tw3700239575073459453:True:=⟨⟩
theorem tw2794473791459032557:True:=⟨⟩
theorem tw14253553031324457403:True:=⟨⟩
theorem tw15564757772380941064:True:=⟨⟩
theorem tw17786680949362927507:True:=⟨⟩
theorem tw5162449201439765780:True:=⟨⟩
theorem tw1211844094716586931:True:=⟨⟩
theorem tw11599782932045988894:True:=⟨⟩
theorem tw13581186887240928642:True:=⟨⟩
theorem tw12083551393614688055:True:=⟨⟩
theorem tw7747151460949451716:True:=⟨⟩
theorem tw9593094771618420062:True:=⟨⟩
theorem tw11482921538907906311:True:=⟨⟩
theorem tw10846263845634879256:True:=⟨⟩
theorem tw16093653414049546652:True:=⟨⟩
theorem tw13582147454015632383:True:=⟨⟩
theorem tw8280689904542544944:True:=⟨⟩
theorem tw15897923850118637367:True:=⟨⟩
theorem tw15590885761552719664:True:=⟨⟩
theorem tw8839403977857061014:True:=⟨⟩
theorem tw13125339067316032245:True:=⟨⟩
theorem tw9539571082330199693:True:=⟨⟩
theorem tw12480010065683980586:True:=⟨⟩
theorem tw5771095720852586221:True:=⟨⟩
theorem tw3880439738530373487:True:=⟨⟩
theorem tw3585406401390776893:True:=⟨⟩
theorem tw1215163792534042038:True:=⟨⟩
theorem tw6424124972576484998:True:=⟨⟩
theorem tw2560717606541366124:True:=⟨⟩
theorem tw7606160890316500859:True:=⟨⟩
theorem tw14448676985275196306:True:=⟨⟩
theorem tw1306788083133818037:True:=⟨⟩
theorem tw15193052164462231867:True:=⟨⟩
theorem tw17354428055625051372:True:=⟨⟩
theorem tw3631656871647319896:True:=⟨⟩
theorem tw12787247848129112027:True:=⟨⟩
theorem tw17043358873854988142:True:=⟨⟩
theorem tw4462040801977109988:True:=⟨⟩
theorem tw10311042084692679937:True:=⟨⟩
theorem tw1050825236841125024:True:=⟨⟩
theorem tw4586500912588080798:True:=⟨⟩
theorem tw12437195815089614167:True:=⟨⟩
theorem tw15991666130785900792:True:=⟨⟩
theorem tw10530945154049078039:True:=⟨⟩
theorem tw9138412727575588055:True:=⟨⟩
theorem tw5969112466762881230:True:=⟨⟩
theorem tw3844024279026703357:True:=⟨⟩
theorem tw12986390755210887185:True:=⟨⟩
theorem tw17027913018875874570:True:=⟨⟩
theorem tw12988243191092619299:True:=⟨⟩
theorem tw308353505034223219:True:=⟨⟩
theorem tw7551268745164000144:True:=⟨⟩
theorem tw10690283753006864979:True:=⟨⟩
theorem tw11513523498219325397:True:=⟨⟩
theorem tw9386792330771953258:True:=⟨⟩
theorem tw7260348262570158748:True:=⟨⟩
theorem tw2026872144773375673:True:=⟨⟩
theorem tw1811599838966994817:True:=⟨⟩
theorem tw4750895124512378454:True:=⟨⟩
theorem tw12147648992791382264:True:=⟨⟩
theorem tw18331290239073732293:True:=⟨⟩
theorem tw14677231046333857634:True:=⟨⟩
theorem tw12990989066046625634:True:=⟨⟩
theorem tw16966448446441443068:True:=⟨⟩
theorem tw1050709158331754453:True:=⟨⟩
theorem tw10074855412529722237:True:=⟨⟩
theorem tw8770607253035608728:True:=⟨⟩
theorem tw4538030587038963600:True:=⟨⟩
theorem tw3351160364901708468:True:=⟨⟩
theorem tw10724869699529279123:True:=⟨⟩
theorem tw16120070041080289797:True:=⟨⟩
theorem tw5123283430925688627:True:=⟨⟩
theorem tw7276196667190447914:True:=⟨⟩
theorem tw17359472562608848581:True:=⟨⟩
theorem tw18078215364868786174:True:=⟨⟩
theorem tw4458504747134125224:True:=⟨⟩
theorem tw17040603281211611296:True:=⟨⟩
theorem tw9372166634391018609:True:=⟨⟩
theorem tw12469194465076351138:True:=⟨⟩
theorem tw7317323291525427346:True:=⟨⟩
theorem tw977691957141392938:True:=⟨⟩
theorem tw16249601066440288368:True:=⟨⟩
theorem tw1771911735544343836:True:=⟨⟩
theorem tw9846803247622521126:True:=⟨⟩
theorem tw4632030239678645568:True:=⟨⟩
theorem tw13870351233779357719:True:=⟨⟩
theorem tw13085533679526015004:True:=⟨⟩
theorem tw987253026982656074:True:=⟨⟩
theorem tw2278055238651789853:True:=⟨⟩
theorem tw10380440524679034224:True:=⟨⟩
theorem tw17226653754029282367:True:=⟨⟩
theorem tw2088790098937647881:True:=⟨⟩
theorem tw9939486631573497674:True:=⟨⟩
theorem tw14421656573527413356:True:=⟨⟩
theorem tw5920178813569880808:True:=⟨⟩
theorem tw2379722755328091693:True:=⟨⟩
theorem tw1977715418491230762:True:=⟨⟩
theorem tw9335423756259001386:True:=⟨⟩
theorem tw1995966937252003649:True:=⟨⟩
theorem tw1432133976601662162:True:=⟨⟩
theorem tw14548323457163451643:True:=⟨⟩
theorem tw5015694776631571978:True:=⟨⟩
theorem tw13506077134798917149:True:=⟨⟩
theorem tw4166048380495445270:True:=⟨⟩
theorem tw1668805588411044060:True:=⟨⟩
theorem tw12254090465079525796:True:=⟨⟩
theorem tw13991403142657802262:True:=⟨⟩
theorem tw5708099922031180557:True:=⟨⟩
theorem tw3161716922717251096:True:=⟨⟩
theorem tw3156621366056172190:True:=⟨⟩
theorem tw2082460798958566174:True:=⟨⟩
theorem tw15698089909882112057:True:=⟨⟩
theorem tw16632697889459769377:True:=⟨⟩
theorem tw901955901204140318:True:=⟨⟩
theorem tw6107552329882188869:True:=⟨⟩
theorem tw10554890785379117758:True:=⟨⟩
theorem tw14073119125109356423:True:=⟨⟩
theorem tw3352093893257581293:True:=⟨⟩
theorem tw604301372592616398:True:=⟨⟩
theorem tw3754598805825874024:True:=⟨⟩
theorem tw13537824549585559560:True:=⟨⟩
theorem tw54791511563243357:True:=⟨⟩
theorem tw1572907250826198715:True:=⟨⟩
theorem tw8300637017339532780:True:=⟨⟩
theorem tw16274142391233340478:True:=⟨⟩
theorem tw18086017385105590976:True:=⟨⟩
theorem tw10418259296339444777:True:=⟨⟩
theorem tw9415545516455921876:True:=⟨⟩
theorem tw17661953058298634347:True:=⟨⟩
theorem tw5740785531626885932:True:=⟨⟩
theorem tw2913750833435349869:True:=⟨⟩
theorem tw330155496319486698:True:=⟨⟩
theorem tw15173366979564246683:True:=⟨⟩
theorem tw6780865058789246460:True:=⟨⟩
theorem tw15622253401126034603:True:=⟨⟩
theorem tw3408281244717874662:True:=⟨⟩
theorem tw1450145478017517605:True:=⟨⟩
theorem tw1305286455059194544:True:=⟨⟩
theorem tw14362563580960605921:True:=⟨⟩
theorem tw925696890918879714:True:=⟨⟩
theorem tw4187228424340264485:True:=⟨⟩
theorem tw7025214513970256633:True:=⟨⟩
theorem tw5322283799802053974:True:=⟨⟩
theorem tw13569176247580837492:True:=⟨⟩
theorem tw17473258689211210838:True:=⟨⟩
theorem tw12778011470416724231:True:=⟨⟩
theorem tw8248315624216759692:True:=⟨⟩
theorem tw8480972062274251524:True:=⟨⟩
theorem tw15272866178808001886:True:=⟨⟩
theorem tw3638351932773456767:True:=⟨⟩
theorem tw4266474322679237013:True:=⟨⟩
theorem tw8933422723426177084:True:=⟨⟩
theorem tw14735054849823357656:True:=⟨⟩
theorem tw15846485785727054151:True:=⟨⟩
theorem tw17190788046484377627:True:=⟨⟩
theorem tw5557488513432386349:True:=⟨⟩
theorem tw2300453858095972701:True:=⟨⟩
theorem tw12538107829063743212:True:=⟨⟩
theorem tw177257214637103567:True:=⟨⟩
theorem tw17846379764673683938:True:=⟨⟩
theorem tw4766606213936207916:True:=⟨⟩
theorem tw6887835844759592171:True:=⟨⟩
theorem tw7112380818877346699:True:=⟨⟩
theorem tw14077052950165755145:True:=⟨⟩
theorem tw3417288221038106552:True:=⟨⟩
theorem tw3634440113034648602:True:=⟨⟩
theorem tw8385195094329208555:True:=⟨⟩
theorem tw2927709458639227744:True:=⟨⟩
theorem tw5190929279787246935:True:=⟨⟩
theorem tw7711327226130977004:True:=⟨⟩
theorem tw1518208036220349138:True:=⟨⟩
theorem tw10688378259446553063:True:=⟨⟩
theorem tw11500899358624807690:True:=⟨⟩
theorem tw906762532238706395:True:=⟨⟩
theorem tw11673831523083137490:True:=⟨⟩
theorem tw7084857300290555492:True:=⟨⟩
theorem tw12385373672941261264:True:=⟨⟩
theorem tw14415810316836545703:True:=⟨⟩
theorem tw4988139480266079192:True:=⟨⟩
theorem tw14417015799410957920:True:=⟨⟩
theorem tw3526195881129687422:True:=⟨⟩
theorem tw7636579228323809619:True:=⟨⟩
theorem tw6439467606708576868:True:=⟨⟩
theorem tw2569722561985613186:True:=⟨⟩
theorem tw11535551663850178914:True:=⟨⟩
theorem tw16962866602598701259:True:=⟨⟩
theorem tw10467446253169472007:True:=⟨⟩
theorem tw5954512996126574054:True:=⟨⟩
theorem tw639058178733105278:True:=⟨⟩
theorem tw9891699520288416642:True:=⟨⟩
theorem tw3399046053535527167:True:=⟨⟩
theorem tw17501279599382823539:True:=⟨⟩
theorem tw14640849917478990079:True:=⟨⟩
theorem tw7587359580215554601:True:=⟨⟩
theorem tw8086441514836349272:True:=⟨⟩
theorem tw6968123214355550982:True:=⟨⟩
theorem tw2610260579920677103:True:=⟨⟩
theorem tw13598917631396910051:True:=⟨⟩
theorem tw16989368827603798980:True:=⟨⟩
theorem tw12969243482328187565:True:=⟨⟩
theorem tw14151526726909113298:True:=⟨⟩
theorem tw8816327774009651597:True:=⟨⟩
theorem tw7581625409662590524:True:=⟨⟩
theorem tw8458423830388107305:True:=⟨⟩
theorem tw13157921885327755322:True:=⟨⟩
theorem tw12120305364627641649:True:=⟨⟩
theorem tw7636260840757832032:True:=⟨⟩
theorem tw2224941501088099913:True:=⟨⟩
theorem tw1351866352697404703:True:=⟨⟩
theorem tw6287397193617334223:True:=⟨⟩
theorem tw15844374080618685135:True:=⟨⟩
theorem tw2844680388592728552:True:=⟨⟩
theorem tw5360732557081287197:True:=⟨⟩
theorem tw10736044011173031947:True:=⟨⟩
theorem tw12926114749383059375:True:=⟨⟩
theorem tw1872067148052387159:True:=⟨⟩
theorem tw12136834209697377706:True:=⟨⟩
theorem tw8112113755388548706:True:=⟨⟩
theorem tw2173298748849500935:True:=⟨⟩
theorem tw17901366188372375928:True:=⟨⟩
theorem tw14965977034698545036:True:=⟨⟩
theorem tw13071035104526632431:True:=⟨⟩
theorem tw14326303337553338243:True:=⟨⟩
theorem tw3357443390001732772:True:=⟨⟩
theorem tw6543280322158229823:True:=⟨⟩
theorem tw10330421472561200414:True:=⟨⟩
theorem tw8278456604601238296:True:=⟨⟩
theorem tw3303230860883071105:True:=⟨⟩
theorem tw14663854572109061524:True:=⟨⟩
theorem tw17503212417783600727:True:=⟨⟩
theorem tw7760055534952988702:True:=⟨⟩
theorem tw11005999603720030416:True:=⟨⟩
theorem tw5944044104789604262:True:=⟨⟩
theorem tw11012358312403900441:True:=⟨⟩
theorem tw1000086580238334791:True:=⟨⟩
theorem tw11370833633470697376:True:=⟨⟩
theorem tw9221160834546597778:True:=⟨⟩
theorem tw16556215175930869783:True:=⟨⟩
theorem tw13051835694292873883:True:=⟨⟩
theorem tw8828112392364163920:True:=⟨⟩
theorem tw943801932925859899:True:=⟨⟩
theorem tw1730324662594732791:True:=⟨⟩
theorem tw2799036908286812169:True:=⟨⟩
theorem tw16791128445852453361:True:=⟨⟩
theorem tw2575711175096378128:True:=⟨⟩
theorem tw15199445844855730559:True:=⟨⟩
theorem tw1366662211000280441:True:=⟨⟩
theorem tw6621331363107496018:True:=⟨⟩
theorem tw13111761946570332661:True:=⟨⟩
theorem tw13139952258709042945:True:=⟨⟩
theorem tw15079852113623859005:True:=⟨⟩
theorem tw5269786251048000532:True:=⟨⟩
theorem tw13604063766350713120:True:=⟨⟩
theorem tw5468161347355754247:True:=⟨⟩
theorem tw677442012213950306:True:=⟨⟩
theorem tw3607427290772561018:True:=⟨⟩
theorem tw5359587405487331328:True:=⟨⟩
theorem tw14122424019311771968:True:=⟨⟩
theorem tw1186652167635910087:True:=⟨⟩
theorem tw10721362489393800544:True:=⟨⟩
theorem tw9140779041739362165:True:=⟨⟩
theorem tw18195161980401268965:True:=⟨⟩
theorem tw15479188676604406329:True:=⟨⟩
theorem tw8424079334735725799:True:=⟨⟩
theorem tw11179917383104445964:True:=⟨⟩
theorem tw6239937464153108964:True:=⟨⟩
theorem tw1046873404206658674:True:=⟨⟩
theorem tw6575801665498219302:True:=⟨⟩
theorem tw1527983058744660133:True:=⟨⟩
theorem tw14442141103019833041:True:=⟨⟩
theorem tw1655874928216888516:True:=⟨⟩
theorem tw10586557622594911096:True:=⟨⟩
theorem tw13882122788327343721:True:=⟨⟩
theorem tw13505033235352209817:True:=⟨⟩
theorem tw14665838936543158005:True:=⟨⟩
theorem tw18192419601316866569:True:=⟨⟩
theorem tw16157598516709462620:True:=⟨⟩
theorem tw17948695273261511480:True:=⟨⟩
theorem tw7531535900912687215:True:=⟨⟩
theorem tw3218005775330375077:True:=⟨⟩
theorem tw7581923477882359491:True:=⟨⟩
theorem tw6641742691332238137:True:=⟨⟩
theorem tw4099514411076133937:True:=⟨⟩
theorem tw14946080225564071365:True:=⟨⟩
theorem tw4048263236327177369:True:=⟨⟩
theorem tw1847208595757846004:True:=⟨⟩
theorem tw5611629491995910580:True:=⟨⟩
theorem tw1396447902234548920:True:=⟨⟩
theorem tw13697343493747195796:True:=⟨⟩
theorem tw1053938986193733499:True:=⟨⟩
theorem tw13738198527266788962:True:=⟨⟩
theorem tw1448021683012949882:True:=⟨⟩
theorem tw12223865305255741137:True:=⟨⟩
theorem tw4157635218867073669:True:=⟨⟩
theorem tw12571202400251423099:True:=⟨⟩
theorem tw5333451676178178709:True:=⟨⟩
theorem tw1623841321818229144:True:=⟨⟩
theorem tw1978549352629984643:True:=⟨⟩
theorem tw4444830914317278530:True:=⟨⟩
theorem tw4580213890485930764:True:=⟨⟩
theorem tw3194679028736363258:True:=⟨⟩
theorem tw16002539509434967391:True:=⟨⟩
theorem tw4972787136729510949:True:=⟨⟩
theorem tw4474734756274002915:True:=⟨⟩
theorem tw1741992599094875802:True:=⟨⟩
theorem tw2448870706854197495:True:=⟨⟩
theorem tw16804187144060396837:True:=⟨⟩
theorem tw14454930999746176482:True:=⟨⟩
theorem tw12382524737395358215:True:=⟨⟩
theorem tw4983344749619843782:True:=⟨⟩
theorem tw18001121265019099109:True:=⟨⟩
theorem tw1086707428031890263:True:=⟨⟩
theorem tw15674780128325565464:True:=⟨⟩
theorem tw5836498633316277907:True:=⟨⟩
theorem tw17226467871806757186:True:=⟨⟩
theorem tw9393020108114393423:True:=⟨⟩
theorem tw18147923885424373762:True:=⟨⟩
theorem tw8663959930780605810:True:=⟨⟩
theorem tw16801523651603726012:True:=⟨⟩
theorem tw14847852454305767459:True:=⟨⟩
theorem tw9187125423199775927:True:=⟨⟩
theorem tw6236588985802302561:True:=⟨⟩
theorem tw39935864262516149:True:=⟨⟩
theorem tw6413108763690799217:True:=⟨⟩
theorem tw12182310775543803801:True:=⟨⟩
theorem tw198035656581313431:True:=⟨⟩
theorem tw10511186044986388792:True:=⟨⟩
theorem tw17593069512053225408:True:=⟨⟩
theorem tw12781828254219080817:True:=⟨⟩
theorem tw2059410098447559281:True:=⟨⟩
theorem tw4531488420956876773:True:=⟨⟩
theorem tw6711951335310270135:True:=⟨⟩
theorem tw11316301266078409629:True:=⟨⟩
theorem tw3709549769918750441:True:=⟨⟩
theorem tw17722420046063972477:True:=⟨⟩
theorem tw13834282244650669336:True:=⟨⟩
theorem tw3056074263934053642:True:=⟨⟩
theorem tw10279985357148226668:True:=⟨⟩
theorem tw5850995036973982617:True:=⟨⟩
theorem tw12961637773337637605:True:=⟨⟩
theorem tw8322397548898800051:True:=⟨⟩
theorem tw14509333991691441900:True:=⟨⟩
theorem tw15129464977090044237:True:=⟨⟩
theorem tw7826280372254850413:True:=⟨⟩
theorem tw13976533353036261421:True:=⟨⟩
theorem tw13083387837417733652:True:=⟨⟩
theorem tw16248107461990322818:True:=⟨⟩
theorem tw9028391618005024265:True:=⟨⟩
theorem tw6600281296786385625:True:=⟨⟩
theorem tw13588868350850643313:True:=⟨⟩
theorem tw2357083103645265806:True:=⟨⟩
theorem tw5668354697468720032:True:=⟨⟩
theorem tw11876699462326849422:True:=⟨⟩
theorem tw12625478007034190409:True:=⟨⟩
theorem tw11938895404795252553:True:=⟨⟩
theorem tw4178261746958464548:True:=⟨⟩
theorem tw14079415809537101536:True:=⟨⟩
theorem tw8089335279518500422:True:=⟨⟩
theorem tw17518518645573631824:True:=⟨⟩
theorem tw15374854733965200089:True:=⟨⟩
theorem tw826527722974265565:True:=⟨⟩
theorem tw7096702847870114655:True:=⟨⟩
theorem tw10390098162276235094:True:=⟨⟩
theorem tw2807324625824223411:True:=⟨⟩
theorem tw115684660846200782:True:=⟨⟩
theorem tw5565439778362552152:True:=⟨⟩
theorem tw11682708176890378666:True:=⟨⟩
theorem tw156895943156114354:True:=⟨⟩
theorem tw2476413423185461236:True:=⟨⟩
theorem tw8391210018000951666:True:=⟨⟩
theorem tw5771212635227818586:True:=⟨⟩
theorem tw6112215248588426838:True:=⟨⟩
theorem tw7543438125037254646:True:=⟨⟩
theorem tw13551460009872501202:True:=⟨⟩
theorem tw11995103796758271318:True:=⟨⟩
theorem tw4669057591001313601:True:=⟨⟩
theorem tw1008901440435212883:True:=⟨⟩
theorem tw6357015326957433426:True:=⟨⟩
theorem tw3806170078800460647:True:=⟨⟩
theorem tw5725491476292682127:True:=⟨⟩
theorem tw6740672625964947959:True:=⟨⟩
theorem tw3046821257032761868:True:=⟨⟩
theorem tw11086751967412624250:True:=⟨⟩
theorem tw1293636944206008590:True:=⟨⟩
theorem tw17833350105949142861:True:=⟨⟩
theorem tw2336956631814529186:True:=⟨⟩
theorem tw14643791582269262702:True:=⟨⟩
theorem tw3976015019291502846:True:=⟨⟩
theorem tw2910858341613589887:True:=⟨⟩
theorem tw3525936848714689947:True:=⟨⟩
theorem tw18344031168545147568:True:=⟨⟩
theorem tw11515404147918621443:True:=⟨⟩
theorem tw5045714089958690339:True:=⟨⟩
theorem tw15060284073705538012:True:=⟨⟩
theorem tw6707319603169101688:True:=⟨⟩
theorem tw17256109143281616361:True:=⟨⟩
theorem tw6230976138879496292:True:=⟨⟩
theorem tw7218573860248643002:True:=⟨⟩
theorem tw14405349076152069689:True:=⟨⟩
theorem tw15454044997940719242:True:=⟨⟩
theorem tw1122757543980135651:True:=⟨⟩
theorem tw17939638439833557473:True:=⟨⟩
theorem tw8099381437114032229:True:=⟨⟩
theorem tw5952596538824857736:True:=⟨⟩
theorem tw6303398587980619495:True:=⟨⟩
theorem tw11976211621931009328:True:=⟨⟩
theorem tw16159364892947130143:True:=⟨⟩
theorem tw6369867477863874089:True:=⟨⟩
theorem tw15046614029649244946:True:=⟨⟩
theorem tw11914825063717489122:True:=⟨⟩
theorem tw244470873194904654:True:=⟨⟩
theorem tw6385206562966768350:True:=⟨⟩
theorem tw2878675010942456310:True:=⟨⟩
theorem tw16485079249861435747:True:=⟨⟩
theorem tw14971191204316762395:True:=⟨⟩
theorem tw4381246649436314545:True:=⟨⟩
theorem tw17940581266395029562:True:=⟨⟩
theorem tw12635646847698766471:True:=⟨⟩
theorem tw6155754534684584850:True:=⟨⟩
theorem tw18063444903373470133:True:=⟨⟩
theorem tw12684057930240876039:True:=⟨⟩
theorem tw9288503345866245545:True:=⟨⟩
theorem tw4001169340733102210:True:=⟨⟩
theorem tw8119962968105737971:True:=⟨⟩
theorem tw18065087460628226609:True:=⟨⟩
theorem tw13639784269399604196:True:=⟨⟩
theorem tw1794209339250299008:True:=⟨⟩
theorem tw6347999874401537897:True:=⟨⟩
theorem tw15632701585944350824:True:=⟨⟩
theorem tw16388161644346889548:True:=⟨⟩
theorem tw13661213922799828492:True:=⟨⟩
theorem tw2044002623108650808:True:=⟨⟩
theorem tw9104513383676936115:True:=⟨⟩
theorem tw9180884327369088417:True:=⟨⟩
theorem tw4991383881140458428:True:=⟨⟩
theorem tw3692965830546900392:True:=⟨⟩
theorem tw12089320472197973954:True:=⟨⟩
theorem tw7820517584449319492:True:=⟨⟩
theorem tw13773315579772049049:True:=⟨⟩
theorem tw5239894190616295485:True:=⟨⟩
theorem tw8090576191924319836:True:=⟨⟩
theorem tw7691493642273100205:True:=⟨⟩
theorem tw16269094207174096633:True:=⟨⟩
theorem tw16774796116395802487:True:=⟨⟩
theorem tw16614253380810916385:True:=⟨⟩
theorem tw14422402783479684588:True:=⟨⟩
theorem tw8826762246872455678:True:=⟨⟩
theorem tw3668135059235533779:True:=⟨⟩
theorem tw6030172380048908837:True:=⟨⟩
theorem tw18097719241060364498:True:=⟨⟩
theorem tw12030231719626993771:True:=⟨⟩
theorem tw10903125507313775736:True:=⟨⟩
theorem tw12033556277860472633:True:=⟨⟩
theorem tw10917881752025634246:True:=⟨⟩
theorem tw6045320431023371247:True:=⟨⟩
theorem tw14120569365222613034:True:=⟨⟩
theorem tw4797850638890047102:True:=⟨⟩
theorem tw14031781232188458476:True:=⟨⟩
theorem tw14171401990535759626:True:=⟨⟩
theorem tw4713770215593136329:True:=⟨⟩
theorem tw10599847424203967596:True:=⟨⟩
theorem tw8963572749628480123:True:=⟨⟩
theorem tw6381880063286460102:True:=⟨⟩
theorem tw18357167979069577752:True:=⟨⟩
theorem tw2612333837937074943:True:=⟨⟩
theorem tw1611437673699088298:True:=⟨⟩
theorem tw13755408982076200669:True:=⟨⟩
theorem tw3793462661057828075:True:=⟨⟩
theorem tw14291182948620310445:True:=⟨⟩
theorem tw9172153519455929612:True:=⟨⟩
theorem tw8213811637231356896:True:=⟨⟩
theorem tw9060096686602685153:True:=⟨⟩
theorem tw16494581419320832120:True:=⟨⟩
theorem tw11384582913148816807:True:=⟨⟩
theorem tw5380078516247053634:True:=⟨⟩
theorem tw3353767071951380034:True:=⟨⟩
theorem tw2564537010982801535:True:=⟨⟩
theorem tw13073949235717560838:True:=⟨⟩
theorem tw10470767135354783277:True:=⟨⟩
theorem tw6848140652748526806:True:=⟨⟩
theorem tw16697496219306110153:True:=⟨⟩
theorem tw9900654699443116119:True:=⟨⟩
theorem tw13486794116239942547:True:=⟨⟩
theorem tw10063183968073514756:True:=⟨⟩
theorem tw4230417877813804350:True:=⟨⟩
theorem tw7623885165842320591:True:=⟨⟩
theorem tw5520722181852339307:True:=⟨⟩
theorem tw12464854737791031213:True:=⟨⟩
theorem tw16229286929495749764:True:=⟨⟩
theorem tw4179530920917528410:True:=⟨⟩
theorem tw1010816023653474793:True:=⟨⟩
theorem tw9818548565972593948:True:=⟨⟩
theorem tw6423324160620816070:True:=⟨⟩
theorem tw10747375593470846156:True:=⟨⟩
theorem tw2685423072060458993:True:=⟨⟩
theorem tw11914564654135271740:True:=⟨⟩
theorem tw12212380988034458196:True:=⟨⟩
theorem tw15327085914917834471:True:=⟨⟩
theorem tw6655101422390395779:True:=⟨⟩
theorem tw15713868383367889930:True:=⟨⟩
theorem tw9368444609340283169:True:=⟨⟩
theorem tw8145313388581822439:True:=⟨⟩
theorem tw13369288947467391313:True:=⟨⟩
theorem tw16860722944433212331:True:=⟨⟩
theorem tw5559343994496296171:True:=⟨⟩
theorem tw7969282872456107276:True:=⟨⟩
theorem tw799777077003560019:True:=⟨⟩
theorem tw5159185278550007400:True:=⟨⟩
theorem tw6681240728859082520:True:=⟨⟩
theorem tw15453858559647457043:True:=⟨⟩
theorem tw13987804336042698189:True:=⟨⟩
theorem tw9500720211875373324:True:=⟨⟩
theorem tw10626543267631353901:True:=⟨⟩
theorem tw11317441546476289285:True:=⟨⟩
theorem tw17901660770557188785:True:=⟨⟩
theorem tw15145328238027490226:True:=⟨⟩
theorem tw12236466604598214137:True:=⟨⟩
theorem tw12520140777470293812:True:=⟨⟩
theorem tw17650569037895707892:True:=⟨⟩
theorem tw10848011416125090953:True:=⟨⟩
theorem tw5593418105344269919:True:=⟨⟩
theorem tw11145303427617460817:True:=⟨⟩
theorem tw14339305694777951117:True:=⟨⟩
theorem tw18015803555220604798:True:=⟨⟩
theorem tw838556466681798193:True:=⟨⟩
theorem tw809850839145068621:True:=⟨⟩
theorem tw2942362052477998075:True:=⟨⟩
theorem tw3651428162754246872:True:=⟨⟩
theorem tw2606039398225281:True:=⟨⟩
theorem tw1662094946578712317:True:=⟨⟩
theorem tw9060469448897883859:True:=⟨⟩
theorem tw13369407844132597679:True:=⟨⟩
theorem tw15518356668669994491:True:=⟨⟩
theorem tw11644985092016429118:True:=⟨⟩
theorem tw6529067688433482745:True:=⟨⟩
theorem tw12768582536840680230:True:=⟨⟩
theorem tw668532748945746099:True:=⟨⟩
theorem tw16001866337766011461:True:=⟨⟩
theorem tw4073485523670417376:True:=⟨⟩
theorem tw17460680748826913793:True:=⟨⟩
theorem tw17133608913367462611:True:=⟨⟩
theorem tw8942260794583582416:True:=⟨⟩
theorem tw7530063535693407055:True:=⟨⟩
theorem tw11508863078218051789:True:=⟨⟩
theorem tw2983508501658982437:True:=⟨⟩
theorem tw4455027645276104111:True:=⟨⟩
theorem tw14927630373176371319:True:=⟨⟩
theorem tw9361271910349972483:True:=⟨⟩
theorem tw3026621974035347941:True:=⟨⟩
theorem tw7150711115407464872:True:=⟨⟩
theorem tw16269462389528192016:True:=⟨⟩
theorem tw16778082943211999826:True:=⟨⟩
theorem tw4803301524969495598:True:=⟨⟩
theorem tw13472458766395131705:True:=⟨⟩
theorem tw9846508814454223313:True:=⟨⟩
theorem tw11535514802124897050:True:=⟨⟩
theorem tw16134798950578719456:True:=⟨⟩
theorem tw13462968392768951921:True:=⟨⟩
theorem tw5764681572448282594:True:=⟨⟩
theorem tw4811995094289885567:True:=⟨⟩
theorem tw9650654541084230058:True:=⟨⟩
theorem tw3500887965761675688:True:=⟨⟩
theorem tw11238097518834155331:True:=⟨⟩
theorem tw3160102801017576686:True:=⟨⟩
theorem tw10227030146183839236:True:=⟨⟩
theorem tw5864484284630362934:True:=⟨⟩
theorem tw15816036160855742018:True:=⟨⟩
theorem tw10576397790562642116:True:=⟨⟩
theorem tw10511936756727958944:True:=⟨⟩
theorem tw16678828470329988300:True:=⟨⟩
theorem tw9530507496946368690:True:=⟨⟩
theorem tw17918871434879027414:True:=⟨⟩
theorem tw162356777029770703:True:=⟨⟩
theorem tw3017889728623169252:True:=⟨⟩
theorem tw17811498403173426663:True:=⟨⟩
theorem tw4483018485475637904:True:=⟨⟩
theorem tw4152223762509475540:True:=⟨⟩
theorem tw10897821838017941927:True:=⟨⟩
theorem tw2825003682985032018:True:=⟨⟩
theorem tw16668268979543732505:True:=⟨⟩
theorem tw8183070202015081901:True:=⟨⟩
theorem tw6198562548361025745:True:=⟨⟩
theorem tw5505332558737675920:True:=⟨⟩
theorem tw12884591507082969475:True:=⟨⟩
theorem tw9071214783548292695:True:=⟨⟩
theorem tw7506902571111604682:True:=⟨⟩
theorem tw403733137217175246:True:=⟨⟩
theorem tw11705567410587722883:True:=⟨⟩
theorem tw12612088975749379595:True:=⟨⟩
theorem tw4032389604785225482:True:=⟨⟩
theorem tw9051170711520967645:True:=⟨⟩
theorem tw13642627431074733524:True:=⟨⟩
theorem tw1495553242421499660:True:=⟨⟩
theorem tw10684809214552042153:True:=⟨⟩
theorem tw1964642904833710869:True:=⟨⟩
theorem tw6133310561885090936:True:=⟨⟩
theorem tw6806436890695411617:True:=⟨⟩
theorem tw8457504108634027914:True:=⟨⟩
theorem tw10656244751535497972:True:=⟨⟩
theorem tw4040691823776559611:True:=⟨⟩
theorem tw16824102185691031038:True:=⟨⟩
theorem tw12500602817677374629:True:=⟨⟩
theorem tw6730799606346601095:True:=⟨⟩
theorem tw13593701760991264744:True:=⟨⟩
theorem tw5361001238644416570:True:=⟨⟩
theorem tw2934376517560081551:True:=⟨⟩
theorem tw9096760493869401182:True:=⟨⟩
theorem tw4917008255495624572:True:=⟨⟩
theorem tw3326583022103247777:True:=⟨⟩
theorem tw7796206694971108621:True:=⟨⟩
theorem tw898691810242741680:True:=⟨⟩
theorem tw8474895136189401526:True:=⟨⟩
theorem tw14384956185365007633:True:=⟨⟩
theorem tw14314081060084284543:True:=⟨⟩
theorem tw4218942361379391079:True:=⟨⟩
theorem tw2042761076030830210:True:=⟨⟩
theorem tw5160188327055870467:True:=⟨⟩
theorem tw12793224650098631100:True:=⟨⟩
theorem tw8018659397575620620:True:=⟨⟩
theorem tw13037886470463367021:True:=⟨⟩
theorem tw1451968438875773170:True:=⟨⟩
theorem tw7797052519883946016:True:=⟨⟩
theorem tw16735164294907705413:True:=⟨⟩
theorem tw12719062299522469588:True:=⟨⟩
theorem tw10857282998366845410:True:=⟨⟩
theorem tw1305425585693916348:True:=⟨⟩
theorem tw15270067636181877322:True:=⟨⟩
theorem tw5688467208337063316:True:=⟨⟩
theorem tw7364622128290770580:True:=⟨⟩
theorem tw7934722772188143585:True:=⟨⟩
theorem tw173118413840594842:True:=⟨⟩
theorem tw6618269924094865107:True:=⟨⟩
theorem tw14659325333183039324:True:=⟨⟩
theorem tw4553874434708497733:True:=⟨⟩
theorem tw381632732612773703:True:=⟨⟩
theorem tw15980102835795819648:True:=⟨⟩
theorem tw3273644015200004765:True:=⟨⟩
theorem tw1175092091715742702:True:=⟨⟩
theorem tw7810395960506004727:True:=⟨⟩
theorem tw16452113847221820664:True:=⟨⟩
theorem tw3027333183355395805:True:=⟨⟩
theorem tw6655559987126209453:True:=⟨⟩
theorem tw1929945619578171999:True:=⟨⟩
theorem tw3534720418084649265:True:=⟨⟩
theorem tw18012064537196860789:True:=⟨⟩
theorem tw17481259431192756183:True:=⟨⟩
theorem tw8327548862317452176:True:=⟨⟩
theorem tw15653445545847979738:True:=⟨⟩
theorem tw9892937130442247877:True:=⟨⟩
theorem tw12737566823884404212:True:=⟨⟩
theorem tw2680656977759394848:True:=⟨⟩
theorem tw6666559043179924279:True:=⟨⟩
theorem tw14179209121697479999:True:=⟨⟩
theorem tw14570266899098028599:True:=⟨⟩
theorem tw1327321540817036486:True:=⟨⟩
theorem tw7608669079472480322:True:=⟨⟩
theorem tw5665416448403834472:True:=⟨⟩
theorem tw16184847690366691108:True:=⟨⟩
theorem tw16276759054714404210:True:=⟨⟩
theorem tw13870062584396766875:True:=⟨⟩
theorem tw2083332544169908799:True:=⟨⟩
theorem tw8136510789670314277:True:=⟨⟩
theorem tw3637734790749478889:True:=⟨⟩
theorem tw3684583482850615866:True:=⟨⟩
theorem tw8565081597134178756:True:=⟨⟩
theorem tw14861878946988918645:True:=⟨⟩
theorem tw9798858320935473453:True:=⟨⟩
theorem tw6879563677089824845:True:=⟨⟩
theorem tw855730746249038353:True:=⟨⟩
theorem tw4363065643242424155:True:=⟨⟩
theorem tw7418583649089197021:True:=⟨⟩
theorem tw6555442449706758710:True:=⟨⟩
theorem tw3721283114097752514:True:=⟨⟩
theorem tw5908002024607422067:True:=⟨⟩
theorem tw10901702911699658978:True:=⟨⟩
theorem tw473747843378579092:True:=⟨⟩
theorem tw17724810785330866772:True:=⟨⟩
theorem tw12637127830956229142:True:=⟨⟩
theorem tw7410704754931454176:True:=⟨⟩
theorem tw14733826399840321388:True:=⟨⟩
theorem tw5820781232472586813:True:=⟨⟩
theorem tw12519748131918532141:True:=⟨⟩
theorem tw1006531058950013419:True:=⟨⟩
theorem tw3591970201866545630:True:=⟨⟩
theorem tw5749962784015438588:True:=⟨⟩
theorem tw5414118217843581761:True:=⟨⟩
theorem tw11133855493582692601:True:=⟨⟩
theorem tw14384780698549583045:True:=⟨⟩
theorem tw7460080154573682172:True:=⟨⟩
theorem tw13003292695343010581:True:=⟨⟩
theorem tw14525949121743038564:True:=⟨⟩
theorem tw8342581387950924693:True:=⟨⟩
theorem tw3242197841772289459:True:=⟨⟩
theorem tw12692144204613469405:True:=⟨⟩
theorem tw753945940515399995:True:=⟨⟩
theorem tw13655335860928441427:True:=⟨⟩
theorem tw3797565987349280475:True:=⟨⟩
theorem tw1097135430661958613:True:=⟨⟩
theorem tw5912623846319886001:True:=⟨⟩
theorem tw8690940022952849927:True:=⟨⟩
theorem tw11012671198202550894:True:=⟨⟩
theorem tw2705914334395788515:True:=⟨⟩
theorem tw13538406594162107389:True:=⟨⟩
theorem tw2388933935920836306:True:=⟨⟩
theorem tw14268632229153754911:True:=⟨⟩
theorem tw15507723192953723286:True:=⟨⟩
theorem tw5463018941839124410:True:=⟨⟩
theorem tw5846828395621818693:True:=⟨⟩
theorem tw11745005889982020436:True:=⟨⟩
theorem tw4432326433391828234:True:=⟨⟩
theorem tw10395486833516083681:True:=⟨⟩
theorem tw6069533046357005376:True:=⟨⟩
theorem tw655200024908664222:True:=⟨⟩
theorem tw14371964434296470061:True:=⟨⟩
theorem tw4466779900418475473:True:=⟨⟩
theorem tw5686754791029140410:True:=⟨⟩
theorem tw14462310420449613082:True:=⟨⟩
theorem tw4627273791185098300:True:=⟨⟩
theorem tw13600926959717070310:True:=⟨⟩
theorem tw5898594230689883788:True:=⟨⟩
end PySem.W.Fast
set_option Elab.async false in
set_option maxRecDepth 100000 in
set_option maxHeartbeats 0 in
open_shared Top for PySem.Challenge.pw_wakefew_k52_one_bell_rings leaving 1
set_option Elab.async false in
set_option maxRecDepth 100000 in
set_option maxHeartbeats 0 in
open_top Hd for PySem.Challenge.rw_wakefew_k52_one_bell_rings
open PySem.W renaming Frag → At,findIn → AR,keepIn → ET,mg_of → FS,nsIn → ID,mg_none_of → LG,kia_one → Of,emptyDict → Op,makesIn → Q1,instObj → So,specialIn → Tk,binds_K → TD,plainGet → Aai,callWith_K → Aan,hasDictIn → AaF,methodCall_KW → AaP,fnOf → AaQ,plainGet_of → Abb,readsIn → Abe,findCls → Abf,lookIn → Abs,methodObj → Abu,plainOver → Abw,mem_lookup → AbS
open List renaming getElem?_eq_getElem → AC,mem_cons_of_mem → AD,mem_cons → AE,length_map → AL,mem_singleton → AN,getElem?_eq_some_iff → AS,mem_map → AT,mem_cons_self → BN,mem_of_getElem? → B0,size_toArray → Cc,mem_append → Cn,mem_append_right → Co,mem_map_of_mem → Cs,mem_filter → CS,map_append → Da,length_append → Do,nodup_cons → EN,map_cons → EO,mem_append_left → EQ,getElem?_map → EU,nodup_append → Gc,toArray → Go,length_cons → GG,filter_sublist → JJ,map_map → KB,length_take → Ll,mem_flatMap → Lm,lookup_cons → LB,replicate → LM,flatMap_append → LS,any_eq_true → Mn,append_nil → Mo,length_filter_le → Nl,filter_cons → NE,getD_eq_getElem?_getD → NJ,pairwise_iff_getElem → On,getElem?_eq_none → Os,filter_append → ON,not_mem_nil → Pc,getElem?_append_right → Pd,append_assoc → Ps,getElem_of_mem → PM,flatMap_cons → PP,find?_cons → Q2,pairwise_append → Sa,pairwise_map → Sk,map_congr_left → Su,take_length → SC,Nodup → SI,take_append_drop → SO,concat_eq_append → SS,take_add_one → Tu,filter_congr → TM,find?_eq_none → WP,lookup → YA,length_replicate → YE,length_nil → YI,getElem?_set_ne → Aab,getElem?_append_left → Aaf,mem_of_find?_eq_some → Aah,filter_eq_self → Aal,getElem?_replicate → Aao,eraseIdx_cons_succ → Aaq,pairwise_cons → Aau,filter_nil → Aav,filter_map → Aaw,getElem?_set_self → AaA,eraseIdxIfInBounds_toArray → AaH,ext_getElem? → AaJ,getElem?_set → AaL,map_nil → AaR,getElem?_of_mem → AaZ,mem_of_mem_take → Aa0,any_cons → Aa2,filterMap_cons → Aa5,length → Abc,getElem_take → AbC,not_lt → AbF,range → AbO
open PySem renaming Shared → AM,PyData → BB,wpAny_bind → BC,FuncData → Cf,starEach → DO,sizeLine → Ev,Program → Fa,mainGlobals → Fk,wpAny_pure → FM,Around → IF,compareOp → NH,wpAny_mono → NO,wpAny_truthy_bool → Pf,wpAny_Call_Name_kw → Q3,keywordEach → Rs,backTo → RS,sysModules → Sc,wpAny_passesOwn → SZ,attributeBase → T0,mem_of_lookup → Uf,unitsOf → WE,binaryOp → WF,tupleKind_room_in1 → WI,Builtin → W1,getMethod → Aad,boot_len → Aag,backToKw → Aaj,wpAny_call_entry → Aak,wpAny_Call_method0_late → Aap,wpAny_holding → Aat,assignEach → AaD,sizeLine_eq → AaE,bootBuiltins → AaN,behindInMarks → Aa1,wpAny_newList → Aa3,wpAny_execs_nil → Aa7,letOwnedTupleGo → Aa8,standAt → Aa9,holding → Aba,evalArgs_none → Abd,codeAny_mono → Abn,callWith → Abo,call_meetsIn → Abp,foldedSetIterable → Abv,wpAny_pyIter_slot → AbA,codeAny → AbE,Paired → AbH,tupleKind → AbK,Arguments → AbM,builtinsNs → AbP,bindArgs → AbQ,call_meets → AbR,valueAt → AbT,callerA → AbU,relabel → AbV,NameKind → AbW
open PySem.Heap renaming get?_push_of_some → BS,lt_size → Db,get?_push_size → EM,get?_update_other → We,size_push → Aae,get?_update_self → AaU,get?_update_ne → Abh,SameBut → Abl
open Nat renaming le_refl → BY,lt_of_lt_of_le → DD,ne_of_lt → ES,zero_le → IR,le_of_ble_eq_true → LF,le_trans → Me,lt_irrefl → OF,lt_succ_of_lt → Aaa,testBit_eq_decide_div_mod_eq → Aaz,le_succ → AaG,le_of_lt → AaO,lt_succ_self → AaX,testBit_two_pow → Abj,lt_of_le_of_lt → Abq,pow_succ → Abr
open Option.some renaming inj → CC
open Bool renaming false_ne_true → FB,false_eq_true → IN,eq_iff_iff → Nd,and_eq_true → RI,not_eq_true → AaY,not_eq_true' → AbB
open Or renaming inl → FF
open PySem.PyData renaming str → GM,canLay0 → LP,int → Sm,eqv → UV,depthAll → Aay,canLayAll0 → AaI
open PySem.F renaming plainAttrs_list → GS,plainAttrs_dict → KF,slot_dict_pop → No,type_dict_pop → OE,slot_list_extend → Q4,type_list_extend → Re,slot_list_append → TW,type_list_append → TZ,slot_enumerate_iter → Zp,slot_dict_get → AaS
open PySem.Builtin.Int renaming intBits → IS,intTooBig → AaT
open PyProof.Rows renaming boot_isinstance → KM,seqObj → M2,boot_list → WA,callWith_type1 → XV,get?_update_seq → YO,listUpdate_at → ZB,namesOf → Aac,seqEpoch_at → AbG,AllBare → AbL
open PySem.PassesOwn renaming never → Lo
open PySem.Obj renaming mapSeq → Lu
open Ne renaming symm → LH
open PySem.Value renaming ref → Mc,none → OP,type → AaC,int → AbI,str → AbJ,bool → AbN
open Array renaming getD_eq_getD_getElem? → MW,length_toList → Aa6
open PySem.Builtin renaming bitXor → Na,bitOr → P3,bitNot → VT,bitAnd → AaM
open Int renaming toNat_natCast → NG,le_of_lt → NL,ediv_le_ediv → SL,mul_le_mul_of_nonneg_left → US,emod_lt_of_pos → WJ,le_refl → Zs,eq_ofNat_of_zero_le → Aar,ediv_ediv_of_nonneg → Aax,one_mul → AaK,emod_nonneg → Abg,toNat → Abk
open PySem.Str renaming ofString → OR
open Option renaming map_eq_some_iff → Pe,isSome_iff_exists → Tl,map_eq_none_iff → Wp,map_some → Abi,isSome_map → Aby,some → AbX
open False renaming elim → Po
open PySem.Calls renaming callWith_builtin → SB,spliced_cons → Abm,spliced_nil → Abx
open True renaming intro → Th
open PySem.NameKind renaming free → UF
open Sum renaming inr → WS,inl → AaW
open ForInStep renaming yield → YU
open PySem.Builtin.List renaming listExtendWith → Zl,listTooLong → Aam
open PySem.W.KasT renaming kasWp_bind → Aas
open Sum.inr renaming inj → AaB
open Nat.succ renaming inj → AaV
open Function renaming comp → Aa4
open List.Perm renaming refl → Abt
open List.Pairwise renaming nil → Abz
open PySem.Paired renaming length → AbD
set_option compiler.extract_closed false
set_option Elab.async false
set_option linter.all false
set_option maxRecDepth 100000
namespace L2
open PySem PySem.Spec PyProof.Rows
abbrev Key:=Sum Int Str
def A9:Key->Value->Bool
 | .inl k,v=>Value.isInt k v
 | .inr x,v=>Value.isStrOf x v
def afE (w:World):Key->Int
 | .inl k=>hashInt k
 | .inr x=>hashStr w x
theorem de:∀{k:Key} {v:Value},A9 k v=true->(∃i t,k=AaW i/\v=AbI i t)\/(∃x t,k=WS x/\v=AbJ x t)
 | .inl i,v,h=>by
   obtain⟨t,e⟩:=Value.isInt_shape (k:=i) (v:=v) h
   exact .inl ⟨i,t,rfl,e⟩
 | .inr x,v,h=>by
   obtain⟨t,e⟩:=Value.isStrOf_shape (x:=x) (v:=v) h
   exact .inr ⟨x,t,rfl,e⟩
theorem MT (i:Int) (t:Tok):A9 (.inl i) (.int i t)=true:=by simp [A9,Value.isInt]
theorem L3 (x:Str) (t:Tok):A9 (.inr x) (.str x t)=true:=by simp [A9,Value.isStrOf]
theorem YM (a b:Int):decide ((AaW a:Key)=AaW b)=(a==b):=by
 by_cases e:a=b
 . subst e;simp
 . have h:¬(AaW a:Key)=AaW b:=fun q=>e (AaW.inj q)
   rw [decide_eq_false h]
   exact(beq_eq_false_iff_ne.mpr e).symm
theorem YJ (a b:Str):decide ((WS a:Key)=WS b)=decide (a=b):=by
 by_cases e:a=b
 . subst e;simp
 . have h:¬(WS a:Key)=WS b:=fun q=>e (AaB q)
   rw [decide_eq_false h,decide_eq_false e]
theorem VP (a:Int) (b:Str):decide ((AaW a:Key)=WS b)=false:=decide_eq_false (fun q=>nomatch q)
theorem XX (a:Str) (b:Int):decide ((WS a:Key)=AaW b)=false:=decide_eq_false (fun q=>nomatch q)
def bb (prog:Fa) (w:World):PySem.KeyKind prog w Key where
 is:=A9
 hash:=afE w
 inj:=fun v a b ha hb=>by
  rcases de ha with⟨i,t,rfl,rfl⟩|⟨x,t,rfl,rfl⟩
  . rcases de hb with⟨j,u,rfl,e⟩|⟨y,u,rfl,e⟩
    . injection e with e1 _;rw [e1]
    . exact nomatch e
  . rcases de hb with⟨j,u,rfl,e⟩|⟨y,u,rfl,e⟩
    . exact nomatch e
    . injection e with e1 _;rw [e1]
 byValue:=fun k v h=>by
  rcases de h with⟨i,t,rfl,rfl⟩|⟨x,t,rfl,rfl⟩ <;>rfl
 pyHash:=fun hv h=>by
  rcases de hv with⟨i,t,rfl,rfl⟩|⟨x,t,rfl,rfl⟩
  . exact wpAny_pyHash_int h
  . exact wpAny_pyHash_str h
 eqBool:=fun hu hv h=>by
  rcases de hu with⟨i,t,rfl,rfl⟩|⟨x,t,rfl,rfl⟩
  . rcases de hv with⟨j,u,rfl,rfl⟩|⟨y,u,rfl,rfl⟩
    . rw [YM] at h;exact wpAny_eqBool_int h
    . rw [VP] at h;exact SeqAt.EqAt.int_str i t y u _ _ _ _ h
  . rcases de hv with⟨j,u,rfl,rfl⟩|⟨y,u,rfl,rfl⟩
    . rw [XX] at h;exact SeqAt.EqAt.str_int x t j u _ _ _ _ h
    . rw [YJ] at h;exact wpAny_eqBool_str h
 «strs»:=fun k x t v h=>by
  rcases de h with⟨i,u,rfl,e⟩|⟨y,u,rfl,e⟩
  . exact nomatch e
  . injection e with e1 _
    subst e1
    cases v <;>rfl
theorem Gs (prog:Fa) (w:World) (i:Int) (t:Tok):(bb prog w).is (.inl i) (.int i t)=true:=MT i t
theorem FK (prog:Fa) (w:World) (x:Str) (t:Tok):(bb prog w).is (.inr x) (.str x t)=true:=L3 x t
inductive V where
 |a9|bl (b:Bool)|int (i:Int)|str (x:Str)|KJ (b:Array UInt8)|XC (b:UInt64)|ref (a:Addr)|ty (n:String)
 deriving DecidableEq
def RelV:V->Value->Prop
 | .a9,u=>u=OP
 | .bl b,u=>u=AbN b
 | .int i,u=>∃t,u=AbI i t
 | .str x,u=>∃t,u=AbJ x t
 | .KJ b,u=>∃t,u=Value.bytes b t
 | .XC b,u=>∃t,u=Value.float b t
 | .ref a,u=>u=Mc a
 | .ty n,u=>u=AaC n
abbrev Vals:List V->List Value->Prop:=AbH RelV
theorem Vals.length {xs:List V} {us:List Value} (r:Vals xs us):xs.length=us.length:=AbD r
theorem Vals.get:∀{xs:List V} {us:List Value} {i:Nat} {x:V},Vals xs us->xs[i]? =some x->∃u,us[i]? =some u/\RelV x u
 |_,_,_,_,.nil,e=>by simp at e
 |_,_,0,_,.cons r _,e=>by simp at e;subst e;exact⟨_,rfl,r⟩
 |_,_,i+1,x,.cons _ t,e=>by
  obtain⟨u,h1,h2⟩:=Vals.get (i:=i) (x:=x) t (by simpa using e)
  exact⟨u,by simpa using h1,h2⟩
theorem Vals.set {x:V} {u:Value} (r:RelV x u):∀{xs:List V} {us:List Value} (i:Nat),Vals xs us->Vals (xs.set i x) (us.set i u)
 |_,_,_,.nil=>.nil
 |_,_,0,.cons _ t=>.cons r t
 |_,_,i+1,.cons q t=>.cons q (Vals.set r i t)
theorem Vals.append:∀{xs ys:List V} {us ws:List Value},Vals xs us->Vals ys ws->Vals (xs++ys) (us++ws)
 |_,_,_,_,.nil,s=>s
 |_,_,_,_,.cons r t,s=>.cons r (Vals.append t s)
theorem Vals.take:∀{xs:List V} {us:List Value} (n:Nat),Vals xs us->Vals (xs.take n) (us.take n)
 |_,_,0,_=>.nil
 |_,_,_+1,.nil=>.nil
 |_,_,n+1,.cons r t=>.cons r (Vals.take n t)
theorem Vals.drop:∀{xs:List V} {us:List Value} (n:Nat),Vals xs us->Vals (xs.drop n) (us.drop n)
 |_,_,0,r=>r
 |_,_,_+1,.nil=>.nil
 |_,_,n+1,.cons _ t=>Vals.drop n t
def qm:Option V->Option Value->Prop
 |some v,some u=>RelV v u
 |none,none=>True
 |_,_=>False
def KV {κ:Type}:List (κ × V)->List (κ × Value)->Prop:=AbH fun(p:κ × V) (q:κ × Value)=>p.1=q.1/\RelV p.2 q.2
def kV:Key->V
 | .inl i=>.int i
 | .inr x=>.str x
inductive HO where
 |lst (xs:List V)
 |tup (xs:List V)
 |dK (kvs:List (Key × V))|dT (kvs:List (List Key × V))
 |set (S:Int->Bool) (n:Nat)
 |ins (C dx:Addr) (fs:List (Str × V))
 |own (x:Addr)
 |xd (fs:List (Str × V))
 |met (f x:Addr)
 |rng (lo hi:Int)
 |tT (o:Obj) (u:HO)
 |XU (ps:Array Value)
 |ext (φ:Heap->Prop)
abbrev Hp:=Addr->Option HO
def upd (H:Hp) (a:Addr) (o:HO):Hp:=fun b=>if b=a then some o else H b
theorem av {H:Hp} {a:Addr} {o:HO}:upd H a o a=some o:=by unfold upd;rw [if_pos rfl]
theorem ay {H:Hp} {a b:Addr} {o:HO} (h:b≠a):upd H a o b=H b:=by unfold upd;rw [if_neg h]
theorem lj {H:Hp} {a:Addr} {o u:HO}:upd (upd H a o) a u=upd H a u:=by
 funext b;unfold upd;split <;>rfl
theorem oY {H:Hp} {a b:Addr} {o u:HO} (h:H a=some o) (h':H b=some u) (d:o≠u):a≠b:=by
 intro e;subst e;rw [h] at h';exact d (CC h')
theorem aC {H:Hp} {a b:Addr} {o:HO} (h:H a=some o) (h':H b=none):a≠b:=by
 intro e;subst e;rw [h] at h';cases h'
section
variable (P:Fa) (w:World)
def c9 (H:Hp) (h:Heap) (a:Addr):HO->Prop
 | .lst xs=>xs.length<=Ev/\∃(bh:List Value) (n:Nat),Vals xs bh/\h.get? a=some {cls:=.type "list",data:=.seq bh.toArray n}
 | .tup xs=>xs.length<=Ev/\∃bh:List Value,Vals xs bh/\IsTup h a bh.toArray
 | .dK kvs=>kvs.length<=Ev/\(a==Sc)=false/\∃vs,KV kvs vs/\h.DictOf (bb P w) a vs
 | .dT kvs=>kvs.length<=Ev/\(a==Sc)=false/\∃xs:List (List Key × Addr × Value),
  AbH (fun(p:List Key × V) (q:List Key × Addr × Value)=>p.1=q.1/\H q.2.1=some (.tup (p.1.map kV))/\RelV p.2 q.2.2) kvs xs/\
  ∃o es ep,h.get? a=some o/\o.ExactDict/\o.data=.dict es ep/\es.toList=xs.map (entryOfKey (AbK (bb P w)))/\(xs.map (·.1)).Nodup
 | .set S n=>h.SetOf (intKind P w) a S n
 | .ins C dx fs=>H dx=some (.own a)/\fs.length<=1000/\dx≠a/\h.get? a=some (So C dx)/\
  ∃mA,h.Ns1 dx mA/\(∀f,qm (fs.lookup f) (mA f))/\PySem.Within mA (fs.map (·.1))
 | .own _=>∃o,h.get? a=some o
 | .xd fs=>∃mA,h.Ns1 a mA/\∀f,qm (fs.lookup f) (mA f)
 | .rng lo hi=>∃t u v,h.get? a=some {cls:=.type "range",data:=.fields #[.int lo t,.int hi u,.int 1 v]}
 | .tT o u=>h.get? a=some o/\c9 H h a u
 | .XU ps=>h.get? a=some {cls:=.none,data:=.fields ps}
 | .met f x=>h.get? a=some (Abu (.ref f) (.ref x))
 | .ext φ=>φ h/\(∃o,h.get? a=some o)/\∀h1 h2:Heap,φ h1->(∀o,h1.get? a=some o->h2.get? a=some o)->φ h2
def rq (H:Hp) (h:Heap):Prop:=∀a o,H a=some o->c9 P w H h a o
end
section
variable {P:Fa} {w:World} {H H':Hp} {h h':Heap} {a:Addr} {o:HO}
theorem c9.lt (x:c9 P w H h a o):a<h.objs.size:=by
 cases o with
 |lst xs=>obtain⟨_,_,_,_,e⟩:=x;exact Db e
 |tup xs=>obtain⟨_,_,_,p⟩:=x;exact p.lt
 |dK kvs=>obtain⟨_,_,_,_,o,_,_,e,_⟩:=x;exact Db e
 |dT kvs=>obtain⟨_,_,_,_,o,_,_,e,_⟩:=x;exact Db e
 |set S n=>obtain⟨o,_,_,_,e,_⟩:=x;exact Db e
 |ins C dx fs=>obtain⟨_,_,_,e,_⟩:=x;exact Db e
 |own y=>obtain⟨_,e⟩:=x;exact Db e
 |xd fs=>obtain⟨_,⟨_,_,_,e,_⟩,_⟩:=x;exact Db e
 |rng lo hi=>obtain⟨_,_,_,e⟩:=x;exact Db e
 |tT ob u=>obtain⟨e,_⟩:=x;exact Db e
 |XU ps=>exact Db (show h.get? a=some _ from x)
 |met f y=>exact Db (show h.get? a=some _ from x)
 |ext φ=>obtain⟨_,⟨_,e⟩,_⟩:=x;exact Db e
theorem AbH.XJ {α β:Type} {F G:α->β->Prop}:∀{l₁:List α} {l₂:List β},AbH F l₁ l₂->(∀a b,F a b->G a b)->AbH G l₁ l₂
 |_,_,.nil,_=>.nil
 |_,_,.cons r t,f=>.cons (f _ _ r) (AbH.XJ t f)
theorem c9.rB (x:c9 P w H h a o) (k:∀b u,(b=a\/H b=some (.own a))->h.get? b=some u->h'.get? b=some u)
 (ho:∀b,H b=some (.own a)->H' b=some (.own a)) (ht:∀b xs,H b=some (.tup xs)->H' b=some (.tup xs)):c9 P w H' h' a o:=by
 induction o with
 |lst xs=>obtain⟨z,bh,n,r,e⟩:=x;exact⟨z,bh,n,r,k _ _ (.inl rfl) e⟩
 |tup xs=>obtain⟨z,bh,r,ob,e,c⟩:=x;exact⟨z,bh,r,ob,k _ _ (.inl rfl) e,c⟩
 |dK kvs=>obtain⟨z,y,vs,r,ob,es,ep,e,c⟩:=x;exact⟨z,y,vs,r,ob,es,ep,k _ _ (.inl rfl) e,c⟩
 |dT kvs=>
  obtain⟨z,y,xs,r,ob,es,ep,e,c⟩:=x
  exact⟨z,y,xs,AbH.XJ r fun p q z=>⟨z.1,ht _ _ z.2.1,z.2.2⟩,ob,es,ep,k _ _ (.inl rfl) e,c⟩
 |set S n=>obtain⟨ob,es,ep,t,e,c⟩:=x;exact⟨ob,es,ep,t,k _ _ (.inl rfl) e,c⟩
 |ins C dx fs=>
  obtain⟨d,z,ne,e,mA,⟨od,es,ep,e2,c⟩,r⟩:=x
  exact⟨ho _ d,z,ne,k _ _ (.inl rfl) e,mA,⟨od,es,ep,k _ _ (.inr d) e2,c⟩,r⟩
 |own y=>obtain⟨ob,e⟩:=x;exact⟨ob,k _ _ (.inl rfl) e⟩
 |xd fs=>obtain⟨mA,⟨od,es,ep,e,c⟩,r⟩:=x;exact⟨mA,⟨od,es,ep,k _ _ (.inl rfl) e,c⟩,r⟩
 |rng lo hi=>obtain⟨t,u,v,e⟩:=x;exact⟨t,u,v,k _ _ (.inl rfl) e⟩
 |tT ob u ih=>obtain⟨e,q⟩:=x;exact⟨k _ _ (.inl rfl) e,ih q⟩
 |XU ps=>
  have e:h.get? a=some {cls:=.none,data:=.fields ps}:=x
  show h'.get? a=some {cls:=.none,data:=.fields ps}
  exact k a _ (.inl rfl) e
 |met f y=>
  have e:h.get? a=some (Abu (.ref f) (.ref y)):=x
  show h'.get? a=some (Abu (.ref f) (.ref y))
  exact k a _ (.inl rfl) e
 |ext φ=>obtain⟨p,⟨o,e⟩,st⟩:=x;exact⟨st _ _ p fun o q=>k _ _ (.inl rfl) q,⟨o,k _ _ (.inl rfl) e⟩,st⟩
theorem rq.lt (x:rq P w H h) (e:H a=some o):a<h.objs.size:=(x a o e).lt
theorem rq.fresh (x:rq P w H h) (e:h.objs.size<=a):H a=none:=by
 cases q:H a with
 |none=>rfl
 |some u=>exact absurd (DD (x.lt q) e) (OF _)
theorem rq.kept (x:rq P w H h) (k:∀b u,h.get? b=some u->h'.get? b=some u):rq P w H h':=fun a o e=>
 (x a o e).rB (fun b u _ q=>k b u q) (fun _ q=>q) fun _ _ q=>q
theorem rq.laid (x:rq P w H h) (k:∀b u,h.get? b=some u->h'.get? b=some u) (hp:h.objs.size<=a) (new:c9 P w (upd H a o) h' a o):rq P w (upd H a o) h':=fun b u e=>by
 have hn:=x.fresh hp
 by_cases hb:b=a
 . subst hb;rw [av] at e;cases e;exact new
 . rw [ay hb] at e
   exact(x b u e).rB (fun c v _ q=>k c v q) (fun c q=>by rw [ay (aC q hn)];exact q) fun c xs q=>by rw [ay (aC q hn)];exact q
end
def Rd (H:Hp) (a:Addr) (u:HO):Prop:=H a=some u\/∃o,H a=some (.tT o u)
theorem Rd.of {H:Hp} {a:Addr} {u:HO} (h:H a=some u):Rd H a u:=.inl h
theorem Rd.ok {P:Fa} {w:World} {H:Hp} {h:Heap} {a:Addr} {u:HO} (r:Rd H a u) (x:rq P w H h):c9 P w H h a u:=by
 rcases r with r|⟨o,r⟩
 . exact x a u r
 . obtain⟨_,q⟩:=x a _ r
   exact q
def Z5:Option HO->Prop
 |some (.lst _)=>True
 |some (.dK _)=>True
 |some (.dT _)=>True
 |some (.set _ _)=>True
 |some (.ins _ _ _)=>True
 |some (.ext _)=>True
 |_=>False
section
variable {P:Fa} {w:World} {H:Hp} {h h':Heap} {x e:Addr} {o':HO}
theorem rq.write (ok:rq P w H h) (mu:Z5 (H x)) (he:e=x\/H e=some (.own x)) (k:∀b u,b≠e->h.get? b=some u->h'.get? b=some u) (UY:∃u,h'.get? e=some u)
 (new:c9 P w (upd H x o') h' x o'):rq P w (upd H x o') h':=fun b u q=>by
 have aaG:∀c y,H c=some (.own y)->c≠x:=fun c y r z=>by subst z;rw [r] at mu;exact mu
 have ad7:∀c xs,H c=some (.tup xs)->c≠x:=fun c xs r z=>by subst z;rw [r] at mu;exact mu
 by_cases hb:b=x
 . subst hb;rw [av] at q;cases q;exact new
 . rw [ay hb] at q
   by_cases V6:b=e
   . have q':H b=some (.own x):=by
      rcases he with z|z
      . exact absurd (V6.trans z) hb
      . rw [V6];exact z
     rw [q] at q';cases q'
     obtain⟨v,hv⟩:=UY
     exact⟨v,by rw [V6];exact hv⟩
   . refine(ok b u q).rB (fun c v hc r=>k c v ?_ r) (fun c r=>by rw [ay (aaG c b r)];exact r) fun c xs r=>by rw [ay (ad7 c xs r)];exact r
     rcases hc with rfl|hc
     . exact V6
     . rintro rfl
       rcases he with z|z
       . exact aaG c b hc z
       . rw [hc] at z;cases z;exact hb rfl
end
structure Un (fs ex:List Addr) (H H':Hp) (h h':Heap):Prop where
 keep:∀b o,h.get? b=some o->H b=none->b∉fs->b∉ex->h'.get? b=some o
 slot:∀b o,h.get? b=some o->H b=none->b∈fs->b∉ex->∃sl,h'.get? b=some {o with slots:=sl}
 free:∀b o,h.get? b=some o->H b=none->b∉ex->H' b=none
 there:∀b o,h.get? b=some o->b∉ex->∃o',h'.get? b=some o'
 wX:∀b xs,H b=some (.tup xs)->H' b=some (.tup xs)
 uk:∀b o u,H b=some (.tT o u)->H' b=some (.tT o u)
 zC:∀b ps,H b=some (.XU ps)->∃more,H' b=some (.XU (ps++more))
section
variable {fs fs' ex ex':List Addr} {H H1 H2:Hp} {h h1 h2 h':Heap} {a x e:Addr} {o:HO}
theorem Un.any (u:Un fs ex H H1 h h1) {b:Addr} {ob:Obj} (q:h.get? b=some ob) (n:H b=none) (hx:b∉ex):∃sl,h1.get? b=some {ob with slots:=sl}:=by
 by_cases hb:b∈fs
 . exact u.slot b ob q n hb hx
 . exact⟨ob.slots,u.keep b ob q n hb hx⟩
theorem Un.kept (k:∀b u,h.get? b=some u->h'.get? b=some u):Un fs ex H H h h':=
 ⟨fun b ob q _ _ _=>k b ob q,fun b ob q _ _ _=>⟨ob.slots,k b ob q⟩,fun _ _ _ n _=>n,fun b ob q _=>⟨ob,k b ob q⟩,fun _ _ q=>q,fun _ _ _ q=>q,fun _ ps q=>⟨#[],by rw [q];simp⟩⟩
theorem Un.refl:Un fs ex H H h h:=Un.kept fun _ _ q=>q
theorem Un.laid (k:∀b u,h.get? b=some u->h'.get? b=some u) (hp:h.objs.size<=a) (hn:H a=none):Un fs ex H (upd H a o) h h' where
 keep:=fun b u q _ _ _=>k b u q
 slot:=fun b u q _ _ _=>⟨u.slots,k b u q⟩
 free:=fun b u q n _=>by rw [ay (ES (DD (Db q) hp))];exact n
 there:=fun b u q _=>⟨u,k b u q⟩
 wX:=fun b xs q=>by rw [ay (aC q hn)];exact q
 uk:=fun b u xs q=>by rw [ay (aC q hn)];exact q
 zC:=fun b ps q=>⟨#[],by rw [ay (aC q hn),q];simp⟩
theorem Un.write (mu:Z5 (H x)) (he:e=x\/H e=some (.own x)) (k:∀b u,b≠e->h.get? b=some u->h'.get? b=some u) (UY:∃u,h'.get? e=some u):Un fs ex H (upd H x o) h h':=by
 have hx:∀b,H b=none->b≠x:=fun b n z=>by subst z;rw [n] at mu;exact mu
 have hb:∀b,H b=none->b≠e:=fun b n z=>by
  subst z
  rcases he with r|r
  . exact hx b n r
  . rw [n] at r;cases r
 have hm:∀b u,H b=some u->¬Z5 (some u)->b≠x:=fun b u q nm z=>by subst z;rw [q] at mu;exact nm mu
 refine⟨fun b u q n _ _=>k b u (hb b n) q,fun b u q n _ _=>⟨u.slots,k b u (hb b n) q⟩,fun b u q n _=>by rw [ay (hx b n)];exact n,fun b u q _=>?_,
  fun b xs q=>by rw [ay (hm b _ q fun z=>z)];exact q,fun b u xs q=>by rw [ay (hm b _ q fun z=>z)];exact q,fun b ps q=>⟨#[],by rw [ay (hm b _ q fun z=>z),q];simp⟩⟩
 by_cases V6:b=e
 . subst V6;exact UY
 . exact⟨u,k b u V6 q⟩
end
def trk (h:Heap) (H:Hp):List Addr:=(AbO h.objs.size).filter fun a=>(H a).isSome
def Ed (h:Heap) (H:Hp):Heap:=PySem.W.hideAll h (trk h H)
theorem MJ (h:Heap) (H:Hp):(Ed h H).objs.size=h.objs.size:=PySem.W.hideAll_size _ _
theorem OU {h:Heap} {H:Hp} {b:Addr} {o:Obj} (e:h.get? b=some o) (n:H b=none):(Ed h H).get? b=some o:=
 PySem.W.hideAll_get _ e fun hm=>by
  have q:(H b).isSome=true:=(CS.mp hm).2
  rw [n] at q;simp at q
theorem T6 {h:Heap} {H:Hp} {b:Addr} {o:Obj} (e:(Ed h H).get? b=some o):h.get? b=some o/\H b=none:=by
 have e':h.get? b=some o:=PySem.W.of_hideAll (trk h H) e
 refine⟨e',?_⟩
 cases q:H b with
 |none=>rfl
 |some x=>
  have hm:b∈trk h H:=CS.mpr ⟨List.mem_range.mpr (Db e'),by simp [q]⟩
  have z:(Ed h H).get? b=none:=PySem.W.hideAll_none (trk h H) hm
  rw [z] at e;cases e
def Sx (g h:Heap) (L:Addr):List (Addr × Obj):=(AbO h.objs.size).filterMap fun a=>if a=L\/(g.get? a).isSome=true then none else (h.get? a).map fun o=>(a,o)
def rest (g h:Heap) (L d:Addr):List (Addr × Obj):=(Sx g h L).filter fun p=>decide (p.1≠d)
structure Mod (K:At) (mg:Str->Option Value) (base:Heap):Prop where
 Zm:K.In base
 glob:base.Ns Fk mg
 blt:∃mb,base.Ns AbP mb/\∀x:Str,x≠"__name__"->mb x=AaN x
 nolimit:base.NoLimit
structure Cx where
 prog:Fa
 w:World
 K:At
 mg:Str->Option Value
 base:Heap
 A:IF
 N:List Str
 jm:AM
 HC:Hp
 env:Env
 outer:List Env
 stack:List Env
 ex:List Addr
 fn:Str->Bool
 calm:Bool
 pn:List (Addr × Obj)
 xe:Value->AM->Prop
def Lf (l:List Env):List Addr:=l.filterMap (·.frame)
abbrev Cx.fs (X:Cx):List Addr:=Lf X.outer
def Vis (sc:Scope) (x:Str):Prop:=sc.names.lookup x=some .local\/sc.names.lookup x=some .cell\/sc.names.lookup x=some .free
def Loc (sc:Scope) (x:Str):Prop:=sc.names.lookup x=some .local\/sc.names.lookup x=some .cell
def Look (env:Env) (h:Heap) (m:Str->Option Value) (x:Str) (u:Value):Prop:=
 (env.kindOf x=some .local/\m x=some u)\/((env.kindOf x=some .cell\/env.kindOf x=some .free)/\∃c,env.cells.lookup x=some c/\h.IsCell c (some u))
structure Cx.Ok (X:Cx):Prop where
 mod:Mod X.K X.mg X.base
 kind:X.env.scope.kind=.function
 glob:X.env.globals=Fk
 blt:X.env.builtins=AbP
 above:X.jm.heap.objs.size<=X.env.locals
 inj:∀x y c,X.env.cells.lookup x=some c->X.env.cells.lookup y=some c->x=y
 has:∀x,(X.env.kindOf x=some .cell\/X.env.kindOf x=some .free)->∃c,X.env.cells.lookup x=some c
 ZE:∀x c,X.fn x=true->X.env.cells.lookup x=some c->X.jm.heap.objs.size<=c
 hd:X.calm=true->X.A.handled=none
 frames:X.A.frames=some X.stack
 stk:X.stack=X.outer\/(X.stack=X.env::X.outer/\X.env.frame=some X.env.locals)
 exf:∀b∈X.ex,b≠X.env.locals/\∀x c,X.env.cells.lookup x=some c->c≠b
 bs:∀b o,X.base.get? b=some o->X.jm.heap.get? b=some o/\X.HC b=none
 Nb:X.base.objs.size<=X.jm.heap.objs.size
 KQ:∀b o,X.base.get? b=some o->b∉X.ex
 Mb:∀b∈X.ex,b∉X.fs
 xJ:X.jm.heap.FunFrames X.base X.outer
 Uc:∀b∈X.fs,X.HC b=none
structure Inv (X:Cx) (pins:List (Addr × Obj)) (σ:List (Option V)) (H:Hp) (s:AM):Prop where
 ok:X.Ok
 os:s.os=X.jm.os
 bare:AbL s.gens
 base:Un X.fs X.ex X.HC H X.jm.heap s.heap
 loc:∃m,s.heap.Ns X.env.locals m/\∀(i:Nat) (x:Str) (v:V),X.N[i]? =some x->σ[i]? =some (some v)->Vis X.env.scope x->∃u,RelV v u/\Look X.env s.heap m x u
 cell:∀x c,X.env.cells.lookup x=some c->∃v,s.heap.IsCell c v
 free:H X.env.locals=none
 ni:∀x c,X.env.cells.lookup x=some c->H c=none
 pin:∀p∈X.pn++pins,s.heap.get? p.1=some p.2/\H p.1=none/\p.1≠X.env.locals/\p.1∉X.fs/\∀v,p.2.data≠.cell v
 bE:rq X.prog X.w H s.heap
 len:σ.length=X.N.length
section
variable {X:Cx} {pins:List (Addr × Obj)} {σ:List (Option V)} {H H':Hp} {s:AM} {h':Heap}
theorem Cx.Ok.ae9 (ok:X.Ok) {b:Addr} {o:Obj} (e:X.base.get? b=some o):b∉X.fs:=fun hb=>by
 have:=(ok.xJ.mem hb).1
 rw [e] at this;cases this
theorem Inv.bs (I:Inv X pins σ H s):∀b o,X.base.get? b=some o->s.heap.get? b=some o/\H b=none:=fun b o e=>
 ⟨I.base.keep b o (I.ok.bs b o e).1 (I.ok.bs b o e).2 (I.ok.ae9 e) (I.ok.KQ b o e),I.base.free b o (I.ok.bs b o e).1 (I.ok.bs b o e).2 (I.ok.KQ b o e)⟩
theorem Inv.bk (I:Inv X pins σ H s):∀b o,X.base.get? b=some o->s.heap.get? b=some o:=fun b o e=>(I.bs b o e).1
theorem Inv.mod (I:Inv X pins σ H s):Mod X.K X.mg X.base:=I.ok.mod
theorem Inv.vX (I:Inv X pins σ H s):X.K.In s.heap:=I.ok.mod.Zm.keeps I.bk
theorem Inv.fr (I:Inv X pins σ H s):∃m,Fr X.base X.env.locals s.heap m:=
 let ⟨m,hn,_⟩:=I.loc
 ⟨m,hn,I.bk,Me I.ok.Nb I.ok.above⟩
theorem Inv.lt (I:Inv X pins σ H s):X.env.locals<s.heap.objs.size:=let ⟨_,hn,_⟩:=I.loc;hn.lt
theorem Inv.sz (I:Inv X pins σ H s):X.jm.heap.objs.size<=s.heap.objs.size:=Me I.ok.above (AaO I.lt)
theorem Inv.aec (I:Inv X pins σ H s) {a:Addr} (h:s.heap.objs.size<=a):a∉X.fs:=fun hb=>by
 obtain⟨_,o,ho,_⟩:=I.ok.xJ.mem hb
 exact absurd (DD (Db ho) (Me I.sz h)) (OF _)
theorem Inv.Xn (I:Inv X pins σ H s):∀x c,X.env.cells.lookup x=some c->c≠X.env.locals:=fun x c e z=>by
 obtain⟨v,o,ho,hd⟩:=I.cell x c e
 obtain⟨m,⟨o',es,ep,PY,rE,_⟩,_⟩:=I.loc
 rw [z,PY] at ho;cases ho;rw [rE] at hd;cases hd
theorem Inv.xJ (I:Inv X pins σ H s):s.heap.FunFrames X.base X.outer:=by
 have all:∀(l:List Env),(∀b∈Lf l,b∈X.fs)->X.jm.heap.FunFrames X.base l->s.heap.FunFrames X.base l:=by
  intro l
  induction l with
  |nil=>intro _ _;trivial
  |cons env r ih=>
   intro hs hl
   obtain⟨hk,⟨L,o,hf,hn,ho,hd⟩,hr⟩:=hl
   have hL:L∈X.fs:=hs L (by unfold Lf;rw [Aa5,hf];exact BN)
   obtain⟨sl,e⟩:=I.base.slot L o ho (I.ok.Uc L hL) hL fun z=>I.ok.Mb L z hL
   exact⟨hk,⟨L,_,hf,hn,e,hd⟩,ih (fun b hb=>hs b (by unfold Lf;rw [Aa5,hf];exact AD _ hb)) hr⟩
 exact all X.outer (fun _ hb=>hb) I.ok.xJ
theorem Inv.stack (I:Inv X pins σ H s):s.heap.FunFrames X.base X.stack:=by
 rcases I.ok.stk with e|⟨e,hf⟩
 . rw [e];exact I.xJ
 . rw [e]
   obtain⟨m,hn,_⟩:=I.loc
   refine .cons (by rw [I.ok.kind];decide) hf hn ?_ I.xJ
   exact Heap.get?_none_of_le (Me I.ok.Nb I.ok.above)
theorem Inv.Ig (I:Inv X pins σ H s):∀b∈Lf X.stack,b∈X.env.locals::X.fs:=fun b hb=>by
 rcases I.ok.stk with e|⟨e,hf⟩
 . rw [e] at hb;exact AD _ hb
 . rw [e] at hb
   unfold Lf at hb
   rw [Aa5,hf] at hb
   exact hb
theorem Inv.JP (I:Inv X pins σ H s):∀b∈Lf X.stack,H b=none:=fun b hb=>by
 rcases AE.mp (I.Ig b hb) with e|hb
 . rw [e];exact I.free
 . obtain⟨_,o,ho,_⟩:=I.ok.xJ.mem hb
   exact I.base.free b o ho (I.ok.Uc b hb) fun z=>I.ok.Mb b z hb
theorem Inv.step {g':Array GenState} {t':Nat} {d':Drawn} {ch:List Addr} (I:Inv X pins σ H s)
 (vf:∀b∈ch,(b∈X.ex\/X.jm.heap.objs.size<=b)/\b≠X.env.locals/\(∀x c,X.env.cells.lookup x=some c->c≠b)/\∀p∈X.pn++pins,p.1≠b)
 (keep:∀b o,b≠X.env.locals->b∉X.fs->b∉ch->s.heap.get? b=some o->H b=none->h'.get? b=some o)
 (slot:∀b o,b≠X.env.locals->b∈X.fs->b∉ch->s.heap.get? b=some o->H b=none->∃sl,h'.get? b=some {o with slots:=sl}) (free:∀b o,b∉ch->s.heap.get? b=some o->H b=none->H' b=none)
 (there:∀b o,b∉ch->s.heap.get? b=some o->∃o',h'.get? b=some o')
 (wX:∀b xs,H b=some (.tup xs)->H' b=some (.tup xs)) (uk:∀b o u,H b=some (.tT o u)->H' b=some (.tT o u)) (zC:∀b ps,H b=some (.XU ps)->∃more,H' b=some (.XU (ps++more)))
 (ns:∀m,s.heap.Ns X.env.locals m->h'.Ns X.env.locals m) (bE:rq X.prog X.w H' h') (hg:AbL g'):
 Inv X pins σ H' {s with heap:=h',gens:=g',drawn:=d',toks:=t'}:=by
 have neL:∀b o,X.jm.heap.get? b=some o->b≠X.env.locals:=fun b o e=>ES (DD (Db e) I.ok.above)
 have neC:∀b o,X.jm.heap.get? b=some o->b∉X.ex->b∉ch:=fun b o e hx hb=>by
  rcases (vf b hb).1 with z|z
  . exact hx z
  . exact absurd (DD (Db e) z) (OF _)
 have cellK:∀x c,X.env.cells.lookup x=some c->∀v,s.heap.IsCell c v->h'.IsCell c v:=fun x c e v ⟨o,ho,hd⟩=>by
  have nch:c∉ch:=fun z=>(vf c z).2.2.1 x c e rfl
  by_cases hc:c∈X.fs
  . obtain⟨sl,q⟩:=slot c o (I.Xn x c e) hc nch ho (I.ni x c e)
    exact⟨_,q,hd⟩
  . exact⟨o,keep c o (I.Xn x c e) hc nch ho (I.ni x c e),hd⟩
 refine⟨I.ok,I.os,hg,⟨fun b o e n hb hx=>?_,fun b o e n hb hx=>?_,fun b o e n hx=>?_,fun b o e hx=>?_,fun b xs e=>wX b xs (I.base.wX b xs e),fun b o xs e=>uk b o xs (I.base.uk b o xs e),fun b ps e=>?_⟩,?_,fun x c e=>?_,?_,fun x c e=>?_,fun p hp=>?_,bE,I.len⟩
 . exact keep b o (neL b o e) hb (neC b o e hx) (I.base.keep b o e n hb hx) (I.base.free b o e n hx)
 . obtain⟨sl,e1⟩:=I.base.slot b o e n hb hx
   obtain⟨sl',e2⟩:=slot b _ (neL b o e) hb (neC b o e hx) e1 (I.base.free b o e n hx)
   exact⟨sl',e2⟩
 . obtain⟨o',e1⟩:=I.base.there b o e hx
   exact free b o' (neC b o e hx) e1 (I.base.free b o e n hx)
 . obtain⟨o',e1⟩:=I.base.there b o e hx
   exact there b o' (neC b o e hx) e1
 . obtain⟨m1,e1⟩:=I.base.zC b ps e
   obtain⟨m2,e2⟩:=zC b _ e1
   exact⟨m1++m2,by rw [e2,Array.append_assoc]⟩
 . obtain⟨m,hn,hl⟩:=I.loc
   refine⟨m,ns m hn,fun i x v e1 e2 e3=>?_⟩
   obtain⟨u,r,l⟩:=hl i x v e1 e2 e3
   refine⟨u,r,?_⟩
   rcases l with l|⟨k,c,e,z⟩
   . exact .inl l
   . exact .inr ⟨k,c,e,cellK x c e _ z⟩
 . obtain⟨v,z⟩:=I.cell x c e
   exact⟨v,cellK x c e v z⟩
 . obtain⟨m,⟨o,_,_,ho,_⟩,_⟩:=I.loc
   exact free _ o (fun z=>(vf _ z).2.1 rfl) ho I.free
 . obtain⟨v,o,ho,hd⟩:=I.cell x c e
   exact free c o (fun z=>(vf c z).2.2.1 x c e rfl) ho (I.ni x c e)
 . obtain⟨e,n,ne,nf,d⟩:=I.pin p hp
   have nch:p.1∉ch:=fun z=>(vf p.1 z).2.2.2 p hp rfl
   exact⟨keep p.1 p.2 ne nf nch e n,free p.1 p.2 nch e n,ne,nf,d⟩
theorem Inv.un {t':Nat} (I:Inv X pins σ H s) (u:Un X.fs [] H H' s.heap h') (bE:rq X.prog X.w H' h'):Inv X pins σ H' {s with heap:=h',toks:=t'}:=by
 obtain⟨m,⟨o,es,ep,ho,r⟩,_⟩:=id I.loc
 obtain⟨sl,hL⟩:=u.any ho I.free (by simp)
 exact I.step (g':=s.gens) (d':=s.drawn) (ch:=[]) (fun _ z=>nomatch z) (fun b o _ hb _ e n=>u.keep b o e n hb (by simp)) (fun b o _ hb _ e n=>u.slot b o e n hb (by simp)) (fun b o _ e n=>u.free b o e n (by simp)) (fun b o _ e=>u.there b o e (by simp)) u.wX u.uk u.zC (fun m' hm=>by
  obtain⟨o',es',ep',PY,r'⟩:=hm
  rw [ho] at PY;cases PY
  exact⟨_,es',ep',hL,r'⟩) bE I.bare
theorem Inv.call {g':Array GenState} {t':Nat} {d':Drawn} {ch:List Addr} (I:Inv X pins σ H s) (u:Un (Lf X.stack) ch H H' s.heap h') (bE:rq X.prog X.w H' h') (hg:AbL g')
 (vf:∀b∈ch,(b∈X.ex\/X.jm.heap.objs.size<=b)/\b≠X.env.locals/\(∀x c,X.env.cells.lookup x=some c->c≠b)/\∀p∈X.pn++pins,p.1≠b):
 Inv X pins σ H' {s with heap:=h',gens:=g',drawn:=d',toks:=t'}:=by
 obtain⟨m,⟨o,es,ep,ho,r⟩,_⟩:=id I.loc
 obtain⟨sl,hL⟩:=u.any ho I.free fun z=>(vf _ z).2.1 rfl
 exact I.step (ch:=ch) vf (fun b o hL hb hc e n=>u.keep b o e n (fun z=>(AE.mp (I.Ig b z)).elim hL hb) hc) (fun b o _ _ hc e n=>u.any e n hc) (fun b o hc e n=>u.free b o e n hc) (fun b o hc e=>u.there b o e hc) u.wX u.uk u.zC (fun m' hm=>by
  obtain⟨o',es',ep',PY,r'⟩:=hm
  rw [ho] at PY;cases PY
  exact⟨_,es',ep',hL,r'⟩) bE hg
theorem Inv.turned {t':Nat} {it:Addr} (I:Inv X pins σ H s) (k:∀b o,b≠it->s.heap.get? b=some o->h'.get? b=some o) (hn:H it=none) (hL:it≠X.env.locals)
 (h1:it∈X.ex\/X.jm.heap.objs.size<=it) (h2:∀x c,X.env.cells.lookup x=some c->c≠it) (h3:∀p∈X.pn++pins,p.1≠it):Inv X pins σ H {s with heap:=h',toks:=t'}:=by
 have YR:∀b u,H b=some u->b≠it:=fun b u e z=>by rw [z,hn] at e;cases e
 refine I.step (g':=s.gens) (d':=s.drawn) (ch:=[it]) (fun b hb=>?_) (fun b o _ _ hc e _=>k b o (fun z=>hc (by simp [z])) e) (fun b o _ _ hc e _=>⟨o.slots,k b o (fun z=>hc (by simp [z])) e⟩) (fun _ _ _ _ n=>n)
  (fun b o hc e=>⟨o,k b o (fun z=>hc (by simp [z])) e⟩) (fun _ _ e=>e) (fun _ _ _ e=>e) (fun b ps e=>⟨#[],by rw [e];simp⟩) (fun m hm=>?_) (fun b u e=>?_) I.bare
 . have e:b=it:=by simpa using hb
   subst e
   exact⟨h1,hL,h2,h3⟩
 . obtain⟨o,es,ep,ho,r⟩:=hm
   exact⟨o,es,ep,k _ o (LH hL) ho,r⟩
 . refine(I.bE b u e).rB (fun c v hc q=>k c v ?_ q) (fun _ q=>q) fun _ _ q=>q
   rcases hc with z|z
   . rw [z];exact YR b u e
   . exact YR c _ z
theorem Inv.tok (I:Inv X pins σ H s) (t:Nat):Inv X pins σ H {s with toks:=t}:=I.un (h':=s.heap) (t':=t) Un.refl I.bE
theorem Inv.kept {t':Nat} (I:Inv X pins σ H s) (k:∀b u,s.heap.get? b=some u->h'.get? b=some u):Inv X pins σ H {s with heap:=h',toks:=t'}:=I.un (Un.kept k) (I.bE.kept k)
theorem Inv.laid {a:Addr} {o:HO} {t':Nat} (I:Inv X pins σ H s) (k:∀b u,s.heap.get? b=some u->h'.get? b=some u) (hp:s.heap.objs.size<=a) (new:c9 X.prog X.w (upd H a o) h' a o):
 Inv X pins σ (upd H a o) {s with heap:=h',toks:=t'}:=I.un (Un.laid k hp (I.bE.fresh hp)) (I.bE.laid k hp new)
theorem Inv.write {x e:Addr} {o:HO} {t':Nat} (I:Inv X pins σ H s) (mu:Z5 (H x)) (he:e=x\/H e=some (.own x)) (k:∀b u,b≠e->s.heap.get? b=some u->h'.get? b=some u) (UY:∃u,h'.get? e=some u)
 (new:c9 X.prog X.w (upd H x o) h' x o):Inv X pins σ (upd H x o) {s with heap:=h',toks:=t'}:=I.un (Un.write mu he k UY) (I.bE.write mu he k UY new)
theorem Inv.weak {σ':List (Option V)} (I:Inv X pins σ H s) (hl:σ'.length=σ.length) (w:∀(i:Nat) v,σ'[i]? =some (some v)->σ[i]? =some (some v)):Inv X pins σ' H s:=
 ⟨I.ok,I.os,I.bare,I.base,let ⟨m,hn,Dw⟩:=I.loc;⟨m,hn,fun i x v e1 e2 e3=>Dw i x v e1 (w i v e2) e3⟩,I.cell,I.free,I.ni,I.pin,I.bE,hl.trans I.len⟩
theorem Inv.t4 {Vm:List (Addr × Obj)} (I:Inv X pins σ H s) (h:∀p∈Vm,s.heap.get? p.1=some p.2/\H p.1=none/\p.1≠X.env.locals/\p.1∉X.fs/\∀v,p.2.data≠.cell v):Inv X Vm σ H s:=
 ⟨I.ok,I.os,I.bare,I.base,I.loc,I.cell,I.free,I.ni,fun p hp=>(Cn.mp hp).elim (fun z=>I.pin p (EQ _ z)) (h p),I.bE,I.len⟩
theorem FC {N:List Str} (hN:N.Nodup) {i j:Nat} {x:Str} (a:N[i]? =some x) (b:N[j]? =some x):i=j:=by
 obtain⟨h1,e1⟩:=AS.mp a
 obtain⟨h2,e2⟩:=AS.mp b
 exact(List.getElem_inj hN).mp (e1.trans e2.symm)
theorem C2 {M:Model} {A:IF} {E:Value->AM->Prop} {i:Nat} {x:Str} {v:V} {u:Value} {Q:Unit->AM->Prop} (I:Inv X pins σ H s) (hN:X.N.Nodup) (hi:X.N[i]? =some x) (hx:Loc X.env.scope x) (r:RelV v u)
 (h:∀s',Inv X pins (σ.set i (some v)) H s'->(∃a,Abl a s.heap s'.heap/\(a=X.env.locals\/X.env.cells.lookup x=some a))->Q () s') (hf:X.fn x=true\/X.env.scope.names.lookup x=some .local:=by first|exact .inl rfl|exact .inr rfl|assumption):wpAny M A (storeName X.env x u) Q E s:=by
 obtain⟨m,hn,hl⟩:=id I.loc
 have ael:(X.env.scope.kind==.class||(X.env.scope.kind==.module&&X.env.locals !=X.env.globals))=false:=by rw [I.ok.kind];rfl
 have acC:i<σ.length:=by rw [I.len];exact(AS.mp hi).1
 have Xn:=I.Xn
 have tracked:∀{a:Addr} {h':Heap},(∃o,s.heap.get? a=some o/\H a=none)->Abl a s.heap h'->rq X.prog X.w H h':=fun {a h'} ha hs b ob e=>by
  obtain⟨_,_,Va⟩:=ha
  refine(I.bE b ob e).rB (fun c w' hc q=>(hs.2 c ?_).trans q) (fun _ q=>q) fun _ _ q=>q
  rintro rfl
  rcases hc with rfl|hc
  . rw [Va] at e;cases e
  . rw [Va] at hc;cases hc
 rcases hx with hk|hk
 . refine wpAny_storeName_local hk hn (fun h' hn' hs=>?_) ael
   obtain⟨oL,_,_,Ii,_⟩:=id hn
   refine h _ ⟨I.ok,I.os,I.bare,⟨fun b o e n hb hx=>?_,fun b o e n hb hx=>?_,I.base.free,fun b o e hx=>?_,I.base.wX,I.base.uk,I.base.zC⟩,⟨_,hn',fun j y v' e1 e2 e3=>?_⟩,fun y c e=>?_,I.free,I.ni,fun p hp=>?_,tracked ⟨oL,Ii,I.free⟩ hs,by simpa using I.len⟩ ⟨_,hs,.inl rfl⟩
   . exact(hs.2 b (ES (DD (Db e) I.ok.above))).trans (I.base.keep b o e n hb hx)
   . obtain⟨sl,e1⟩:=I.base.slot b o e n hb hx
     exact⟨sl,(hs.2 b (ES (DD (Db e) I.ok.above))).trans e1⟩
   . obtain⟨o',e1⟩:=I.base.there b o e hx
     exact⟨o',(hs.2 b (ES (DD (Db e) I.ok.above))).trans e1⟩
   . by_cases hj:j=i
     . subst hj
       rw [hi] at e1;cases e1
       rw [AaA acC] at e2
       cases e2
       exact⟨u,r,.inl ⟨hk,by simp⟩⟩
     . rw [Aab (LH hj)] at e2
       obtain⟨u',r',q⟩:=hl j y v' e1 e2 e3
       refine⟨u',r',?_⟩
       rcases q with⟨k,e⟩|⟨k,c,e,z⟩
       . refine .inl ⟨k,?_⟩
         have:y≠x:=fun e=>hj (FC hN e1 (e▸hi))
         simp [this,e]
       . exact .inr ⟨k,c,e,z.sameBut hs (Xn y c e)⟩
   . obtain⟨w',z⟩:=I.cell y c e
     exact⟨w',z.sameBut hs (Xn y c e)⟩
   . obtain⟨e,n,ne,nf,d⟩:=I.pin p hp
     exact⟨(hs.2 p.1 ne).trans e,n,ne,nf,d⟩
 . have Ek:X.fn x=true:=by
    rcases hf with z|z
    . exact z
    . rw [z] at hk;cases hk
   obtain⟨c,hc⟩:=I.ok.has x (.inl hk)
   obtain⟨w',z⟩:=I.cell x c hc
   refine wpAny_storeName_cell I.ok.kind hk hc z (fun h' wF hs=>?_)
   obtain⟨oc,hoc,af2⟩:=id z
   refine h {s with heap:=h'} ⟨I.ok,I.os,I.bare,⟨fun b o e n hb hx=>?_,fun b o e n hb hx=>?_,I.base.free,fun b o e hx=>?_,I.base.wX,I.base.uk,I.base.zC⟩,⟨m,hn.sameBut hs (LH (Xn x c hc)),fun j y v' e1 e2 e3=>?_⟩,fun y c' e=>?_,I.free,I.ni,fun p hp=>?_,tracked ⟨oc,hoc,I.ni x c hc⟩ hs,by simpa using I.len⟩ ⟨c,hs,.inr hc⟩
   . exact(hs.2 b (ES (DD (Db e) (I.ok.ZE x c Ek hc)))).trans (I.base.keep b o e n hb hx)
   . obtain⟨sl,e1⟩:=I.base.slot b o e n hb hx
     exact⟨sl,(hs.2 b (ES (DD (Db e) (I.ok.ZE x c Ek hc)))).trans e1⟩
   . obtain⟨o',e1⟩:=I.base.there b o e hx
     exact⟨o',(hs.2 b (ES (DD (Db e) (I.ok.ZE x c Ek hc)))).trans e1⟩
   . by_cases hj:j=i
     . subst hj
       rw [hi] at e1;cases e1
       rw [AaA acC] at e2
       cases e2
       exact⟨u,r,.inr ⟨.inl hk,c,hc,wF⟩⟩
     . rw [Aab (LH hj)] at e2
       obtain⟨u',r',q⟩:=hl j y v' e1 e2 e3
       refine⟨u',r',?_⟩
       rcases q with q|⟨k,c',e,z'⟩
       . exact .inl q
       . refine .inr ⟨k,c',e,z'.sameBut hs ?_⟩
         rintro rfl
         exact hj (FC hN e1 (I.ok.inj _ _ _ e hc▸hi))
   . by_cases hcc:c'=c
     . subst hcc;exact⟨_,wF⟩
     . obtain⟨w2,z2⟩:=I.cell y c' e
       exact⟨w2,z2.sameBut hs hcc⟩
   . obtain⟨e,n,ne,nf,d⟩:=I.pin p hp
     refine⟨(hs.2 p.1 ?_).trans e,n,ne,nf,d⟩
     intro q
     rw [q,hoc] at e
     have q':oc=p.2:=CC e
     exact d w' (by rw [<-q'];exact af2)
theorem Gy {M:Model} {A:IF} {E:Value->AM->Prop} {i:Nat} {x:Str} {v:V} {u:Value} {Q:Unit->AM->Prop} (I:Inv X pins σ H s) (hN:X.N.Nodup) (hi:X.N[i]? =some x) (hx:Loc X.env.scope x) (r:RelV v u)
 (h:∀s',Inv X pins (σ.set i (some v)) H s'->Q () s') (hf:X.fn x=true\/X.env.scope.names.lookup x=some .local:=by first|exact .inl rfl|exact .inr rfl|assumption):wpAny M A (storeName X.env x u) Q E s:=
 C2 I hN hi hx r (fun s' I' _=>h s' I') hf
theorem Inv.abu {s':AM} {ch:List Addr} (I:Inv X pins σ H s) (ho:s'.os=s.os) (u:Un (Lf X.stack) ch H H' s.heap s'.heap) (bE:rq X.prog X.w H' s'.heap) (hg:AbL s'.gens)
 (vf:∀b∈ch,(b∈X.ex\/X.jm.heap.objs.size<=b)/\b≠X.env.locals/\(∀x c,X.env.cells.lookup x=some c->c≠b)/\∀p∈X.pn++pins,p.1≠b):Inv X pins σ H' s':=by
 obtain⟨h',g',d',t',o'⟩:=s'
 have e:o'=s.os:=ho
 subst e
 exact I.call (g':=g') (t':=t') (d':=d') u bE hg vf
end
abbrev XK:=Value->Option Addr->Hp->Prop
abbrev St:=List (Option V)
abbrev VK:=V->Hp->Prop
abbrev TE:=St->Hp->VK->Prop
abbrev TT:=St->Hp->(Bool->Hp->Prop)->Prop
abbrev TA:=St->Hp->(List V->Hp->Prop)->Prop
structure Ends where
 nx:St->Hp->Prop
 rt:VK
 bk:St->Hp->Prop:=fun _ _=>False
 ct:St->Hp->Prop:=fun _ _=>False
abbrev TS:=Ends->St->Hp->Prop
def EP (X:Cx) (pins:List (Addr × Obj)) (σ:St) (Q:VK) (u:Value) (s':AM):Prop:=∃v H',Inv X pins σ H' s'/\RelV v u/\Q v H'
def TP (X:Cx) (pins:List (Addr × Obj)) (σ:St) (Q:Bool->Hp->Prop) (b:Bool) (s':AM):Prop:=∃H',Inv X pins σ H' s'/\Q b H'
def AP (X:Cx) (pins:List (Addr × Obj)) (σ:St) (Q:List V->Hp->Prop) (us:List Value) (s':AM):Prop:=∃vs H',Inv X pins σ H' s'/\Vals vs us/\Q vs H'
def SP (X:Cx) (pins:List (Addr × Obj)) (D:Ends) (f:Flow) (s':AM):Prop:=
 match f with
 | .next=>∃σ' H',Inv X pins σ' H' s'/\D.nx σ' H'
 | .brk=>∃σ' H',Inv X pins σ' H' s'/\D.bk σ' H'
 | .cont=>∃σ' H',Inv X pins σ' H' s'/\D.ct σ' H'
 | .ret u=>∃v σ' H',Inv X pins σ' H' s'/\RelV v u/\D.rt v H'
def PE (X:Cx) (e:Expr) (t:TE):Prop:=
 ∀(pins:List (Addr × Obj)) (s:AM) (σ:St) (H:Hp) (Q:VK),Inv X pins σ H s->t σ H Q->wpAny (model X.prog X.w) X.A (eval e X.env) (EP X pins σ Q) X.xe s
def PT (X:Cx) (e:Expr) (t:TT):Prop:=
 ∀(pins:List (Addr × Obj)) (s:AM) (σ:St) (H:Hp) (Q:Bool->Hp->Prop),Inv X pins σ H s->t σ H Q->wpAny (model X.prog X.w) X.A (isTrue e X.env (eval e X.env)) (TP X pins σ Q) X.xe s
def PW (X:Cx) (e:Expr) (t:TT):Prop:=
 ∀(whole:Sem Value) (pins:List (Addr × Obj)) (s:AM) (σ:St) (H:Hp) (Q:Bool->Hp->Prop),Inv X pins σ H s->t σ H Q->wpAny (model X.prog X.w) X.A (isTrue e X.env whole) (TP X pins σ Q) X.xe s
theorem PW.pt {X:Cx} {e:Expr} {t:TT} (h:PW X e t):PT X e t:=h _
def PA (X:Cx) (es:List Expr) (t:TA):Prop:=
 ∀(pos:Pos) (pins:List (Addr × Obj)) (s:AM) (σ:St) (H:Hp) (Q:List V->Hp->Prop),Inv X pins σ H s->t σ H Q->wpAny (model X.prog X.w) X.A (spliced (RS pos (DO es X.env))) (AP X pins σ Q) X.xe s
def PS (X:Cx) (st:Stmt) (t:TS):Prop:=
 ∀(pins:List (Addr × Obj)) (s:AM) (σ:St) (H:Hp) (D:Ends),Inv X pins σ H s->t D σ H->wpAny (model X.prog X.w) X.A (exec st X.env) (SP X pins D) X.xe s
def HV (X:Cx) (st:List Stmt) (t:TS):Prop:=
 ∀(pins:List (Addr × Obj)) (s:AM) (σ:St) (H:Hp) (D:Ends),Inv X pins σ H s->t D σ H->wpAny (model X.prog X.w) X.A (execs st X.env) (SP X pins D) X.xe s
theorem dE {α:Type} {t:Sem α} {Q Q':α->AM->Prop} {M:Model} {A:IF} {E:Value->AM->Prop} {s:AM} (h:wpAny M A t Q E s) (hQ:∀a s,Q a s->Q' a s):wpAny M A t Q' E s:=NO h hQ fun _ _ x=>x
section
variable {X:Cx}
def Xm (i:Nat):TE:=fun σ H Q=>∃v,σ[i]? =some (some v)/\Q v H
def tC (v:V):TE:=fun _ H Q=>Q v H
theorem WZ {i:Nat} {x:Str} {pos:Pos} (hN:X.N[i]? =some x) (hv:Vis X.env.scope x) (hd:(x==("__debug__":Str))=false:=by decide) (M9:(x==("__classdict__":Str))=false:=by decide):PE X (.Name x pos) (Xm i):=by
 intro pins s σ H Q I h
 obtain⟨v,e,h⟩:=h
 obtain⟨m,hn,hl⟩:=I.loc
 obtain⟨u,r,l⟩:=hl i x v hN e hv
 have fin:EP X pins σ Q u s:=⟨v,H,I,r,h⟩
 rcases l with⟨hk,hm⟩|⟨hk,c,hc,DE⟩
 . exact wpAny_Name (wpAny_loadName_local I.ok.kind hk hn hm fin) hd
 . rcases hk with hk|hk
   . exact wpAny_Name (wpAny_loadName_cell I.ok.kind hk hc DE fin) hd
   . exact wpAny_Name (wpAny_loadName_free I.ok.kind hk hc DE fin M9) hd
theorem au {i j pos}:PE X (.Constant (.int i) j pos) (tC (.int i)):=fun _ _ _ H _ I h=>wpAny_Constant_int ⟨.int i,H,I.tok _,⟨_,rfl⟩,h⟩
theorem yV {b j pos}:PE X (.Constant (.bool b) j pos) (tC (.bl b)):=fun _ _ _ H _ I h=>Constant_bool ⟨.bl b,H,I,rfl,h⟩
theorem eO {j pos}:PE X (.Constant .none j pos) (tC .a9):=fun _ _ _ H _ I h=>Constant_none ⟨.a9,H,I,rfl,h⟩
theorem jk {x j pos}:PE X (.Constant (.str x) j pos) (tC (.str x)):=fun _ _ _ H _ I h=>Calls.Constant_str ⟨.str x,H,I.tok _,⟨_,rfl⟩,h⟩
def Gl (X:Cx) (x:Str):Prop:=X.env.kindOf x=some .globalImplicit
theorem xC {E:Value->AM->Prop} {pins:List (Addr × Obj)} {s:AM} {σ:St} {H:Hp} {x:Str} {u:Value} {pos:Pos} {Q:Value->AM->Prop} (I:Inv X pins σ H s) (hg:Gl X x) (hm:X.mg x=some u) (h:Q u s)
 (hd:(x==("__debug__":Str))=false:=by decide):wpAny (model X.prog X.w) X.A (eval (.Name x pos) X.env) Q E s:=
 Calls.Name_function_global I.ok.kind hg (Calls.loadGlobal_global (by rw [I.ok.glob];exact I.mod.glob.keeps I.bk) hm h) hd
theorem vq {E:Value->AM->Prop} {pins:List (Addr × Obj)} {s:AM} {σ:St} {H:Hp} {x:Str} {u:Value} {pos:Pos} {Q:Value->AM->Prop} (I:Inv X pins σ H s) (hg:Gl X x) (hm:X.mg x=none) (hv:AaN x=some u) (h:Q u s)
 (hn:x≠"__name__":=by decide) (hd:(x==("__debug__":Str))=false:=by decide):wpAny (model X.prog X.w) X.A (eval (.Name x pos) X.env) Q E s:=by
 obtain⟨mb,h1,h2⟩:=I.mod.blt
 exact Calls.Name_function_global I.ok.kind hg (Calls.loadGlobal_builtin (by rw [I.ok.glob];exact I.mod.glob.keeps I.bk) hm (by rw [I.ok.blt];exact h1.keeps I.bk) ((h2 x hn).trans hv) h) hd
theorem z8 {x:Str} {v:V} {u:Value} {pos:Pos} (hg:Gl X x) (hm:X.mg x=some u) (r:RelV v u) (hd:(x==("__debug__":Str))=false:=by decide):PE X (.Name x pos) (tC v):=
 fun _ _ _ H _ I h=>xC I hg hm ⟨v,H,I,r,h⟩ hd
theorem nr {x:Str} {v:V} {u:Value} {pos:Pos} (hg:Gl X x) (hm:X.mg x=none) (hv:AaN x=some u) (r:RelV v u) (hn:x≠"__name__":=by decide) (hd:(x==("__debug__":Str))=false:=by decide):PE X (.Name x pos) (tC v):=
 fun _ _ _ H _ I h=>vq I hg hm hv ⟨v,H,I,r,h⟩ hn hd
variable {a b:Expr} {ta tb:TE} {pos:Pos}
def PC (X:Cx) (op:CmpOp) (a b:Expr) (t:TE):Prop:=
 ∀(pins:List (Addr × Obj)) (s:AM) (σ:St) (H:Hp) (Q:VK),Inv X pins σ H s->t σ H Q->
  wpAny (model X.prog X.w) X.A (eval a X.env) (fun v s₁=>wpAny (model X.prog X.w) X.A (eval b X.env) (fun u s₂=>wpAny (model X.prog X.w) X.A (NH op v u) (EP X pins σ Q) X.xe s₂) X.xe s₁) X.xe s
def tB (t:TE):TT:=fun σ H Q=>t σ H fun x H1=>∃c,x=.bl c/\Q c H1
theorem El {op:CmpOp} {t:TE} (h:PC X op a b t) (h1:Aa1 op b=false:=by first|exact aau _ (by decide) (by decide)|rfl):PT X (.Compare a [op] [b] pos) (tB t):=by
 intro pins s σ H Q I hw
 refine wpAny_isTrue_Compare1 (dE (h pins s σ H _ I hw) fun v s1 h1=>dE h1 fun u s2 h2=>dE h2 fun c s3 ⟨x,H1,I1,r1,q1⟩=>?_) h1
 obtain⟨d,rfl,q⟩:=q1
 cases r1
 exact Pf ⟨H1,I1,q⟩
variable {tA tB':TT} {rest:List Expr}
def abT (t u:TT):TT:=fun σ H Q=>t σ H fun c H1=>if c=true then u σ H1 Q else Q false H1
def tOr (t u:TT):TT:=fun σ H Q=>t σ H fun c H1=>if c=true then Q true H1 else u σ H1 Q
def acg (t:TT):TT:=fun σ H Q=>t σ H fun c H1=>Q (!c) H1
theorem p4 (ha:PT X a tA):PW X (.BoolOp .And [a] pos) tA:=by
 intro wh pins s σ H Q I h
 refine isTrue_and (dE (ha pins s σ H Q I h) fun c s1 e=>?_)
 cases c with
 |true=>exact isTrue_and_nil e
 |false=>exact e
theorem BL (ha:PT X a tA):PW X (.BoolOp .Or [a] pos) tA:=by
 intro wh pins s σ H Q I h
 refine isTrue_or (dE (ha pins s σ H Q I h) fun c s1 e=>?_)
 cases c with
 |false=>exact isTrue_or_nil e
 |true=>exact e
theorem vm (ha:PT X a tA) (hb:PW X (.BoolOp .And (b::rest) pos) tB'):PW X (.BoolOp .And (a::b::rest) pos) (abT tA tB'):=by
 intro wh pins s σ H Q I h
 refine isTrue_and (dE (ha pins s σ H _ I h) fun c s1 ⟨H1,I1,q1⟩=>?_)
 cases c with
 |true=>exact hb wh pins s1 σ H1 Q I1 q1
 |false=>exact⟨H1,I1,q1⟩
theorem Am (ha:PT X a tA) (hb:PW X (.BoolOp .Or (b::rest) pos) tB'):PW X (.BoolOp .Or (a::b::rest) pos) (tOr tA tB'):=by
 intro wh pins s σ H Q I h
 refine isTrue_or (dE (ha pins s σ H _ I h) fun c s1 ⟨H1,I1,q1⟩=>?_)
 cases c with
 |true=>exact⟨H1,I1,q1⟩
 |false=>exact hb wh pins s1 σ H1 Q I1 q1
theorem iu (ha:PT X a tA):PT X (.UnaryOp .Not a pos) (acg tA):=by
 intro pins s σ H Q I h
 exact isTrue_not (ha pins s σ H (fun c H1=>Q (!c) H1) I h)
def VB (ta tb:TE):TE:=fun σ H Q=>ta σ H fun x H1=>∃c,x=.bl c/\if c=true then tb σ H1 Q else Q (.bl false) H1
def aaK (ta tb:TE):TE:=fun σ H Q=>ta σ H fun x H1=>∃c,x=.bl c/\if c=true then Q (.bl true) H1 else tb σ H1 Q
def Vu (ta:TE):TE:=fun σ H Q=>ta σ H fun x H1=>∃c,x=.bl c/\Q (.bl (!c)) H1
theorem E8 {op} {t:TE} (h:PE X a t):PE X (.BoolOp op [a] pos) t:=fun pins s σ H Q I hw=>BoolOp_one (h pins s σ H Q I hw)
theorem Hr (ha:PE X a ta) (hb:PE X (.BoolOp .And (b::rest) pos) tb):PE X (.BoolOp .And (a::b::rest) pos) (VB ta tb):=by
 intro pins s σ H Q I h
 refine BoolOp_and (dE (ha pins s σ H _ I h) fun v s1 ⟨x,H1,I1,r1,q1⟩=>?_)
 obtain⟨c,rfl,q1⟩:=q1
 cases r1
 refine Pf ?_
 cases c with
 |true=>exact hb pins s1 σ H1 Q I1 q1
 |false=>exact⟨.bl false,H1,I1,rfl,q1⟩
theorem acG (ha:PE X a ta) (hb:PE X (.BoolOp .Or (b::rest) pos) tb):PE X (.BoolOp .Or (a::b::rest) pos) (aaK ta tb):=by
 intro pins s σ H Q I h
 refine BoolOp_or (dE (ha pins s σ H _ I h) fun v s1 ⟨x,H1,I1,r1,q1⟩=>?_)
 obtain⟨c,rfl,q1⟩:=q1
 cases r1
 refine Pf ?_
 cases c with
 |false=>exact hb pins s1 σ H1 Q I1 q1
 |true=>exact⟨.bl true,H1,I1,rfl,q1⟩
theorem Qm (ha:PE X a ta):PE X (.UnaryOp .Not a pos) (Vu ta):=by
 intro pins s σ H Q I h
 refine UnaryOp_ (dE (ha pins s σ H _ I h) fun v s1 ⟨x,H1,I1,r1,q1⟩=>?_)
 obtain⟨c,rfl,q1⟩:=q1
 cases r1
 exact not_of (Pf ⟨.bl (!c),H1,I1,rfl,q1⟩)
def tIf (t:TT) (ta tb:TE):TE:=fun σ H Q=>t σ H fun c H1=>if c=true then ta σ H1 Q else tb σ H1 Q
theorem Bm {c:Expr} (hc:PT X c tA) (ha:PE X a ta) (hb:PE X b tb):PE X (.IfExp c a b pos) (tIf tA ta tb):=by
 intro pins s σ H Q I h
 refine wpAny_IfExp (dE (hc pins s σ H _ I h) fun d s1 ⟨H1,I1,q1⟩=>?_)
 cases d with
 |true=>exact ha pins s1 σ H1 Q I1 q1
 |false=>exact hb pins s1 σ H1 Q I1 q1
end
def iN (K:At) (H:Hp) (a:Addr) (xs:List V):Prop:=
 Rd H a (.lst xs)\/
  ∃(o:Obj) (bh:Array Value) (n:Nat),K.lookup a=some o/\o.cls=.type "list"/\o.dict=none/\o.data=.seq bh n/\bh.size<=Ev/\Vals xs bh.toList
def zQ (K:At) (H:Hp) (a:Addr) (xs:List V):Prop:=
 Rd H a (.tup xs)\/
  ∃(o:Obj) (bh:Array Value) (n:Nat),K.lookup a=some o/\o.cls=.type "tuple"/\o.data=.seq bh n/\bh.size<=Ev/\Vals xs bh.toList
def af3:Value->Option V
 | .none=>some .a9
 | .bool b=>some (.bl b)
 | .int i _=>some (.int i)
 | .str x _=>some (.str x)
 | .bytes b _=>some (.KJ b)
 | .float b _=>some (.XC b)
 | .ref a=>some (.ref a)
 | .type n=>some (.ty n)
 |_=>none
theorem RelV.abs {x:V} {u:Value} (r:RelV x u):af3 u=some x:=by
 cases x with
 |a9=>cases r;rfl
 |bl _=>cases r;rfl
 |int _=>obtain⟨t,rfl⟩:=r;rfl
 |str _=>obtain⟨t,rfl⟩:=r;rfl
 |KJ _=>obtain⟨t,rfl⟩:=r;rfl
 |XC _=>obtain⟨t,rfl⟩:=r;rfl
 |ref _=>cases r;rfl
 |ty _=>cases r;rfl
theorem RelV.inj {x y:V} {u:Value} (r:RelV x u) (q:RelV y u):x=y:=CC (r.abs.symm.trans q.abs)
theorem Vals.inj:∀{xs ys:List V} {us:List Value},Vals xs us->Vals ys us->xs=ys
 |_,_,_,.nil,.nil=>rfl
 |_,_,_,.cons r t,.cons r' t'=>by rw [r.inj r',Vals.inj t t']
section
variable {X:Cx} {pins:List (Addr × Obj)} {σ:St} {H:Hp} {s:AM} {a:Addr} {xs ys:List V}
theorem iN.of {K:At} (h:H a=some (.lst xs)):iN K H a xs:=.inl (.inl h)
theorem zQ.of {K:At} (h:H a=some (.tup xs)):zQ K H a xs:=.inl (.inl h)
theorem Inv.list (I:Inv X pins σ H s) (h:iN X.K H a xs):∃bh:List Value,Vals xs bh/\PlainL s.heap a bh.toArray/\xs.length<=Ev:=by
 rcases h with h|⟨o,bh,n,hk,hc,hd,hs,hz,r⟩
 . obtain⟨z,bh,n,r,e⟩:=h.ok I.bE
   exact⟨bh,r,⟨_,n,e,rfl,rfl,rfl⟩,z⟩
 . refine⟨bh.toList,r,⟨o,n,I.vX a o hk,hc,hd,by simpa using hs⟩,?_⟩
   have e:=r.length
   simp only [Aa6] at e
   omega
theorem Inv.tuple (I:Inv X pins σ H s) (h:zQ X.K H a xs):∃bh:List Value,Vals xs bh/\IsTup s.heap a bh.toArray/\xs.length<=Ev:=by
 rcases h with h|⟨o,bh,n,hk,hc,hs,hz,r⟩
 . obtain⟨z,bh,r,p⟩:=h.ok I.bE
   exact⟨bh,r,p,z⟩
 . refine⟨bh.toList,r,⟨o,I.vX a o hk,hc,n,by simpa using hs⟩,?_⟩
   have e:=r.length
   simp only [Aa6] at e
   omega
theorem Inv.Ft (I:Inv X pins σ H s) (h:iN X.K H a xs) (h':iN X.K H a ys):xs=ys:=by
 obtain⟨bh,r,⟨o,n,e,_,_,d⟩,_⟩:=I.list h
 obtain⟨its',r',⟨o',n',e',_,_,d'⟩,_⟩:=I.list h'
 rw [e] at e';cases e'
 rw [d] at d'
 injection d' with d1 _
 have:bh=its':=by simpa using congrArg Array.toList d1
 subst this
 exact r.inj r'
theorem Inv.LZ (I:Inv X pins σ H s) (h:zQ X.K H a xs) (h':zQ X.K H a ys):xs=ys:=by
 obtain⟨bh,r,⟨o,e,_,n,d⟩,_⟩:=I.tuple h
 obtain⟨its',r',⟨o',e',_,n',d'⟩,_⟩:=I.tuple h'
 rw [e] at e';cases e'
 rw [d] at d'
 injection d' with d1 _
 have:bh=its':=by simpa using congrArg Array.toList d1
 subst this
 exact r.inj r'
end
abbrev Cx.Cy (X:Cx) (E:Value->AM->Prop):Cx:={X with xe:=E}
abbrev Cx.nox (X:Cx):Cx:=X.Cy fun _ _=>False
theorem Cx.Ok.Cy {X:Cx} (ok:X.Ok) (E:Value->AM->Prop):(X.Cy E).Ok:=
 ⟨ok.mod,ok.kind,ok.glob,ok.blt,ok.above,ok.inj,ok.has,ok.ZE,ok.hd,ok.frames,ok.stk,ok.exf,ok.bs,ok.Nb,ok.KQ,ok.Mb,ok.xJ,ok.Uc⟩
theorem Cx.Ok.rW {X:Cx} {E:Value->AM->Prop} (ok:(X.Cy E).Ok):X.Ok:=
 ⟨ok.mod,ok.kind,ok.glob,ok.blt,ok.above,ok.inj,ok.has,ok.ZE,ok.hd,ok.frames,ok.stk,ok.exf,ok.bs,ok.Nb,ok.KQ,ok.Mb,ok.xJ,ok.Uc⟩
section
variable {X:Cx} {pins:List (Addr × Obj)} {σ:St} {H:Hp} {s:AM} {E:Value->AM->Prop}
theorem Inv.Cy (I:Inv X pins σ H s) (E:Value->AM->Prop):Inv (X.Cy E) pins σ H s:=⟨I.ok.Cy E,I.os,I.bare,I.base,I.loc,I.cell,I.free,I.ni,I.pin,I.bE,I.len⟩
theorem Inv.rW (I:Inv (X.Cy E) pins σ H s):Inv X pins σ H s:=⟨I.ok.rW,I.os,I.bare,I.base,I.loc,I.cell,I.free,I.ni,I.pin,I.bE,I.len⟩
theorem SP.rW {D:Ends} {f:Flow} {s':AM} (h:SP (X.Cy E) pins D f s'):SP X pins D f s':=by
 cases f with
 |next=>obtain⟨σ',H',I,q⟩:=h;exact⟨σ',H',I.rW,q⟩
 |brk=>obtain⟨σ',H',I,q⟩:=h;exact⟨σ',H',I.rW,q⟩
 |cont=>obtain⟨σ',H',I,q⟩:=h;exact⟨σ',H',I.rW,q⟩
 |ret u=>obtain⟨v,σ',H',I,r,q⟩:=h;exact⟨v,σ',H',I.rW,r,q⟩
theorem HV.nox {st:List Stmt} {t:TS} (h:HV X.nox st t):HV X st t:=fun pins s σ H D I hw=>
 NO (h pins s σ H D (I.Cy _) hw) (fun _ _ q=>q.rW) fun _ _ z=>Po z
end
section
variable {X:Cx} {st:Stmt} {rest:List Stmt} {t u:TS} {e:Expr} {te:TE} {pos:Pos}
def QO:TS:=fun D σ H=>D.nx σ H
theorem aN:HV X [] QO:=fun _ _ σ H _ I h=>Aa7 ⟨σ,H,I,h⟩
theorem ah (h1:PS X st t):HV X [st] t:=by
 intro pins s σ H D I h
 refine wpAny_execs_cons (dE (h1 pins s σ H D I h) fun f s1 q=>?_)
 cases f with
 |next=>exact Aa7 q
 |ret v=>exact q
 |brk=>exact q
 |cont=>exact q
theorem KN:PS X (.Pass pos) QO:=fun _ _ σ H _ I h=>wpAny_Pass ⟨σ,H,I,h⟩
theorem Inv.quiet {pins:List (Addr × Obj)} {σ:St} {H:Hp} {s:AM} (I:Inv X pins σ H s):interactive X.env=false:=by simp [interactive,I.ok.kind]
def Vh (te:TE):TS:=fun D σ H=>te σ H fun _ H1=>D.nx σ H1
theorem aI (he:PE X e te) (hs:swapsWith e none pos.line X.env=pure false:=by rfl):PS X (.Expr e pos) (Vh te):=by
 intro pins s σ H D I h
 exact wpAny_Expr_any (dE (he pins s σ H _ I h) fun v s1 ⟨x,H1,I1,r1,q1⟩=>⟨σ,H1,I1,q1⟩) I.quiet hs
def aaU (te:TE):TS:=fun D σ H=>te σ H D.rt
theorem aF (he:PE X e te):PS X (.Return (some e) pos) (aaU te):=by
 intro pins s σ H D I h
 exact wpAny_Return_some (dE (he pins s σ H _ I h) fun v s1 ⟨x,H1,I1,r1,q1⟩=>⟨x,σ,H1,I1,r1,q1⟩)
def aaL (c:TT) (t u:TS):TS:=fun D σ H=>c σ H fun b H1=>if b=true then t D σ H1 else u D σ H1
theorem bC {c:Expr} {a b:List Stmt} {tc:TT} (hc:PT X c tc) (ha:HV X a t) (hb:HV X b u):PS X (.If c a b pos) (aaL tc t u):=by
 intro pins s σ H D I h
 refine wpAny_If (dE (hc pins s σ H _ I h) fun d s1 ⟨H1,I1,q1⟩=>?_)
 cases d with
 |true=>exact ha pins s1 σ H1 D I1 q1
 |false=>exact hb pins s1 σ H1 D I1 q1
def Xe:TS:=fun _ _ _=>False
theorem fu:PS X st Xe:=fun _ _ _ _ _ _ h=>h.elim
end
abbrev TG:=V->St->Hp->(St->Hp->Prop)->Prop
abbrev Oj:=List V->St->Hp->(St->Hp->Prop)->Prop
def PG (X:Cx) (target:Expr) (t:TG):Prop:=
 ∀(pins:List (Addr × Obj)) (s:AM) (σ:St) (H:Hp) (v:V) (u:Value) (Q:St->Hp->Prop),Inv X pins σ H s->RelV v u->t v σ H Q->
  wpAny (model X.prog X.w) X.A (assign target X.env u) (fun _ s'=>∃σ' H',Inv X pins σ' H' s'/\Q σ' H') X.xe s
def PGs (X:Cx) (ts:List Expr) (t:Oj):Prop:=
 ∀(pins:List (Addr × Obj)) (s:AM) (σ:St) (H:Hp) (vs:List V) (us:List Value) (Q:St->Hp->Prop),Inv X pins σ H s->Vals vs us->t vs σ H Q->
  wpAny (model X.prog X.w) X.A (assignInOrder ((AaD ts X.env).map (·.2)) us) (fun _ s'=>∃σ' H',Inv X pins σ' H' s'/\Q σ' H') X.xe s
section
variable {X:Cx} {pos:Pos}
def ml (i:Nat):TG:=fun v σ H Q=>Q (σ.set i (some v)) H
theorem cf {i:Nat} {x:Str} (hN:X.N.Nodup) (hi:X.N[i]? =some x) (hx:Loc X.env.scope x) (hf:X.fn x=true\/X.env.scope.names.lookup x=some .local:=by first|exact .inl rfl|exact .inr rfl|assumption):PG X (.Name x pos) (ml i):=by
 intro pins s σ H v u Q I r h
 exact wpAny_assign_Name (Gy I hN hi hx r (fun s' I'=>⟨_,H,I',h⟩) hf)
def LJ:Oj:=fun vs σ H Q=>vs=[]/\Q σ H
def u6 (t:TG) (u:Oj):Oj:=fun vs σ H Q=>∃v r,vs=v::r/\t v σ H fun σ' H'=>u r σ' H' Q
theorem xK:PGs X [] LJ:=by
 intro pins s σ H vs us Q I r h
 obtain⟨e,h⟩:=h
 subst e
 cases r
 exact assignInOrder_nil ⟨σ,H,I,h⟩
theorem gY {e:Expr} {es:List Expr} {t:TG} {u:Oj} (h1:PG X e t) (h2:PGs X es u)
 (hs:(AaD (e::es) X.env).map (·.2)=assign e X.env::(AaD es X.env).map (·.2):=by rfl):PGs X (e::es) (u6 t u):=by
 intro pins s σ H vs us Q I r h
 obtain⟨v,vr,e1,h⟩:=h
 subst e1
 cases r with
 |cons r rr=>
  rw [hs]
  refine assignInOrder_cons (dE (h1 pins s σ H _ _ _ I r h) fun _ s1 ⟨σ1,H1,I1,q1⟩=>?_)
  exact h2 pins s1 σ1 H1 _ _ Q I1 rr q1
def Jp (K:At) (n:Nat) (t:Oj):TG:=fun v σ H Q=>∃a xs,v=.ref a/\zQ K H a xs/\xs.length=n/\t xs σ H Q
theorem EJ {es:List Expr} {k:Nat} {t:Oj} {n:Nat} (hc:X.calm=true) (h:PGs X es t)
 (hn:(AaD es X.env).length=n:=by rfl) (se:(AaD es X.env).findIdx? (·.1)=none:=by rfl):PG X (.Tuple es k pos) (Jp X.K n t):=by
 intro pins s σ H v u Q I r hw
 obtain⟨a,xs,e1,hq,hl,hw⟩:=hw
 subst e1
 cases r
 obtain⟨bh,rv,ht,hz⟩:=I.tuple hq
 refine assign_Tuple_tuple (I.ok.hd hc) ht (by simp [hn,<-hl,rv.length]) se fun h' hx=>?_
 have I1:Inv X pins σ H {s with heap:=h'}:=I.kept (t':=s.toks) fun b o e=>hx b o (ES (Db e)) e
 exact h pins _ σ H xs _ Q I1 (by simpa using rv) hw
def N8 (te:TE) (g:TG):TS:=fun D σ H=>te σ H fun x H1=>g x σ H1 D.nx
theorem Xx {tg e:Expr} {te:TE} {g:TG} (he:PE X e te) (hg:PG X tg g) (hs:swapsWithSole [tg] e pos.line X.env=pure false:=by rfl) (hw:swappedStores [tg] e X.env=pure none:=by rfl)
 (h1:(AaD [tg] X.env).map (·.2)=[assign tg X.env]:=by rfl):PS X (.Assign [tg] e pos) (N8 te g):=by
 intro pins s σ H D I h
 refine wpAny_Assign_stores (dE (he pins s σ H _ I h) fun v s1 ⟨x,H1,I1,r1,q1⟩=>?_) hs hw
 rw [h1]
 exact dE (hg pins s1 σ H1 x v _ I1 r1 q1) fun _ s2 q=>q
theorem aE {i:Nat} {x:Str} {e:Expr} {te:TE} {pos':Pos} (hN:X.N.Nodup) (hi:X.N[i]? =some x) (hx:Loc X.env.scope x) (he:PE X e te) (hs:swapsWith e (some (.Name x pos')) pos.line X.env=pure false:=by rfl) (hf:X.fn x=true\/X.env.scope.names.lookup x=some .local:=by first|exact .inl rfl|exact .inr rfl|assumption):
 PS X (.Assign [.Name x pos'] e pos) (N8 te (ml i)):=by
 intro pins s σ H D I h
 refine wpAny_Assign_Name (dE (he pins s σ H _ I h) fun v s1 ⟨y,H1,I1,r1,q1⟩=>?_) hs
 exact Gy I1 hN hi hx r1 (fun s2 I2=>⟨_,H1,I2,q1⟩) hf
end
section
variable {X:Cx} {pos:Pos}
def Qs (c:TT) (tb:TS):TS:=fun D σ H=>∃W:Nat->St->Hp->Prop,(∃m,W m σ H)/\∀m σ H,W m σ H->
 c σ H fun b H1=>if b=true then ∃N:St->Hp->Prop,(∀σ' H',N σ' H'->∃m',m'<m/\W m' σ' H')/\tb {D with nx:=N,ct:=N,bk:=D.nx} σ H1 else D.nx σ H1
theorem sg {c:Expr} {body:List Stmt} {tc:TT} {tb:TS} (hp:PassesOwn (model X.prog X.w) X.A X.env X.xe) (hc:PT X c tc) (hb:HV X body tb):PS X (.While c body [] pos) (Qs tc tb):=by
 intro pins s σ H D I h
 obtain⟨W,⟨m0,w0⟩,turn⟩:=h
 refine wpAny_While (codeAny_whileLoop (fun n s'=>∃σ' H',Inv X pins σ' H' s'/\W n σ' H') ?_ m0 ⟨σ,H,I,w0⟩)
 rintro n s1 ⟨σ1,H1,I1,w1⟩
 refine SZ hp (dE (hc pins s1 σ1 H1 _ I1 (turn n σ1 H1 w1)) fun b s2 ⟨H2,I2,q2⟩=>?_)
 cases b with
 |true=>
  obtain⟨N,hN,q2⟩:=q2
  rw [if_pos rfl]
  refine SZ hp (dE (hb pins s2 σ1 H2 _ I2 q2) fun f s3 q3=>?_)
  cases f with
  |next=>
   obtain⟨σ3,H3,I3,n3⟩:=q3
   obtain⟨m',hm,w3⟩:=hN σ3 H3 n3
   exact⟨m',hm,σ3,H3,I3,w3⟩
  |cont=>
   obtain⟨σ3,H3,I3,n3⟩:=q3
   obtain⟨m',hm,w3⟩:=hN σ3 H3 n3
   exact⟨m',hm,σ3,H3,I3,w3⟩
  |brk=>exact q3
  |ret v=>exact q3
 |false=>
  rw [if_neg FB]
  exact Aa7 ⟨σ1,H2,I2,q2⟩
end
structure It where
 go:Nat->Hp->Prop
 Rm:Nat->Hp->V->Hp->Prop
 stop:Nat->Hp->Prop
def jd (X:Cx) (pins:List (Addr × Obj)) (H:Hp) (b:Addr):Prop:=
 H b=none/\b≠X.env.locals/\b∉X.fs/\(b∈X.ex\/X.jm.heap.objs.size<=b)/\(∀x c,X.env.cells.lookup x=some c->c≠b)/\∀p∈X.pn++pins,p.1≠b
theorem Inv.zI {X:Cx} {pins:List (Addr × Obj)} {σ:St} {H H':Hp} {s:AM} {b:Addr} (I:Inv X pins σ H s) (hb:s.heap.objs.size<=b) (hn:H' b=none):jd X pins H' b:=by
 refine⟨hn,Nat.ne_of_gt (DD I.lt hb),I.aec hb,.inr (Me I.sz hb),fun x c e z=>?_,fun p hp z=>?_⟩
 . obtain⟨v,q⟩:=I.cell x c e
   exact absurd (DD q.lt (by rw [z];exact hb)) (OF _)
 . exact absurd (DD (Db (I.pin p hp).1) (by rw [z];exact hb)) (OF _)
structure Turn (P:Fa) (w:World) (K:At) (tg:Expr) (J:It) (fp:List Addr) (it:Addr) (tn:Nat->Heap->Prop):Prop where
 mem:it∈fp
 obj:∀i h,tn i h->∀b∈fp,∃o,h.get? b=some o/\∀v,o.data≠.cell v
 keep:∀i h h',tn i h->(∀b∈fp,∀o,h.get? b=some o->h'.get? b=some o)->tn i h'
 item:∀(X:Cx),X.prog=P->X.w=w->X.K=K->X.calm=true->∀(i:Nat) (pins:List (Addr × Obj)) (s:AM) (σ:St) (H:Hp) (E:Value->AM->Prop),Inv X pins σ H s->(∀b∈fp,jd X pins H b)->tn i s.heap->J.go i H->
  wpAny (model P w) X.A (pyNext (.ref it)) (fun r s1=>∃u,r=some u/\
   wpAny (model P w) X.A (Aa8 tg (.ref it) u) (fun _ s2=>∃x H',Inv X pins σ H' s2/\RelV x u/\J.Rm i H x H'/\tn (i+1) s2.heap/\∀b∈fp,H' b=none) E s1) E s
 done:∀(X:Cx),X.prog=P->X.w=w->X.K=K->X.calm=true->∀(i:Nat) (pins:List (Addr × Obj)) (s:AM) (σ:St) (H:Hp) (E:Value->AM->Prop),Inv X pins σ H s->(∀b∈fp,jd X pins H b)->tn i s.heap->J.stop i H->
  wpAny (model P w) X.A (pyNext (.ref it)) (fun r s1=>r=none/\Inv X pins σ H s1) E s
 self:∀(A:IF) (i:Nat) (s:AM) (Q:Value->AM->Prop) (E:Value->AM->Prop),tn i s.heap->Q (.ref it) s->wpAny (model P w) A (pyIter (.ref it)) Q E s
abbrev TI:=St->Hp->(It->Hp->Prop)->Prop
def PIE (X:Cx) (pins:List (Addr × Obj)) (σ:St) (tg:Expr) (R:It->Hp->Prop) (itv:Value) (s2:AM):Prop:=
 ∃(it:Addr) (fp:List Addr) (tn:Nat->Heap->Prop) (J:It) (H':Hp),itv=.ref it/\Inv X pins σ H' s2/\Turn X.prog X.w X.K tg J fp it tn/\tn 0 s2.heap/\(∀b∈fp,jd X pins H' b)/\R J H'
def PI (X:Cx) (tg iter:Expr) (wi:TI):Prop:=
 ∀(pins:List (Addr × Obj)) (s:AM) (σ:St) (H:Hp) (R:It->Hp->Prop),Inv X pins σ H s->wi σ H R->
  wpAny (model X.prog X.w) X.A (eval iter X.env) (fun v s1=>wpAny (model X.prog X.w) X.A (pyIter v) (PIE X pins σ tg R) X.xe s1) X.xe s
theorem Qo {M:Model} {A:IF} {E:Value->AM->Prop} {s:AM} {tg:Expr} {it:Addr} {u:Value} {o:Obj} {n:String} {vs:Array Value} {Q:Unit->AM->Prop} (ho:s.heap.get? it=some o) (hc:o.cls=.type n) (hd:o.data=.fields vs)
 (hn:["enumerate","zip","dict_itemiterator","dict_reverseitemiterator","odict_iterator","itertools.zip_longest","itertools.pairwise"].contains n=false) (hQ:Q () s):wpAny M A (Aa8 tg (.ref it) u) Q E s:=by
 unfold Aa8
 cases tg <;>first
  |exact FM hQ
  |(cases u <;>first
   |exact FM hQ
   |(refine BC (wpAny_load ho ?_)
     rw [hc,hd]
     show wpAny M A (if (["enumerate","zip","dict_itemiterator","dict_reverseitemiterator","odict_iterator","itertools.zip_longest","itertools.pairwise"].contains n&&vs[0]? ==some (rawInt _))=true then _ else _) Q E s
     rw [if_neg (by intro h;rw [hn,Bool.false_and] at h;cases h)]
     exact FM hQ))
def QD (K:At) (a:Addr):It:=
 ⟨fun i H=>∃xs x,iN K H a xs/\xs[i]? =some x,fun i H x H'=>H'=H/\∀xs,iN K H a xs->xs[i]? =some x,fun i H=>∃xs,iN K H a xs/\xs.length<=i⟩
def U3 (K:At) (a:Addr):It:=
 ⟨fun i H=>∃xs x,zQ K H a xs/\xs[i]? =some x,fun i H x H'=>H'=H/\∀xs,zQ K H a xs->xs[i]? =some x,fun i H=>∃xs,zQ K H a xs/\xs.length<=i⟩
def SW (lo:Int) (n:Nat):It:=⟨fun i _=>i<n,fun i H x H'=>H'=H/\x=.int (lo+i),fun i _=>n<=i⟩
theorem Lk {P:Fa} {w:World} {K:At} {tg:Expr} (a it:Addr):Turn P w K tg (QD K a) [it] it (fun i h=>h.IsListIter it a i) where
 mem:=by simp
 obj:=fun i h st b hb=>by
  have e:b=it:=by simpa using hb
  subst e
  obtain⟨o,e,c,d⟩:=st
  exact⟨o,e,fun v z=>by rw [d] at z;cases z⟩
 keep:=fun i h h' st k=>st.at fun o e=>k it (by simp) o e
 item:=by
  intro X hP hw hK hc i pins s σ H E I hf st hg
  subst hP hw hK
  obtain⟨xs,x,hq,hx⟩:=hg
  obtain⟨bh,rv,p,hz⟩:=I.list hq
  obtain⟨u,hu,ru⟩:=rv.get hx
  obtain⟨f0,f1,f2,f3,f4,f5⟩:=hf it (by simp)
  refine wpAny_pyNext_list_item st p.isList (x:=u) (by simpa using hu) fun h' uJ sb=>?_
  have I1:Inv X pins σ H {s with heap:=h'}:=I.turned (t':=s.toks) (fun b o hb e=>(sb.2 b hb).trans e) f0 f1 f3 f4 f5
  obtain⟨o,e,c,d⟩:=id uJ
  exact⟨u,rfl,Qo (s:={s with heap:=h'}) e c d (by decide) ⟨x,H,I1,ru,⟨rfl,fun ys hy=>by rw [I.Ft hy hq];exact hx⟩,uJ,fun b hb=>(hf b hb).1⟩⟩
 done:=by
  intro X hP hw hK hc i pins s σ H E I hf st hg
  subst hP hw hK
  obtain⟨xs,hq,hx⟩:=hg
  obtain⟨bh,rv,p,hz⟩:=I.list hq
  obtain⟨f0,f1,f2,f3,f4,f5⟩:=hf it (by simp)
  have hl:=rv.length
  exact wpAny_pyNext_list_end (I.ok.hd hc) st p.isList (by simp;omega) fun h' eb=>⟨rfl,I.turned (t':=s.toks) (fun b o hb e=>eb b o hb e) f0 f1 f3 f4 f5⟩
 self:=fun _ _ _ _ _ st h=>wpAny_pyIter_listiter st h
theorem Jq {P:Fa} {w:World} {K:At} {tg:Expr} (a it:Addr):Turn P w K tg (U3 K a) [it] it (fun i h=>h.IsTupleIter it a i) where
 mem:=by simp
 obj:=fun i h st b hb=>by
  have e:b=it:=by simpa using hb
  subst e
  obtain⟨o,e,c,d⟩:=st
  exact⟨o,e,fun v z=>by rw [d] at z;cases z⟩
 keep:=fun i h h' st k=>st.at fun o e=>k it (by simp) o e
 item:=by
  intro X hP hw hK hc i pins s σ H E I hf st hg
  subst hP hw hK
  obtain⟨xs,x,hq,hx⟩:=hg
  obtain⟨bh,rv,p,hz⟩:=I.tuple hq
  obtain⟨u,hu,ru⟩:=rv.get hx
  obtain⟨f0,f1,f2,f3,f4,f5⟩:=hf it (by simp)
  refine wpAny_pyNext_tuple_item st (show s.heap.IsTuple a bh.toArray from p) (x:=u) (by simpa using hu) fun h' uJ sb=>?_
  have I1:Inv X pins σ H {s with heap:=h'}:=I.turned (t':=s.toks) (fun b o hb e=>(sb.2 b hb).trans e) f0 f1 f3 f4 f5
  obtain⟨o,e,c,d⟩:=id uJ
  exact⟨u,rfl,Qo (s:={s with heap:=h'}) e c d (by decide) ⟨x,H,I1,ru,⟨rfl,fun ys hy=>by rw [I.LZ hy hq];exact hx⟩,uJ,fun b hb=>(hf b hb).1⟩⟩
 done:=by
  intro X hP hw hK hc i pins s σ H E I hf st hg
  subst hP hw hK
  obtain⟨xs,hq,hx⟩:=hg
  obtain⟨bh,rv,p,hz⟩:=I.tuple hq
  obtain⟨f0,f1,f2,f3,f4,f5⟩:=hf it (by simp)
  have hl:=rv.length
  exact wpAny_pyNext_tuple_end (I.ok.hd hc) st (show s.heap.IsTuple a bh.toArray from p) (by simp;omega) fun h' eb=>⟨rfl,I.turned (t':=s.toks) (fun b o hb e=>eb b o hb e) f0 f1 f3 f4 f5⟩
 self:=fun _ _ _ _ _ st h=>wpAny_pyIter_tupleiter st h
theorem Hu {P:Fa} {w:World} {K:At} {tg:Expr} (it:Addr) (lo:Int) (n:Nat):Turn P w K tg (SW lo n) [it] it (fun i h=>IsRangeIter h it (lo+(i:Nat)*1) ((n:Int) - (i:Nat)) 1) where
 mem:=by simp
 obj:=fun i h st b hb=>by
  have e:b=it:=by simpa using hb
  subst e
  exact⟨_,st,fun v z=>by
   have z':Data.fields _=Data.cell v:=z
   cases z'⟩
 keep:=fun i h h' st k=>k it (by simp) _ st
 item:=by
  intro X hP hw hK hc i pins s σ H E I hf st hg
  subst hP hw hK
  obtain⟨f0,f1,f2,f3,f4,f5⟩:=hf it (by simp)
  have W:=Walks.range (prog:=X.prog) (w:=X.w) (I.ok.hd hc) it lo 1 n
  refine W.item i s _ _ hg st fun v h' tk hv uJ kk=>?_
  obtain⟨t,rfl⟩:=hv
  have I1:Inv X pins σ H {s with heap:=h',toks:=tk}:=I.turned (fun b o hb e=>kk b o (by simpa using hb) e) f0 f1 f3 f4 f5
  refine⟨_,rfl,Qo (s:={s with heap:=h',toks:=tk}) (n:="range_iterator") uJ rfl rfl (by decide) ⟨.int (lo+i),H,I1,⟨t,?_⟩,⟨rfl,rfl⟩,uJ,fun b hb=>(hf b hb).1⟩⟩
  rw [Int.mul_one]
 done:=by
  intro X hP hw hK hc i pins s σ H E I hf st hg
  subst hP hw hK
  obtain⟨f0,f1,f2,f3,f4,f5⟩:=hf it (by simp)
  exact wpAny_pyNext_range_end (I.ok.hd hc) st (by have:n<=i:=hg;omega) fun h' eb=>⟨rfl,I.turned (t':=s.toks) (fun b o hb e=>eb b o hb e) f0 f1 f3 f4 f5⟩
 self:=fun _ _ _ _ _ st h=>wpAny_pyIter_rangeiter st h
section
variable {X:Cx} {tg:Expr}
def NN (K:At) (tl:TE):TI:=fun σ H R=>tl σ H fun x H1=>∃a,x=.ref a/\(∃xs,iN K H1 a xs)/\R (QD K a) H1
def abQ (K:At) (tl:TE):TI:=fun σ H R=>tl σ H fun x H1=>∃a,x=.ref a/\(∃xs,zQ K H1 a xs)/\R (U3 K a) H1
theorem hV {l:Expr} {tl:TE} (hl:PE X l tl):PI X tg l (NN X.K tl):=by
 intro pins s σ H R I h
 refine dE (hl pins s σ H _ I h) fun v s1 ⟨x,H1,I1,r1,q1⟩=>?_
 obtain⟨a,e,⟨xs,hq⟩,q⟩:=q1
 subst e
 cases r1
 obtain⟨bh,rv,p,hz⟩:=I1.list hq
 refine wpAny_pyIter_list p.isList ?_
 refine⟨s1.heap.objs.size,[s1.heap.objs.size],_,_,H1,rfl,I1.kept (t':=s1.toks) fun b o e=>BS _ e,Lk a _,⟨_,EM _ rfl,rfl,rfl⟩,fun b hb=>?_,q⟩
 have e:b=s1.heap.objs.size:=by simpa using hb
 subst e
 exact I1.zI (BY _) (I1.bE.fresh (BY _))
theorem Y7 {l:Expr} {tl:TE} (hl:PE X l tl):PI X tg l (abQ X.K tl):=by
 intro pins s σ H R I h
 refine dE (hl pins s σ H _ I h) fun v s1 ⟨x,H1,I1,r1,q1⟩=>?_
 obtain⟨a,e,⟨xs,hq⟩,q⟩:=q1
 subst e
 cases r1
 obtain⟨bh,rv,p,hz⟩:=I1.tuple hq
 refine wpAny_pyIter_tuple (show s1.heap.IsTuple a bh.toArray from p) ?_
 refine⟨s1.heap.objs.size,[s1.heap.objs.size],_,_,H1,rfl,I1.kept (t':=s1.toks) fun b o e=>BS _ e,Jq a _,⟨_,EM _ rfl,rfl,rfl⟩,fun b hb=>?_,q⟩
 have e:b=s1.heap.objs.size:=by simpa using hb
 subst e
 exact I1.zI (BY _) (I1.bE.fresh (BY _))
theorem Pm {pins:List (Addr × Obj)} {σ:St} {H:Hp} {s:AM} {R:It->Hp->Prop} {E:Value->AM->Prop} {lo hi:Int} {t u v:Tok} {tk:Nat} (I:Inv X pins σ H s) (h1:-(2^62)<=lo) (h2:lo<2^62) (h3:-(2^62)<=hi) (h4:hi<2^62)
 (q:R (SW lo (hi - lo).toNat) H):wpAny (model X.prog X.w) X.A (pyIter (.ref s.heap.objs.size)) (PIE X pins σ tg R) E {s with heap:=s.heap.push {cls:=.type "range",data:=.fields #[.int lo t,.int hi u,.int 1 v]},toks:=tk}:=by
 refine wpAny_pyIter_range (IsRange.new ..) (small_one h1 h2 h3 h4) ?_
 have I1:Inv X pins σ H {s with heap:=s.heap.push {cls:=.type "range",data:=.fields #[.int lo t,.int hi u,.int 1 v]},toks:=tk}:=I.kept fun b o e=>BS _ e
 refine⟨(s.heap.push {cls:=.type "range",data:=.fields #[.int lo t,.int hi u,.int 1 v]}).objs.size,[(s.heap.push {cls:=.type "range",data:=.fields #[.int lo t,.int hi u,.int 1 v]}).objs.size],_,_,H,rfl,
  I1.kept (t':=tk) fun b o e=>BS _ e,Hu _ lo (hi - lo).toNat,?_,fun b hb=>?_,q⟩
 . have e1:lo+((0:Nat):Int)*1=lo:=by simp
   have e2:(((hi - lo).toNat:Nat):Int) - ((0:Nat):Int)=W1.Range.rangeSize lo hi 1:=by rw [rangeSize_one];split <;>omega
   show IsRangeIter _ _ (lo+((0:Nat):Int)*1) ((((hi - lo).toNat:Nat):Int) - ((0:Nat):Int)) 1
   rw [e1,e2]
   exact EM _ rfl
 . have e:b=(s.heap.push {cls:=.type "range",data:=.fields #[.int lo t,.int hi u,.int 1 v]}).objs.size:=by simpa using hb
   subst e
   exact I1.zI (BY _) (I1.bE.fresh (BY _))
def VF (ta:TA):TI:=fun σ H R=>ta σ H fun vs H1=>∃j:Int,vs=[.int j]/\-(2^62)<=j/\j<2^62/\R (SW 0 j.toNat) H1
theorem L4 {a:Expr} {ta:TA} {p pos:Pos} (hg:Gl X "range") (hm:X.mg "range"=none) (ha:PA X [a] ta) (hs:DO [a] X.env=[(false,eval a X.env)]:=by rfl):PI X tg (.Call (.Name "range" p) [a] [] pos) (VF ta):=by
 intro pins s σ H R I h
 refine Call_ (vq I hg hm boot_range (XV (dE (ha pos pins s σ H _ I h) fun us s1 ⟨vs,H1,I1,r1,q1⟩=>?_) hs rfl))
 obtain⟨j,e,q1,q2,q⟩:=q1
 subst e
 cases r1 with
 |cons r rr=>
  cases rr
  obtain⟨t,rfl⟩:=r
  exact call_range_1 (Pm I1 (by omega) (by omega) q1 q2 (by simpa using q))
def Pg (wi:TI) (g:TG) (tb:TS):TS:=fun D σ H=>wi σ H fun J H1=>∃W:Nat->Nat->St->Hp->Prop,(∃m,W 0 m σ H1)/\∀i m σ H,W i m σ H->
 (J.stop i H/\D.nx σ H)\/(J.go i H/\∃N:St->Hp->Prop,(∀σ' H',N σ' H'->∃m',m'<m/\W (i+1) m' σ' H')/\∀x H',J.Rm i H x H'->g x σ H' fun σ2 H2=>tb {D with nx:=N,ct:=N,bk:=D.nx} σ2 H2)
def A6 (fp:List Addr) (h:Heap):List (Addr × Obj):=fp.filterMap fun b=>(h.get? b).map fun o=>(b,o)
theorem qa {fp:List Addr} {h:Heap} {b:Addr} {o:Obj} (hb:b∈fp) (e:h.get? b=some o):(b,o)∈A6 fp h:=List.mem_filterMap.mpr ⟨b,hb,by rw [e];rfl⟩
theorem Lc {fp:List Addr} {h:Heap} {p:Addr × Obj} (hp:p∈A6 fp h):p.1∈fp/\h.get? p.1=some p.2:=by
 obtain⟨b,hb,e⟩:=List.mem_filterMap.mp hp
 cases q:h.get? b with
 |none=>rw [q] at e;cases e
 |some o=>
  rw [q] at e
  have e':(b,o)=p:=CC e
  subst e'
  exact⟨hb,q⟩
theorem Inv.pinned {pins:List (Addr × Obj)} {σ:St} {H:Hp} {s:AM} {fp:List Addr} (I:Inv X pins σ H s) (hf:∀b∈fp,jd X pins H b) (ho:∀b∈fp,∃o,s.heap.get? b=some o/\∀v,o.data≠.cell v):Inv X (pins++A6 fp s.heap) σ H s:=
 I.t4 fun p hp=>(Cn.mp hp).elim (fun z=>I.pin p (Co _ z)) fun z=>by
  obtain⟨hb,e⟩:=Lc z
  obtain⟨f0,f1,f2,_⟩:=hf p.1 hb
  obtain⟨o,e',d⟩:=ho p.1 hb
  rw [e] at e';cases e'
  exact⟨e,f0,f1,f2,d⟩
theorem Inv.wu {pins pl:List (Addr × Obj)} {σ:St} {H:Hp} {s:AM} (I:Inv X (pins++pl) σ H s):Inv X pins σ H s:=I.t4 fun p hp=>I.pin p (Co _ (EQ _ hp))
theorem mx {iter:Expr} {body:List Stmt} {wi:TI} {g:TG} {tb:TS} {pos:Pos} (hp:PassesOwn (model X.prog X.w) X.A X.env X.xe) (hc:X.calm=true) (hi:PI X tg iter wi) (hg:PG X tg g) (hb:HV X body tb)
 (hs:∀x,Abv iter X.env x=pure x:=by intro _;rfl):PS X (.For tg iter body [] pos) (Pg wi g tb):=by
 intro pins s σ H D I h
 refine wpAny_For (dE (hi pins s σ H _ I h) fun v s1 h1=>dE h1 fun itv s2 h2=>?_) hs
 obtain⟨it,fp,tn,J,H2,e,I2,T,st2,f2,W,⟨m0,w0⟩,turn⟩:=h2
 subst e
 have stat:∀{H':Hp},(∀b∈fp,H' b=none)->∀b∈fp,jd X pins H' b:=fun hn b hb=>⟨hn b hb,(f2 b hb).2⟩
 refine codeAny_forLoop_any (fun n s'=>∃i σ' H',Inv X pins σ' H' s'/\tn i s'.heap/\(∀b∈fp,H' b=none)/\W i n σ' H') ?_ m0 ⟨0,σ,H2,I2,st2,fun b hb=>(f2 b hb).1,w0⟩
 rintro n s3 ⟨i,σ3,H3,I3,ZS,yl,w3⟩
 rcases turn i n σ3 H3 w3 with⟨stop,qn⟩|⟨go,N,hN,step⟩
 . refine SZ hp (dE (T.done X rfl rfl rfl hc i pins s3 σ3 H3 X.xe I3 (stat yl) ZS stop) fun r s4 ⟨hr,I4⟩=>?_)
   subst hr
   exact Aa7 ⟨σ3,H3,I4,qn⟩
 . refine SZ hp (dE (T.item X rfl rfl rfl hc i pins s3 σ3 H3 X.xe I3 (stat yl) ZS go) fun r s4 ⟨u,hr,h4⟩=>?_)
   subst hr
   refine SZ hp (dE h4 fun _ s5 ⟨x,H5,I5,r5,y5,VS,fr5⟩=>?_)
   have I5':=I5.pinned (stat fr5) (T.obj _ _ VS)
   refine SZ hp (dE (hg _ s5 σ3 H5 x u _ I5' r5 (step x H5 y5)) fun _ s6 ⟨σ6,H6,I6,q6⟩=>?_)
   refine SZ hp (dE (hb _ s6 σ6 H6 _ I6 q6) fun f s7 q7=>?_)
   have again:∀{σ7:St} {H7:Hp},Inv X (pins++A6 fp s5.heap) σ7 H7 s7->N σ7 H7->∃m,m<n/\∃i σ' H',Inv X pins σ' H' s7/\tn i s7.heap/\(∀b∈fp,H' b=none)/\W i m σ' H':=fun {σ7 H7} I7 n7=>by
    obtain⟨m',hm,w7⟩:=hN σ7 H7 n7
    refine⟨m',hm,i+1,σ7,H7,I7.wu,T.keep _ _ _ VS fun b hb o e=>(I7.pin (b,o) (Co _ (Co _ (qa hb e)))).1,fun b hb=>?_,w7⟩
    obtain⟨o,e,d⟩:=T.obj _ _ VS b hb
    exact(I7.pin (b,o) (Co _ (Co _ (qa hb e)))).2.1
   cases f with
   |next=>obtain⟨σ7,H7,I7,n7⟩:=q7;exact again I7 n7
   |cont=>obtain⟨σ7,H7,I7,n7⟩:=q7;exact again I7 n7
   |brk=>obtain⟨σ7,H7,I7,q7⟩:=q7;exact⟨σ7,H7,I7.wu,q7⟩
   |ret v=>obtain⟨x7,σ7,H7,I7,r7,q7⟩:=q7;exact⟨x7,σ7,H7,I7.wu,r7,q7⟩
end
theorem QP {K:At} {a:Addr} {xs:List V} {g:TG} {tb:TS} {D:Ends} {σ:St} {H:Hp} (Pv:Nat->St->Hp->Prop) (h0:Pv 0 σ H) (hl:∀i σ H,i<=xs.length->Pv i σ H->iN K H a xs)
 (hs:∀i x σ H,xs[i]? =some x->Pv i σ H->g x σ H fun σ2 H2=>tb {D with nx:=Pv (i+1),ct:=Pv (i+1),bk:=D.nx} σ2 H2) (hd:∀σ H,Pv xs.length σ H->D.nx σ H):
 ∃W:Nat->Nat->St->Hp->Prop,(∃m,W 0 m σ H)/\∀i m σ H,W i m σ H->
  ((QD K a).stop i H/\D.nx σ H)\/((QD K a).go i H/\∃N:St->Hp->Prop,(∀σ' H',N σ' H'->∃m',m'<m/\W (i+1) m' σ' H')/\∀x H',(QD K a).Rm i H x H'->g x σ H' fun σ2 H2=>tb {D with nx:=N,ct:=N,bk:=D.nx} σ2 H2):=by
 refine⟨fun i m σ H=>m=xs.length - i/\i<=xs.length/\Pv i σ H,⟨xs.length,by simp,IR _,h0⟩,?_⟩
 rintro i m σ H ⟨rfl,hi,p⟩
 have q:=hl i σ H hi p
 by_cases iF:i<xs.length
 . refine .inr ⟨⟨xs,xs[i],q,by simp [iF]⟩,Pv (i+1),fun σ' H' p'=>⟨xs.length - (i+1),by omega,rfl,iF,p'⟩,fun x H' y=>?_⟩
   obtain⟨e,y⟩:=y
   subst e
   exact hs i x σ _ (y xs q) p
 . have e:i=xs.length:=by omega
   subst e
   exact .inl ⟨⟨xs,q,BY _⟩,hd σ H p⟩
theorem Tz {K:At} {a:Addr} {xs:List V} {g:TG} {tb:TS} {D:Ends} {σ:St} {H:Hp} (Pv:Nat->St->Hp->Prop) (h0:Pv 0 σ H) (hl:∀i σ H,i<=xs.length->Pv i σ H->zQ K H a xs)
 (hs:∀i x σ H,xs[i]? =some x->Pv i σ H->g x σ H fun σ2 H2=>tb {D with nx:=Pv (i+1),ct:=Pv (i+1),bk:=D.nx} σ2 H2) (hd:∀σ H,Pv xs.length σ H->D.nx σ H):
 ∃W:Nat->Nat->St->Hp->Prop,(∃m,W 0 m σ H)/\∀i m σ H,W i m σ H->
  ((U3 K a).stop i H/\D.nx σ H)\/((U3 K a).go i H/\∃N:St->Hp->Prop,(∀σ' H',N σ' H'->∃m',m'<m/\W (i+1) m' σ' H')/\∀x H',(U3 K a).Rm i H x H'->g x σ H' fun σ2 H2=>tb {D with nx:=N,ct:=N,bk:=D.nx} σ2 H2):=by
 refine⟨fun i m σ H=>m=xs.length - i/\i<=xs.length/\Pv i σ H,⟨xs.length,by simp,IR _,h0⟩,?_⟩
 rintro i m σ H ⟨rfl,hi,p⟩
 have q:=hl i σ H hi p
 by_cases iF:i<xs.length
 . refine .inr ⟨⟨xs,xs[i],q,by simp [iF]⟩,Pv (i+1),fun σ' H' p'=>⟨xs.length - (i+1),by omega,rfl,iF,p'⟩,fun x H' y=>?_⟩
   obtain⟨e,y⟩:=y
   subst e
   exact hs i x σ _ (y xs q) p
 . have e:i=xs.length:=by omega
   subst e
   exact .inl ⟨⟨xs,q,BY _⟩,hd σ H p⟩
theorem Mg {lo:Int} {n:Nat} {g:TG} {tb:TS} {D:Ends} {σ:St} {H:Hp} (Pv:Nat->St->Hp->Prop) (h0:Pv 0 σ H)
 (hs:∀i σ H,i<n->Pv i σ H->g (.int (lo+i)) σ H fun σ2 H2=>tb {D with nx:=Pv (i+1),ct:=Pv (i+1),bk:=D.nx} σ2 H2) (hd:∀σ H,Pv n σ H->D.nx σ H):
 ∃W:Nat->Nat->St->Hp->Prop,(∃m,W 0 m σ H)/\∀i m σ H,W i m σ H->
  ((SW lo n).stop i H/\D.nx σ H)\/((SW lo n).go i H/\∃N:St->Hp->Prop,(∀σ' H',N σ' H'->∃m',m'<m/\W (i+1) m' σ' H')/\∀x H',(SW lo n).Rm i H x H'->g x σ H' fun σ2 H2=>tb {D with nx:=N,ct:=N,bk:=D.nx} σ2 H2):=by
 refine⟨fun i m σ H=>m=n - i/\i<=n/\Pv i σ H,⟨n,by simp,IR _,h0⟩,?_⟩
 rintro i m σ H ⟨rfl,hi,p⟩
 by_cases iF:i<n
 . refine .inr ⟨iF,Pv (i+1),fun σ' H' p'=>⟨n - (i+1),by omega,rfl,iF,p'⟩,fun x H' y=>?_⟩
   obtain⟨e,y⟩:=y
   subst e y
   exact hs i σ _ iF p
 . have e:i=n:=by omega
   subst e
   exact .inl ⟨BY _,hd σ H p⟩
abbrev R2:=V->V->Hp->VK->Prop
def rD (X:Cx) (f:Value->Value->Sem Value) (r:R2):Prop:=
 ∀(pins:List (Addr × Obj)) (s:AM) (σ:St) (H:Hp) (x y:V) (v u:Value) (Q:VK),Inv X pins σ H s->RelV x v->RelV y u->r x y H Q->
  wpAny (model X.prog X.w) X.A (f v u) (EP X pins σ Q) X.xe s
def UnR (X:Cx) (f:Value->Sem Value) (r:V->Hp->VK->Prop):Prop:=
 ∀(pins:List (Addr × Obj)) (s:AM) (σ:St) (H:Hp) (x:V) (v:Value) (Q:VK),Inv X pins σ H s->RelV x v->r x H Q->
  wpAny (model X.prog X.w) X.A (f v) (EP X pins σ Q) X.xe s
def nk (X:Cx) (f:Value) (r:List V->Hp->VK->Prop):Prop:=
 ∀(pins:List (Addr × Obj)) (s:AM) (σ:St) (H:Hp) (xs:List V) (us:List Value) (Q:VK),Inv X pins σ H s->Vals xs us->r xs H Q->
  wpAny (model X.prog X.w) X.A (call f us) (EP X pins σ Q) X.xe s
def agl (X:Cx) (r:V->Hp->(Bool->Hp->Prop)->Prop):Prop:=
 ∀(pins:List (Addr × Obj)) (s:AM) (σ:St) (H:Hp) (x:V) (v:Value) (Q:Bool->Hp->Prop),Inv X pins σ H s->RelV x v->r x H Q->
  wpAny (model X.prog X.w) X.A (truthy v) (TP X pins σ Q) X.xe s
def tOp (r:R2) (ta tb:TE):TE:=fun σ H Q=>ta σ H fun x H1=>tb σ H1 fun y H2=>r x y H2 Q
def tUn (r:V->Hp->VK->Prop) (ta:TE):TE:=fun σ H Q=>ta σ H fun x H1=>r x H1 Q
def rI (C:Int->Int->Prop) (g:Int->Int->V):R2:=fun x y H Q=>∃i j,x=.int i/\y=.int j/\C i j/\Q (g i j) H
def M5 (g:Int->Int->V):R2:=fun x y H Q=>∃i j,x=.int i/\y=.int j/\Q (g i j) H
def rU (g:Int->V):V->Hp->VK->Prop:=fun x H Q=>∃i,x=.int i/\Q (g i) H
section
variable {X:Cx} {a b c:Expr} {ta tb tc:TE} {pos:Pos}
theorem VI (ha:PE X a ta) (hb:PE X b tb) {pins:List (Addr × Obj)} {s:AM} {σ:St} {H:Hp} {R:V->V->Hp->Prop} (I:Inv X pins σ H s)
 (h:ta σ H fun x H1=>tb σ H1 fun y H2=>R x y H2) {Q:Value->AM->Prop} {f:Value->Value->Sem Value}
 (hf:∀v u s2 x y H2,Inv X pins σ H2 s2->RelV x v->RelV y u->R x y H2->wpAny (model X.prog X.w) X.A (f v u) Q X.xe s2):
 wpAny (model X.prog X.w) X.A (eval a X.env) (fun v s₁=>wpAny (model X.prog X.w) X.A (eval b X.env) (fun u s₂=>wpAny (model X.prog X.w) X.A (f v u) Q X.xe s₂) X.xe s₁) X.xe s:=by
 refine dE (ha pins s σ H _ I h) fun v s1 ⟨x,H1,I1,r1,q1⟩=>?_
 refine dE (hb pins s1 σ H1 _ I1 q1) fun u s2 ⟨y,H2,I2,r2,q2⟩=>?_
 exact hf v u s2 x y H2 I2 r1 r2 q2
theorem aB {op:Operator} {r:R2} (ho:rD X (WF op) r) (ha:PE X a ta) (hb:PE X b tb):PE X (.BinOp a op b pos) (tOp r ta tb):=by
 intro pins s σ H Q I h
 exact wpAny_BinOp (VI ha hb I h fun v u s2 x y H2 I2 rx ry q=>ho pins s2 σ H2 x y v u Q I2 rx ry q)
theorem Oz {op:UnaryOp} {r:V->Hp->VK->Prop} (ho:UnR X (unaryOp op) r) (ha:PE X a ta):PE X (.UnaryOp op a pos) (tUn r ta):=by
 intro pins s σ H Q I h
 exact UnaryOp_ (dE (ha pins s σ H _ I h) fun v s1 ⟨x,H1,I1,r1,q1⟩=>ho pins s1 σ H1 x v Q I1 r1 q1)
theorem opI {f:Value->Value->Sem Value} {C:Int->Int->Prop} {g:Int->Int->Int}
 (rule:∀(i j:Int) (t u:Tok) (s:AM) (Q:Value->AM->Prop) (E:Value->AM->Prop),C i j->Q (.int (g i j) s.toks) {s with toks:=s.toks+1}->wpAny (model X.prog X.w) X.A (f (.int i t) (.int j u)) Q E s):
 rD X f (rI C fun i j=>.int (g i j)):=by
 intro pins s σ H x y v u Q I rx ry h
 obtain⟨i,j,rfl,rfl,hc,q⟩:=h
 obtain⟨t,rfl⟩:=rx
 obtain⟨t',rfl⟩:=ry
 exact rule i j t t' s _ _ hc ⟨.int (g i j),H,I.tok _,⟨_,rfl⟩,q⟩
theorem Oh {f:Value->Value->Sem Value} {g:Int->Int->Int}
 (rule:∀(i j:Int) (t u:Tok) (s:AM) (Q:Value->AM->Prop) (E:Value->AM->Prop),Q (.int (g i j) s.toks) {s with toks:=s.toks+1}->wpAny (model X.prog X.w) X.A (f (.int i t) (.int j u)) Q E s):
 rD X f (M5 fun i j=>.int (g i j)):=by
 intro pins s σ H x y v u Q I rx ry h
 obtain⟨i,j,rfl,rfl,q⟩:=h
 obtain⟨t,rfl⟩:=rx
 obtain⟨t',rfl⟩:=ry
 exact rule i j t t' s _ _ ⟨.int (g i j),H,I.tok _,⟨_,rfl⟩,q⟩
theorem T1 {f:Value->Value->Sem Value} {g:Int->Int->Bool}
 (rule:∀(i j:Int) (t u:Tok) (s:AM) (Q:Value->AM->Prop) (E:Value->AM->Prop),Q (.bool (g i j)) s->wpAny (model X.prog X.w) X.A (f (.int i t) (.int j u)) Q E s):
 rD X f (M5 fun i j=>.bl (g i j)):=by
 intro pins s σ H x y v u Q I rx ry h
 obtain⟨i,j,rfl,rfl,q⟩:=h
 obtain⟨t,rfl⟩:=rx
 obtain⟨t',rfl⟩:=ry
 exact rule i j t t' s _ _ ⟨.bl (g i j),H,I,rfl,q⟩
def S3 (i j:Int):Prop:=0<=j/\j<=1000000/\i.natAbs<2^64
theorem bq:rD X (WF .Add) (M5 fun i j=>.int (i+j)):=Oh fun _ _ _ _ _ _ _ q=>add_int q
theorem x3:rD X (WF .Sub) (M5 fun i j=>.int (i - j)):=Oh fun _ _ _ _ _ _ _ q=>sub_int q
theorem Wt:rD X (WF .Mod) (rI (fun _ j=>0<j) fun i j=>.int (i % j)):=opI fun i j _ _ _ _ _ hc q=>by
 have h1:(0:Int)<j:=hc
 exact mod_int' (by omega) (by rw [Int.fmod_eq_emod_of_nonneg i (by omega)];exact q)
theorem QS:rD X (WF .Pow) (rI S3 fun i j=>.int (i^j.toNat)):=opI fun _ _ _ _ _ _ _ hc q=>pow_int_small hc.1 hc.2.1 hc.2.2 q
theorem Ff:rD X (WF .LShift) (rI S3 fun i j=>.int (i*2^j.toNat)):=opI fun _ _ _ _ _ _ _ hc q=>lshift_int_small hc.1 hc.2.1 hc.2.2 q
theorem VJ:rD X (WF .BitAnd) (M5 fun i j=>.int (AaM i j)):=Oh fun _ _ _ _ _ _ _ q=>and_int q
theorem acf:rD X (WF .BitOr) (M5 fun i j=>.int (P3 i j)):=Oh fun _ _ _ _ _ _ _ q=>or_int q
theorem P5:rD X (WF .BitXor) (M5 fun i j=>.int (Na i j)):=Oh fun _ _ _ _ _ _ _ q=>xor_int q
theorem unI {f:Value->Sem Value} {g:Int->Int}
 (rule:∀(i:Int) (t:Tok) (s:AM) (Q:Value->AM->Prop) (E:Value->AM->Prop),Q (.int (g i) s.toks) {s with toks:=s.toks+1}->wpAny (model X.prog X.w) X.A (f (.int i t)) Q E s):
 UnR X f (rU fun i=>.int (g i)):=by
 intro pins s σ H x v Q I rx h
 obtain⟨i,rfl,q⟩:=h
 obtain⟨t,rfl⟩:=rx
 exact rule i t s _ _ ⟨.int (g i),H,I.tok _,⟨_,rfl⟩,q⟩
theorem Ij:UnR X (unaryOp .USub) (rU fun i=>.int (-i)):=unI fun _ _ _ _ _ q=>neg_int q
end
def OX:V->V->Bool
 | .a9,.a9=>true| .a9,.int _=>true| .int _,.a9=>true| .a9,.bl _=>true| .bl _,.a9=>true| .a9,.str _=>true| .str _,.a9=>true
 | .int _,.int _=>true| .bl _,.bl _=>true| .str _,.str _=>true| .KJ _,.KJ _=>true
 | .int _,.str _=>true| .str _,.int _=>true| .bl _,.str _=>true| .str _,.bl _=>true
 |_,_=>false
def rEq:R2:=fun x y H Q=>OX x y=true/\Q (.bl (decide (x=y))) H
def rNe:R2:=fun x y H Q=>OX x y=true/\Q (.bl (!decide (x=y))) H
theorem Ke {i j:Int}:decide (V.int i=V.int j)=(i==j):=by
 rw [Nd]
 simp
theorem QT {i j:Bool}:decide (V.bl i=V.bl j)=(i==j):=by
 rw [Nd]
 simp
theorem Kb {i j:Str}:decide (V.str i=V.str j)=(i==j):=by
 rw [Nd]
 simp
theorem Ki {i j:Array UInt8}:decide (V.KJ i=V.KJ j)=(i.toList==j.toList):=by
 rw [Nd]
 cases i
 cases j
 simp
section
variable {X:Cx} {a b c:Expr} {ta tb tc:TE} {pos:Pos}
theorem bp {pins:List (Addr × Obj)} {σ:St} {H:Hp} {s:AM} {Q:VK} {k k':Bool} (I:Inv X pins σ H s) (q:Q (.bl k) H) (e:k=k'):EP X pins σ Q (.bool k') s:=by
 subst e
 exact⟨.bl k,H,I,rfl,q⟩
theorem aaO:rD X (NH .Eq) rEq:=by
 intro pins s σ H x y v u Q I rx ry h
 obtain⟨hs,q⟩:=h
 cases x with
 |a9=>
  cases rx
  cases y with
  |a9=>cases ry;exact PySem.EqNone.eq_none_none (bp I q (by simp))
  |bl j=>cases ry;exact PySem.EqNone.eq_none_bool (bp I q (by simp))
  |int j=>obtain⟨t',rfl⟩:=ry;exact PySem.EqNone.eq_none_int (bp I q (by simp))
  |str j=>obtain⟨t',rfl⟩:=ry;exact PySem.EqNone.eq_none_str (bp I q (by simp))
  |_=>exact absurd (show false=true from hs) FB
 |bl i=>
  cases rx
  cases y with
  |a9=>cases ry;exact PySem.EqNone.eq_bool_none (bp I q (by simp))
  |bl j=>cases ry;exact eq_bool (bp I q QT)
  |str j=>obtain⟨t',rfl⟩:=ry;exact PySem.EqMixed.eq_bool_str (bp I q (by simp))
  |_=>exact absurd (show false=true from hs) FB
 |int i=>
  obtain⟨t,rfl⟩:=rx
  cases y with
  |a9=>cases ry;exact PySem.EqNone.eq_int_none (bp I q (by simp))
  |int j=>obtain⟨t',rfl⟩:=ry;exact eq_int (bp I q Ke)
  |str j=>obtain⟨t',rfl⟩:=ry;exact PySem.EqMixed.eq_int_str (bp I q (by simp))
  |_=>exact absurd (show false=true from hs) FB
 |str i=>
  obtain⟨t,rfl⟩:=rx
  cases y with
  |a9=>cases ry;exact PySem.EqNone.eq_str_none (bp I q (by simp))
  |bl j=>cases ry;exact PySem.EqMixed.eq_str_bool (bp I q (by simp))
  |int j=>obtain⟨t',rfl⟩:=ry;exact PySem.EqMixed.eq_str_int (bp I q (by simp))
  |str j=>obtain⟨t',rfl⟩:=ry;exact eq_str (bp I q Kb)
  |_=>exact absurd (show false=true from hs) FB
 |KJ i=>
  obtain⟨t,rfl⟩:=rx
  cases y with
  |KJ j=>obtain⟨t',rfl⟩:=ry;exact PySem.W.eq_bytes (bp I q Ki)
  |_=>exact absurd (show false=true from hs) FB
 |_=>cases y <;>exact absurd (show false=true from hs) FB
theorem Z8:rD X (NH .NotEq) rNe:=by
 intro pins s σ H x y v u Q I rx ry h
 obtain⟨hs,q⟩:=h
 cases x with
 |a9=>
  cases rx
  cases y with
  |a9=>cases ry;exact PySem.EqNone.ne_none_none (bp I q (by simp))
  |bl j=>cases ry;exact PySem.EqNone.ne_none_bool (bp I q (by simp))
  |int j=>obtain⟨t',rfl⟩:=ry;exact PySem.EqNone.ne_none_int (bp I q (by simp))
  |str j=>obtain⟨t',rfl⟩:=ry;exact PySem.EqNone.ne_none_str (bp I q (by simp))
  |_=>exact absurd (show false=true from hs) FB
 |bl i=>
  cases rx
  cases y with
  |a9=>cases ry;exact PySem.EqNone.ne_bool_none (bp I q (by simp))
  |bl j=>cases ry;exact ne_bool (bp I q (congrArg not QT))
  |str j=>obtain⟨t',rfl⟩:=ry;exact PySem.EqMixed.ne_bool_str (bp I q (by simp))
  |_=>exact absurd (show false=true from hs) FB
 |int i=>
  obtain⟨t,rfl⟩:=rx
  cases y with
  |a9=>cases ry;exact PySem.EqNone.ne_int_none (bp I q (by simp))
  |int j=>obtain⟨t',rfl⟩:=ry;exact ne_int (bp I q (congrArg not Ke))
  |str j=>obtain⟨t',rfl⟩:=ry;exact PySem.EqMixed.ne_int_str (bp I q (by simp))
  |_=>exact absurd (show false=true from hs) FB
 |str i=>
  obtain⟨t,rfl⟩:=rx
  cases y with
  |a9=>cases ry;exact PySem.EqNone.ne_str_none (bp I q (by simp))
  |bl j=>cases ry;exact PySem.EqMixed.ne_str_bool (bp I q (by simp))
  |int j=>obtain⟨t',rfl⟩:=ry;exact PySem.EqMixed.ne_str_int (bp I q (by simp))
  |str j=>obtain⟨t',rfl⟩:=ry;exact ne_str (bp I q (congrArg not Kb))
  |_=>exact absurd (show false=true from hs) FB
 |KJ i=>
  obtain⟨t,rfl⟩:=rx
  cases y with
  |KJ j=>obtain⟨t',rfl⟩:=ry;exact PySem.W.ne_bytes (bp I q (congrArg not Ki))
  |_=>exact absurd (show false=true from hs) FB
 |_=>cases y <;>exact absurd (show false=true from hs) FB
theorem zp:rD X (NH .Lt) (M5 fun i j=>.bl (decide (i<j))):=T1 fun _ _ _ _ _ _ _ q=>lt_int q
theorem rQ:rD X (NH .LtE) (M5 fun i j=>.bl (decide (i<=j))):=T1 fun _ _ _ _ _ _ _ q=>le_int q
theorem Qp:rD X (NH .Gt) (M5 fun i j=>.bl (decide (j<i))):=T1 fun _ _ _ _ _ _ _ q=>gt_int q
theorem Vf:rD X (NH .GtE) (M5 fun i j=>.bl (decide (j<=i))):=T1 fun _ _ _ _ _ _ _ q=>ge_int q
theorem DN:rD X (NH .Is) (fun x y H Q=>y=.a9/\Q (.bl (decide (x=.a9))) H):=by
 intro pins s σ H x y v u Q I rx ry h
 obtain⟨rfl,q⟩:=h
 cases ry
 refine is_none_gen (bp I q ?_)
 cases x <;>first
  |(cases rx;rfl)
  |(obtain⟨t,rfl⟩:=rx;rfl)
theorem qt:rD X (NH .IsNot) (fun x y H Q=>y=.a9/\Q (.bl (!decide (x=.a9))) H):=by
 intro pins s σ H x y v u Q I rx ry h
 obtain⟨rfl,q⟩:=h
 cases ry
 refine isnot_none_gen (bp I q ?_)
 cases x <;>first
  |(cases rx;rfl)
  |(obtain⟨t,rfl⟩:=rx;rfl)
theorem aR (b:Expr) {op:CmpOp} (h:op≠.In:=by decide) (h2:op≠.NotIn:=by decide):Aa1 op b=false:=by
 have e1:(op==CmpOp.In)=false:=by cases op <;>first|rfl|exact absurd rfl h
 have e2:(op==CmpOp.NotIn)=false:=by cases op <;>first|rfl|exact absurd rfl h2
 cases b <;>simp [Aa1,e1,e2]
theorem t8 {op:CmpOp} {r:R2} (ho:rD X (NH op) r) (ha:PE X a ta) (hb:PE X b tb) (hm:Aa1 op b=false):PE X (.Compare a [op] [b] pos) (tOp r ta tb):=by
 intro pins s σ H Q I h
 exact wpAny_Compare1 (VI ha hb I h fun v u s2 x y H2 I2 rx ry q=>ho pins s2 σ H2 x y v u Q I2 rx ry q) hm
def Pt (t:TE):TT:=fun σ H Q=>t σ H fun x H'=>∃k,x=.bl k/\Q k H'
theorem aL {op:CmpOp} {r:R2} (ho:rD X (NH op) r) (ha:PE X a ta) (hb:PE X b tb) (hm:Aa1 op b=false):PT X (.Compare a [op] [b] pos) (Pt (tOp r ta tb)):=by
 intro pins s σ H Q I h
 refine wpAny_isTrue_Compare1 (dE (ha pins s σ H _ I h) fun v s1 ⟨x,H1,I1,r1,q1⟩=>dE (hb pins s1 σ H1 _ I1 q1) fun u s2 ⟨y,H2,I2,r2,q2⟩=>
  dE (ho pins s2 σ H2 x y v u _ I2 r1 r2 q2) fun c s3 ⟨z,H3,I3,r3,k,e,q3⟩=>?_) hm
 subst e
 cases r3
 exact Pf ⟨H3,I3,q3⟩
def OQ (r r':R2) (ta tb tc:TE):TE:=fun σ H Q=>ta σ H fun x H1=>tb σ H1 fun y H2=>r x y H2 fun z H3=>∃k,z=.bl k/\
 (if k=true then tc σ H3 fun w' H4=>r' y w' H4 Q else Q (.bl false) H3)
theorem Gv {op op':CmpOp} {r r':R2} (ho:rD X (NH op) r) (PY:rD X (NH op') r') (ha:PE X a ta) (hb:PE X b tb) (hc:PE X c tc)
 (hm:lastMarks [op,op'] [b,c]=false:=by with_unfolding_all rfl):PT X (.Compare a [op,op'] [b,c] pos) (Pt (OQ r r' ta tb tc)):=by
 intro pins s σ H Q I h
 refine isTrue_chain (dE (ha pins s σ H _ I h) fun v s1 ⟨x,H1,I1,r1,q1⟩=>test_link (dE (hb pins s1 σ H1 _ I1 q1) fun u s2 ⟨y,H2,I2,r2,q2⟩=>
  dE (ho pins s2 σ H2 x y v u _ I2 r1 r2 q2) fun d s3 ⟨z,H3,I3,r3,k,e,q3⟩=>?_)) hm
 subst e
 cases r3
 refine Pf ?_
 cases k with
 |false=>
  obtain⟨k',e',q'⟩:=q3
  cases e'
  exact ite_ff ⟨H3,I3,q'⟩
 |true=>
  refine ite_tt (test_last (dE (hc pins s3 σ H3 _ I3 q3) fun w' s4 ⟨z',H4,I4,r4,q4⟩=>dE (PY pins s4 σ H4 y z' u w' _ I4 r2 r4 q4) fun d' s5 ⟨z2,H5,I5,r5,k2,e2,q5⟩=>?_))
  subst e2
  cases r5
  exact Pf ⟨H5,I5,q5⟩
def Gd (K:At) (x:V) (H:Hp) (k:Bool):Prop:=
 match x with
 | .a9=>k=false
 | .bl b=>k=b
 | .int i=>k=(i !=0)
 | .str y=>y.length<=Ev/\k=((y.length:Int) !=0)
 | .KJ y=>y.size<=Ev/\k=((y.size:Int) !=0)
 | .ref p=>(∃xs,iN K H p xs/\k=!xs.isEmpty)\/(∃xs,zQ K H p xs/\k=!xs.isEmpty)\/∃kvs,H p=some (.dK kvs)/\k=!kvs.isEmpty
 |_=>False
theorem IK {κ:Type} {kvs:List (κ × V)} {vs:List (κ × Value)} (r:KV kvs vs):(!vs.isEmpty)=!kvs.isEmpty:=by
 cases r <;>rfl
theorem Bt {xs:List V} {bh:List Value} (r:Vals xs bh):(!bh.toArray.isEmpty)=!xs.isEmpty:=by
 cases r <;>simp
theorem yI:(Ev:Nat)<2^63:=by rw [AaE];decide
theorem Xt:agl X (fun x H Q=>∃k,Gd X.K x H k/\Q k H):=by
 intro pins s σ H x v Q I rx h
 obtain⟨k,e,q⟩:=h
 have hl:=yI
 have hs:Ev=16777216:=AaE
 cases x with
 |a9=>
  cases rx
  have e':k=false:=e
  subst e'
  exact truthy_none ⟨H,I,q⟩
 |bl b=>
  cases rx
  have e':k=b:=e
  subst e'
  exact Pf ⟨H,I,q⟩
 |int i=>
  obtain⟨t,rfl⟩:=rx
  have e':k=(i !=0):=e
  subst e'
  exact PySem.P.truthy_int ⟨H,I,q⟩
 |str y=>
  obtain⟨t,rfl⟩:=rx
  obtain⟨hy,e'⟩:y.length<=Ev/\k=((y.length:Int) !=0):=e
  subst e'
  exact PySem.P.truthy_str (by omega) ⟨H,I.tok _,q⟩
 |KJ y=>
  obtain⟨t,rfl⟩:=rx
  obtain⟨hy,e'⟩:y.size<=Ev/\k=((y.size:Int) !=0):=e
  subst e'
  exact PySem.W.truthy_bytes (by omega) ⟨H,I.tok _,q⟩
 |ref p=>
  cases rx
  have e':(∃xs,iN X.K H p xs/\k=!xs.isEmpty)\/(∃xs,zQ X.K H p xs/\k=!xs.isEmpty)\/∃kvs,H p=some (.dK kvs)/\k=!kvs.isEmpty:=e
  rcases e' with⟨xs,hx,e'⟩|⟨xs,hx,e'⟩|⟨kvs,hx,e'⟩
  . subst e'
    obtain⟨bh,r,pl,hz⟩:=I.list hx
    have hlen:=r.length
    exact wpAny_truthy_list pl.isList (by simp only [Cc];omega) ⟨H,I.tok _,by rw [Bt r];exact q⟩
  . subst e'
    obtain⟨bh,r,pl,hz⟩:=I.tuple hx
    have hlen:=r.length
    exact truthy_tuple pl (by simp only [Cc];omega) ⟨H,I.tok _,by rw [Bt r];exact q⟩
  . subst e'
    obtain⟨hz,hS,vs,r,m⟩:kvs.length<=Ev/\(p==Sc)=false/\∃vs,KV kvs vs/\s.heap.DictOf (bb X.prog X.w) p vs:=I.bE p _ hx
    have hlen:kvs.length=vs.length:=AbD r
    exact wpAny_truthy_dict hS m (by omega) ⟨H,I.tok _,by rw [IK r];exact q⟩
 |_=>exact(show False from e).elim
theorem bx (ha:PE X a ta) (he:∀whole,isTrue a X.env whole=(do let v <-whole;Aa9 a.pos;Aba [v] (truthy v))):
 PT X a (fun σ H Q=>ta σ H fun x H'=>∃k,Gd X.K x H' k/\Q k H'):=by
 intro pins s σ H Q I h
 exact isTrue_plain (dE (ha pins s σ H _ I h) fun v s1 ⟨x,H1,I1,r1,q1⟩=>Xt pins s1 σ H1 x v Q I1 r1 q1) (he _)
theorem Hs:rD X (WF .Add) (fun x y H Q=>∃i j,x=.str i/\y=.str j/\i.length+j.length<=Ev/\Q (.str (i++j)) H):=by
 intro pins s σ H x y v u Q I rx ry h
 obtain⟨i,j,rfl,rfl,hz,q⟩:=h
 obtain⟨t,rfl⟩:=rx
 obtain⟨t',rfl⟩:=ry
 exact add_str (fun t' tk=>⟨.str (i++j),H,I.tok _,⟨_,rfl⟩,q⟩) hz
theorem vals1 {x:V} {us:List Value} (r:Vals [x] us):∃u,us=[u]/\RelV x u:=by
 cases r with
 |cons r1 r2=>cases r2;exact⟨_,rfl,r1⟩
theorem vals2 {x y:V} {us:List Value} (r:Vals [x,y] us):∃u w',us=[u,w']/\RelV x u/\RelV y w':=by
 cases r with
 |cons r1 r2=>
  cases r2 with
  |cons r3 r4=>cases r4;exact⟨_,_,rfl,r1,r3⟩
theorem LR (hc:X.calm=true):nk X (.builtin "max") (fun xs H Q=>∃i j,xs=[.int i,.int j]/\Q (.int (if j>i then j else i)) H):=by
 intro pins s σ H xs us Q I r h
 obtain⟨i,j,rfl,q⟩:=h
 obtain⟨u,w',rfl,⟨t,rfl⟩,⟨t',rfl⟩⟩:=vals2 r
 refine max_two_ints (I.ok.hd hc) fun h' tk k=>⟨_,H,I.kept k,?_,q⟩
 by_cases hj:j>i
 . rw [if_pos hj,if_pos hj];exact⟨_,rfl⟩
 . rw [if_neg hj,if_neg hj];exact⟨_,rfl⟩
end
structure Ht (h:Heap) (x dx C:Addr) (mA:Str->Option Value):Prop where
 obj:h.get? x=some (So C dx)
 ns:h.Ns1 dx mA
 ne:dx≠x
theorem Ly {h:Heap} {dx:Addr} {mA:Str->Option Value} (n:h.Ns1 dx mA):∃od,h.get? dx=some od/\∀name,Abs name od=some (mA name):=by
 obtain⟨o,es,ep,ho,hd,hk,_,hm⟩:=n
 refine⟨o,ho,fun name=>?_⟩
 have e:=hm name
 unfold nsFind findBy at e
 rw [<-Array.find?_toList] at e
 unfold Abs
 rw [hd]
 dsimp only
 split
 . rename_i y q
   rw [q] at e
   exact congrArg some e
 . rename_i q
   rw [q] at e
   have a:es.toList.any (·.refKey)=false:=by
    rw [List.any_eq_false]
    intro y hy
    obtain⟨z,t,agg⟩:=hk y (Array.mem_toList_iff.mp hy)
    simp [DictEntry.refKey,agg]
   have a':¬es.toList.any (·.refKey)=true:=by rw [a];exact FB
   rw [if_neg a']
   exact congrArg some e
theorem Ht.look {h:Heap} {x dx C:Addr} {mA:Str->Option Value} (I:Ht h x dx C mA):∃od,PySem.W.InstAt h x (So C dx) C (some od)/\∀name,Abs name od=some (mA name):=
 let ⟨od,ho,hl⟩:=Ly I.ns
 ⟨od,⟨I.obj,rfl,rfl,ho⟩,hl⟩
section
variable {prog:Fa} {w:World} {A:IF} {E:Value->AM->Prop} {s:AM} {K:At} {x dx C f:Addr} {mA:Str->Option Value} {name:Str} {v:Value}
theorem get_map {expr:Bool} {Q:Value->AM->Prop} (X:K.In s.heap) (I:Ht s.heap x dx C mA) (hg:Aai K C name=true) (hh:AaF K C=true)
 (ha:AR K (.ref C) name=some none) (hv:mA name=some v) (hv':PySem.W.handedIn v=true) (h:Q v {s with toks:=s.toks+1}):
 wpAny (model prog w) A (getAttr (.ref x) name expr) Q E s:=by
 obtain⟨od,J,hl⟩:=I.look
 exact PySem.W.get_value X J (Abb hg).1 (PySem.W.findObj_own hh ha rfl (by rw [hl,hv])) hv' h
theorem Pa {pl:Sem Bool} {Q:Value × List Value->AM->Prop} (X:K.In s.heap) (I:Ht s.heap x dx C mA) (hg:Aai K C name=true)
 (hf:AR K (.ref C) name=some (some (.ref f))) (ht:PySem.W.isFn K (.ref f)=true) (hv:mA name=none) (h:Q (.ref f,[.ref x]) s):
 wpAny (model prog w) A (Aad (.ref x) name pl) Q E s:=by
 obtain⟨od,J,hl⟩:=I.look
 exact PySem.W.method_fn X J (Abb hg).1 (Abb hg).2 hf (beq_iff_eq.mp ht) (by show(Abs name od).map (·.isSome)=some false;rw [hl,hv];rfl) h
theorem SE {ns:List Str} {Q:Unit->AM->Prop} (X:K.In s.heap) (I:Ht s.heap x dx C mA)
 (hs:AR K (.ref C) "__setattr__"=some (some (.builtin "object.__setattr__"))) (hp:Abw K C=true) (ht:PySem.W.takerIn K C name=some none) (hh:AaF K C=true)
 (hw:PySem.Within mA ns) (hsz:ns.length<=Ev)
 (h:∀h',Ht h' x dx C (fun y=>if y=name then some v else mA y)->Abl dx s.heap h'->Q () {s with heap:=h',toks:=s.toks+2}):
 wpAny (model prog w) A (setAttr (.ref x) name v) Q E s:=by
 obtain⟨od,J,hl⟩:=I.look
 refine PySem.W.set_plain X J hs (PySem.W.osa_open (s:={s with toks:=s.toks+1}) (r:=none) X J hp ht fun b=>?_)
 obtain⟨cd,hc,rE⟩:=PySem.W.any_some hh
 have hx:s.heap.get? x=some ⟨.ref C,some dx,.plain,#[]⟩:=I.obj
 refine BC (FM (BC (BC (wpAny_loadPart hx (BC (PySem.W.Looks.here (s:={s with toks:=s.toks+1}) (PySem.W.looks_clsIn X hc) ?_))))))
 rw [rE]
 refine FM (a:=some dx) (BC (FM (BC ?_)))
 refine wpAny_nsSet1 (s:={s with toks:=s.toks+1}) I.ns fun h' px z9=>?_
 obtain⟨oD,esD,epD,hoD,hdD,hcD⟩:=px.count (PySem.Within.cons name v hw)
 refine BC (wpAny_lookBehind hoD (by rw [hdD];exact pastItsLine_dict (Me hcD (by rw [GG];omega))) ?_)
 exact FM (h _ ⟨(z9.2 _ (LH I.ne)).trans I.obj,px,I.ne⟩ z9)
theorem Qq {R:Result->AM->Prop} {vs:List Value} {kw:List (Str × Value)} (X:K.In s.heap) (hm:Q1 K C=true)
 (hi:AR K (.ref C) "__init__"=some (some (.ref f))) (hf:PySem.W.typeIn K (.ref f)=some (.type "function"))
 (h:AbE (model prog w) (A.under (.builtin "type.__call__" ⟨.ref C::vs,kw⟩)) (.call (.ref f) ⟨.ref (s.heap.objs.size+1)::vs,kw⟩) (PySem.W.InitBack (s.heap.objs.size+1) R)
  {s with heap:=(s.heap.push Op).push (So C s.heap.objs.size)}):
 AbE (model prog w) A (.call (.ref C) ⟨vs,kw⟩) R s:=by
 obtain⟨hh,g,d,t,os⟩:=s
 exact PySem.W.make_core (PySem.W.makes_of X hm) (PySem.W.looks_findIn X hi) (fun self=>PySem.W.bind_fn X self hf) (.inl rfl) h
end
def lq (f:Str) (v:V):List (Str × V)->List (Str × V)
 |[]=>[(f,v)]
 |(g,x)::r=>if g=f then (g,v)::r else (g,x)::lq f v r
theorem y9 (f g:Str) (v:V):∀fs:List (Str × V),(lq f v fs).lookup g=if g=f then some v else fs.lookup g
 |[]=>by
  show YA g [(f,v)]=_
  by_cases h:g=f
  . have hb:(g==f)=true:=beq_iff_eq.mpr h
    simp only [YA,hb,if_pos h]
  . have hb:(g==f)=false:=beq_eq_false_iff_ne.mpr h
    simp only [YA,hb,if_neg h]
 |(k,x)::r=>by
  have ih:=y9 f g v r
  rw [show lq f v ((k,x)::r)=(if k=f then (k,v)::r else (k,x)::lq f v r) from rfl]
  by_cases hk:k=f
  . rw [if_pos hk]
    by_cases h:g=k
    . have hb:(g==k)=true:=beq_iff_eq.mpr h
      simp only [YA,hb,if_pos (h.trans hk)]
    . have hb:(g==k)=false:=beq_eq_false_iff_ne.mpr h
      simp only [YA,hb,if_neg (fun e:g=f=>h (e.trans hk.symm))]
  . rw [if_neg hk]
    by_cases h:g=k
    . have hb:(g==k)=true:=beq_iff_eq.mpr h
      simp only [YA,hb,if_neg (fun e:g=f=>hk (h.symm.trans e))]
    . have hb:(g==k)=false:=beq_eq_false_iff_ne.mpr h
      simp only [YA,hb]
      exact ih
theorem yy (f:Str) (v:V):∀fs:List (Str × V),f∈(lq f v fs).map (·.1)/\∀g,g∈fs.map (·.1)->g∈(lq f v fs).map (·.1)
 |[]=>⟨by simp [lq],fun g h=>by simp at h⟩
 |(k,x)::r=>by
  obtain⟨i1,i2⟩:=yy f v r
  rw [show lq f v ((k,x)::r)=(if k=f then (k,v)::r else (k,x)::lq f v r) from rfl]
  by_cases hk:k=f
  . rw [if_pos hk]
    subst hk
    exact⟨by simp,fun g h=>by simpa using h⟩
  . rw [if_neg hk]
    refine⟨?_,fun g h=>?_⟩
    . rw [EO]
      exact AD _ i1
    . rw [EO] at h ⊢
      rcases AE.mp h with e|e
      . exact AE.mpr (.inl e)
      . exact AD _ (i2 g e)
theorem za (f:Str) (v:V):∀fs:List (Str × V),(lq f v fs).length<=fs.length+1
 |[]=>by simp [lq]
 |(k,x)::r=>by
  have ih:=za f v r
  rw [show lq f v ((k,x)::r)=(if k=f then (k,v)::r else (k,x)::lq f v r) from rfl]
  by_cases hk:k=f
  . rw [if_pos hk,GG,GG];omega
  . rw [if_neg hk,GG,GG];omega
theorem qm.some_of {v:V} {o:Option Value} (r:qm (some v) o):∃u,o=some u/\RelV v u:=by
 cases o with
 |none=>exact(show False from r).elim
 |some u=>exact⟨u,rfl,r⟩
theorem qm.none_of {o:Option Value} (r:qm none o):o=none:=by
 cases o with
 |none=>rfl
 |some u=>exact(show False from r).elim
theorem Lz {v:V} {u:Value} (r:RelV v u):PySem.W.handedIn u=true:=by
 cases v with
 |a9=>cases (show u=OP from r);rfl
 |bl b=>cases (show u=AbN b from r);rfl
 |int i=>obtain⟨t,e⟩:=(show ∃t,u=AbI i t from r);cases e;rfl
 |str x=>obtain⟨t,e⟩:=(show ∃t,u=AbJ x t from r);cases e;rfl
 |KJ b=>obtain⟨t,e⟩:=(show ∃t,u=Value.bytes b t from r);cases e;rfl
 |XC b=>obtain⟨t,e⟩:=(show ∃t,u=Value.float b t from r);cases e;rfl
 |ref a=>cases (show u=Mc a from r);rfl
 |ty n=>cases (show u=AaC n from r);rfl
section
variable {P:Fa} {w:World} {H H':Hp} {h h':Heap} {a C dx:Addr} {fs fs':List (Str × V)}
theorem zT (bE:rq P w H h) (e:H a=some (.ins C dx fs)):∃mA,Ht h a dx C mA/\(∀f,qm (fs.lookup f) (mA f))/\PySem.Within mA (fs.map (·.1))/\fs.length<=1000/\H dx=some (.own a):=by
 obtain⟨d,z,ne,ob,mA,n,r,q⟩:=(show c9 P w H h a (.ins C dx fs) from bE a _ e)
 exact⟨mA,⟨ob,n,ne⟩,r,q,z,d⟩
end
structure tm (K:At) (C:Addr):Prop where
 pg:Aai K C Str.empty=true
 hd:AaF K C=true
 po:Abw K C=true
 sa:AR K (.ref C) "__setattr__"=some (some (.builtin "object.__setattr__"))
theorem tm.get {K:At} {C:Addr} (c:tm K C) (f:Str):Aai K C f=true:=c.pg
def aJ (K:At) (C:Addr) (f:Str):Prop:=AR K (.ref C) f=some none
theorem aJ.aat {K:At} {C:Addr} {f:Str} (n:aJ K C f):PySem.W.takerIn K C f=some none:=by
 unfold PySem.W.takerIn
 rw [show AR K (.ref C) f=some none from n]
 rfl
structure Meth (K:At) (C:Addr) (m:Str) (f:Addr):Prop where
 at_:AR K (.ref C) m=some (some (.ref f))
 fn:PySem.W.isFn K (.ref f)=true
 kp:ET K (.ref f)=true
section
variable {X:Cx} {pins:List (Addr × Obj)} {σ:St} {H:Hp} {s:AM} {a C dx:Addr} {fs:List (Str × V)} {f:Str} {v:V} {A:IF} {E:Value->AM->Prop}
theorem Jj {b:Bool} {Q:Value->AM->Prop} (I:Inv X pins σ H s) (e:H a=some (.ins C dx fs)) (c:tm X.K C) (n:aJ X.K C f) (l:fs.lookup f=some v)
 (h:∀u s',Inv X pins σ H s'->RelV v u->Q u s'):wpAny (model X.prog X.w) A (getAttr (.ref a) f b) Q E s:=by
 obtain⟨mA,O,r,_,_,_⟩:=zT I.bE e
 obtain⟨u,hu,ru⟩:=qm.some_of (v:=v) (o:=mA f) (by rw [<-l];exact r f)
 exact get_map I.vX O (c.get f) c.hd n hu (Lz ru) (h u _ (I.tok _) ru)
theorem BR {m:Str} {g:Addr} {pl:Sem Bool} {Q:Value × List Value->AM->Prop} (I:Inv X pins σ H s) (e:H a=some (.ins C dx fs)) (c:tm X.K C) (k:Meth X.K C m g) (l:fs.lookup m=none)
 (h:Q (.ref g,[.ref a]) s):wpAny (model X.prog X.w) A (Aad (.ref a) m pl) Q E s:=by
 obtain⟨mA,O,r,_,_,_⟩:=zT I.bE e
 have hn:mA m=none:=qm.none_of (by rw [<-l];exact r m)
 exact Pa I.vX O (c.get m) k.at_ k.fn hn h
theorem HJ {y:V} {u:Value} {Q:Unit->AM->Prop} (I:Inv X pins σ H s) (e:H a=some (.ins C dx fs)) (c:tm X.K C) (n:aJ X.K C f) (hl:fs.length<1000) (ry:RelV y u)
 (h:∀s',Inv X pins σ (upd H a (.ins C dx (lq f y fs))) s'->Q () s'):wpAny (model X.prog X.w) A (setAttr (.ref a) f u) Q E s:=by
 obtain⟨mA,O,r,wi,_,ho⟩:=zT I.bE e
 have hz:(fs.map (·.1)).length<=Ev:=by rw [AL,AaE];omega
 refine SE I.vX O c.sa c.po n.aat c.hd wi hz fun h' O' sb=>h _ ?_
 have hd:∃o,h'.get? dx=some o:=let ⟨o,_,_,e',_⟩:=O'.ns;⟨o,e'⟩
 refine I.write (x:=a) (e:=dx) (by rw [e];exact Th) (.inr ho) (fun b q hb z=>(sb.2 b hb).trans z) hd ?_
 refine⟨by rw [ay O.ne];exact ho,?_,O.ne,O'.obj,_,O'.ns,fun g=>?_,fun g hg=>?_⟩
 . have:=za f y fs;omega
 . show qm ((lq f y fs).lookup g) (if g=f then some u else mA g)
   rw [y9]
   by_cases q:g=f
   . rw [if_pos q,if_pos q];exact ry
   . rw [if_neg q,if_neg q];exact r g
 . by_cases q:g=f
   . rw [q];exact(yy f y fs).1
   . refine(yy f y fs).2 g (wi g fun z=>hg ?_)
     show(if g=f then some u else mA g)=none
     rw [if_neg q];exact z
theorem Inv.made (I:Inv X pins σ H s):Inv X pins σ (upd (upd H s.heap.objs.size (.own (s.heap.objs.size+1))) (s.heap.objs.size+1) (.ins C s.heap.objs.size []))
 {s with heap:=(s.heap.push Op).push (So C s.heap.objs.size)}:=by
 have e1:(s.heap.push Op).get? s.heap.objs.size=some Op:=EM s.heap rfl
 have e2:((s.heap.push Op).push (So C s.heap.objs.size)).get? (s.heap.objs.size+1)=some (So C s.heap.objs.size):=by
  have:=EM (s.heap.push Op) (o:=So C s.heap.objs.size) rfl
  rwa [Aae] at this
 have e3:(s.heap.push Op).Ns s.heap.objs.size (fun _=>none):=⟨Op,#[],_,e1,rfl,(fun e he=>absurd he (by simp)),fun _=>rfl⟩
 have I1:=I.laid (a:=s.heap.objs.size) (o:=.own (s.heap.objs.size+1)) (h':=s.heap.push Op) (t':=s.toks) (fun b u q=>BS _ q) (BY _) ⟨_,e1⟩
 refine I1.laid (a:=s.heap.objs.size+1) (o:=.ins C s.heap.objs.size []) (t':=s.toks) (fun b u q=>BS _ q) (Nat.le_of_eq (Aae _ _)) ?_
 have ne:s.heap.objs.size≠s.heap.objs.size+1:=ES (AaX _)
 refine⟨by rw [ay ne,av],IR _,ne,e2,fun _=>none,(Heap.Ns1.of_empty e3).at fun o q=>BS _ q,fun _=>Th,fun y hy=>absurd rfl hy⟩
theorem TB {prog:Fa} {w:World} {env:Env} {e:Expr} {f:Str} {pos:Pos} {s:AM} {Q:Value->AM->Prop} (hb:T0 e f env (eval e env)=eval e env)
 (h:wpAny (model prog w) A (eval e env) (fun o s₁=>wpAny (model prog w) A (getAttr o f true) Q E s₁) E s):wpAny (model prog w) A (eval (.Attribute e f pos) env) Q E s:=
 Attribute_any_ h (by rw [arm_eval_Attribute,hb])
end
def XR (K:At) (ta:TE) (f:Str):TE:=fun σ H Q=>ta σ H fun x H1=>∃a C dx fs v,x=.ref a/\H1 a=some (.ins C dx fs)/\tm K C/\aJ K C f/\fs.lookup f=some v/\Q v H1
def aa4 (K:At) (ta tv:TE) (f:Str):TS:=fun D σ H=>tv σ H fun y H1=>ta σ H1 fun x H2=>∃a C dx fs,x=.ref a/\H2 a=some (.ins C dx fs)/\tm K C/\aJ K C f/\fs.length<1000/\
 D.nx σ (upd H2 a (.ins C dx (lq f y fs)))
section
variable {X:Cx} {o e value:Expr} {f:Str} {pos pos' Qa:Pos} {ta tv:TE}
theorem aq (he:PE X e ta) (hb:T0 e f X.env (eval e X.env)=eval e X.env):PE X (.Attribute e f pos) (XR X.K ta f):=by
 intro pins s σ H Q I h
 refine TB hb (dE (he pins s σ H _ I h) fun u s1 ⟨x,H1,I1,rx,a,C,dx,fs,v,ex,ea,c,n,l,q⟩=>?_)
 subst ex
 obtain rfl:u=Mc a:=rx
 exact Jj I1 ea c n l fun u' s2 I2 ru=>⟨v,H1,I2,ru,q⟩
theorem aU (ha:PE X o ta) (hv:PE X value tv) (hs:swapsWith value (some (.Attribute o f pos')) pos.line X.env=pure false):PS X (.Assign [.Attribute o f pos'] value pos) (aa4 X.K ta tv f):=by
 intro pins s σ H D I h
 refine plainObj_wpAny_Assign_Attribute (dE (hv pins s σ H _ I h) fun u s1 ⟨y,H1,I1,ry,q⟩=>dE (ha pins s1 σ H1 _ I1 q) fun ov s2 ⟨x,H2,I2,rx,a,C,dx,fs,ex,ea,c,n,l,q2⟩=>?_) hs
 subst ex
 obtain rfl:ov=Mc a:=rx
 exact HJ I2 ea c n l ry fun s3 I3=>⟨σ,_,I3,q2⟩
end
section
variable {X:Cx} {pins:List (Addr × Obj)} {σ:St} {H:Hp} {s:AM} {A:IF} {E:Value->AM->Prop} {Q:Value->AM->Prop} {c:Value} {b:Bool}
inductive xO (K:At) (H:Hp):V->Value->Prop where
 |a9:xO K H .a9 (.type "NoneType")
 |bl (x:Bool):xO K H (.bl x) (.type "bool")
 |int (i:Int):xO K H (.int i) (.type "int")
 |str (x:Str):xO K H (.str x) (.type "str")
 |XC (x:UInt64):xO K H (.XC x) (.type "float")
 |lst {a:Addr} {xs:List V} (e:H a=some (.lst xs)):xO K H (.ref a) (.type "list")
 |tT {a:Addr} {o:Obj} {xs:List V} (e:H a=some (.tT o (.lst xs))):xO K H (.ref a) (.type "list")
 |tup {a:Addr} {xs:List V} (e:H a=some (.tup xs)):xO K H (.ref a) (.type "tuple")
 |dK {a:Addr} {kvs:List (Key × V)} (e:H a=some (.dK kvs)):xO K H (.ref a) (.type "dict")
 |dT {a:Addr} {kvs:List (List Key × V)} (e:H a=some (.dT kvs)):xO K H (.ref a) (.type "dict")
 |ins {a C dx:Addr} {fs:List (Str × V)} (e:H a=some (.ins C dx fs)) (cl:tm K C) (ha:AR K (.ref C) "__class__"=some (some (.builtin "object.__class__")))
  (hn:Tk K (.builtin "object.__class__") "__get__"=some (some (.builtin "getset_descriptor.__get__"))) (FU:PySem.W.takesIn K (.builtin "object.__class__")=some true)
  (hm:PySem.W.mroIn K C (.type "object")=some true):xO K H (.ref a) (.ref C)
theorem Mp {x:V} {u t:Value} (I:Inv X pins σ H s) (rx:RelV x u) (ty:xO X.K H x t) (e:PySem.W.kitOne X.K t c=some b) (h:∀tk,Q (.bool b) {s with toks:=tk}):
 wpAny (model X.prog X.w) A (call (.builtin "isinstance") [u,c]) Q E s:=by
 cases ty with
 |a9=>cases (show u=OP from rx);exact Of PySem.W.kitx_none I.vX Th e (fun z=>nomatch z) h
 |bl y=>cases (show u=AbN y from rx);exact Of PySem.W.kitx_bool I.vX Th e (fun z=>nomatch z) h
 |int i=>obtain⟨t,q⟩:=(show ∃t,u=AbI i t from rx);cases q;exact Of PySem.W.kitx_int I.vX Th e (fun z=>nomatch z) h
 |str y=>obtain⟨t,q⟩:=(show ∃t,u=AbJ y t from rx);cases q;exact Of PySem.W.kitx_str I.vX Th e (fun z=>nomatch z) h
 |XC y=>obtain⟨t,q⟩:=(show ∃t,u=Value.float y t from rx);cases q;exact Of PySem.W.kitx_float I.vX Th e (fun z=>nomatch z) h
 |@lst a xs ea=>
  cases (show u=Mc a from rx)
  obtain⟨_,_,n,_,h1⟩:=(show c9 X.prog X.w H s.heap a (.lst xs) from I.bE a _ ea)
  exact Of PySem.W.kitx_list I.vX ⟨_,h1,rfl⟩ e (fun z=>nomatch z) h
 |@tT a ob xs ea=>
  cases (show u=Mc a from rx)
  obtain⟨_,_,_,n,_,h1⟩:=(show c9 X.prog X.w H s.heap a (.tT ob (.lst xs)) from I.bE a _ ea)
  exact Of PySem.W.kitx_list I.vX ⟨_,h1,rfl⟩ e (fun z=>nomatch z) h
 |@tup a xs ea=>
  cases (show u=Mc a from rx)
  obtain⟨_,_,_,p⟩:=(show c9 X.prog X.w H s.heap a (.tup xs) from I.bE a _ ea)
  obtain⟨o,h1,h2,_⟩:=p
  exact Of PySem.W.kitx_tuple I.vX ⟨o,h1,h2⟩ e (fun z=>nomatch z) h
 |@dK a kvs ea=>
  cases (show u=Mc a from rx)
  obtain⟨_,_,vs,_,p⟩:=(show c9 X.prog X.w H s.heap a (.dK kvs) from I.bE a _ ea)
  obtain⟨o,es,ep,h1,h2,_⟩:=p
  exact Of PySem.W.kitx_dict I.vX ⟨o,h1,h2.1⟩ e (fun z=>nomatch z) h
 |@dT a kvs ea=>
  cases (show u=Mc a from rx)
  obtain⟨_,_,xs,_,o,es,ep,h1,h2,_⟩:=(show c9 X.prog X.w H s.heap a (.dT kvs) from I.bE a _ ea)
  exact Of PySem.W.kitx_dict I.vX ⟨o,h1,h2.1⟩ e (fun z=>nomatch z) h
 |@ins a C dx fs ea cl ha hn FU hm=>
  cases (show u=Mc a from rx)
  obtain⟨mA,O,_⟩:=zT I.bE ea
  obtain⟨od,J,_⟩:=O.look
  exact Of (PySem.W.kitx_own (cl.get _) cl.hd ha hn FU hm) I.vX J e (fun z=>nomatch z) h
end
structure cS (k:Nat) (A:IF):Prop where
 hd:A.handled=none
 dp:A.depth+3*k+5<recursionLimit
 un:A.units+16*k+200<cLine
theorem cS.mono {j k:Nat} {A:IF} (r:cS k A) (h:j<=k):cS j A:=⟨r.hd,by have:=r.dp;omega,by have:=r.un;omega⟩
theorem cS.deeper {k:Nat} {A:IF} (r:cS (k+1) A) (env:Env):cS k (A.deeper env):=
 ⟨r.hd,by have:=r.dp;show A.depth+1+3*k+5<_;omega,by have:=r.un;show A.units+3+16*k+200<_;omega⟩
theorem cS.in1 {k:Nat} {A:IF} (r:cS (k+1) A):cS k A.in1:=
 ⟨r.hd,by have:=r.dp;show A.depth+3*k+5<_;omega,by have:=r.un;show A.units+1+16*k+200<_;omega⟩
theorem Jh {A:IF} {C:Addr} {us:List Value} {kw:List (Str × Value)}:(A.under (.builtin "type.__call__" ⟨.ref C::us,kw⟩)).depth=A.depth+1:=by
 first|rfl|simp [IF.under,Code.weight,Code.isCreation,Code.isGuard,Code.isCaller,Code.frames,Code.isFrame,guardIds]
theorem IB {A:IF} {C:Addr} {us:List Value} {kw:List (Str × Value)}:(A.under (.builtin "type.__call__" ⟨.ref C::us,kw⟩)).units=A.units+1:=by
 first|rfl|simp [IF.under,Code.cUnits,Code.frames,Code.isFrame]
theorem cS.make {k:Nat} {A:IF} (r:cS (k+1) A) (C:Addr) (us:List Value) (kw:List (Str × Value)):cS k (A.under (.builtin "type.__call__" ⟨.ref C::us,kw⟩)):=
 ⟨r.hd,by have:=r.dp;rw [Jh];omega,by have:=r.un;rw [IB];omega⟩
theorem cS.depth {k:Nat} {A:IF} (r:cS k A):A.depth<recursionLimit:=by have:=r.dp;omega
theorem cS.units {k:Nat} {A:IF} (r:cS k A):A.units+64<cLine:=by have:=r.un;omega
def F6:TA:=fun _ H Q=>Q [] H
def PD (ta:TE) (tr:TA):TA:=fun σ H Q=>ta σ H fun x H1=>tr σ H1 fun xs H2=>Q (x::xs) H2
section
variable {X:Cx} {e:Expr} {es:List Expr} {te:TE} {t:TA} {pos:Pos}
theorem ag:PA X [] F6:=fun _ _ _ _ H Q I h=>Abx ⟨[],H,I,.nil,h⟩
theorem ae (ha:PE X e te) (hr:PA X es t) (hs:DO (e::es) X.env=(false,eval e X.env)::DO es X.env:=by rfl):PA X (e::es) (PD te t):=by
 intro pos pins s σ H Q I h
 rw [hs]
 show wpAny _ _ (spliced ((false,eval e X.env)::RS pos (DO es X.env))) _ _ s
 refine Abm (dE (ha pins s σ H _ I h) fun u s1 ⟨x,H1,I1,r1,q1⟩=>?_)
 exact dE (hr pos pins s1 σ H1 _ I1 q1) fun us s2 ⟨xs,H2,I2,r2,q2⟩=>⟨x::xs,H2,I2,.cons r1 r2,q2⟩
def afo (t:TA):TE:=fun σ H Q=>t σ H fun xs H1=>xs.length<=Ev/\∀p,H1 p=none->Q (.ref p) (upd H1 p (.tup xs))
def afj (t:TA):TE:=fun σ H Q=>t σ H fun xs H1=>xs.length<=Ev/\∀p,H1 p=none->Q (.ref p) (upd H1 p (.lst xs))
theorem Yl {x1} (h:PA X es t):PE X (.Tuple es x1 pos) (afo t):=by
 intro pins s σ H Q I hq
 refine wpAny_Tuple_spliced (dE (h pos pins s σ H _ I hq) fun us s1 ⟨xs,H1,I1,r,z,q⟩=>⟨by rw [<-r.length];exact z,?_⟩)
 have hf:H1 s1.heap.objs.size=none:=I1.bE.fresh (BY _)
 refine⟨.ref s1.heap.objs.size,upd H1 s1.heap.objs.size (.tup xs),I1.laid (t':=s1.toks) (fun b u e=>BS _ e) (BY _) ?_,rfl,q _ hf⟩
 exact⟨z,us,r,⟨_,EM _ rfl,rfl,_,rfl⟩⟩
theorem Wx (h:PA X es t):PE X (.List es pos) (afj t):=by
 intro pins s σ H Q I hq
 refine wpAny_List_spliced (dE (h pos pins s σ H _ I hq) fun us s1 ⟨xs,H1,I1,r,z,q⟩=>⟨by rw [<-r.length];exact z,?_⟩)
 have hf:H1 s1.heap.objs.size=none:=I1.bE.fresh (BY _)
 refine⟨.ref s1.heap.objs.size,upd H1 s1.heap.objs.size (.lst xs),I1.laid (t':=s1.toks) (fun b u e=>BS _ e) (BY _) ?_,rfl,q _ hf⟩
 exact⟨z,us,0,r,EM _ rfl⟩
end
abbrev Sp:=List V->Hp->VK->XK->Prop
abbrev GH:=List Env->Hp->AM->XK->Value->AM->Prop
structure B5 (P:Fa) (w:World) (K:At) (mg:Str->Option Value) (base:Heap) (A:IF) (outer:List Env) (s:AM) (H:Hp):Prop where
 frames:A.frames=some outer
 mod:Mod K mg base
 bs:∀b o,base.get? b=some o->s.heap.get? b=some o/\H b=none
 Nb:base.objs.size<=s.heap.objs.size
 xJ:s.heap.FunFrames base outer
 Uc:∀b∈Lf outer,H b=none
 bE:rq P w H s.heap
 bare:AbL s.gens
def CE (outer:List Env) (P:Fa) (w:World) (H:Hp) (s:AM) (Q:VK) (u:Value) (s':AM):Prop:=
 ∃v H',s'.os=s.os/\AbL s'.gens/\Un (Lf outer) [] H H' s.heap s'.heap/\rq P w H' s'.heap/\RelV v u/\Q v H'
def CR (CX:GH) (outer:List Env) (P:Fa) (w:World) (H:Hp) (s:AM) (Q:VK) (E:XK) (r:Result) (s':AM):Prop:=
 match r with
 | .ok (.ret u)=>CE outer P w H s Q u s'
 | .ok _=>False
 | .error e=>CX outer H s E e s'
structure aS (P:Fa) (w:World) (K:At) (mg:Str->Option Value) (base:Heap) (CX:GH) (k:Nat) (f:Addr) (fd:Cf) (ps:List Str) (sp:Sp):Prop where
 len:∀vs H Q E,sp vs H Q E->vs.length=ps.length
 run:∀(A:IF) (outer:List Env) (s:AM) (H:Hp) (args:Args) (us:List Value) (vs:List V) (Q:VK) (E:XK),cS k A->B5 P w K mg base A outer s H->BindsTo s fd args (ps.zip us)->Vals vs us->sp vs H Q E->
  AbE (model P w) A (.call (.ref f) args) (CR CX outer P w H s Q E) s
theorem aS.mono {P:Fa} {w:World} {K:At} {mg:Str->Option Value} {base:Heap} {CX:GH} {j k:Nat} {f:Addr} {fd:Cf} {ps:List Str} {sp:Sp} (F:aS P w K mg base CX j f fd ps sp) (h:j<=k):
 aS P w K mg base CX k f fd ps sp:=⟨F.len,fun A outer s H args us vs Q E hr=>F.run A outer s H args us vs Q E (hr.mono h)⟩
theorem B5.make {P:Fa} {w:World} {K:At} {mg:Str->Option Value} {base:Heap} {A:IF} {outer:List Env} {s:AM} {H:Hp} (e:B5 P w K mg base A outer s H) (C:Addr) (us:List Value) (kw:List (Str × Value)):
 B5 P w K mg base (A.under (.builtin "type.__call__" ⟨.ref C::us,kw⟩)) outer s H:=⟨by first|exact e.frames|(simpa [IF.under,Code.envs,Code.isFrame,pushEnvs] using e.frames),e.mod,e.bs,e.Nb,e.xJ,e.Uc,e.bE,e.bare⟩
theorem B5.in1 {P:Fa} {w:World} {K:At} {mg:Str->Option Value} {base:Heap} {A:IF} {outer:List Env} {s:AM} {H:Hp} (e:B5 P w K mg base A outer s H):
 B5 P w K mg base A.in1 outer s H:=⟨e.frames,e.mod,e.bs,e.Nb,e.xJ,e.Uc,e.bE,e.bare⟩
section
variable {X:Cx} {pins:List (Addr × Obj)} {σ:St} {H:Hp} {s s':AM}
theorem Inv.Wj (I:Inv X pins σ H s):B5 X.prog X.w X.K X.mg X.base X.A X.stack s H:=
 ⟨I.ok.frames,I.ok.mod,I.bs,Me I.ok.Nb I.sz,I.stack,I.JP,I.bE,I.bare⟩
theorem Inv.after {Q:VK} {u:Value} (I:Inv X pins σ H s) (h:CE X.stack X.prog X.w H s Q u s'):EP X pins σ Q u s':=by
 obtain⟨v,H',os,bare,un,bE,r,q⟩:=h
 obtain⟨hh,g,d,t,os'⟩:=s'
 obtain rfl:os'=s.os:=os
 exact⟨v,H',I.call (h':=hh) (g':=g) (d':=d) (t':=t) (ch:=[]) un bE bare (fun b z=>absurd z (by simp)),r,q⟩
end
def CI (sp:Sp) (eQ:List V) (E:XK) (t:TA):TE:=fun σ H Q=>t σ H fun vs H1=>sp (vs++eQ) H1 Q E
def DA (C:Addr) (m:Str) (sp:Sp) (eQ:List V) (E:XK) (ta:TE) (t:TA):TE:=fun σ H Q=>ta σ H fun x H1=>∃a dx fs,x=.ref a/\H1 a=some (.ins C dx fs)/\fs.lookup m=none/\
 t σ H1 fun vs H2=>sp (x::(vs++eQ)) H2 Q E
def GL (C:Addr) (sp:Sp) (eQ:List V) (E:XK) (t:TA):TE:=fun σ H Q=>t σ H fun vs H1=>∀x dx,H1 x=none->H1 dx=none->dx≠x->
 sp (.ref x::(vs++eQ)) (upd (upd H1 dx (.own x)) x (.ins C dx [])) (fun v H2=>v=.a9/\Q (.ref x) H2) E
def Binds (K:At) (fd:Cf) (ps:List Str) (ds:List Value):Prop:=
 ∀(s:AM) (us:List Value),K.In s.heap->(us++ds).length=ps.length->BindsTo s fd ⟨us,[]⟩ (ps.zip (us++ds))
theorem Binds.all {K:At} {fd:Cf} {ps:List Str} (h:∀us:List Value,us.length=ps.length->AbQ fd ⟨us,[]⟩=pure (ps.zip us)):Binds K fd ps []:=fun s us _ hl=>by
 rw [Mo] at hl ⊢
 exact .of_eq (h us hl)
def Passes (CX:GH) (X:Cx) (E:XK):Prop:=∀(pins:List (Addr × Obj)) (σ:St) (H:Hp) (s:AM) (e:Value) (s':AM),Inv X pins σ H s->CX X.stack H s E e s'->X.xe e s'
section
variable {X:Cx} {CX:GH} {k:Nat} {f C:Addr} {fd:Cf} {ps:List Str} {sp:Sp} {eQ:List V} {ds:List Value} {E:XK} {x m:Str} {p pos apos:Pos} {e o:Expr} {es:List Expr} {ta:TE} {t:TA}
theorem Es {pins:List (Addr × Obj)} {σ:St} {H:Hp} {s:AM} {Q:VK} {us:List Value} {vs:List V} (F:aS X.prog X.w X.K X.mg X.base CX k f fd ps sp) (hr:cS k X.A) (hb:Binds X.K fd ps ds) (hd:Vals eQ ds) (hx:Passes CX X E)
 (I:Inv X pins σ H s) (r:Vals vs us) (h:sp (vs++eQ) H Q E):wpAny (model X.prog X.w) X.A (call (.ref f) us) (EP X pins σ Q) X.xe s:=by
 have r2:Vals (vs++eQ) (us++ds):=r.append hd
 have hl:(us++ds).length=ps.length:=by rw [<-r2.length];exact F.len _ _ _ _ h
 refine wpAny_call (Abn (F.run X.A X.stack s H ⟨us,[]⟩ (us++ds) (vs++eQ) Q E hr I.Wj (hb s us I.vX hl) r2 h) fun r s' hq=>?_)
 cases r with
 |error e=>exact hx pins σ H s e s' I hq
 |ok fl=>
  cases fl with
  |ret u=>exact I.after hq
  |next=>exact Po hq
  |brk=>exact Po hq
  |cont=>exact Po hq
theorem UB (F:aS X.prog X.w X.K X.mg X.base CX k f fd ps sp) (hr:cS k X.A) (hg:Gl X x) (hm:X.mg x=some (.ref f)) (hk:ET X.K (.ref f)=true) (hb:Binds X.K fd ps ds) (hd:Vals eQ ds) (hx:Passes CX X E)
 (ha:PA X (e::es) t) (zE:(x==("__debug__":Str))=false:=by decide) (he:DO (e::es) X.env=(false,eval e X.env)::DO es X.env:=by rfl) (uN:(RS pos (DO es X.env)).any (·.1)=false:=by rfl):
 PE X (.Call (.Name x p) (e::es) [] pos) (CI sp eQ E t):=by
 intro pins s σ H Q I h
 refine Q3 (xC I hg hm ?_ zE)
 refine Aan (h₀:=X.base) I.ok.mod.Zm hk (dE (ha pos pins s σ H _ I h) fun us s1 ⟨vs,H1,I1,r,q⟩=>⟨I1.vX,?_⟩) he uN
 exact Es F hr hb hd hx I1 r q
theorem TU {pl:Sem Bool} (he:PE X o ta) (c:tm X.K C) (hm:Meth X.K C m f) (F:aS X.prog X.w X.K X.mg X.base CX k f fd ps sp) (hr:cS k X.A) (hb:Binds X.K fd ps ds) (hd:Vals eQ ds) (hx:Passes CX X E) (ha:PA X (e::es) t)
 (se:DO (e::es) X.env=(false,eval e X.env)::DO es X.env:=by rfl) (uN:(RS pos (DO es X.env)).any (·.1)=false:=by rfl)
 (ht:eval (.Call (.Attribute o m apos) (e::es) [] pos) X.env=(do
  let ov <-eval o X.env
  Aa9 apos.atName
  let (f,first) <-Aba [ov] (Aad ov m pl)
  Abo pos f first (RS pos (DO (e::es) X.env)) (Aaj pos (Rs [] X.env))):=by rfl):
 PE X (.Call (.Attribute o m apos) (e::es) [] pos) (DA C m sp eQ E ta t):=by
 intro pins s σ H Q I h
 refine AaP (pl:=pl) (dE (he pins s σ H _ I h) fun u s1 ⟨x,H1,I1,rx,a,dx,fs,ex,ea,l,q⟩=>?_) ht
 subst ex
 obtain rfl:u=Mc a:=rx
 refine BR I1 ea c hm l ?_
 refine Aan (first:=[.ref a]) (h₀:=X.base) I.ok.mod.Zm hm.kp (dE (ha pos pins s1 σ H1 _ I1 q) fun us s2 ⟨vs,H2,I2,r,q2⟩=>⟨I2.vX,?_⟩) se uN
 exact Es (us:=.ref a::us) (vs:=.ref a::vs) F hr hb hd hx I2 (.cons rfl r) q2
theorem Qf {pl:Sem Bool} (he:PE X o ta) (c:tm X.K C) (hm:Meth X.K C m f) (F:aS X.prog X.w X.K X.mg X.base CX k f fd ps sp) (hr:cS k X.A) (hb:Binds X.K fd ps ds) (hd:Vals eQ ds) (hx:Passes CX X E)
 (ht:eval (.Call (.Attribute o m apos) [] [] pos) X.env=(do
  let ov <-eval o X.env
  Aa9 apos.atName
  let (f,first) <-Aba [ov] (Aad ov m pl)
  Abo pos f first (RS pos (DO [] X.env)) (Aaj pos (Rs [] X.env))):=by rfl):
 PE X (.Call (.Attribute o m apos) [] [] pos) (DA C m sp eQ E ta F6):=by
 intro pins s σ H Q I h
 refine AaP (pl:=pl) (dE (he pins s σ H _ I h) fun u s1 ⟨x,H1,I1,rx,a,dx,fs,ex,ea,l,q⟩=>?_) ht
 subst ex
 obtain rfl:u=Mc a:=rx
 refine BR I1 ea c hm l ?_
 exact PySem.W.callWith_K0 (first:=[.ref a]) I1.vX hm.kp (Es (us:=[.ref a]) (vs:=[.ref a]) F hr hb hd hx I1 (.cons rfl .nil) q)
structure Mk (K:At) (C f:Addr):Prop where
 makes:Q1 K C=true
 init:AR K (.ref C) "__init__"=some (some (.ref f))
 fn:PySem.W.isFn K (.ref f)=true
 kp:ET K (.ref C)=true
theorem Ga {pins:List (Addr × Obj)} {σ:St} {H:Hp} {s:AM} {Q:VK} {us:List Value} {vs:List V} (M:Mk X.K C f) (F:aS X.prog X.w X.K X.mg X.base CX k f fd ps sp) (hr:cS (k+1) X.A) (hb:Binds X.K fd ps ds) (hd:Vals eQ ds)
 (hx:Passes CX X E) (I:Inv X pins σ H s) (r:Vals vs us)
 (h:∀x dx,H x=none->H dx=none->dx≠x->sp (.ref x::(vs++eQ)) (upd (upd H dx (.own x)) x (.ins C dx [])) (fun v H2=>v=.a9/\Q (.ref x) H2) E):
 wpAny (model X.prog X.w) X.A (call (.ref C) us) (EP X pins σ Q) X.xe s:=by
 have hq:=h (s.heap.objs.size+1) s.heap.objs.size (I.bE.fresh (AaG _)) (I.bE.fresh (BY _)) (ES (AaX _))
 have I2:=Inv.made (C:=C) I
 have r2:Vals (V.ref (s.heap.objs.size+1)::(vs++eQ)) (Mc (s.heap.objs.size+1)::(us++ds)):=.cons rfl (r.append hd)
 have hl:(Mc (s.heap.objs.size+1)::us++ds).length=ps.length:=by
  have e:=r2.length
  rw [F.len _ _ _ _ hq] at e
  exact e.symm
 refine wpAny_call (Qq (f:=f) I.vX M.makes M.init (beq_iff_eq.mp M.fn) (Abn (F.run _ X.stack _ _ ⟨Mc (s.heap.objs.size+1)::us,[]⟩ (Mc (s.heap.objs.size+1)::(us++ds)) _ _ E (hr.make C us [])
  (I2.Wj.make C us []) (hb _ (Mc (s.heap.objs.size+1)::us) I2.vX hl) r2 hq) fun r s' vV=>?_))
 cases r with
 |error e=>exact hx pins σ _ _ e s' I2 vV
 |ok fl=>
  cases fl with
  |ret u=>
   obtain⟨v,H',I3,rv,ev,q3⟩:=I2.after vV
   subst ev
   exact⟨rv,⟨V.ref (s.heap.objs.size+1),H',I3,rfl,q3⟩⟩
  |next=>exact Po vV
  |brk=>exact Po vV
  |cont=>exact Po vV
theorem T7 (M:Mk X.K C f) (F:aS X.prog X.w X.K X.mg X.base CX k f fd ps sp) (hr:cS (k+1) X.A) (hg:Gl X x) (hm:X.mg x=some (.ref C)) (hb:Binds X.K fd ps ds) (hd:Vals eQ ds) (hx:Passes CX X E)
 (ha:PA X (e::es) t) (zE:(x==("__debug__":Str))=false:=by decide) (he:DO (e::es) X.env=(false,eval e X.env)::DO es X.env:=by rfl) (uN:(RS pos (DO es X.env)).any (·.1)=false:=by rfl):
 PE X (.Call (.Name x p) (e::es) [] pos) (GL C sp eQ E t):=by
 intro pins s σ H Q I h
 refine Q3 (xC I hg hm ?_ zE)
 refine Aan (h₀:=X.base) I.ok.mod.Zm M.kp (dE (ha pos pins s σ H _ I h) fun us s1 ⟨vs,H1,I1,r,q⟩=>⟨I1.vX,?_⟩) he uN
 exact Ga M F hr hb hd hx I1 r q
theorem N6 (M:Mk X.K C f) (F:aS X.prog X.w X.K X.mg X.base CX k f fd ps sp) (hr:cS (k+1) X.A) (hg:Gl X x) (hm:X.mg x=some (.ref C)) (hb:Binds X.K fd ps ds) (hd:Vals eQ ds) (hx:Passes CX X E)
 (zE:(x==("__debug__":Str))=false:=by decide):PE X (.Call (.Name x p) [] [] pos) (GL C sp eQ E F6):=by
 intro pins s σ H Q I h
 refine Q3 (xC I hg hm ?_ zE)
 exact PySem.W.callWith_K0 I.vX M.kp (Ga (us:=[]) M F hr hb hd hx I .nil h)
end
def PK (X:Cx) (kws:List Keyword) (t:TA):Prop:=
 ∀(pos:Pos) (pins:List (Addr × Obj)) (s:AM) (σ:St) (H:Hp) (Q:List V->Hp->Prop),Inv X pins σ H s->t σ H Q->wpAny (model X.prog X.w) X.A (evalAll ((Aaj pos (Rs kws X.env)).map (·.2))) (AP X pins σ Q) X.xe s
section
variable {X:Cx} {CX:GH} {k:Nat} {f C:Addr} {fd:Cf} {ps ks:List Str} {sp:Sp} {E:XK} {x m:Str} {p pos apos RM:Pos} {e o:Expr} {es:List Expr} {kws:List Keyword} {te ta:TE} {t tk:TA} {nm:Option Str}
theorem Xs:PK X [] F6:=fun _ _ _ _ H Q I h=>wpAny_evalAll_nil ⟨[],H,I,.nil,h⟩
theorem TQ (ha:PE X e te) (hr:PK X kws t):PK X (⟨nm,e,RM⟩::kws) (PD te t):=by
 intro pos pins s σ H Q I h
 show wpAny _ _ (evalAll ((do let v <-eval e X.env;Aa9 pos;pure v)::(Aaj pos (Rs kws X.env)).map (·.2))) _ _ s
 refine wpAny_evalAll_cons (BC (dE (ha pins s σ H _ I h) fun u s1 ⟨x,H1,I1,r1,q1⟩=>BC (wpAny_standAt (FM ?_))))
 exact dE (hr pos pins s1 σ H1 _ I1 q1) fun us s2 ⟨xs,H2,I2,r2,q2⟩=>⟨x::xs,H2,I2,.cons r1 r2,q2⟩
variable {g:List Value->List Value->List Value} {gV:List V->List V->List V}
end
structure aw (N P:List Str) (sc:Scope):Prop where
 kind:sc.kind=.function
 co:sc.isCoroutine=false
 gen:sc.isGenerator=false
 nd:N.Nodup
 pre:N.take P.length=P
 par:∀x∈P,sc.names.lookup x=some .local\/sc.names.lookup x=some .cell
 Wz:∀y∈sc.names,y.2≠.free
theorem Ds {kindOf:Str->Option AbW} {x:Str}:∀{binds:List (Str × Value)} {m:Str->Option Value},(∀v,(x,v)∉binds)->bindL kindOf binds m x=m x
 |[],_,_=>rfl
 |(n,v)::r,m,h=>by
  unfold bindL
  rw [Ds fun w hw=>h w (AD _ hw)]
  split
  . have:x≠n:=by rintro rfl;exact h v BN
    simp [this]
  . rfl
theorem Df {kindOf:Str->Option AbW} {x:Str}:∀{binds:List (Str × Value)} {m:Str->Option Value},(∀v,(x,v)∉binds)->bindC kindOf binds m x=m x
 |[],_,_=>rfl
 |(n,v)::r,m,h=>by
  unfold bindC
  rw [Df fun w hw=>h w (AD _ hw)]
  split
  . rfl
  . have:x≠n:=by rintro rfl;exact h v BN
    simp [this]
theorem CP {kindOf:Str->Option AbW} {x:Str} {v:Value}:∀{P:List Str} {vs:List Value} {i:Nat} {m:Str->Option Value},P.Nodup->P[i]? =some x->vs[i]? =some v->kindOf x=some .local->
 bindL kindOf (P.zip vs) m x=some v
 |[],_,_,_,_,h,_,_=>by simp at h
 |_::_,[],_,_,_,_,h,_=>by simp at h
 |p::P,w::vs,0,m,nd,h1,h2,hk=>by
  simp at h1 h2;subst h1;subst h2
  show bindL kindOf ((p,w)::P.zip vs) m p=_
  unfold bindL
  rw [Ds fun v hv=>(EN.mp nd).1 (List.of_mem_zip hv).1,if_pos hk]
  simp
 |p::P,w::vs,i+1,m,nd,h1,h2,hk=>by
  show bindL kindOf ((p,w)::P.zip vs) m x=_
  unfold bindL
  exact CP (i:=i) (EN.mp nd).2 (by simpa using h1) (by simpa using h2) hk
theorem CF {kindOf:Str->Option AbW} {x:Str} {v:Value}:∀{P:List Str} {vs:List Value} {i:Nat} {m:Str->Option Value},P.Nodup->P[i]? =some x->vs[i]? =some v->kindOf x≠some .local->
 bindC kindOf (P.zip vs) m x=some v
 |[],_,_,_,_,h,_,_=>by simp at h
 |_::_,[],_,_,_,_,h,_=>by simp at h
 |p::P,w::vs,0,m,nd,h1,h2,hk=>by
  simp at h1 h2;subst h1;subst h2
  show bindC kindOf ((p,w)::P.zip vs) m p=_
  unfold bindC
  rw [Df fun v hv=>(EN.mp nd).1 (List.of_mem_zip hv).1,if_neg hk]
  simp
 |p::P,w::vs,i+1,m,nd,h1,h2,hk=>by
  show bindC kindOf ((p,w)::P.zip vs) m x=_
  unfold bindC
  exact CF (i:=i) (EN.mp nd).2 (by simpa using h1) (by simpa using h2) hk
def start (N:List Str) (vs:List V):St:=vs.map some++LM (N.length - vs.length) none
def MM (CX:GH) (P:Fa) (w:World) (K:At) (mg:Str->Option Value) (base:Heap) (N:List Str) (qual:Str) (scope:Scope) (f:Addr) (cd:Value) (A:IF) (outer:List Env) (s:AM) (H:Hp) (E:XK):Cx where
 prog:=P
 w:=w
 K:=K
 mg:=mg
 base:=base
 A:=A.deeper (envOfC qual scope s.heap.objs.size f cd)
 N:=N
 jm:=s
 HC:=H
 env:=envOfC qual scope s.heap.objs.size f cd
 outer:=outer
 stack:=envOfC qual scope s.heap.objs.size f cd::outer
 ex:=[]
 calm:=true
 fn:=fun _=>true
 pn:=[]
 xe:=fun e s'=>wpAny (model P w) (A.deeper (envOfC qual scope s.heap.objs.size f cd)) («leaving» (envOfC qual scope s.heap.objs.size f cd) e) (fun _ s''=>CX outer H s E e s'') (fun e' s''=>CX outer H s E e' s'') s'
theorem G6 {sc:Scope} {n:Nat} {x:Str} (h:sc.names.lookup x=some .cell):∃c,(cellsFrom n sc.names []).lookup x=some c:=by
 have q:=PySem.W.cellsFrom_some sc.names n [] (.inl h)
 exact Tl.mp q
theorem Lx {CX:GH} {P:Fa} {w:World} {K:At} {mg:Str->Option Value} {base:Heap} {N ps:List Str} {qual:Str} {scope:Scope} {f:Addr} {cd:Value} {A:IF} {outer:List Env} {s s1:AM} {H:Hp} {E:XK} {us:List Value} {vs:List V}
 (S:aw N ps scope) (hd:A.handled=none) (e0:B5 P w K mg base A outer s H) (hl:vs.length=ps.length) (r:Vals vs us)
 (x:InCallC s s.heap.objs.size (bindL (envOfC qual scope s.heap.objs.size f cd).kindOf (ps.zip us) fun _=>none) (cellsFrom (s.heap.objs.size+1) scope.names []) (bindC (envOfC qual scope s.heap.objs.size f cd).kindOf (ps.zip us) fun _=>none) s1):
 Inv (MM CX P w K mg base N qual scope f cd A outer s H E) [] (start N vs) H s1:=by
 have uN:ps.length<=N.length:=by have:=congrArg Abc S.pre;rw [Ll] at this;omega
 obtain⟨h1,tk,rfl,hk⟩:=x.done
 have ZW:∀b:Addr,b∉(MM CX P w K mg base N qual scope f cd A outer s H E).ex:=fun b z=>absurd (show b∈([]:List Addr) from z) (by simp)
 refine⟨⟨e0.mod,S.kind,rfl,rfl,BY _,fun y z c h1 h2=>?_,fun y hy=>?_,fun y c _ h=>?_,fun _=>hd,IF.frames_deeper e0.frames,.inr ⟨rfl,rfl⟩,fun b z=>absurd z (ZW b),e0.bs,e0.Nb,fun b _ _=>ZW b,fun b z=>absurd z (ZW b),e0.xJ,e0.Uc⟩,
  rfl,e0.bare,Un.kept hk,⟨_,x.toInCall.ns,fun i y v h1 h2 h3=>?_⟩,fun y c h=>⟨_,x.cell y c h⟩,e0.bE.fresh (BY _),fun y c h=>?_,fun p hp=>absurd (show p∈([]:List (Addr × Obj)) from hp) (by simp),e0.bE.kept hk,?_⟩
 . exact name_of_addr x.apart (Uf h1) (Uf h2)
 . have hy:scope.names.lookup y=some .cell\/scope.names.lookup y=some .free:=hy
   rcases hy with hy|hy
   . exact G6 hy
   . exact absurd rfl (S.Wz _ (Uf hy))
 . exact AaO (x.above y c (Uf h))
 . have hi:i<vs.length:=by
    unfold start at h2
    by_cases hi:i<vs.length
    . exact hi
    . rw [Pd (by simpa using hi)] at h2
      rw [Aao] at h2
      split at h2 <;>cases h2
   have ha:vs[i]? =some v:=by
    unfold start at h2
    rw [Aaf (by simpa using hi),EU] at h2
    cases e:vs[i]? with
    |none=>rw [e] at h2;cases h2
    |some a=>rw [e] at h2;cases h2;rfl
   obtain⟨u,hu,rv⟩:=r.get ha
   have hp:ps[i]? =some y:=by
    rw [<-S.pre,List.getElem?_take_of_lt (by omega)];exact h1
   have ndP:ps.Nodup:=by rw [<-S.pre];exact S.nd.sublist (List.take_sublist _ _)
   refine⟨u,rv,?_⟩
   rcases S.par y (B0 hp) with k|k
   . exact .inl ⟨k,CP ndP hp hu k⟩
   . obtain⟨c,e⟩:=G6 (n:=s.heap.objs.size+1) k
     refine .inr ⟨.inl k,c,e,?_⟩
     have q:=x.cell y c e
     rw [CF ndP hp hu (by show scope.names.lookup y≠_;rw [k];decide)] at q
     exact q
 . exact e0.bE.fresh (AaO (x.above y c (Uf h)))
 . unfold start
   show _=N.length
   rw [Do,AL,YE]
   omega
theorem aaM {CX:GH} {P:Fa} {w:World} {K:At} {mg:Str->Option Value} {base:Heap} {k:Nat} {f:Addr} {name qual:Str} {params:AbM} {body:List Stmt} {scope:Scope} {dV kV doc pm di ct oc:Value} {an od:Option Addr}
 {Tj:Array (Option Value)} {N ps:List Str} {sp:Sp} (lk:K.lookup f=some ⟨oc,od,.func (AaQ name qual params body scope dV kV doc pm an di ct),Tj⟩) (M9:PySem.W.codeIn K di qual=true) (S:aw N ps scope)
 (len:∀vs H Q E,sp vs H Q E->vs.length=ps.length)
 (Dr:∀(A:IF) (outer:List Env) (s:AM) (H:Hp) (vs:List V) (Q:VK) (E:XK),cS k (A.deeper (envOfC qual scope s.heap.objs.size f di))->sp vs H Q E->
  ∃t,HV (MM CX P w K mg base N qual scope f di A outer s H E) body t/\t {nx:=fun _ H'=>Q .a9 H',rt:=Q} (start N vs) H):
 aS P w K mg base CX (k+1) f (AaQ name qual params body scope dV kV doc pm an di ct) ps sp:=by
 refine⟨len,fun A outer s H args us vs Q E hr e0 hb r Nf=>?_⟩
 have hl:=len _ _ _ _ Nf
 have KX:K.In s.heap:=e0.mod.Zm.keeps fun b o e=>(e0.bs b o e).1
 have lim:s.heap.NoLimit:=e0.mod.nolimit.keeps fun b o e=>(e0.bs b o e).1
 have acD:∀y∈ps.zip us,scope.names.lookup y.1=some .local\/(scope.names.lookup y.1=some .cell/\((cellsFrom (s.heap.objs.size+1) scope.names []).lookup y.1).isSome=true):=fun⟨n,v⟩ hy=>by
  rcases S.par n (List.of_mem_zip hy).1 with q|q
  . exact .inl q
  . exact .inr ⟨q,PySem.W.cellsFrom_some _ _ _ (.inl q)⟩
 refine codeAny_call_function hr.depth (KX _ _ lk) rfl S.co S.gen rfl (PySem.W.codeRec_of KX M9) (hb _ _ _ _ ?_)
 refine wpAny_newFunctionEnv_cells S.kind acD fun env he s1 x=>?_
 subst he
 refine⟨lim.keeps x.toInCall.keep,codeAny_func ?_⟩
 obtain⟨t,ht,hq⟩:=Dr A outer s H vs Q E (hr.deeper _) Nf
 have I:Inv (MM CX P w K mg base N qual scope f di A outer s H E) [] (start N vs) H s1:=Lx S hr.hd e0 hl r x
 refine NO (ht [] s1 (start N vs) H _ I hq) (fun fl s' hs=>?_) fun e s' hs=>hs
 have fin:∀{σ':St} {H':Hp} {v:V} {u:Value},Inv (MM CX P w K mg base N qual scope f di A outer s H E) [] σ' H' s'->RelV v u->Q v H'->CE outer P w H s Q u s':=
  fun {σ' H' v u} J rv q=>⟨v,H',J.os,J.bare,J.base,J.bE,rv,q⟩
 cases fl with
 |ret u=>
  obtain⟨v,σ',H',J,rv,q⟩:=hs
  exact fin J rv q
 |next=>
  obtain⟨σ',H',J,q⟩:=hs
  exact fin (v:=V.a9) (u:=OP) J rfl q
 |brk=>
  obtain⟨_,_,_,q⟩:=hs
  exact Po q
 |cont=>
  obtain⟨_,_,_,q⟩:=hs
  exact Po q
section
variable {X:Cx} {x:Str} {p pos:Pos} {e:Expr} {es:List Expr} {t:TA} {id T:String} {r:List V->Hp->VK->Prop}
def tCB (r:List V->Hp->VK->Prop) (t:TA):TE:=fun σ H Q=>t σ H fun vs H1=>r vs H1 Q
theorem cg (hc:nk X (.builtin id) r) (hg:Gl X x) (hm:X.mg x=none) (hv:AaN x=some (.builtin id)) (ha:PA X (e::es) t) (hn:x≠"__name__":=by decide) (zE:(x==("__debug__":Str))=false:=by decide)
 (he:DO (e::es) X.env=(false,eval e X.env)::DO es X.env:=by rfl) (uN:(RS pos (DO es X.env)).any (·.1)=false:=by rfl):PE X (.Call (.Name x p) (e::es) [] pos) (tCB r t):=by
 intro pins s σ H Q I h
 refine Q3 (vq I hg hm hv ?_ hn zE)
 exact PyProof.Rows.callWith_builtin1 (dE (ha pos pins s σ H _ I h) fun us s1 ⟨vs,H1,I1,r1,q1⟩=>hc pins s1 σ H1 vs us Q I1 r1 q1) he uN
theorem De (hc:nk X (.type T) r) (hg:Gl X x) (hm:X.mg x=none) (hv:AaN x=some (.type T)) (ha:PA X (e::es) t) (hn:x≠"__name__":=by decide) (zE:(x==("__debug__":Str))=false:=by decide)
 (he:DO (e::es) X.env=(false,eval e X.env)::DO es X.env:=by rfl) (uN:(RS pos (DO es X.env)).any (·.1)=false:=by rfl):PE X (.Call (.Name x p) (e::es) [] pos) (tCB r t):=by
 intro pins s σ H Q I h
 refine Q3 (vq I hg hm hv ?_ hn zE)
 exact XV (dE (ha pos pins s σ H _ I h) fun us s1 ⟨vs,H1,I1,r1,q1⟩=>hc pins s1 σ H1 vs us Q I1 r1 q1) he uN
end
end L2
namespace HT
open PySem PyProof.Rows
section
open PySem.SeqAt
open PySem.AutoSeq1 (wpAny_loadPart')
open PySem.MeetsSeq PySem.MeetsSeq2 PySem.MeetsSeq3
end
section
variable {prog:Fa} {w:World} {A:IF} {E:Value->AM->Prop} {s:AM}
end
end HT
namespace L2
open PySem PySem.Spec PyProof.Rows
abbrev TO:=St->Hp->(Option Int->Hp->Prop)->Prop
section
variable {X:Cx} {e:Expr} {te:TE} {lo hi:Option Expr} {tl th:TO} {pos p2:Pos}
end
def M0 (n:Nat) (i:Int):Option Nat:=if 0<=i then (if i<n then some i.toNat else none) else if -(n:Int)<=i then some (i+n).toNat else none
def zg {α:Type} (xs:List α) (i:Int):Option α:=(M0 xs.length i).bind fun j=>xs[j]?
theorem Tv {n:Nat} {i:Int} {j:Nat} (h:M0 n i=some j):seqIndex? i n=some j/\j<n/\-(n:Int)<=i/\i<n:=by
 unfold M0 at h
 by_cases h0:0<=i
 . rw [if_pos h0] at h
   by_cases h1:i<n
   . rw [if_pos h1] at h
     have e:i.toNat=j:=CC h
     exact⟨by rw [seqIndex_of h0 h1,e],by omega,by omega,h1⟩
   . rw [if_neg h1] at h;cases h
 . rw [if_neg h0] at h
   by_cases h1:-(n:Int)<=i
   . rw [if_pos h1] at h
     have e:(i+n).toNat=j:=CC h
     exact⟨by rw [seqIndex_neg (by omega) h1,e],by omega,h1,by omega⟩
   . rw [if_neg h1] at h;cases h
theorem Fg {α:Type} {xs:List α} {i:Int} {v:α} (h:zg xs i=some v):∃j,seqIndex? i xs.length=some j/\xs[j]? =some v/\j<xs.length/\-(xs.length:Int)<=i/\i<xs.length:=by
 unfold zg at h
 cases e:M0 xs.length i with
 |none=>rw [e] at h;cases h
 |some j=>
  rw [e] at h
  obtain⟨h1,h2,h3,h4⟩:=Tv e
  exact⟨j,h1,h,h2,h3,h4⟩
theorem zV {α:Type} {xs:List α} {j:Nat} {v:α} (h:xs[j]? =some v):zg xs (j:Int)=some v:=by
 have hj:j<xs.length:=(AS.mp h).1
 have e:M0 xs.length (j:Int)=some j:=by
  unfold M0
  rw [if_pos (by omega),if_pos (by omega)];simp
 unfold zg;rw [e];exact h
def Rw (b:Expr):Prop:=∀o i,subscripted b false o i=operate [o,i] (getItem o i)
def NM (X:Cx) (r:R2):Prop:=
 ∀(value slice:Expr) (pins:List (Addr × Obj)) (s:AM) (σ:St) (H:Hp) (x y:V) (v u:Value) (Q:VK),Inv X pins σ H s->RelV x v->RelV y u->r x y H Q->
  subscripted slice false v u=operate [v,u] (getItem v u)->wpAny (model X.prog X.w) X.A (subscriptTail value slice v u) (EP X pins σ Q) X.xe s
def MtR (X:Cx) (id:String) (r:V->List V->Hp->VK->Prop):Prop:=
 ∀(pins:List (Addr × Obj)) (s:AM) (σ:St) (H:Hp) (x:V) (xs:List V) (v:Value) (us:List Value) (Q:VK),Inv X pins σ H s->RelV x v->Vals xs us->r x xs H Q->
  wpAny (model X.prog X.w) X.A (call (.builtin id) (v::us)) (EP X pins σ Q) X.xe s
section
variable {X:Cx} {a b:Expr} {ta tb:TE} {pos:Pos}
theorem NM.or {r r':R2} (h:NM X r) (h':NM X r'):NM X (fun x y H Q=>r x y H Q\/r' x y H Q):=by
 intro value slice pins s σ H x y v u Q I rx ry q hs
 rcases q with q|q
 . exact h value slice pins s σ H x y v u Q I rx ry q hs
 . exact h' value slice pins s σ H x y v u Q I rx ry q hs
theorem jZ {r:R2} (hr:NM X r) (ha:PE X a ta) (hb:PE X b tb) (hs:Rw b):PE X (.Subscript a b pos) (tOp r ta tb):=by
 intro pins s σ H Q I h
 exact Subscript_ (VI ha hb I h fun v u s2 x y H2 I2 rx ry q=>hr a b pins s2 σ H2 x y v u Q I2 rx ry q (hs _ _))
def V7 (K:At):R2:=fun x y H Q=>∃p xs i v,x=.ref p/\y=.int i/\iN K H p xs/\zg xs i=some v/\Q v H
def Z6 (K:At):R2:=fun x y H Q=>∃p xs i v,x=.ref p/\y=.int i/\zQ K H p xs/\zg xs i=some v/\Q v H
def Yi:R2:=fun x y H Q=>∃z i c,x=.str z/\y=.int i/\z.length<=Ev/\zg z.cps.toList i=some c/\Q (.str ⟨#[c]⟩) H
theorem J8:NM X (V7 X.K):=by
 intro value slice pins s σ H x y v u Q I rx ry h hs
 obtain⟨p,xs,i,z,rfl,rfl,hq,he,q⟩:=h
 cases rx
 obtain⟨t,rfl⟩:=ry
 obtain⟨bh,r,pl,hz⟩:=I.list hq
 obtain⟨j,h1,h2,h3,h4,h5⟩:=Fg he
 obtain⟨w,ew,GX⟩:=r.get h2
 have hl:=r.length
 have hn:=yI
 have fin:EP X pins σ Q w s:=⟨z,H,I,GX,q⟩
 by_cases h0:0<=i
 . have hj:i.toNat=j:=by
    rw [seqIndex_of h0 h5] at h1
    exact CC h1
   exact item_listR pl.isList h0 (by omega) (by rw [hj];simpa using ew) fin hs
 . have hj:(i+(bh.toArray.size:Int)).toNat=j:=by
    rw [seqIndex_neg (by omega) h4] at h1
    rw [Cc,<-hl]
    exact CC h1
   exact subscriptTail_builtinR (x:=w) pl.isList.typeIs slot_list_getitem.lookup
    (wpAny_getItem_list_neg (Q:=fun r s'=>r=w/\EP X pins σ Q r s') pl.isList (by omega) (by rw [Cc] <;>omega) (by omega) (by rw [hj];simpa using ew) ⟨rfl,fin⟩) hs
theorem YG:NM X (Z6 X.K):=by
 intro value slice pins s σ H x y v u Q I rx ry h hs
 obtain⟨p,xs,i,z,rfl,rfl,hq,he,q⟩:=h
 cases rx
 obtain⟨t,rfl⟩:=ry
 obtain⟨bh,r,pl,hz⟩:=I.tuple hq
 obtain⟨j,h1,h2,h3,h4,h5⟩:=Fg he
 obtain⟨w,ew,GX⟩:=r.get h2
 have hl:=r.length
 have hn:=yI
 have fin:EP X pins σ Q w s:=⟨z,H,I,GX,q⟩
 exact subscriptTail_builtinR (x:=w) pl.typeIs slot_tuple_getitem.lookup
  (getItem_tuple (j:=j) (Q:=fun r s'=>r=w/\EP X pins σ Q r s') pl (by omega) (by omega) (by rw [Cc,<-hl];exact h1) (by simpa using ew) ⟨rfl,fin⟩) hs
theorem Ws:NM X Yi:=by
 intro value slice pins s σ H x y v u Q I rx ry h hs
 obtain⟨z,i,c,rfl,rfl,hz,he,q⟩:=h
 obtain⟨t,rfl⟩:=rx
 obtain⟨t',rfl⟩:=ry
 obtain⟨j,h1,h2,h3,h4,h5⟩:=Fg he
 have hl:z.cps.toList.length=z.length:=by simp [Str.length]
 rw [hl] at h1 h4 h5
 have hn:=yI
 exact tail_any (typeIs_str s z t) slot_str_getitem.lookup (getItem_str (c:=c) (by
  have e1:decide (i< -(2^63:Int))=false:=decide_eq_false (by omega)
  have e2:decide (i≥2^63)=false:=decide_eq_false (by omega)
  rw [e1,e2,Bool.or_false]) (by rw [h1];simpa using h2) ⟨.str ⟨#[c]⟩,H,I.tok _,⟨_,rfl⟩,q⟩) hs
def rIx (K:At):R2:=fun x y H Q=>V7 K x y H Q\/Z6 K x y H Q\/Yi x y H Q
theorem V8:NM X (rIx X.K):=J8.or (YG.or Ws)
theorem qe:nk X (.builtin "len") (fun xs H Q=>∃p ys,xs=[.ref p]/\(iN X.K H p ys\/zQ X.K H p ys)/\Q (.int ys.length) H):=by
 intro pins s σ H xs us Q I r h
 obtain⟨p,ys,rfl,hq,q⟩:=h
 obtain⟨u,rfl,rx⟩:=vals1 r
 cases rx
 have hn:=yI
 rcases hq with hq|hq
 . obtain⟨bh,r',pl,hz⟩:=I.list hq
   have hlen:=r'.length
   exact Calls.call_len_list pl.isList (by simp only [Cc] <;>omega) ⟨.int ys.length,H,I.tok _,⟨s.toks+1,by rw [Cc,hlen]⟩,q⟩
 . obtain⟨bh,r',pl,hz⟩:=I.tuple hq
   have hlen:=r'.length
   exact len_tuple pl (by simp only [Cc] <;>omega) ⟨.int ys.length,H,I.tok _,⟨s.toks+1,by rw [Cc,hlen]⟩,q⟩
theorem DY:nk X (.builtin "len") (fun xs H Q=>∃z,xs=[.str z]/\z.length<=Ev/\Q (.int z.length) H):=by
 intro pins s σ H xs us Q I r h
 obtain⟨z,rfl,hz,q⟩:=h
 obtain⟨u,rfl,t,rfl⟩:=vals1 r
 have hn:=yI
 exact len_str (by omega) ⟨.int z.length,H,I.tok _,⟨_,rfl⟩,q⟩
theorem D3:nk X (.type "list") (fun xs H Q=>∃p ys,xs=[.ref p]/\(iN X.K H p ys\/zQ X.K H p ys)/\∀l,H l=none->Q (.ref l) (upd H l (.lst ys))):=by
 intro pins s σ H xs us Q I r h
 obtain⟨p,ys,rfl,hq,q⟩:=h
 obtain⟨u,rfl,rx⟩:=vals1 r
 cases rx
 have fin:∀(bh:List Value),Vals ys bh->ys.length<=Ev->∀(h':Heap) (c':Nat),(∀b o',s.heap.get? b=some o'->h'.get? b=some o')->
  h'.get? s.heap.objs.size=some {cls:=.type "list",dict:=none,data:=.seq bh.toArray c',slots:=#[]}->EP X pins σ Q (.ref s.heap.objs.size) {s with heap:=h'}:=fun bh r' hz h' c' kp e=>
  ⟨.ref s.heap.objs.size,_,I.laid (t':=s.toks) kp (BY _) (show c9 X.prog X.w _ h' _ (.lst ys) from⟨hz,bh,c',r',e⟩),rfl,q _ (I.bE.fresh (BY _))⟩
 rcases hq with hq|hq
 . obtain⟨bh,r',pl,hz⟩:=I.list hq
   have hlen:=r'.length
   obtain⟨o,ho,hc,n,hd⟩:=pl.isList
   exact call_list_seq p (.inl rfl) ho hc hd (fun h' c' kp e=>fin bh r' hz h' c' kp e) (by simp only [Cc] <;>omega)
 . obtain⟨bh,r',pl,hz⟩:=I.tuple hq
   have hlen:=r'.length
   obtain⟨o,ho,hc,n,hd⟩:=pl
   exact call_list_seq p (.inr rfl) ho hc hd (fun h' c' kp e=>fin bh r' hz h' c' kp e) (by simp only [Cc] <;>omega)
def UE (K:At) (T:String) (x:V) (H:Hp):Prop:=match x with
 | .str _=>T="str"
 | .int _=>T="int"
 | .ref p=>(T="list"/\∃xs,iN K H p xs)\/(T="tuple"/\∃o,K.lookup p=some o/\o.cls=.type "tuple"/\o.dict=none)\/
  (T="dict"/\((∃kvs,H p=some (.dK kvs))\/∃kvs,H p=some (.dT kvs)))\/(T="set"/\∃S n,H p=some (.set S n))
 |_=>False
theorem DV {pins:List (Addr × Obj)} {σ:St} {H:Hp} {s:AM} {T:String} {x:V} {v:Value} (I:Inv X pins σ H s) (r:RelV x v) (ty:UE X.K T x H):
 s.TypeIs v T/\∀a,v=.ref a->∃ob,s.heap.get? a=some ob/\ob.dict=none:=by
 cases x with
 |str z=>
  obtain⟨t,rfl⟩:=r
  cases (show T="str" from ty)
  exact⟨typeIs_str s z t,fun _ e=>nomatch e⟩
 |int i=>
  obtain⟨t,rfl⟩:=r
  cases (show T="int" from ty)
  exact⟨typeIs_int s i t,fun _ e=>nomatch e⟩
 |ref p=>
  cases r
  rcases ty with⟨rfl,xs,hq⟩|⟨rfl,o,hk,hc,hd⟩|⟨rfl,hk⟩|⟨rfl,S,n,hk⟩
  . obtain⟨bh,_,pl,_⟩:=I.list hq
    refine⟨pl.isList.typeIs,fun a e=>?_⟩
    cases e
    obtain⟨o,n,e,c,hd,_⟩:=pl
    exact⟨o,e,hd⟩
  . refine⟨⟨o,I.vX p o hk,hc⟩,fun a e=>?_⟩
    cases e
    exact⟨o,I.vX _ o hk,hd⟩
  . have z:∃o,s.heap.get? p=some o/\o.ExactDict:=by
     rcases hk with⟨kvs,hk⟩|⟨kvs,hk⟩
     . obtain⟨_,_,_,_,o,_,_,e,ex,_⟩:=I.bE p _ hk
       exact⟨o,e,ex⟩
     . obtain⟨_,_,_,_,o,_,_,e,ex,_⟩:=I.bE p _ hk
       exact⟨o,e,ex⟩
    obtain⟨o,e,ex⟩:=z
    refine⟨⟨o,e,ex.1⟩,fun a e2=>?_⟩
    cases e2
    exact⟨o,e,ex.2.1⟩
  . obtain⟨o,_,_,_,e,ex,_⟩:=I.bE p _ hk
    refine⟨⟨o,e,ex.1⟩,fun a e2=>?_⟩
    cases e2
    exact⟨o,e,ex.2.1⟩
 |_=>exact Po ty
def aaD (K:At) (T:String) (r:V->List V->Hp->VK->Prop) (to:TE):TE:=fun σ H Q=>to σ H fun x H1=>UE K T x H1/\r x [] H1 Q
def tBM (K:At) (T:String) (r:V->List V->Hp->VK->Prop) (to:TE) (t:TA):TE:=fun σ H Q=>to σ H fun x H1=>UE K T x H1/\t σ H1 fun xs H2=>r x xs H2 Q
variable {o e:Expr} {es:List Expr} {to:TE} {t:TA} {name:Str} {apos jF:Pos} {T id:String} {r:V->List V->Hp->VK->Prop}
theorem O8 (pa:PlainAttrs T) (slot:Slot T name id) (hty:typeOf (.builtin id)=pure (.type "method_descriptor")) (hm:MtR X id r) (ho:PE X o to)
 (Ao:T0 o name X.env (eval o X.env)=eval o X.env:=by rfl) (hline:(apos.endLine==jF.line)=true:=by rfl):PE X (.Call (.Attribute o name apos) [] [] jF) (aaD X.K T r to):=by
 intro pins s σ H Q I h
 refine Aap Ao hline (dE (ho pins s σ H _ I h) fun v s1 ⟨x,H1,I1,r1,ty,q1⟩=>?_)
 obtain⟨h1,h2⟩:=DV I1 r1 ty
 exact⟨T,id,pa,slot,hty,h1,h2,SB rfl (Abd (hm pins s1 σ H1 x [] v [] Q I1 r1 .nil q1))⟩
theorem jC (pa:PlainAttrs T) (slot:Slot T name id) (hty:typeOf (.builtin id)=pure (.type "method_descriptor")) (hm:MtR X id r) (ho:PE X o to) (ha:PA X (e::es) t)
 (Ao:T0 o name X.env (eval o X.env)=eval o X.env:=by rfl)
 (agj:((RS jF (DO (e::es) X.env)).all (fun x=>!x.1)&&(Aaj jF (Rs [] X.env)).all (fun x=>x.1.isSome)
  &&decide ((e::es).length+([]:List Keyword).length+(if ([]:List Keyword).isEmpty then 0 else 1)<30))=true:=by rfl)
 (hline:(apos.endLine==jF.line)=true:=by rfl) (hs:DO (e::es) X.env=(false,eval e X.env)::DO es X.env:=by rfl) (YY:(RS jF (DO es X.env)).any (·.1)=false:=by rfl):
 PE X (.Call (.Attribute o name apos) (e::es) [] jF) (tBM X.K T r to t):=by
 intro pins s σ H Q I h
 refine wpAny_Call_method_late Ao agj hline rfl (dE (ho pins s σ H _ I h) fun v s1 ⟨x,H1,I1,r1,ty,q1⟩=>?_)
 obtain⟨h1,h2⟩:=DV I1 r1 ty
 refine⟨T,id,pa,slot,hty,h1,h2,?_⟩
 have hA:=ha jF pins s1 σ H1 _ I1 q1
 rw [hs] at hA ⊢
 refine SB (by show(false||(RS jF (DO es X.env)).any (·.1))=false;rw [YY] <;>rfl) (Calls.evalArgs_plain ?_)
 exact dE hA fun us s2 ⟨vs,H2,I2,r2,q2⟩=>hm pins s2 σ H2 x vs v us Q I2 r1 r2 q2
end
def Zd (X:Cx) (id:String) (r:V->List V->Hp->VK->Prop):Prop:=
 ∀(pins:List (Addr × Obj)) (s:AM) (σ:St) (H:Hp) (x:V) (xs:List V) (v:Value) (us:List Value) (Q:VK),Inv X pins σ H s->RelV x v->Vals xs us->r x xs H Q->
  wpAny (model X.prog X.w) X.A (call (.builtin id) (v::us)) (EP X pins σ Q) X.xe s
theorem Vals.one:∀{x:V} {us:List Value},Vals [x] us->∃u,us=[u]/\RelV x u
 |_,_,.cons r .nil=>⟨_,rfl,r⟩
theorem Vals.zero:∀{us:List Value},Vals [] us->us=[]
 |_,.nil=>rfl
theorem Vals.dropLast {xs:List V} {us:List Value} (h:Vals xs us):Vals xs.dropLast us.dropLast:=by
 induction h with
 |nil=>exact .nil
 |cons r t ih=>
  cases t with
  |nil=>exact .nil
  |cons q t'=>exact .cons r ih
theorem Vals.eraseIdx:∀{xs:List V} {us:List Value} (i:Nat),Vals xs us->Vals (xs.eraseIdx i) (us.eraseIdx i)
 |_,_,_,.nil=>.nil
 |_,_,0,.cons _ t=>t
 |_,_,i+1,.cons r t=>.cons r (Vals.eraseIdx i t)
theorem Ja {α:Type} (l:List α):l.eraseIdx (l.length - 1)=l.dropLast:=by
 induction l with
 |nil=>rfl
 |cons a r ih=>
  cases r with
  |nil=>rfl
  |cons b r=>
   have e:(a::b::r).length - 1=((b::r).length - 1)+1:=by
    have h1:(a::b::r).length=r.length+2:=rfl
    have h2:(b::r).length=r.length+1:=rfl
    omega
   rw [e,Aaq,ih]
   all_goals rfl
theorem CH {α:Type}:∀(l:List α) (i:Nat),(l.eraseIdx i).length<=l.length
 |[],_=>BY _
 |_::_,0=>AaG _
 |_::r,i+1=>Nat.succ_le_succ (CH r i)
section
variable {X:Cx} {pins:List (Addr × Obj)} {σ:St} {H:Hp} {s:AM} {l b:Addr} {xs ys zs:List V}
theorem Inv.Ox {bh its':List Value} {n:Nat} {f:Array Value->Array Value} {t':Nat} (I:Inv X pins σ H s) (hH:H l=some (.lst xs))
 (e:s.heap.get? l=some {cls:=.type "list",data:=.seq bh.toArray n}) (hf:f bh.toArray=its'.toArray) (hv:Vals ys its') (hz:ys.length<=Ev):
 Inv X pins σ (upd H l (.lst ys)) {s with heap:=s.heap.update l (Lu f),toks:=t'}:=by
 have q:=PySem.IsL.update e f
 rw [hf] at q
 refine I.write (x:=l) (e:=l) (by rw [hH];exact trivial) (.inl rfl) (fun b' u hb hu=>(We s.heap (Lu f) (LH hb)).trans hu) ⟨_,q⟩ ?_
 exact⟨hz,its',_,hv,q⟩
theorem Inv.aey {bh:List Value} {t':Nat} (I:Inv X pins σ H s) (hv:Vals ys bh) (hz:ys.length<=Ev):
 Inv X pins σ (upd H s.heap.objs.size (.lst ys)) {s with heap:=s.heap.push {cls:=.type "list",data:=.seq bh.toArray},toks:=t'}:=
 I.laid (fun _ _ q=>BS _ q) (BY _) ⟨hz,bh,0,hv,EM _ rfl⟩
theorem Inv.fresh (I:Inv X pins σ H s):H s.heap.objs.size=none:=I.bE.fresh (BY _)
theorem Inv.Hh (I:Inv X pins σ H s) (hH:H l=some (.lst xs)):xs.length<=Ev/\∃(bh:List Value) (n:Nat),Vals xs bh/\xs.length=bh.length/\s.heap.get? l=some {cls:=.type "list",data:=.seq bh.toArray n}:=by
 obtain⟨z,bh,n,r,e⟩:=I.bE l _ hH
 exact⟨z,bh,n,r,r.length,e⟩
theorem Pn {n:Nat} (h:n<=Ev):Aam n=false:=by
 unfold Aam
 exact decide_eq_false (by omega)
end
section
variable {X:Cx}
def D1:V->List V->Hp->VK->Prop:=fun x vs H Q=>∃l xs y,x=.ref l/\vs=[y]/\H l=some (.lst xs)/\xs.length<Ev/\Q .a9 (upd H l (.lst (xs++[y])))
theorem t6:Zd X "list.append" D1:=by
 intro pins s σ H x vs v us Q I rx rv h
 obtain⟨l,xs,y,rfl,rfl,hH,hz,q⟩:=h
 cases rx
 obtain⟨u,rfl,ru⟩:=rv.one
 obtain⟨z,bh,n,r,hl,e⟩:=I.Hh hH
 refine AbR F.slot_list_append ⟨_,e,rfl⟩ F.entry_list_append (F.args_list_append_2 _ _) (PySem.list_append l bh.toArray n u (by rw [Cc];omega)) ⟨e,?_⟩
 refine⟨.a9,_,I.Ox (its':=bh++[u]) hH e (by simp) (r.append (.cons ru .nil)) ?_,rfl,q⟩
 rw [Do,List.length_singleton]
 omega
def JK:V->List V->Hp->VK->Prop:=fun x vs H Q=>∃l b xs zs,x=.ref l/\vs=[.ref b]/\H l=some (.lst xs)/\H b=some (.lst zs)/\xs.length+zs.length<=Ev/\Q .a9 (upd H l (.lst (xs++zs)))
theorem oS:Zd X "list.extend" JK:=by
 intro pins s σ H x vs v us Q I rx rv h
 obtain⟨l,b,xs,zs,rfl,rfl,hH,hB,hz,q⟩:=h
 cases rx
 obtain⟨u,rfl,ru⟩:=rv.one
 cases ru
 obtain⟨z,bh,n,r,hl,e⟩:=I.Hh hH
 obtain⟨z2,Fx,n2,r2,Mi,e2⟩:=I.Hh hB
 have hsz:bh.toArray.size+Fx.toArray.size<=Ev:=by rw [Cc,Cc];omega
 have aam:¬(!bh.toArray.isEmpty&&Aam (bh.toArray.size+Fx.toArray.size))=true:=by
  rw [Pn hsz,Bool.and_false]
  exact FB
 refine AbR F.slot_list_extend ⟨_,e,rfl⟩ F.entry_list_extend (F.args_list_extend_2 _ _)
  (AutoSeq1.list_extend_list_list_0 l bh.toArray n b Fx.toArray n2 aam (by rw [Cc];omega) (by omega)) ⟨e,e2,?_⟩
 refine⟨.a9,_,I.Ox (its':=bh++Fx) hH e (by simp) (r.append r2) ?_,rfl,q⟩
 rw [Do]
 omega
def ab6:V->List V->Hp->VK->Prop:=fun x vs H Q=>∃l xs y,x=.ref l/\vs=[]/\H l=some (.lst xs)/\xs[xs.length - 1]? =some y/\Q y (upd H l (.lst xs.dropLast))
theorem Xj:Zd X "list.pop" ab6:=by
 intro pins s σ H x vs v us Q I rx rv h
 obtain⟨l,xs,y,rfl,rfl,hH,hy,q⟩:=h
 cases rx
 have Et:=rv.zero
 subst Et
 obtain⟨z,bh,n,r,hl,e⟩:=I.Hh hH
 obtain⟨u,hu,ru⟩:=r.get hy
 have JI:bh.toArray[bh.toArray.size - 1]? =some u:=by
  show bh.toArray[bh.length - 1]? =some u
  rw [<-Array.getElem?_toList,<-hl]
  exact hu
 refine AbR F.slot_list_pop ⟨_,e,rfl⟩ F.entry_list_pop (F.args_list_pop_1 _) (MeetsSeq.list_pop_last l bh.toArray n u JI (by rw [Cc];omega)) ⟨e,?_⟩
 refine⟨y,_,I.Ox (its':=bh.dropLast) hH e ?_ r.dropLast ?_,ru,q⟩
 . show bh.toArray.eraseIdxIfInBounds (bh.toArray.size - 1)=bh.dropLast.toArray
   rw [Cc,AaH,Ja]
 . rw [List.length_dropLast]
   omega
def Pz:V->List V->Hp->VK->Prop:=fun x vs H Q=>∃l xs i k y,x=.ref l/\vs=[.int i]/\H l=some (.lst xs)/\-(2^63)<=i/\i<2^63/\seqIndex? i xs.length=some k/\xs[k]? =some y/\Q y (upd H l (.lst (xs.eraseIdx k)))
theorem QV:Zd X "list.pop" Pz:=by
 intro pins s σ H x vs v us Q I rx rv h
 obtain⟨l,xs,i,k,y,rfl,rfl,hH,h1,h2,hk,hy,q⟩:=h
 cases rx
 obtain⟨u,rfl,ru⟩:=rv.one
 obtain⟨t,rfl⟩:=ru
 obtain⟨z,bh,n,r,hl,e⟩:=I.Hh hH
 obtain⟨w,hw,GX⟩:=r.get hy
 refine AbR F.slot_list_pop ⟨_,e,rfl⟩ F.entry_list_pop (F.args_list_pop_2 _ _)
  (MeetsSeq.list_pop_at l bh.toArray n i t k w (fitsIndex_both h1 h2) (by rw [Cc,<-hl];exact hk) (by rw [<-Array.getElem?_toList];exact hw) (by rw [Cc];omega)) ⟨e,?_⟩
 refine⟨y,_,I.Ox (its':=bh.eraseIdx k) hH e ?_ (r.eraseIdx k) ?_,GX,q⟩
 . show bh.toArray.eraseIdxIfInBounds k=(bh.eraseIdx k).toArray
   rw [AaH]
 . have:=CH xs k
   omega
def abh:R2:=fun x y H Q=>∃l b xs zs,x=.ref l/\y=.ref b/\H l=some (.lst xs)/\H b=some (.lst zs)/\xs.length+zs.length<=Ev/\∀p,H p=none->Q (.ref p) (upd H p (.lst (xs++zs)))
theorem IP:rD X (WF .Add) abh:=by
 intro pins s σ H x y v u Q I rx ry h
 obtain⟨l,b,xs,zs,rfl,rfl,hH,hB,hz,q⟩:=h
 cases rx
 cases ry
 obtain⟨z,bh,n,r,hl,e⟩:=I.Hh hH
 obtain⟨z2,Fx,n2,r2,Mi,e2⟩:=I.Hh hB
 refine PySem.P.add_list e e2 ?_ (by rw [Cc,Cc];omega)
 have ea:bh.toArray++Fx.toArray=(bh++Fx).toArray:=by simp
 rw [ea]
 exact⟨.ref _,_,I.aey (t':=s.toks) (r.append r2) (by rw [Do];omega),rfl,q _ I.fresh⟩
end
section
variable {prog:Fa} {w:World} {A:IF} {E:Value->AM->Prop} {s:AM}
set_option maxRecDepth 100000 in
end
section
variable {X:Cx}
end
section
variable {κ:Type} [DecidableEq κ]
def lu (kvs:List (κ × V)) (k:κ):Option V:=(kvs.find? fun kv=>decide (kv.1=k)).map (·.2)
def putK (kvs:List (κ × V)) (k:κ) (v:V):List (κ × V):=
 if (kvs.any fun kv=>decide (kv.1=k))=true then kvs.map (fun kv=>if kv.1=k then (kv.1,v) else kv) else kvs++[(k,v)]
def lD (kvs:List (κ × V)) (k:κ):List (κ × V):=kvs.filter fun kv=>decide (kv.1≠k)
theorem oR {p:κ × V} {r:List (κ × V)} {k:κ} (e:p.1=k):lu (p::r) k=some p.2:=by simp [lu,Q2,e]
theorem lE {p:κ × V} {r:List (κ × V)} {k:κ} (e:¬p.1=k):lu (p::r) k=lu r k:=by simp [lu,Q2,e]
theorem AG (k:κ):∀kvs:List (κ × V),(kvs.any fun kv=>decide (kv.1=k))=(lu kvs k).isSome
 |[]=>rfl
 |p::r=>by
  rw [Aa2]
  by_cases e:p.1=k
  . simp only [oR e,decide_eq_true e,Bool.true_or,Option.isSome_some]
  . rw [lE e,decide_eq_false e,Bool.false_or];exact AG k r
theorem yS (kvs:List (κ × V)) (k:κ) (v:V):(putK kvs k v).length<=kvs.length+1:=by
 unfold putK
 split
 . rw [AL];omega
 . rw [Do,GG,YI];omega
theorem qm.pG {o:Option V} {u:Option Value} (r:qm o u):o.isSome=u.isSome:=by
 cases o with
 |none=>cases u with
  |none=>rfl
  |some _=>exact(show False from r).elim
 |some _=>cases u with
  |none=>exact(show False from r).elim
  |some _=>rfl
theorem qm.getD {o:Option V} {u:Option Value} {d:V} {d':Value} (r:qm o u) (rd:RelV d d'):RelV (o.getD d) (u.getD d'):=by
 cases o with
 |none=>cases u with
  |none=>exact rd
  |some _=>exact(show False from r).elim
 |some _=>cases u with
  |none=>exact(show False from r).elim
  |some _=>exact r
theorem KV.val {kvs:List (κ × V)} {vs:List (κ × Value)} (r:KV kvs vs) (k:κ):qm (lu kvs k) (AbT vs k):=by
 unfold KV at r
 induction r with
 |nil=>exact Th
 |@cons p q ps qs h t ih=>
  obtain⟨h1,h2⟩:=h
  by_cases e:p.1=k
  . have e':q.1=k:=h1.symm.trans e
    have b:AbT (q::qs) k=some q.2:=by simp [AbT,Q2,e']
    rw [oR e,b];exact h2
  . have e':¬q.1=k:=fun z=>e (h1.trans z)
    have b:AbT (q::qs) k=AbT qs k:=by simp [AbT,Q2,e']
    rw [lE e,b];exact ih
theorem KV.any {kvs:List (κ × V)} {vs:List (κ × Value)} (r:KV kvs vs) (k:κ):(kvs.any fun kv=>decide (kv.1=k))=vs.any fun kv=>decide (kv.1=k):=by
 unfold KV at r
 induction r with
 |nil=>rfl
 |cons h t ih=>rw [Aa2,Aa2,ih,h.1]
theorem KV.repl {kvs:List (κ × V)} {vs:List (κ × Value)} (r:KV kvs vs) (k:κ) {y:V} {u:Value} (ry:RelV y u):
 KV (kvs.map fun kv=>if kv.1=k then (kv.1,y) else kv) (vs.map fun kv=>if kv.1=k then (kv.1,u) else kv):=by
 unfold KV at r ⊢
 induction r with
 |nil=>exact .nil
 |@cons p q ps qs h t ih=>
  rw [EO,EO]
  refine .cons ?_ ih
  obtain⟨h1,h2⟩:=h
  by_cases e:p.1=k
  . rw [if_pos e,if_pos (h1.symm.trans e)];exact⟨h1,ry⟩
  . rw [if_neg e,if_neg (fun z=>e (h1.trans z))];exact⟨h1,h2⟩
theorem KV.put {kvs:List (κ × V)} {vs:List (κ × Value)} (r:KV kvs vs) (k:κ) {y:V} {u:Value} (ry:RelV y u):KV (putK kvs k y) (stored vs k u):=by
 unfold putK stored
 rw [r.any k]
 by_cases e:(vs.any fun kv=>decide (kv.1=k))=true
 . rw [if_pos e,if_pos e];exact r.repl k ry
 . rw [if_neg e,if_neg e];exact AbH.snoc r ⟨rfl,ry⟩
theorem KV.drop {kvs:List (κ × V)} {vs:List (κ × Value)} (r:KV kvs vs) (k:κ):KV (lD kvs k) (without vs k):=by
 unfold KV at r ⊢
 unfold lD without
 induction r with
 |nil=>exact .nil
 |@cons p q ps qs h t ih=>
  obtain⟨h1,h2⟩:=h
  rw [NE,NE]
  by_cases e:p.1=k
  . have a:¬decide (p.1≠k)=true:=by simp [e]
    have b:¬decide (q.1≠k)=true:=by simp [h1.symm.trans e]
    rw [if_neg a,if_neg b];exact ih
  . have e':¬q.1=k:=fun z=>e (h1.trans z)
    have a:decide (p.1≠k)=true:=by simp [e]
    have b:decide (q.1≠k)=true:=by simp [e']
    rw [if_pos a,if_pos b];exact .cons ⟨h1,h2⟩ ih
theorem KV.length {kvs:List (κ × V)} {vs:List (κ × Value)} (r:KV kvs vs):kvs.length=vs.length:=AbD r
theorem Nv (kvs:List (κ × V)) (k:κ):(lD kvs k).length<=kvs.length:=Nl _ _
end
theorem BO {P:Fa} {w:World} {k:Key} {u:Value} (r:RelV (kV k) u):(bb P w).is k u=true:=by
 cases k with
 |inl i=>obtain⟨t,e⟩:=(show ∃t,u=AbI i t from r);subst e;exact Gs P w i t
 |inr x=>obtain⟨t,e⟩:=(show ∃t,u=AbJ x t from r);subst e;exact FK P w x t
theorem DI {P:Fa} {w:World}:∀{ks:List Key} {us:List Value},Vals (ks.map kV) us->ItemsAre (bb P w) ks us
 |[],_,r=>by rw [AaR] at r;cases r;exact .nil
 |k::ks,_,r=>by
  rw [EO] at r
  cases r with
  |cons h t=>exact .cons (BO h) (DI t)
abbrev KT (H:Hp):List (List Key × V)->List (List Key × Addr × Value)->Prop:=AbH fun p q=>p.1=q.1/\H q.2.1=some (.tup (p.1.map kV))/\RelV p.2 q.2.2
theorem KT.val {H:Hp} {kvs:List (List Key × V)} {xs:List (List Key × Addr × Value)} (r:KT H kvs xs) (k:List Key):qm (lu kvs k) ((atKey xs k).map (·.2)):=by
 induction r with
 |nil=>exact Th
 |@cons p q ps qs h t ih=>
  obtain⟨h1,_,h2⟩:=h
  by_cases e:p.1=k
  . have e':q.1=k:=h1.symm.trans e
    have b:atKey (q::qs) k=some q.2:=by simp [atKey,Q2,e']
    rw [oR e,b];exact h2
  . have e':¬q.1=k:=fun z=>e (h1.trans z)
    have b:atKey (q::qs) k=atKey qs k:=by simp [atKey,Q2,e']
    rw [lE e,b];exact ih
theorem KT.repl {H:Hp} {kvs:List (List Key × V)} {xs:List (List Key × Addr × Value)} (r:KT H kvs xs) (k:List Key) {y:V} {u:Value} (ry:RelV y u):
 KT H (kvs.map fun kv=>if kv.1=k then (kv.1,y) else kv) (xs.map (putAt k u)):=by
 induction r with
 |nil=>exact .nil
 |@cons p q ps qs h t ih=>
  rw [EO,EO]
  refine .cons ?_ ih
  obtain⟨h1,h2,h3⟩:=h
  unfold putAt
  by_cases e:p.1=k
  . rw [if_pos e,if_pos (h1.symm.trans e)];exact⟨h1,h2,ry⟩
  . rw [if_neg e,if_neg (fun z=>e (h1.trans z))];exact⟨h1,h2,h3⟩
theorem KT.put {H:Hp} {kvs:List (List Key × V)} {xs:List (List Key × Addr × Value)} (r:KT H kvs xs) (k:List Key) {b:Addr} {y:V} {u:Value} (hb:H b=some (.tup (k.map kV))) (ry:RelV y u):
 KT H (putK kvs k y) (storedH xs k b u):=by
 have e:(kvs.any fun kv=>decide (kv.1=k))=(atKey xs k).isSome:=by
  rw [AG,(r.val k).pG,Aby]
 unfold putK storedH
 rw [e]
 by_cases q:(atKey xs k).isSome=true
 . rw [if_pos q,if_pos q];exact r.repl k ry
 . rw [if_neg q,if_neg q];exact AbH.snoc r ⟨rfl,hb,ry⟩
theorem KT.keeps {H H':Hp} {kvs:List (List Key × V)} {xs:List (List Key × Addr × Value)} (r:KT H kvs xs) (ht:∀b ys,H b=some (.tup ys)->H' b=some (.tup ys)):KT H' kvs xs:=
 AbH.XJ r fun _ _ z=>⟨z.1,ht _ _ z.2.1,z.2.2⟩
section
variable {P:Fa} {w:World} {H:Hp} {h:Heap} {a:Addr}
theorem Vq {u:HO} (ok:rq P w H h) (e:Rd H a u):c9 P w H h a u:=e.ok ok
theorem AO {kvs:List (Key × V)} (ok:rq P w H h) (e:Rd H a (.dK kvs)):kvs.length<=Ev/\(a==Sc)=false/\∃vs,KV kvs vs/\h.DictOf (bb P w) a vs:=
 show c9 P w H h a (.dK kvs) from Vq ok e
theorem UQ {kvs:List (Key × V)} (ok:rq P w H h) (e:H a=some (.dK kvs)):kvs.length<=Ev/\(a==Sc)=false/\∃vs,KV kvs vs/\h.DictOf (bb P w) a vs:=AO ok (.inl e)
theorem xS {ks:List Key} (ok:rq P w H h) (e:H a=some (.tup (ks.map kV))):(AbK (bb P w)).is h ks a:=by
 obtain⟨_,bh,r,o,h1,h2,n,h3⟩:=(show c9 P w H h a (.tup (ks.map kV)) from ok a _ e)
 exact⟨o,bh.toArray,n,h1,h2,h3,by simpa using DI r⟩
theorem Ab {kvs:List (List Key × V)} (ok:rq P w H h) (e:Rd H a (.dT kvs)):kvs.length<=Ev/\(a==Sc)=false/\
 ∃xs,KT H kvs xs/\h.DictOfH (AbK (bb P w)) a xs:=by
 obtain⟨z,y,xs,r,o,es,ep,h1,h2,h3,h4,h5⟩:=(show c9 P w H h a (.dT kvs) from Vq ok e)
 refine⟨z,y,xs,r,o,es,ep,h1,h2,h3,h4,fun x hx=>?_,h5⟩
 have all:∀{l:List (List Key × V)} {m:List (List Key × Addr × Value)},KT H l m->∀x∈m,(AbK (bb P w)).is h x.1 x.2.1:=by
  intro l m q
  induction q with
  |nil=>intro x hx;exact nomatch hx
  |@cons p q ps qs hq t ih=>
   intro x hx
   rcases AE.mp hx with e|hx
   . subst e
     exact xS ok (by rw [<-hq.1];exact hq.2.1)
   . exact ih x hx
 exact all r x hx
theorem ZH {kvs:List (List Key × V)} (ok:rq P w H h) (e:H a=some (.dT kvs)):kvs.length<=Ev/\(a==Sc)=false/\
 ∃xs,KT H kvs xs/\h.DictOfH (AbK (bb P w)) a xs:=Ab ok (.inl e)
end
def ip (H:Hp) (a:Addr) (y:V) (r:Option V):Prop:=
 (∃kvs k,Rd H a (.dK kvs)/\y=kV k/\r=lu kvs k)\/∃kvs k b,Rd H a (.dT kvs)/\y=.ref b/\H b=some (.tup (k.map kV))/\r=lu kvs k
def Cz (H:Hp) (a:Addr) (y v:V) (H':Hp):Prop:=
 (∃kvs k,H a=some (.dK kvs)/\y=kV k/\kvs.length<Ev/\H'=upd H a (.dK (putK kvs k v)))\/
 ∃kvs k b,H a=some (.dT kvs)/\y=.ref b/\H b=some (.tup (k.map kV))/\kvs.length<Ev/\H'=upd H a (.dT (putK kvs k v))
theorem ip.k {H:Hp} {a:Addr} {kvs:List (Key × V)} {k:Key} (e:H a=some (.dK kvs)):ip H a (kV k) (lu kvs k):=.inl ⟨kvs,k,.inl e,rfl,rfl⟩
theorem Cz.k {H:Hp} {a:Addr} {kvs:List (Key × V)} {k:Key} {v:V} (e:H a=some (.dK kvs)) (hl:kvs.length<Ev):Cz H a (kV k) v (upd H a (.dK (putK kvs k v))):=.inl ⟨kvs,k,e,rfl,hl,rfl⟩
section
variable {X:Cx} {pins:List (Addr × Obj)} {σ:St} {H:Hp} {s:AM} {a:Addr} {y v:V} {u r:Value} {o:Option V} {A:IF} {E:Value->AM->Prop}
theorem Inv.big (I:Inv X pins σ H s):Sc<s.heap.objs.size:=by
 have h:Fk<s.heap.objs.size:=(I.mod.glob.keeps I.bk).lt
 exact Nat.lt_trans (by decide) h
theorem MH {Q:Value->AM->Prop} (hu:A.units+1<cLine) (I:Inv X pins σ H s) (g:ip H a y (some v)) (ry:RelV y u) (h:∀w' s',Inv X pins σ H s'->RelV v w'->Q w' s'):
 wpAny (model X.prog X.w) A (getItem (.ref a) u) Q E s:=by
 rcases g with⟨kvs,k,e,ey,l⟩|⟨kvs,k,b,e,ey,eb,l⟩
 . subst ey
   obtain⟨z,hd,vs,rel,dd⟩:=AO I.bE e
   obtain⟨w',hw,GX⟩:=qm.some_of (v:=v) (o:=AbT vs k) (by rw [l];exact rel.val k)
   exact wpAny_getItem_of (BO ry) dd.mapOf hw (h w' _ (I.tok _) GX)
 . subst ey
   cases (show u=Mc b from ry)
   obtain⟨z,hd,xs,rel,dd⟩:=Ab I.bE e
   obtain⟨w',hw,GX⟩:=qm.some_of (v:=v) (o:=(atKey xs k).map (·.2)) (by rw [l];exact rel.val k)
   obtain⟨p,hp,SF⟩:=Pe.mp hw
   refine wpAny_getItem_heap (WI hu) (xS I.bE eb) dd hp ?_
   rw [SF]
   exact h w' _ (I.tok _) GX
theorem adK {Q:Value->AM->Prop} (hu:A.units+1<cLine) (I:Inv X pins σ H s) (g:ip H a y o) (ry:RelV y u) (h:∀s',Inv X pins σ H s'->Q (.bool o.isSome) s'):
 wpAny (model X.prog X.w) A (NH .In u (.ref a)) Q E s:=by
 rcases g with⟨kvs,k,e,ey,l⟩|⟨kvs,k,b,e,ey,eb,l⟩
 . subst ey
   obtain⟨z,hd,vs,rel,dd⟩:=AO I.bE e
   refine wpAny_in_of (BO ry) hd dd.mapOf ?_
   rw [<-(rel.val k).pG,<-l]
   exact h _ (I.tok _)
 . subst ey
   cases (show u=Mc b from ry)
   obtain⟨z,hd,xs,rel,dd⟩:=Ab I.bE e
   refine wpAny_in_heap (WI hu) (xS I.bE eb) hd dd ?_
   have q:=(rel.val k).pG
   rw [Aby] at q
   rw [<-q,<-l]
   exact h _ (I.tok _)
theorem RX {Q:Value->AM->Prop} (hu:A.units+1<cLine) (I:Inv X pins σ H s) (g:ip H a y o) (ry:RelV y u) (h:∀s',Inv X pins σ H s'->Q (.bool (!o.isSome)) s'):
 wpAny (model X.prog X.w) A (NH .NotIn u (.ref a)) Q E s:=by
 rcases g with⟨kvs,k,e,ey,l⟩|⟨kvs,k,b,e,ey,eb,l⟩
 . subst ey
   obtain⟨z,hd,vs,rel,dd⟩:=AO I.bE e
   refine wpAny_notIn_of (BO ry) hd dd.mapOf ?_
   rw [<-(rel.val k).pG,<-l]
   exact h _ (I.tok _)
 . subst ey
   cases (show u=Mc b from ry)
   obtain⟨z,hd,xs,rel,dd⟩:=Ab I.bE e
   refine wpAny_notIn_heap (WI hu) (xS I.bE eb) hd dd ?_
   have q:=(rel.val k).pG
   rw [Aby] at q
   rw [<-q,<-l]
   exact h _ (I.tok _)
theorem DQ {h':Heap} {t':Nat} {ob:HO} (I:Inv X pins σ H s) (mu:Z5 (H a)) (hs:Abl a s.heap h') (he:∃q,h'.get? a=some q) (new:c9 X.prog X.w (upd H a ob) h' a ob):
 Inv X pins σ (upd H a ob) {s with heap:=h',toks:=t'}:=
 I.write (x:=a) (e:=a) mu (.inl rfl) (fun b q hb z=>(hs.2 b hb).trans z) he new
theorem P9 {P:Fa} {w:World} {H':Hp} {h':Heap} {kvs:List (Key × V)} {vs:List (Key × Value)} (z:kvs.length<=Ev) (hd:(a==Sc)=false) (rel:KV kvs vs) (dd:h'.DictOf (bb P w) a vs):
 c9 P w H' h' a (.dK kvs):=⟨z,hd,vs,rel,dd⟩
theorem K8 {H':Hp} {Q:Unit->AM->Prop} (hu:A.units+1<cLine) (I:Inv X pins σ H s) (g:Cz H a y v H') (ry:RelV y u) (rv:RelV v r) (h:∀s',Inv X pins σ H' s'->Q () s'):
 wpAny (model X.prog X.w) A (setItem (.ref a) u r) Q E s:=by
 rcases g with⟨kvs,k,e,ey,l,eH⟩|⟨kvs,k,b,e,ey,eb,l,eH⟩
 . subst ey eH
   obtain⟨z,hd,vs,rel,dd⟩:=UQ I.bE e
   have hz:vs.length<=Ev:=by rw [<-rel.length];exact z
   have hl:(putK kvs k v).length<=Ev:=by have:=yS kvs k v;omega
   refine wpAny_setItem_pairs (hsz:=hz) (BO ry) dd fun h' WV hs=>h _ ?_
   have he:∃q,h'.get? a=some q:=let ⟨q,_,_,hq,_⟩:=WV;⟨q,hq⟩
   exact DQ I (by rw [e];exact Th) hs he (P9 hl hd (rel.put k rv) WV)
 . subst ey eH
   cases (show u=Mc b from ry)
   obtain⟨z,hd,xs,rel,dd⟩:=ZH I.bE e
   have hz:xs.length<=Ev:=by rw [<-AbD rel];exact z
   have hl:(putK kvs k v).length<=Ev:=by have:=yS kvs k v;omega
   refine wpAny_setItem_heap (hsz:=hz) (WI hu) (xS I.bE eb) dd fun h' WV hs=>h _ ?_
   obtain⟨q,es,ep,hq,h2,h3,h4,_,h5⟩:=WV
   refine DQ I (by rw [e];exact Th) hs ⟨q,hq⟩ ⟨hl,hd,_,(rel.put k eb rv).keeps fun c ys ec=>?_,q,es,ep,hq,h2,h3,h4,h5⟩
   rw [ay (oY ec e (fun z=>nomatch z))]
   exact ec
end
section
variable {X:Cx} {pins:List (Addr × Obj)} {σ:St} {H:Hp} {s:AM} {a:Addr} {kvs:List (Key × V)} {k:Key} {u:Value} {A:IF} {E:Value->AM->Prop}
theorem Z9 {v:V} {more:List Value} {Q:Value->AM->Prop} (I:Inv X pins σ H s) (e:H a=some (.dK kvs)) (ry:RelV (kV k) u) (l:lu kvs k=some v) (hm:more=[]\/∃x,more=[x])
 (h:∀w' s',Inv X pins σ (upd H a (.dK (lD kvs k))) s'->RelV v w'->Q w' s'):wpAny (model X.prog X.w) A (call (.builtin "dict.pop") (.ref a::u::more)) Q E s:=by
 obtain⟨z,hd,vs,rel,dd⟩:=UQ I.bE e
 obtain⟨w',hw,GX⟩:=qm.some_of (v:=v) (o:=AbT vs k) (by rw [<-l];exact rel.val k)
 have hp:(keyPart u).isSome=true:=by
  cases k with
  |inl i=>obtain⟨t,q⟩:=(show ∃t,u=AbI i t from ry);subst q;rfl
  |inr x=>obtain⟨t,q⟩:=(show ∃t,u=AbJ x t from ry);subst q;rfl
 have ha:argsOk "dict.pop" ⟨.ref a::u::more,[]⟩:=by
  rcases hm with q|⟨x,q⟩
  . subst q;exact PySem.F.args_dict_pop_2 _ _
  . subst q;exact PySem.F.args_dict_pop_3 _ _ _
 refine Abp No dd.typeIs PySem.F.entry_dict_pop ha (meets_dict_pop_there (bb X.prog X.w) a (BO ry) more hm hp)
  ⟨vs,w',dd,by rw [<-rel.length];exact z,hw,fun h' WV hs=>h w' _ ?_ GX⟩
 have he:∃q,h'.get? a=some q:=let ⟨q,_,_,hq,_⟩:=WV;⟨q,hq⟩
 exact DQ I (by rw [e];exact Th) hs he (P9 (Me (Nv kvs k) z) hd (rel.drop k) WV)
end
def abJ (i:Expr):Prop:=∀ov iv,subscripted i false ov iv=operate [ov,iv] (getItem ov iv)
theorem SH {prog:Fa} {w:World} {A:IF} {E:Value->AM->Prop} {s:AM} {env:Env} {value slice:Expr} {pos:Pos} {T id:String} {Q:Value->AM->Prop}
 (hl:typeLookup (.type T) "__getitem__"=pure (some (.builtin id))) (hs:abJ slice)
 (h:wpAny (model prog w) A (eval value env) (fun o s₁=>wpAny (model prog w) A (eval slice env) (fun i s₂=>s₂.TypeIs o T/\wpAny (model prog w) A (getItem o i) Q E s₂) E s₁) E s):
 wpAny (model prog w) A (eval (.Subscript value slice pos) env) Q E s:=by
 refine Subscript_ (NO h (fun o s₁ h₁=>NO h₁ (fun i s₂ h₂=>?_) fun _ _ x=>x) fun _ _ x=>x)
 obtain⟨hT,h₂⟩:=h₂
 unfold subscriptTail
 refine BC ?_
 rw [getitemInPython_of_ne hT.not_modules]
 refine BC (wpAny_specialOf hT hl ?_)
 have fin:wpAny (model prog w) A (subscripted slice false o i) (fun r s₃=>wpAny (model prog w) A (letTemporaryGo value o r>>=fun _=>pure r) Q E s₃) E s₂:=by
  rw [hs o i]
  exact wpAny_operating (NO h₂ (fun r s₃ h₃=>BC (wpAny_letTemporaryGo (FM h₃))) fun _ _ x=>x)
 first
  |exact FM (BC fin)
  |exact BC (FM (BC fin))
  |exact BC fin
theorem F0 {X:Cx} {pins:List (Addr × Obj)} {σ:St} {H:Hp} {s:AM} {a:Addr} {y:V} {o:Option V} (I:Inv X pins σ H s) (g:ip H a y o):s.TypeIs (.ref a) "dict":=by
 rcases g with⟨kvs,k,e,_,_⟩|⟨kvs,k,b,e,_,_,_⟩
 . obtain⟨_,_,vs,_,dd⟩:=AO I.bE e
   exact dd.typeIs
 . obtain⟨_,_,xs,_,dd⟩:=Ab I.bE e
   exact dd.typeIs
def Ve (td ty:TE):TE:=fun σ H Q=>td σ H fun x H1=>ty σ H1 fun y H2=>∃a v,x=.ref a/\ip H2 a y (some v)/\Q v H2
def abI (ty td:TE):TE:=fun σ H Q=>ty σ H fun y H1=>td σ H1 fun x H2=>∃a o,x=.ref a/\ip H2 a y o/\Q (.bl o.isSome) H2
def JA (ty td:TE):TE:=fun σ H Q=>ty σ H fun y H1=>td σ H1 fun x H2=>∃a o,x=.ref a/\ip H2 a y o/\Q (.bl (!o.isSome)) H2
def U5 (td ty tv:TE):TS:=fun D σ H=>tv σ H fun v H1=>td σ H1 fun x H2=>ty σ H2 fun y H3=>∃a H4,x=.ref a/\Cz H3 a y v H4/\D.nx σ H4
section
variable {X:Cx} {o i e value:Expr} {pos pos' Qa:Pos} {td ty tv:TE}
theorem ng (hu:X.A.units+1<cLine) (ho:PE X o td) (hi:PE X i ty) (hs:abJ i):PE X (.Subscript o i pos) (Ve td ty):=by
 intro pins s σ H Q I h
 refine SH PySem.F.slot_dict_getitem.lookup hs (dE (ho pins s σ H _ I h) fun u s1 ⟨x,H1,I1,rx,q1⟩=>dE (hi pins s1 σ H1 _ I1 q1) fun iv s2 ⟨y,H2,I2,ry,a,v,ex,g,q2⟩=>?_)
 subst ex
 obtain rfl:u=Mc a:=rx
 exact⟨F0 I2 g,MH hu I2 g ry fun w' s3 I3 GX=>⟨v,H2,I3,GX,q2⟩⟩
theorem OJ (hu:X.A.units+1<cLine) (hi:PE X i ty) (ho:PE X o td):PC X .In i o (abI ty td):=by
 intro pins s σ H Q I h
 refine dE (hi pins s σ H _ I h) fun iv s1 ⟨y,H1,I1,ry,q1⟩=>dE (ho pins s1 σ H1 _ I1 q1) fun u s2 ⟨x,H2,I2,rx,a,ov,ex,g,q2⟩=>?_
 subst ex
 obtain rfl:u=Mc a:=rx
 exact adK hu I2 g ry fun s3 I3=>⟨.bl ov.isSome,H2,I3,rfl,q2⟩
theorem C7 (hu:X.A.units+1<cLine) (hi:PE X i ty) (ho:PE X o td):PC X .NotIn i o (JA ty td):=by
 intro pins s σ H Q I h
 refine dE (hi pins s σ H _ I h) fun iv s1 ⟨y,H1,I1,ry,q1⟩=>dE (ho pins s1 σ H1 _ I1 q1) fun u s2 ⟨x,H2,I2,rx,a,ov,ex,g,q2⟩=>?_
 subst ex
 obtain rfl:u=Mc a:=rx
 exact RX hu I2 g ry fun s3 I3=>⟨.bl (!ov.isSome),H2,I3,rfl,q2⟩
theorem t9 (hu:X.A.units+1<cLine) (ho:PE X o td) (hi:PE X i ty) (hv:PE X value tv) (hs:swapsWith value (some (.Subscript o i pos')) pos.line X.env=pure false):
 PS X (.Assign [.Subscript o i pos'] value pos) (U5 td ty tv):=by
 intro pins s σ H D I h
 refine wpAny_Assign_Subscript (dE (hv pins s σ H _ I h) fun r s1 ⟨v,H1,I1,rv,q1⟩=>dE (ho pins s1 σ H1 _ I1 q1) fun u s2 ⟨x,H2,I2,rx,q2⟩=>dE (hi pins s2 σ H2 _ I2 q2) fun iv s3 ⟨y,H3,I3,ry,a,H4,ex,g,q3⟩=>?_) hs
 subst ex
 obtain rfl:u=Mc a:=rx
 exact K8 hu I3 g ry rv fun s4 I4=>⟨σ,H4,I4,q3⟩
end
theorem O3 {P:Fa} {w:World} {H:Hp} (h:Heap) (hb:Sc<h.objs.size):c9 P w H (h.push {cls:=.type "dict",data:=.dict #[]}) h.objs.size (.dK []):=
 ⟨IR _,beq_eq_false_iff_ne.mpr (LH (ES hb)),[],.nil,Heap.DictOf.new h⟩
def QJ:TE:=fun _ H Q=>∀p,H p=none->Q (.ref p) (upd H p (.dK []))
section
variable {X:Cx} {pos:Pos}
theorem lQ:PE X (.Dict [] [] pos) QJ:=fun pins s σ H Q I h=>
 wpAny_Dict_empty ⟨.ref s.heap.objs.size,_,I.laid (a:=s.heap.objs.size) (o:=.dK []) (t':=s.toks) (fun _ _ q=>BS _ q) (BY _) (O3 s.heap I.big),rfl,h _ (I.bE.fresh (BY _))⟩
end
structure M1 (X:Cx) (o:Expr) (m:Str) (apos:Pos) (e:Expr) (jF:Pos):Prop where
 base:T0 o m X.env (eval o X.env)=eval o X.env
 few:((RS jF (DO [e] X.env)).all (fun x=>!x.1)&&(Aaj jF (Rs [] X.env)).all (fun x=>x.1.isSome)
  &&decide (([e]:List Expr).length+([]:List Keyword).length+(if ([]:List Keyword).isEmpty then 0 else 1)<30))=true
 line:(apos.endLine==jF.line)=true
 trees:RS jF (DO [e] X.env)=[(false,eval e X.env)]
def IsD (H:Hp) (a:Addr):Prop:=(∃kvs,Rd H a (.dK kvs))\/∃kvs,Rd H a (.dT kvs)
theorem Za {X:Cx} {pins:List (Addr × Obj)} {σ:St} {H:Hp} {s:AM} {a:Addr} (I:Inv X pins σ H s) (d:IsD H a):
 s.TypeIs (.ref a) "dict"/\(∀b,Mc a=.ref b->∃ob,s.heap.get? b=some ob/\ob.dict=none)/\(a==Sc)=false:=by
 rcases d with⟨kvs,e⟩|⟨kvs,e⟩
 . obtain⟨_,hd,vs,_,dd⟩:=AO I.bE e
   refine⟨dd.typeIs,fun b q=>?_,hd⟩
   cases q
   obtain⟨ob,_,_,h1,h2,_⟩:=dd
   exact⟨ob,h1,h2.2.1⟩
 . obtain⟨_,hd,xs,_,dd⟩:=Ab I.bE e
   refine⟨dd.typeIs,fun b q=>?_,hd⟩
   cases q
   obtain⟨ob,_,_,h1,h2,_⟩:=dd
   exact⟨ob,h1,h2.2.1⟩
section
variable {X:Cx} {pins:List (Addr × Obj)} {σ:St} {H:Hp} {s:AM} {a:Addr} {y d:V} {u r:Value} {o:Option V} {A:IF} {E:Value->AM->Prop}
theorem XZ {Q:Value->AM->Prop} (hu:A.units+1<cLine) (I:Inv X pins σ H s) (g:ip H a y o) (ry:RelV y u) (h:∀w' s',Inv X pins σ H s'->RelV (o.getD .a9) w'->Q w' s'):
 wpAny (model X.prog X.w) A (call (.builtin "dict.get") [.ref a,u]) Q E s:=by
 rcases g with⟨kvs,k,e,ey,l⟩|⟨kvs,k,b,e,ey,eb,l⟩
 . subst ey
   obtain⟨z,hd,vs,rel,dd⟩:=AO I.bE e
   refine Abp AaS dd.typeIs PySem.F.entry_dict_get (PySem.F.args_dict_get_2 _ _) (meets_dict_get (bb X.prog X.w) a (BO ry) hd) ⟨_,dd.mapOf,h _ _ (I.tok _) ?_⟩
   rw [l]
   exact(rel.val k).getD rfl
 . subst ey
   cases (show u=Mc b from ry)
   obtain⟨z,hd,xs,rel,dd⟩:=Ab I.bE e
   refine Abp AaS dd.typeIs PySem.F.entry_dict_get (PySem.F.args_dict_get_2 _ _) (meetsH_dict_get (AbK (bb X.prog X.w)) a b hd) ⟨WI hu,k,xs,xS I.bE eb,dd,h _ _ (I.tok _) ?_⟩
   rw [l]
   exact(rel.val k).getD rfl
end
def Nm (td ty:TE):TE:=fun σ H Q=>td σ H fun x H1=>∃a,x=.ref a/\IsD H1 a/\ty σ H1 fun y H2=>∃o,ip H2 a y o/\Q (o.getD .a9) H2
section
variable {X:Cx} {o e f:Expr} {apos jF:Pos} {td ty tx:TE}
theorem NV (hu:X.A.units+1<cLine) (ho:PE X o td) (he:PE X e ty) (m:M1 X o "get" apos e jF):PE X (.Call (.Attribute o "get" apos) [e] [] jF) (Nm td ty):=by
 intro pins s σ H Q I h
 refine wpAny_Call_method m.base m.few m.line KF AaS PySem.F.type_dict_get (dE (ho pins s σ H _ I h) fun u s1 ⟨x,H1,I1,rx,a,ex,d,q1⟩=>?_)
 subst ex
 obtain rfl:u=Mc a:=rx
 obtain⟨t1,t2,_⟩:=Za I1 d
 refine⟨t1,t2,?_⟩
 rw [m.trees]
 refine SB rfl (Calls.evalArgs_plain (Abm (dE (he pins s1 σ H1 _ I1 q1) fun iv s2 ⟨y,H2,I2,ry,ov,g,q2⟩=>Abx ?_)))
 exact XZ hu I2 g ry fun w' s3 I3 GX=>⟨_,H2,I3,GX,q2⟩
end
section
variable {X:Cx} {pins:List (Addr × Obj)} {σ:St} {H:Hp} {s:AM} {a:Addr} {kvs:List (Key × V)} {A:IF} {E:Value->AM->Prop}
end
section
variable {X:Cx} {pins:List (Addr × Obj)} {σ:St} {H:Hp} {s:AM} {a:Addr} {y:V} {u:Value} {A:IF} {E:Value->AM->Prop}
end
end L2
namespace Att
open PySem PySem.W PySem.Calls PyProof.Rows
theorem zM {P:Params} {h:Heap}:∀(ns:List Int) (vs:List Value),WellAll P h vs (ns.map WData.int)->IntsAre vs ns:=by
 intro ns
 induction ns with
 |nil=>
  intro vs w
  rw [AaR] at w
  cases w
  exact .nil
 |cons n ns ih=>
  intro vs w
  rw [EO] at w
  cases w with
  |cons a b=>
   cases a
   exact .cons _ _ (ih _ b)
theorem LC {l:OpenLaw} {n:Nat} (hn:l.most=some n) {P:Params} {h:Heap} {args:List WData} {vals:List Value}
 (Uk:l.row.toRowW.claim.pre args=true) (hwl:WellAll P h vals args):
 ∃a vs ns,vals=[Mc a]/\args=[WData.list (ns.map WData.int)]/\h.get? a=some {cls:=.type "list",data:=.seq vs.toArray}/\IntsAre vs ns/\ns.length<=n:=by
 have hsh:WShape.hasAll [] args [.list .int]=true:=(pre_splitW Uk).1
 have hc:l.pre.holds [] {args:=args}=true:=(pre_splitW Uk).2
 obtain⟨d,r,rfl,h1,h2⟩:=hasAllW_cons hsh
 obtain rfl:=hasAllW_nil h2
 obtain⟨xs,rfl,h3⟩:=hasW_list h1
 obtain⟨ns,rfl⟩:=items_int h3
 have hlen:ns.length<=n:=by
  unfold OpenLaw.pre at hc
  have h4:(WTm.not (.lt (.lit (.int (n:Int))) (.len (.arg 0)))).holds [] {args:=[.list (ns.map .int)]}=true:=by
   have h4:=(holds_andW hc).1
   rw [hn] at h4
   exact h4
  have h5:=condW_of h4 (w_not (w_lt w_lit (w_len_list (w_arg rfl))))
  rw [AL] at h5
  refine Nat.le_of_not_lt fun q=>?_
  have q':(n:Int)<((ns.length:Nat):Int):=by omega
  first
   |(rw [decide_eq_true q'] at h5;exact absurd h5 (by decide))
   |(simp at h5;omega)
 cases hwl with
 |cons w1 w2=>
  cases w2
  cases w1 with
  |list ho aeY=>exact⟨_,_,ns,rfl,rfl,ho,zM ns _ aeY,hlen⟩
theorem KR (l:OpenLaw) (args:List WData):l.row.toRowW.claim.post args (.bool true) args=true:=
 postW_of (r:=l.row.toRowW) (X:=(true==true))
  (show WShape.has [] (.bool true) .bool=true by first|rfl|decide|simp [WShape.has,WShape.arms,WShape.armsAll])
  (show(WTm.eq .res (.lit (.bool true))).value [] {args:=args,res:=some (.bool true),after:=args}=some (.bool (true==true)) from w_eq_bool (w_res rfl) w_lit) rfl
theorem Gp {l:OpenLaw} {n:Nat} {q:Fa} {loose:List Str} {XP:(Str->Option Value)->Heap->Prop} {YP:World->Heap->Prop} {d:DefRec}
 (hn:l.most=some n) (hdf:d.params.defaults=[])
 (call:∀(w:World) (jm s₁:AM) (mg mb:Str->Option Value) (fa:Addr) (o:Obj) (pm cd doc:Value) (a:Addr) (vs:List Value) (ns:List Int),
  Ground q loose [] XP w jm mg mb s₁.heap->YP w s₁.heap->
  s₁.heap.get? fa=some o->o.data=.func (docDef d.name d.params d.body d.scope pm cd doc)->s₁.heap.CodeRec cd d.name->mg d.name=some (.ref fa)->
  s₁.heap.get? a=some {cls:=.type "list",data:=.seq vs.toArray}->IntsAre vs ns->ns.length<=n->s₁.gens=#[]->
  AbE (model l.prog w) AbU (.call (.ref fa) ⟨[.ref a],[]⟩) (fun r s'=>r=.ok (.ret (.bool true))/\OldK s₁.heap s'.heap/\s'.os=s₁.os/\AbL s'.gens) s₁):
 WalkO q loose XP YP l.row.toRowW d [] (fun f vs=>PySem.call f vs):=by
 intro w jm s₁ mg mb G Y fa o pm cd doc dV kV ho hd M9 hD hmg hg args vals as Uk ZN hrd hwl hlo
 obtain rfl:dV=.none:=Dflts.none hD hdf
 obtain rfl:kV=.none:=Dflts.noKw hD
 obtain⟨a,vs,ns,rfl,rfl,Xq,hints,hlen⟩:=LC hn Uk hwl
 refine enter_call (Abn (call w jm s₁ mg mb fa o pm cd doc a vs ns G Y ho (fd_plain hd) M9 hmg Xq hints hlen hg) fun r s' hq=>?_)
 obtain⟨rfl,h2,h3,h4⟩:=hq
 exact⟨.inl ⟨.bool true,.bool true,[],rfl,fun _=>rfl,.bool true,KR l _,fun _=>⟨Abz,fun _ hm=>(nomatch hm)⟩⟩,h2,h3,h4⟩
section
variable {prog:Fa} {w:World} {A:IF} {E:Value->AM->Prop} {s:AM} {K:Frag}
end
end Att
namespace L2
open PySem PySem.Spec PyProof.Rows
theorem Dj:∀{vs:List Value} {ns:List Int},IntsAre vs ns->Vals (ns.map V.int) vs
 |_,_,.nil=>.nil
 |_,_,.cons n t h=>.cons ⟨t,rfl⟩ (Dj h)
def UG (H:Hp):Prop:=∀b,H b=none\/∃o xs,H b=some (.tT o (.lst xs))
theorem Qx {P:Fa} {w:World} {K:At} {mg mb:Str->Option Value} {CX:GH} {k:Nat} {fa a:Addr} {fd:Cf} {x:Str} {sp:Sp} {s₁:AM} {vs:List Value} {ns:List Int}
 (KX:K.In s₁.heap) (HG:s₁.heap.Ns Fk mg) (hb:s₁.heap.Ns AbP mb) (YN:∀x:Str,x≠"__name__"->mb x=AaN x) (DW:s₁.heap.NoLimit) (hg:s₁.gens=#[])
 (ha:s₁.heap.get? a=some {cls:=.type "list",data:=.seq vs.toArray}) (hi:IntsAre vs ns) (hl:ns.length<=Ev) (hr:cS k AbU)
 (F:∀base:Heap,K.In base->base.Ns Fk mg->aS P w K mg base CX k fa fd [x] sp) (aah:∀(s:AM) (u:Value),BindsTo s fd ⟨[u],[]⟩ [(x,u)])
 (Nf:∀H:Hp,UG H->iN K H a (ns.map V.int)->sp [.ref a] H (fun v _=>v=.bl true) fun _ _ _=>False)
 (hCX:∀H e s',CX [] H s₁ (fun _ _ _=>False) e s'->False):
 AbE (model P w) AbU (.call (.ref fa) ⟨[.ref a],[]⟩) (fun r s'=>r=.ok (.ret (.bool true))/\OldK s₁.heap s'.heap/\s'.os=s₁.os/\AbL s'.gens) s₁:=by
 have rv:=Dj hi
 have aeF:=hi.length
 have core:∀H:Hp,UG H->iN K H a (ns.map V.int)->rq P w H s₁.heap->(∀b,H b≠none->b=a)->(H a≠none->K.lookup a=none)->
  AbE (model P w) AbU (.call (.ref fa) ⟨[.ref a],[]⟩) (fun r s'=>r=.ok (.ret (.bool true))/\OldK s₁.heap s'.heap/\s'.os=s₁.os/\AbL s'.gens) s₁:=by
  intro H hO hS bE hA hK
  have JM:∀{b:Addr} {o:Obj},s₁.heap.get? b=some o->H b=none->(Ed s₁.heap H).get? b=some o:=fun e n=>OU e n
  have ZW:∀{b:Addr} {o:Obj} {es:Array DictEntry} {ep:Nat},s₁.heap.get? b=some o->o.data=.dict es ep->H b=none:=fun {b o es ep} e d=>by
   cases q:H b with
   |none=>rfl
   |some u=>
    have e':b=a:=hA b (by rw [q];simp)
    subst e'
    rw [ha] at e;cases e
    have d':Data.seq vs.toArray _=Data.dict es ep:=d
    cases d'
  have nsK:∀{b:Addr} {m:Str->Option Value},s₁.heap.Ns b m->(Ed s₁.heap H).Ns b m:=fun {b m} ⟨o,es,ep,e,d,r⟩=>⟨o,es,ep,JM e (ZW e d),d,r⟩
  have hKb:K.In (Ed s₁.heap H):=fun b o e=>JM (KX b o e) (by
   cases q:H b with
   |none=>rfl
   |some u=>
    have e':b=a:=hA b (by rw [q];simp)
    subst e'
    rw [hK (by rw [q];simp)] at e;cases e)
  have hM:Mod K mg (Ed s₁.heap H):=⟨hKb,nsK HG,⟨mb,nsK hb,YN⟩,let ⟨mc,h1,h2⟩:=DW;⟨mc,nsK h1,h2⟩⟩
  have e0:B5 P w K mg (Ed s₁.heap H) AbU [] s₁ H:=⟨rfl,hM,fun b o e=>T6 e,Nat.le_of_eq (MJ _ _),trivial,fun b hb=>absurd (show b∈([]:List Addr) from hb) (by simp),bE,.of_eq hg⟩
  refine Abn ((F _ hKb (nsK HG)).run AbU [] s₁ H ⟨[.ref a],[]⟩ [.ref a] [.ref a] _ _ hr e0 (aah s₁ (.ref a)) (.cons rfl .nil) (Nf H hO hS)) fun r s' h=>?_
  cases r with
  |error e=>exact(hCX H e s' h).elim
  |ok fl=>
   cases fl with
   |next=>exact Po h
   |brk=>exact Po h
   |cont=>exact Po h
   |ret u=>
    obtain⟨v,H',os,bare,un,afc,r',q⟩:=h
    have q':v=.bl true:=q
    subst q'
    obtain rfl:u=AbN true:=r'
    refine⟨rfl,OldK.of_keep fun b o e=>?_,os,bare⟩
    cases q:H b with
    |none=>exact un.keep b o e q (by intro z;exact absurd (show b∈([]:List Addr) from z) (by simp)) (by simp)
    |some u=>
     rcases hO b with z|⟨ob,xs,z⟩
     . rw [q] at z;cases z
     . have z2:=un.uk b ob _ z
       obtain⟨e1,_⟩:=bE b _ z
       obtain⟨e2,_⟩:=afc b _ z2
       rw [e] at e1;cases e1
       exact e2
 cases hk:K.lookup a with
 |some o=>
  have e:=KX a o hk
  rw [ha] at e
  cases e
  refine core (fun _=>none) (fun _=>.inl rfl) (.inr ⟨_,vs.toArray,_,hk,rfl,rfl,rfl,by rw [Cc,aeF];exact hl,by simpa using rv⟩) (fun b u z=>by have z':(none:Option HO)=some u:=z;cases z') (fun b z=>absurd rfl z) fun z=>absurd rfl z
 |none=>
  refine core (fun b=>if b=a then some (.tT {cls:=.type "list",data:=.seq vs.toArray} (.lst (ns.map V.int))) else none) (fun b=>?_) (.inl (.inr ⟨{cls:=.type "list",data:=.seq vs.toArray},if_pos rfl⟩)) (fun b u z=>?_) (fun b z=>?_) fun _=>hk
  . by_cases hb:b=a
    . exact .inr ⟨_,_,if_pos hb⟩
    . exact .inl (if_neg hb)
  . by_cases hb:b=a
    . have z':=(if_pos hb).symm.trans z
      cases z'
      subst hb
      exact⟨ha,by rw [AL];exact hl,vs,_,rv,ha⟩
    . have z':=(if_neg hb).symm.trans z
      cases z'
  . by_cases hb:b=a
    . exact hb
    . exact absurd (if_neg hb) z
abbrev KOf {K:At} {h:Heap} (_:K.In h):At:=K
theorem SV {l:PySem.W.OpenLaw} {n k:Nat} {q:Fa} {loose:List Str} {XP:(Str->Option Value)->Heap->Prop} {YP:World->Heap->Prop} {d:DefRec} {K:Params->At} {CX:World->GH} {sp:World->Sp} {x:Str}
 (hn:l.most=some n) (px:n<=Ev) (hdf:d.params.defaults=[]) (hr:cS k AbU)
 (hY:∀(w:World) (h:Heap),YP w h->(K w.params).In h)
 (F:∀(w:World) (mg:Str->Option Value) (fa:Addr) (h:Heap),(K w.params).In h->h.Ns Fk mg->mg d.name=some (.ref fa)->
  ∃fd:Cf,(∀(s:AM) (u:Value),BindsTo s fd ⟨[u],[]⟩ [(x,u)])/\
   ∀base:Heap,(K w.params).In base->base.Ns Fk mg->aS l.prog w (K w.params) mg base (CX w) k fa fd [x] (sp w))
 (Nf:∀(w:World) (H:Hp) (a:Addr) (ns:List Int),ns.length<=n->UG H->iN (K w.params) H a (ns.map V.int)->sp w [.ref a] H (fun v _=>v=.bl true) fun _ _ _=>False)
 (hCX:∀(w:World) (H:Hp) (s:AM) (e:Value) (s':AM),CX w [] H s (fun _ _ _=>False) e s'->False):
 PySem.W.WalkO q loose XP YP l.row.toRowW d [] (fun f vs=>PySem.call f vs):=by
 refine Att.Gp hn hdf fun w jm s₁ mg mb fa o pm cd doc a vs ns G Y ho hd M9 hmg Xq hints hlen hg=>?_
 have KX:=hY w _ Y
 obtain⟨fd,hb,hF⟩:=F w mg fa _ KX G.T.g hmg
 exact Qx KX G.T.g G.T.b G.T.builtins G.T.nolimit hg Xq hints (Me hlen px) hr hF hb (fun H hO hS=>Nf w H a ns hlen hO hS) fun H e s'=>hCX w H s₁ e s'
theorem OG {l:PySem.W.OpenLaw} {n k:Nat} {q:Fa} {loose:List Str} {XP:(Str->Option Value)->Heap->Prop} {YP:World->Heap->Prop} {d:DefRec} {K:Params->At} {CX:GH} {sp:At->Sp} {x:Str}
 (hn:l.most=some n) (px:n<=Ev) (hdf:d.params.defaults=[]) (hr:cS k AbU)
 (hY:∀(w:World) (h:Heap),YP w h->(K w.params).In h)
 (F:∀(w:World) (mg:Str->Option Value) (fa:Addr) (h:Heap),(K w.params).In h->h.Ns Fk mg->mg d.name=some (.ref fa)->
  ∃fd:Cf,(∀(s:AM) (u:Value),BindsTo s fd ⟨[u],[]⟩ [(x,u)])/\
   ∀base:Heap,(K w.params).In base->base.Ns Fk mg->aS l.prog w (K w.params) mg base CX k fa fd [x] (sp (K w.params)))
 (Nf:∀(K:At) (H:Hp) (a:Addr) (ns:List Int),ns.length<=n->UG H->iN K H a (ns.map V.int)->sp K [.ref a] H (fun v _=>v=.bl true) fun _ _ _=>False)
 (hCX:∀(H:Hp) (s:AM) (e:Value) (s':AM),CX [] H s (fun _ _ _=>False) e s'->False):
 PySem.W.WalkO q loose XP YP l.row.toRowW d [] (fun f vs=>PySem.call f vs):=
 SV (K:=K) (CX:=fun _=>CX) (sp:=fun w=>sp (K w.params)) hn px hdf hr hY F (fun w H a ns h1 h2 h3=>Nf (K w.params) H a ns h1 h2 h3) fun _ H s e s'=>hCX H s e s'
def inClass (s:Stmt) (j:Nat):Stmt:=match s with
 | .ClassDef _ _ _ body _ _ _ _ _ _ _=>body.getD j (.Pass ⟨0,0,0,0⟩)
 |_=>.Pass ⟨0,0,0,0⟩
def zO (s:Stmt):AbM:=match s with
 | .FunctionDef _ a _ _ _ _ _ _ _ _=>a
 |_=>{posonlyargs:=[],args:=[],vararg:=none,kwonlyargs:=[],kw_defaults:=[],kwarg:=none,defaults:=[]}
def xi (s:Stmt):List Stmt:=match s with
 | .FunctionDef _ _ b _ _ _ _ _ _ _=>b
 |_=>[]
def ao (s:Stmt):Scope:=match s with
 | .FunctionDef _ _ _ _ _ _ sc _ _ _=>sc
 |_=>{kind:=.function,names:=[],isGenerator:=false,isCoroutine:=false}
abbrev eP:GH:=fun _ _ _ _ _ _=>False
abbrev E0:XK:=fun _ _ _=>False
theorem CN {X:Cx}:Passes eP X E0:=fun _ _ _ _ _ _ _ h=>h.elim
section
variable {P:Fa} {w:World} {K:At} {mg:Str->Option Value} {base:Heap}
end
theorem iK {A:IF} {k:Nat} (hr:cS k A):A.units+1<cLine:=Abq (Nat.add_le_add_left (by decide:1<=64) _) hr.units
section
variable {X:Cx}
theorem pv (i:Nat) {x:Str} {pos:Pos} (hN:X.N[i]? =some x:=by rfl) (hv:Vis X.env.scope x:=by first|exact FF rfl|exact Or.inr (FF rfl)|exact Or.inr (Or.inr rfl)) (hd:(x==("__debug__":Str))=false:=by decide)
 (M9:(x==("__classdict__":Str))=false:=by decide):PE X (.Name x pos) (Xm i):=WZ hN hv hd M9
end
theorem aei {A B:Prop} (h:B):if false=true then A else B:=by
 rw [if_neg FB]
 exact h
theorem afW {A B:Prop} (h:A):if true=true then A else B:=by
 rw [if_pos rfl]
 exact h
def aA (H H':Hp):Prop:=∀b o,H b=some o->H' b=some o
theorem aA.refl (H:Hp):aA H H:=fun _ _ h=>h
theorem aA.trans {H H1 H2:Hp} (a:aA H H1) (b:aA H1 H2):aA H H2:=fun c o h=>b c o (a c o h)
theorem aA.seq {K:At} {H H':Hp} {a:Addr} {xs:List V} (e:aA H H') (h:iN K H a xs):iN K H' a xs:=by
 rcases h with(h|⟨o,h⟩)|h
 . exact .inl (.inl (e _ _ h))
 . exact .inl (.inr ⟨o,e _ _ h⟩)
 . exact .inr h
section
variable {κ:Type} [DecidableEq κ]
end
section
variable {X:Cx}
def J1 (i j:Int):Prop:=i.natAbs<2^2000/\j.natAbs<2^2000
theorem J1.ok {i j:Int} (h:J1 i j):IntMulOk i j:=by
 have h1:IS i<=2000:=PyProof.Rows.intBits_le h.1
 have h2:IS j<=2000:=PyProof.Rows.intBits_le h.2
 have h3:AaT ((IS i+IS j:Nat):Int)=false:=by
  unfold AaT
  have:(bitsLine:Nat)=134217728:=rfl
  refine decide_eq_false ?_
  omega
 unfold IntMulOk
 have h4:AaT (IS i+IS j)=false:=by
  have e:((IS i:Int)+(IS j:Int))=((IS i+IS j:Nat):Int):=by omega
  rw [e];exact h3
 rw [h4]
 simp
theorem t5:rD X (WF .Mult) (rI J1 fun i j=>.int (i*j)):=opI fun _ _ _ _ _ _ _ hc q=>mul_int q hc.ok
def UX (_ j:Int):Prop:=0<j/\j.natAbs<2^2000
theorem ck:rD X (WF .FloorDiv) (rI UX fun i j=>.int (i / j)):=opI fun i j _ _ _ _ _ hc q=>by
 have e:i.fdiv j=i / j:=Int.fdiv_eq_ediv_of_nonneg _ (NL hc.1)
 have hl:j.natAbs.log2<9000:=by
  have h0:j.natAbs≠0:=by have:=hc.1;omega
  have h2:j.natAbs.log2<2000:=(Nat.log2_lt h0).mpr hc.2
  omega
 refine floordiv_int (by have:=hc.1;omega) ?_ (.inl (PyProof.noPylong_of_log2 hl))
 rw [e];exact q
inductive Yx:V->Value->Prop where
 |ty (n:String):Yx (.ty n) (.type n)
 |ref (C:Addr):Yx (.ref C) (.ref C)
def IY (K:At):List V->Hp->VK->Prop:=fun xs H Q=>∃x c cv t b,xs=[x,c]/\Yx c cv/\xO K H x t/\PySem.W.kitOne K t cv=some b/\Q (.bl b) H
theorem j9:nk X (.builtin "isinstance") (IY X.K):=by
 intro pins s σ H xs us Q I r h
 obtain⟨x,c,cv,t,b,rfl,hc,ty,e,q⟩:=h
 obtain⟨u,w',rfl,r1,r2⟩:=vals2 r
 have ew:w'=cv:=by cases hc <;>exact r2
 subst ew
 exact Mp I r1 ty e fun tk=>⟨.bl b,H,I.tok tk,rfl,q⟩
structure DL (K:At) (C:Addr) (m:Str) (f:Addr):Prop where
 ga:Tk K (.ref C) "__getattribute__"=some (some (.builtin "type.__getattribute__"))
 rd:Abe K C (.type "type")=true
 fd:Abf K (.ref C) (.type "type") m=some (.val (.ref f))
 kp:ET K (.ref f)=true
theorem Ui {CX:GH} {k:Nat} {f C:Addr} {fd:Cf} {ps:List Str} {sp:Sp} {eQ:List V} {ds:List Value} {E:XK} {x m:Str} {p pos apos:Pos} {e:Expr} {es:List Expr} {t:TA} {pl:Sem Bool}
 (hg:Gl X x) (hm:X.mg x=some (.ref C)) (B:DL X.K C m f) (F:aS X.prog X.w X.K X.mg X.base CX k f fd ps sp) (hr:cS k X.A) (hb:Binds X.K fd ps ds) (hd:Vals eQ ds) (hx:Passes CX X E) (ha:PA X (e::es) t)
 (zE:(x==("__debug__":Str))=false:=by decide)
 (se:DO (e::es) X.env=(false,eval e X.env)::DO es X.env:=by rfl) (uN:(RS pos (DO es X.env)).any (·.1)=false:=by rfl)
 (ht:eval (.Call (.Attribute (.Name x p) m apos) (e::es) [] pos) X.env=(do
  let ov <-eval (.Name x p) X.env
  Aa9 apos.atName
  let (f,first) <-Aba [ov] (Aad ov m pl)
  Abo pos f first (RS pos (DO (e::es) X.env)) (Aaj pos (Rs [] X.env))):=by rfl):
 PE X (.Call (.Attribute (.Name x p) m apos) (e::es) [] pos) (CI sp eQ E t):=by
 intro pins s σ H Q I h
 refine AaP (pl:=pl) (xC I hg hm ?_ zE) ht
 refine PySem.W.method_cls I.vX B.ga ?_
 refine PySem.W.cls_value I.vX B.rd B.fd rfl ?_
 have I':Inv X pins σ H {s with toks:=s.toks+1}:=I.tok _
 refine Aan (first:=[]) (h₀:=X.base) I.ok.mod.Zm B.kp (dE (ha pos pins _ σ H _ I' h) fun us s2 ⟨vs,H2,I2,r,q2⟩=>⟨I2.vX,?_⟩) se uN
 exact Es F hr hb hd hx I2 r q2
end
mutual
inductive yg (K:At) (H:Hp):V->BB->Prop where
 |a9:yg K H .a9 .none
 |bl (b:Bool):yg K H (.bl b) (.bool b)
 |int (i:Int):yg K H (.int i) (.int i)
 |str (x:Str):yg K H (.str x) (.str x)
 |tup {a:Addr} {xs:List V} {ds:List BB} (h:zQ K H a xs) (r:tN K H xs ds):yg K H (.ref a) (.tuple ds)
 |lst {a:Addr} {xs:List V} {ds:List BB} (h:iN K H a xs) (r:tN K H xs ds):yg K H (.ref a) (.list ds)
inductive tN (K:At) (H:Hp):List V->List BB->Prop where
 |nil:tN K H [] []
 |cons {x:V} {d:BB} {xs:List V} {ds:List BB} (h:yg K H x d) (r:tN K H xs ds):tN K H (x::xs) (d::ds)
end
theorem zQ.keeps {K:At} {H H':Hp} {a:Addr} {xs:List V} (e:aA H H') (h:zQ K H a xs):zQ K H' a xs:=by
 rcases h with(h|⟨o,h⟩)|h
 . exact .inl (.inl (e _ _ h))
 . exact .inl (.inr ⟨o,e _ _ h⟩)
 . exact .inr h
section
variable {X:Cx} {pins:List (Addr × Obj)} {σ:St} {H:Hp} {s:AM}
mutual
theorem yg.reads (I:Inv X pins σ H s):∀{v:V} {d:BB} {u:Value},yg X.K H v d->RelV v u->∃as,Reads s.heap u d as
 |_,_,_,.a9,r=>by cases r;exact⟨_,.none⟩
 |_,_,_,.bl b,r=>by cases r;exact⟨_,.bool b⟩
 |_,_,_,.int i,r=>by obtain⟨t,rfl⟩:=r;exact⟨_,.int i t⟩
 |_,_,_,.str x,r=>by obtain⟨t,rfl⟩:=r;exact⟨_,.str x t⟩
 |_,_,_,.tup h q,r=>by
  cases r
  obtain⟨bh,rv,⟨o,h1,h2,n,h3⟩,_⟩:=I.tuple h
  obtain⟨as,ra⟩:=tN.reads I q rv
  exact⟨_,.tuple h1 h2 h3 (by simpa using ra)⟩
 |_,_,_,.lst h q,r=>by
  cases r
  obtain⟨bh,rv,⟨o,n,h1,h2,_,h3⟩,_⟩:=I.list h
  obtain⟨as,ra⟩:=tN.reads I q rv
  exact⟨_,.list h1 h2 h3 (by simpa using ra)⟩
theorem tN.reads (I:Inv X pins σ H s):∀{vs:List V} {ds:List BB} {us:List Value},tN X.K H vs ds->Vals vs us->∃as,ReadsAll s.heap us ds as
 |_,_,_,.nil,r=>by cases r;exact⟨_,.nil⟩
 |_,_,_,.cons h q,r=>by
  cases r with
  |cons r1 r2=>
   obtain⟨as,ra⟩:=yg.reads I h r1
   obtain⟨bs,rb⟩:=tN.reads I q r2
   exact⟨_,.cons ra rb⟩
end
end
section
variable {X:Cx}
def ZQ (K:At) (f:Bool->Bool):R2:=fun x y H Q=>∃d e,yg K H x d/\yg K H y e/\d.canLay0=true/\e.canLay0=true/\d.depth<=8/\Q (.bl (f (UV d e))) H
theorem WK (hu:X.A.units+8<cLine):rD X (NH .Eq) (ZQ X.K id):=by
 intro pins s σ H x y v u Q I rx ry h
 obtain⟨d,e,hd,he,c1,c2,hn,q⟩:=h
 obtain⟨as,ra⟩:=hd.reads I rx
 obtain⟨bs,rb⟩:=he.reads I ry
 exact SeqAt.compareEq_reads ra rb c1 c2 (by have:=Nat.min_le_left d.depth e.depth;omega) ⟨.bl _,H,I,rfl,q⟩
theorem Xo (hu:X.A.units+8<cLine):rD X (NH .NotEq) (ZQ X.K not):=by
 intro pins s σ H x y v u Q I rx ry h
 obtain⟨d,e,hd,he,c1,c2,hn,q⟩:=h
 obtain⟨as,ra⟩:=hd.reads I rx
 obtain⟨bs,rb⟩:=he.reads I ry
 exact SeqAt.compareNe_reads ra rb c1 c2 (by have:=Nat.min_le_left d.depth e.depth;omega) ⟨.bl _,H,I,rfl,q⟩
end
structure cT (P:Fa) (w:World) (K:At) (mg:Str->Option Value) (base:Heap) (k:Nat) (f:Addr) (ps:List Str) (eQ:List V) (sp:Sp):Prop where
 ex:∃(fd:Cf) (ds:List Value),aS P w K mg base eP k f fd ps sp/\Binds K fd ps ds/\Vals eQ ds
section
variable {X:Cx} {k:Nat} {f C:Addr} {ps:List Str} {sp:Sp} {eQ:List V} {x m:Str} {p pos apos:Pos} {e o:Expr} {es:List Expr} {ta:TE} {t:TA}
theorem TL (c:cT X.prog X.w X.K X.mg X.base k f ps eQ sp) (hr:cS k X.A) (hg:Gl X x) (hm:X.mg x=some (.ref f)) (hk:ET X.K (.ref f)=true)
 (ha:PA X (e::es) t) (zE:(x==("__debug__":Str))=false:=by decide) (he:DO (e::es) X.env=(false,eval e X.env)::DO es X.env:=by rfl) (uN:(RS pos (DO es X.env)).any (·.1)=false:=by rfl):
 PE X (.Call (.Name x p) (e::es) [] pos) (CI sp eQ E0 t):=by
 obtain⟨fd,ds,F,hb,hd⟩:=c.ex
 exact UB F hr hg hm hk hb hd CN ha zE he uN
theorem R5 {pl:Sem Bool} (he:PE X o ta) (c:tm X.K C) (hm:Meth X.K C m f) (F:cT X.prog X.w X.K X.mg X.base k f ps eQ sp) (hr:cS k X.A) (ha:PA X (e::es) t)
 (se:DO (e::es) X.env=(false,eval e X.env)::DO es X.env:=by rfl) (uN:(RS pos (DO es X.env)).any (·.1)=false:=by rfl)
 (ht:eval (.Call (.Attribute o m apos) (e::es) [] pos) X.env=(do
  let ov <-eval o X.env
  Aa9 apos.atName
  let (f,first) <-Aba [ov] (Aad ov m pl)
  Abo pos f first (RS pos (DO (e::es) X.env)) (Aaj pos (Rs [] X.env))):=by rfl):
 PE X (.Call (.Attribute o m apos) (e::es) [] pos) (DA C m sp eQ E0 ta t):=by
 obtain⟨fd,ds,F,hb,hd⟩:=F.ex
 exact TU he c hm F hr hb hd CN ha se uN ht
theorem Ni {pl:Sem Bool} (he:PE X o ta) (c:tm X.K C) (hm:Meth X.K C m f) (F:cT X.prog X.w X.K X.mg X.base k f ps eQ sp) (hr:cS k X.A)
 (ht:eval (.Call (.Attribute o m apos) [] [] pos) X.env=(do
  let ov <-eval o X.env
  Aa9 apos.atName
  let (f,first) <-Aba [ov] (Aad ov m pl)
  Abo pos f first (RS pos (DO [] X.env)) (Aaj pos (Rs [] X.env))):=by rfl):
 PE X (.Call (.Attribute o m apos) [] [] pos) (DA C m sp eQ E0 ta F6):=by
 obtain⟨fd,ds,F,hb,hd⟩:=F.ex
 exact Qf he c hm F hr hb hd CN ht
theorem SG (M:Mk X.K C f) (F:cT X.prog X.w X.K X.mg X.base k f ps eQ sp) (hr:cS (k+1) X.A) (hg:Gl X x) (hm:X.mg x=some (.ref C))
 (ha:PA X (e::es) t) (zE:(x==("__debug__":Str))=false:=by decide) (he:DO (e::es) X.env=(false,eval e X.env)::DO es X.env:=by rfl) (uN:(RS pos (DO es X.env)).any (·.1)=false:=by rfl):
 PE X (.Call (.Name x p) (e::es) [] pos) (GL C sp eQ E0 t):=by
 obtain⟨fd,ds,F,hb,hd⟩:=F.ex
 exact T7 M F hr hg hm hb hd CN ha zE he uN
theorem RF {pl:Sem Bool} (hg:Gl X x) (hm:X.mg x=some (.ref C)) (B:DL X.K C m f) (F:cT X.prog X.w X.K X.mg X.base k f ps eQ sp) (hr:cS k X.A) (ha:PA X (e::es) t)
 (zE:(x==("__debug__":Str))=false:=by decide)
 (se:DO (e::es) X.env=(false,eval e X.env)::DO es X.env:=by rfl) (uN:(RS pos (DO es X.env)).any (·.1)=false:=by rfl)
 (ht:eval (.Call (.Attribute (.Name x p) m apos) (e::es) [] pos) X.env=(do
  let ov <-eval (.Name x p) X.env
  Aa9 apos.atName
  let (f,first) <-Aba [ov] (Aad ov m pl)
  Abo pos f first (RS pos (DO (e::es) X.env)) (Aaj pos (Rs [] X.env))):=by rfl):
 PE X (.Call (.Attribute (.Name x p) m apos) (e::es) [] pos) (CI sp eQ E0 t):=by
 obtain⟨fd,ds,F,hb,hd⟩:=F.ex
 exact Ui hg hm B F hr hb hd CN ha zE se uN ht
end
structure a0 (K:At) (x qual:Str) (st:Stmt) (f:Addr) (dV:Value) (fd:Cf):Prop where
 ex:∃(oc:Value) (od:Option Addr) (kV doc pm:Value) (an:Option Addr) (di ct:Value) (Tj:Array (Option Value)),
  fd=AaQ x qual (zO st) (xi st) (ao st) dV kV doc pm an di ct/\K.lookup f=some ⟨oc,od,.func fd,Tj⟩/\PySem.W.codeIn K di qual=true
theorem Kt {K:At} {x qual:Str} {st:Stmt} {f:Addr} {oc:Value} {od an:Option Addr} {Tj:Array (Option Value)} {dV kV doc pm di ct:Value} (l:K.lookup f=some ⟨oc,od,.func (AaQ x qual (zO st) (xi st) (ao st) dV kV doc pm an di ct),Tj⟩)
 (c:PySem.W.codeIn K di qual=true):a0 K x qual st f dV (AaQ x qual (zO st) (xi st) (ao st) dV kV doc pm an di ct):=⟨⟨oc,od,kV,doc,pm,an,di,ct,Tj,rfl,l,c⟩⟩
section
variable {P:Fa} {w:World} {K:At} {mg:Str->Option Value} {base:Heap}
theorem a0.ok {x qual:Str} {st:Stmt} {f:Addr} {dV:Value} {fd:Cf} {N ps:List Str} {k:Nat} {sp:Sp} (F:a0 K x qual st f dV fd) (S:aw N ps (ao st)) (len:∀vs H Q E,sp vs H Q E->vs.length=ps.length)
 (Dr:∀(di:Value) (A:IF) (outer:List Env) (s:AM) (H:Hp) (vs:List V) (Q:VK) (E:XK),cS k (A.deeper (envOfC qual (ao st) s.heap.objs.size f di))->sp vs H Q E->
  ∃t,HV (MM eP P w K mg base N qual (ao st) f di A outer s H E).nox (xi st) t/\t {nx:=fun _ H'=>Q .a9 H',rt:=Q} (start N vs) H):aS P w K mg base eP (k+1) f fd ps sp:=by
 obtain⟨oc,od,kV,doc,pm,an,di,ct,Tj,rfl,lk,M9⟩:=F.ex
 refine aaM lk M9 S len fun A outer s H vs Q E hr Nf=>?_
 obtain⟨t,h,q⟩:=Dr di A outer s H vs Q E hr Nf
 exact⟨t,h.nox,q⟩
theorem a0.binds {x qual:Str} {st:Stmt} {f:Addr} {dV:Value} {fd:Cf} {ps:List Str} {ds:List Value} (F:a0 K x qual st f dV fd)
 (h:∀(kV doc pm:Value) (an:Option Addr) (di ct:Value),Binds K (AaQ x qual (zO st) (xi st) (ao st) dV kV doc pm an di ct) ps ds):Binds K fd ps ds:=by
 obtain⟨oc,od,kV,doc,pm,an,di,ct,Tj,rfl,lk,M9⟩:=F.ex
 exact h kV doc pm an di ct
end
structure ye (K:At) (T:Addr) (items:Array Value):Prop where
 ex:∃(o:Obj) (n:Nat),K.lookup T=some o/\o.data=.seq items n
structure ahc (K:At) (C:Addr):Prop where
 ha:AR K (.ref C) "__class__"=some (some (.builtin "object.__class__"))
 hn:Tk K (.builtin "object.__class__") "__get__"=some (some (.builtin "getset_descriptor.__get__"))
 ht:PySem.W.takesIn K (.builtin "object.__class__")=some true
 hm:PySem.W.mroIn K C (.type "object")=some true
section
variable {σ:St} {H:Hp} {Q:VK} {D:Ends} {K:At}
theorem X7 (h:D.nx σ H):QO D σ H:=h
theorem aaR {te:TE} (h:te σ H D.rt):aaU te D σ H:=h
theorem Xg {te:TE} (h:te σ H fun _ H1=>D.nx σ H1):Vh te D σ H:=h
theorem aa0 {c:TT} {t u:TS} (h:c σ H fun b H1=>if b=true then t D σ H1 else u D σ H1):aaL c t u D σ H:=h
theorem aa9 {te:TE} {i:Nat} (h:te σ H fun x H1=>D.nx (σ.set i (some x)) H1):N8 te (ml i) D σ H:=h
theorem N3 {i:Nat} {v:V} (e:σ[i]? =some (some v)) (h:Q v H):Xm i σ H Q:=⟨v,e,h⟩
theorem r_c {v:V} (h:Q v H):tC v σ H Q:=h
theorem afx {r:R2} {ta tb:TE} (h:ta σ H fun x H1=>tb σ H1 fun y H2=>r x y H2 Q):tOp r ta tb σ H Q:=h
theorem afC {r:V->Hp->VK->Prop} {ta:TE} (h:ta σ H fun x H1=>r x H1 Q):tUn r ta σ H Q:=h
theorem ad1 {g:Int->Int->V} {i j:Int} (h:Q (g i j) H):M5 g (.int i) (.int j) H Q:=⟨i,j,rfl,rfl,h⟩
theorem r_i {C:Int->Int->Prop} {g:Int->Int->V} {i j:Int} (c:C i j) (h:Q (g i j) H):rI C g (.int i) (.int j) H Q:=⟨i,j,rfl,rfl,c,h⟩
theorem r_u {g:Int->V} {i:Int} (h:Q (g i) H):rU g (.int i) H Q:=⟨i,rfl,h⟩
theorem VR {t:TE} {Q:Bool->Hp->Prop} (h:t σ H fun x H'=>∃k,x=.bl k/\Q k H'):Pt t σ H Q:=h
theorem Z3 {t u:TT} {Q:Bool->Hp->Prop} (h:t σ H fun c H1=>if c=true then u σ H1 Q else Q false H1):abT t u σ H Q:=h
theorem afr {t u:TT} {Q:Bool->Hp->Prop} (h:t σ H fun c H1=>if c=true then Q true H1 else u σ H1 Q):tOr t u σ H Q:=h
theorem aa6 {t:TT} {Q:Bool->Hp->Prop} (h:t σ H fun c H1=>Q (!c) H1):acg t σ H Q:=h
theorem V4 {ta tb:TE} (h:ta σ H fun x H1=>∃c,x=.bl c/\if c=true then tb σ H1 Q else Q (.bl false) H1):VB ta tb σ H Q:=h
theorem aca {ta tb:TE} (h:ta σ H fun x H1=>∃c,x=.bl c/\if c=true then Q (.bl true) H1 else tb σ H1 Q):aaK ta tb σ H Q:=h
theorem VW {ta:TE} (h:ta σ H fun x H1=>∃c,x=.bl c/\Q (.bl (!c)) H1):Vu ta σ H Q:=h
theorem ZY {t:TT} {ta tb:TE} (h:t σ H fun c H1=>if c=true then ta σ H1 Q else tb σ H1 Q):tIf t ta tb σ H Q:=h
theorem afi {b:Bool} {R:Bool->Prop} (h:R b):∃k,V.bl b=.bl k/\R k:=⟨b,rfl,h⟩
theorem acb {Q:List V->Hp->Prop} (h:Q [] H):F6 σ H Q:=h
theorem Xk {ta:TE} {tr:TA} {Q:List V->Hp->Prop} (h:ta σ H fun x H1=>tr σ H1 fun xs H2=>Q (x::xs) H2):PD ta tr σ H Q:=h
theorem aft {r:List V->Hp->VK->Prop} {t:TA} (h:t σ H fun vs H1=>r vs H1 Q):tCB r t σ H Q:=h
theorem Ua {C:Addr} {m:Str} {dx p:Addr} {fs:List (Str × V)} {R:Prop} (hp:H p=some (.ins C dx fs)) (hl:fs.lookup m=none) (h:R):∃a dx fs,V.ref p=.ref a/\H a=some (.ins C dx fs)/\fs.lookup m=none/\R:=⟨p,dx,fs,rfl,hp,hl,h⟩
theorem abg {ta:TE} {f:Str} (h:ta σ H fun x H1=>∃a C dx fs v,x=.ref a/\H1 a=some (.ins C dx fs)/\tm K C/\aJ K C f/\fs.lookup f=some v/\Q v H1):XR K ta f σ H Q:=h
theorem O7 {A B:Prop} (h:A):if true=true then A else B:=by rw [if_pos rfl];exact h
theorem MB {A B:Prop} (h:B):if false=true then A else B:=by rw [if_neg FB];exact h
end
section
variable {X:Cx} {e:Expr} {es:List Expr}
theorem PE.or {t u:TE} (h1:PE X e t) (h2:PE X e u):PE X e (fun σ H Q=>t σ H Q\/u σ H Q):=fun pins s σ H Q I h=>h.elim (h1 pins s σ H Q I) (h2 pins s σ H Q I)
theorem PE.weak {t u:TE} (h1:PE X e t) (h:∀σ H Q,u σ H Q->t σ H Q):PE X e u:=fun pins s σ H Q I q=>h1 pins s σ H Q I (h σ H Q q)
def mA (t:TA):TA:=fun σ H Q=>∃Q':List V->Hp->Prop,t σ H Q'/\∀v H',Q' v H'->Q v H'
theorem PA.m {t:TA} (h:PA X es t):PA X es (mA t):=fun pos pins s σ H Q I ⟨Q',q,m⟩=>dE (h pos pins s σ H Q' I q) fun _ _ ⟨v,H',I',r,z⟩=>⟨v,H',I',r,m v H' z⟩
end
def ae7:Key->BB
 | .inl i=>.int i
 | .inr x=>.str x
mutual
inductive Dv (H:Hp):V->BB->Prop where
 |a9:Dv H .a9 .none
 |bl (b:Bool):Dv H (.bl b) (.bool b)
 |int (i:Int):Dv H (.int i) (.int i)
 |str (x:Str):Dv H (.str x) (.str x)
 |tup {a:Addr} {xs:List V} {ds:List BB} (h:H a=some (.tup xs)) (r:eJ H xs ds):Dv H (.ref a) (.tuple ds)
 |lst {a:Addr} {xs:List V} {ds:List BB} (h:Rd H a (.lst xs)) (r:eJ H xs ds):Dv H (.ref a) (.list ds)
 |dct {a:Addr} {kvs:List (Key × V)} {ds:List (BB × BB)} (h:H a=some (.dK kvs)) (r:UA H kvs ds):Dv H (.ref a) (.dict ds)
inductive UA (H:Hp):List (Key × V)->List (BB × BB)->Prop where
 |nil:UA H [] []
 |cons {k:Key} {x:V} {d:BB} {xs:List (Key × V)} {ds:List (BB × BB)} (h:Dv H x d) (r:UA H xs ds):UA H ((k,x)::xs) ((ae7 k,d)::ds)
inductive eJ (H:Hp):List V->List BB->Prop where
 |nil:eJ H [] []
 |cons {x:V} {d:BB} {xs:List V} {ds:List BB} (h:Dv H x d) (r:eJ H xs ds):eJ H (x::xs) (d::ds)
end
mutual
theorem Dv.has {K:At} {H:Hp}:∀{v:V} {d:BB},Dv H v d->d.canLay0=true->yg K H v d
 |_,_,.a9,_=>.a9
 |_,_,.bl b,_=>.bl b
 |_,_,.int i,_=>.int i
 |_,_,.str x,_=>.str x
 |_,_,.tup h r,c=>.tup (.of h) (eJ.has r (by simpa [LP] using c))
 |_,_,.lst h r,c=>.lst (.inl h) (eJ.has r (by simpa [LP] using c))
 |_,_,.dct h r,c=>by simp [LP] at c
theorem eJ.has {K:At} {H:Hp}:∀{v:List V} {d:List BB},eJ H v d->AaI d=true->tN K H v d
 |_,_,.nil,_=>.nil
 |_,_,.cons h r,c=>by
  have c':=c
  simp only [AaI,RI] at c'
  exact .cons (Dv.has h c'.1) (eJ.has r c'.2)
end
theorem aA.rd {H H':Hp} {a:Addr} {u:HO} (e:aA H H') (h:Rd H a u):Rd H' a u:=by
 rcases h with h|⟨o,h⟩
 . exact .inl (e _ _ h)
 . exact .inr ⟨o,e _ _ h⟩
mutual
theorem Dv.keeps {H H':Hp} (e:aA H H'):∀{v:V} {d:BB},Dv H v d->Dv H' v d
 |_,_,.a9=>.a9
 |_,_,.bl b=>.bl b
 |_,_,.int i=>.int i
 |_,_,.str x=>.str x
 |_,_,.tup h r=>.tup (e _ _ h) (eJ.keeps e r)
 |_,_,.lst h r=>.lst (e.rd h) (eJ.keeps e r)
 |_,_,.dct h r=>.dct (e _ _ h) (UA.keeps e r)
theorem UA.keeps {H H':Hp} (e:aA H H'):∀{v:List (Key × V)} {d:List (BB × BB)},UA H v d->UA H' v d
 |_,_,.nil=>.nil
 |_,_,.cons h r=>.cons (Dv.keeps e h) (UA.keeps e r)
theorem eJ.keeps {H H':Hp} (e:aA H H'):∀{v:List V} {d:List BB},eJ H v d->eJ H' v d
 |_,_,.nil=>.nil
 |_,_,.cons h r=>.cons (Dv.keeps e h) (eJ.keeps e r)
end
theorem eJ.length {H:Hp}:∀{xs:List V} {ds:List BB},eJ H xs ds->xs.length=ds.length
 |_,_,.nil=>rfl
 |_,_,.cons _ r=>by simp [eJ.length r]
theorem eJ.get {H:Hp}:∀{xs:List V} {ds:List BB} {i:Nat} {d:BB},eJ H xs ds->ds[i]? =some d->∃x,xs[i]? =some x/\Dv H x d
 |_,_,_,_,.nil,e=>by simp at e
 |_,_,0,_,.cons h _,e=>by simp at e;subst e;exact⟨_,rfl,h⟩
 |_,_,i+1,x,.cons _ r,e=>by
  obtain⟨d,h1,h2⟩:=eJ.get (i:=i) (d:=x) r (by simpa using e)
  exact⟨d,by simpa using h1,h2⟩
theorem eJ.append {H:Hp}:∀{xs ys:List V} {ds es:List BB},eJ H xs ds->eJ H ys es->eJ H (xs++ys) (ds++es)
 |_,_,_,_,.nil,s=>s
 |_,_,_,_,.cons r t,s=>.cons r (eJ.append t s)
theorem Dv.int_inv {H:Hp} {v:V} {i:Int} (h:Dv H v (.int i)):v=.int i:=by cases h;rfl
theorem Dv.Sd {H:Hp} {v:V} (h:Dv H v .none):v=.a9:=by cases h;rfl
theorem Dv.str_inv {H:Hp} {v:V} {i:Str} (h:Dv H v (.str i)):v=.str i:=by cases h;rfl
def AB (H:Hp) (d:BB) (Q:VK):Prop:=match d with
 | .none=>Q .a9 H
 | .bool b=>Q (.bl b) H
 | .int i=>Q (.int i) H
 | .str x=>Q (.str x) H
 |d=>∀v,Dv H v d->Q v H
theorem AB.use {H:Hp} {d:BB} {Q:VK} (g:AB H d Q) {v:V} (h:Dv H v d):Q v H:=by
 cases h with
 |a9=>exact g
 |bl b=>exact g
 |int i=>exact g
 |str x=>exact g
 |tup h r=>exact g _ (.tup h r)
 |lst h r=>exact g _ (.lst h r)
 |dct h r=>exact g _ (.dct h r)
theorem Km {H:Hp} {xs:List V} {ds:List BB} {i:Int} {d:BB} (r:eJ H xs ds) (h:zg ds i=some d):∃x,zg xs i=some x/\Dv H x d:=by
 unfold zg at h ⊢
 rw [r.length]
 cases e:M0 ds.length i with
 |none=>rw [e] at h;simp at h
 |some j=>
  rw [e] at h
  have h':ds[j]? =some d:=by simpa using h
  obtain⟨x,h1,h2⟩:=r.get h'
  exact⟨x,by simpa using h1,h2⟩
def CU (H:Hp) (v:V) (ds:List BB):Prop:=Dv H v (.tuple ds)\/Dv H v (.list ds)
def aaJ:R2:=fun x y H Q=>∃ds i d,y=.int i/\CU H x ds/\zg ds i=some d/\AB H d Q
theorem Te {K:At} {x y:V} {H:Hp} {Q:VK} (h:aaJ x y H Q):rIx K x y H Q:=by
 obtain⟨ds,i,d,rfl,hs,hi,g⟩:=h
 rcases hs with hs|hs
 . cases hs with
   |tup h r=>
    obtain⟨v,h1,h2⟩:=Km r hi
    exact .inr (.inl ⟨_,_,i,v,rfl,rfl,.of h,h1,g.use h2⟩)
 . cases hs with
   |lst h r=>
    obtain⟨v,h1,h2⟩:=Km r hi
    exact .inl ⟨_,_,i,v,rfl,rfl,.inl h,h1,g.use h2⟩
section
variable {X:Cx}
def Yz:R2:=fun x y H Q=>aaJ x y H Q\/Yi x y H Q
theorem adX:NM X Yz:=fun value slice pins s σ H x y v u Q I r1 r2 h=>V8 value slice pins s σ H x y v u Q I r1 r2 (h.elim Te fun z=>.inr (.inr z))
def P6:List V->Hp->VK->Prop:=fun xs H Q=>(∃v ds,xs=[v]/\CU H v ds/\Q (.int (ds.length:Nat)) H)\/∃z,xs=[.str z]/\z.length<=Ev/\Q (.int (z.length:Nat)) H
theorem MQ:nk X (.builtin "len") P6:=fun pins s σ H xs us Q I r h=>by
 rcases h with⟨v,ds,rfl,hs,q⟩|h
 . rcases hs with hs|hs
   . cases hs with
     |tup h t=>exact qe pins s σ H _ us Q I r ⟨_,_,rfl,.inr (.of h),by rw [t.length];exact q⟩
   . cases hs with
     |lst h t=>exact qe pins s σ H _ us Q I r ⟨_,_,rfl,.inl (.inl h),by rw [t.length];exact q⟩
 . exact DY pins s σ H _ us Q I r h
def tyN:BB->String
 | .none=>"NoneType"| .bool _=>"bool"| .int _=>"int"| .str _=>"str"| .list _=>"list"| .tuple _=>"tuple"| .dict _=>"dict"
def NU (t n:String):Option Bool:=if ((AaC t)==(AaC n))=true then some true else if PySem.W.kitMeta n=true then (PySem.fastBuiltinMro t).map (·.contains (.type n)) else none
theorem NC {K:At} {t n:String} {b:Bool} (h:NU t n=some b):PySem.W.kitOne K (.type t) (.type n)=some b:=h
def X8 (t n:String):Bool:=t==n||(t=="bool"&&n=="int")
theorem L9:(["NoneType","bool","int","str","list","tuple","dict"].all fun t=>["int","bool","str","list","tuple","dict"].all fun n=>NU t n==some (X8 t n))=true:=by decide+kernel
theorem N7 {t n:String} (ht:t∈["NoneType","bool","int","str","list","tuple","dict"]) (hn:n∈["int","bool","str","list","tuple","dict"]):NU t n=some (X8 t n):=by
 have h:=List.all_eq_true.mp (List.all_eq_true.mp L9 t ht) n hn
 exact beq_iff_eq.mp h
theorem Td (d:BB):tyN d∈["NoneType","bool","int","str","list","tuple","dict"]:=by
 cases d <;>simp [tyN]
theorem Dv.ty {K:At} {H:Hp} {v:V} {d:BB} (h:Dv H v d):xO K H v (.type (tyN d)):=by
 cases h with
 |a9=>exact .a9
 |bl b=>exact .bl b
 |int i=>exact .int i
 |str x=>exact .str x
 |tup h r=>exact .tup h
 |lst h r=>
  rcases h with h|⟨o,h⟩
  . exact .lst h
  . exact .tT h
 |dct h r=>exact .dK h
theorem BD {K:At} {H:Hp} {v:V} {d:BB} {n:String} {Q:VK} (h:Dv H v d) (hn:n∈["int","bool","str","list","tuple","dict"]) (q:Q (.bl (X8 (tyN d) n)) H):IY K [v,.ty n] H Q:=
 ⟨v,.ty n,.type n,_,_,rfl,.ty n,h.ty,NC (N7 (Td d) hn),q⟩
def QX (K:At) (f:Bool->Bool):R2:=fun x y H Q=>(OX x y=true/\Q (.bl (f (decide (x=y)))) H)\/∃d e,Dv H x d/\Dv H y e/\d.canLay0=true/\e.canLay0=true/\d.depth<=8/\Q (.bl (f (UV d e))) H
theorem oM (hu:X.A.units+8<cLine):rD X (NH .Eq) (QX X.K id):=fun pins s σ H x y v u Q I rx ry h=>by
 rcases h with h|⟨d,e,h1,h2,h3,h4,h5,h6⟩
 . exact aaO pins s σ H x y v u Q I rx ry h
 . exact WK hu pins s σ H x y v u Q I rx ry ⟨d,e,h1.has h3,h2.has h4,h3,h4,h5,h6⟩
theorem Iv (hu:X.A.units+8<cLine):rD X (NH .NotEq) (QX X.K not):=fun pins s σ H x y v u Q I rx ry h=>by
 rcases h with h|⟨d,e,h1,h2,h3,h4,h5,h6⟩
 . exact Z8 pins s σ H x y v u Q I rx ry h
 . exact Xo hu pins s σ H x y v u Q I rx ry ⟨d,e,h1.has h3,h2.has h4,h3,h4,h5,h6⟩
variable {es:List Expr} {t:TA} {pos:Pos}
def X3 (xs:List V) (H1:Hp) (Q:VK):Prop:=xs.length<=Ev/\∃ds,eJ H1 xs ds/\∀p H2,aA H1 H2->H1 p=none->H2 p=some (.tup xs)->Dv H2 (.ref p) (.tuple ds)->Q (.ref p) H2
def WW (xs:List V) (H1:Hp) (Q:VK):Prop:=xs.length<=Ev/\∃ds,eJ H1 xs ds/\∀p H2,aA H1 H2->H1 p=none->H2 p=some (.lst xs)->eJ H2 xs ds->Dv H2 (.ref p) (.list ds)->Q (.ref p) H2
def U8 (t:TA):TE:=fun σ H Q=>t σ H fun xs H1=>X3 xs H1 Q
theorem dN {x1} (h:PA X es t):PE X (.Tuple es x1 pos) (U8 t):=PE.weak (Yl h.m) fun σ H Q q=>⟨_,q,fun xs H1 ⟨hl,ds,hd,k⟩=>⟨hl,fun p hp=>by
 have sm:aA H1 (upd H1 p (.tup xs)):=fun b u e=>by rw [ay (aC e hp)];exact e
 exact k p _ sm hp av (.tup av (hd.keeps sm))⟩⟩
def Vp (t:TA):TE:=fun σ H Q=>t σ H fun xs H1=>WW xs H1 Q
theorem dW (h:PA X es t):PE X (.List es pos) (Vp t):=PE.weak (Wx h.m) fun σ H Q q=>⟨_,q,fun xs H1 ⟨hl,ds,hd,k⟩=>⟨hl,fun p hp=>by
 have sm:aA H1 (upd H1 p (.lst xs)):=fun b u e=>by rw [ay (aC e hp)];exact e
 exact k p _ sm hp av (hd.keeps sm) (.lst (.of av) (hd.keeps sm))⟩⟩
variable {st:Stmt} {rest:List Stmt}
def Y0 (t u:TS):TS:=fun D σ H=>∃R:St->Hp->Prop,t {D with nx:=R} σ H/\∀σ' H',R σ' H'->u D σ' H'
theorem af {t u:TS} (h1:PS X st t) (h2:HV X rest u):HV X (st::rest) (Y0 t u):=by
 intro pins s σ H D I ⟨R,h,k⟩
 refine wpAny_execs_cons (dE (h1 pins s σ H {D with nx:=R} I h) fun f s1 q=>?_)
 cases f with
 |next=>
  obtain⟨σ',H',I',q⟩:=q
  exact h2 pins s1 σ' H' D I' (k _ _ q)
 |ret v=>exact q
 |brk=>exact q
 |cont=>exact q
end
section
variable {σ:St} {H:Hp} {Q:VK} {D:Ends} {K:At}
theorem Yg {t u:TS} (h:t {D with nx:=u D} σ H):Y0 t u D σ H:=⟨u D,h,fun _ _ z=>z⟩
theorem X2 {t:TA} (h:t σ H fun xs H1=>X3 xs H1 Q):U8 t σ H Q:=h
theorem Xh {xs:List V} {ds:List BB} (hl:xs.length<=Ev) (hd:eJ H xs ds) (k:∀v H2,aA H H2->Dv H2 v (.tuple ds)->Q v H2):X3 xs H Q:=⟨hl,ds,hd,fun p H2 s _ _ d=>k (.ref p) H2 s d⟩
theorem WC {t:TA} (h:t σ H fun xs H1=>WW xs H1 Q):Vp t σ H Q:=h
theorem acE {f:Bool->Bool} {x y:V} (e:OX x y=true) (h:Q (.bl (f (decide (x=y)))) H):QX K f x y H Q:=.inl ⟨e,h⟩
theorem UZ {f:Bool->Bool} {x y:V} {d e:BB} (h1:Dv H x d) (h2:Dv H y e) (h3:d.canLay0=true) (h4:e.canLay0=true) (h5:d.depth<=8) (h:Q (.bl (f (UV d e))) H):QX K f x y H Q:=.inr ⟨d,e,h1,h2,h3,h4,h5,h⟩
theorem acQ {x:V} {ds:List BB} {i:Int} {d:BB} (hs:CU H x ds) (hi:zg ds i=some d) (g:AB H d Q):Yz x (.int i) H Q:=.inl ⟨ds,i,d,rfl,hs,hi,g⟩
theorem Xa {v:V} {ds:List BB} (hs:CU H v ds) (h:Q (.int (ds.length:Nat)) H):P6 [v] H Q:=.inl ⟨v,ds,rfl,hs,h⟩
theorem RG {i:Int} (h:Q (.int i) H):AB H (.int i) Q:=h
theorem RP {i:Str} (h:Q (.str i) H):AB H (.str i) Q:=h
theorem S8 {ds:List BB} (h:∀v,Dv H v (.tuple ds)->Q v H):AB H (.tuple ds) Q:=h
theorem ab3 {b:Bool} {A B:Prop} (h1:b=true->A) (h2:b=false->B):if b=true then A else B:=by
 cases b
 . exact aei (h2 rfl)
 . exact afW (h1 rfl)
end
theorem cS.LX {k:Nat} {A:IF} (r:cS k A):A.units+8<cLine:=Abq (by omega) r.units
theorem aA.at {H H':Hp} {a:Addr} {o:HO} (s:aA H H') (h:H a=some o):H' a=some o:=s a o h
theorem dX {H:Hp} {t:Addr} {o:HO} (h:H t=none):aA H (upd H t o):=fun b u e=>by rw [ay (aC e h)];exact e
section
variable {σ:St} {H:Hp} {Q:VK} {D:Ends} {K:At}
theorem RJ {v:V} {R:St->Hp->Prop} {rt:VK} {bk ct:St->Hp->Prop} (h:rt v H):(Ends.mk R rt bk ct).rt v H:=h
end
def isInt:BB->Bool| .int _=>true| .bool _=>true|_=>false
def isBool:BB->Bool| .bool _=>true|_=>false
def isStr:BB->Bool| .str _=>true|_=>false
def UR:BB->Bool| .list _=>true|_=>false
def isTup:BB->Bool| .tuple _=>true|_=>false
def abj:BB->Bool| .dict _=>true|_=>false
section
variable {K:At} {H:Hp} {v:V} {d:BB} {Q:VK}
theorem L5 (h:Dv H v d) (q:Q (.bl (isInt d)) H):IY K [v,.ty "int"] H Q:=BD h (by decide) (by cases d <;>exact q)
theorem IL (h:Dv H v d) (q:Q (.bl (isBool d)) H):IY K [v,.ty "bool"] H Q:=BD h (by decide) (by cases d <;>exact q)
theorem MU (h:Dv H v d) (q:Q (.bl (isStr d)) H):IY K [v,.ty "str"] H Q:=BD h (by decide) (by cases d <;>exact q)
theorem Mt (h:Dv H v d) (q:Q (.bl (UR d)) H):IY K [v,.ty "list"] H Q:=BD h (by decide) (by cases d <;>exact q)
theorem L7 (h:Dv H v d) (q:Q (.bl (isTup d)) H):IY K [v,.ty "tuple"] H Q:=BD h (by decide) (by cases d <;>exact q)
def iL (H:Hp) (v:V) (C:Addr) (fs:List (Str × V)):Prop:=∃p dx,v=.ref p/\H p=some (.ins C dx fs)
theorem iL.keeps {H H':Hp} {C:Addr} {fs:List (Str × V)} (s:aA H H') (h:iL H v C fs):iL H' v C fs:=by
 obtain⟨p,dx,rfl,e⟩:=h;exact⟨p,dx,rfl,s _ _ e⟩
theorem YL {R:V->Prop} {C:Addr} {fs:List (Str × V)} {f:Str} {x:V} (hp:iL H v C fs) (c:tm K C) (n:aJ K C f) (l:fs.lookup f=some x) (h:R x):
 ∃a C dx fs x,v=.ref a/\H a=some (.ins C dx fs)/\tm K C/\aJ K C f/\fs.lookup f=some x/\R x:=by
 obtain⟨p,dx,rfl,e⟩:=hp
 exact⟨p,C,dx,fs,x,rfl,e,c,n,l,h⟩
theorem xA {C:Addr} {m:Str} {fs:List (Str × V)} {R:Prop} (hp:iL H v C fs) (hl:fs.lookup m=none) (h:R):∃a dx fs,v=.ref a/\H a=some (.ins C dx fs)/\fs.lookup m=none/\R:=by
 obtain⟨p,dx,rfl,e⟩:=hp
 exact⟨p,dx,fs,rfl,e,hl,h⟩
end
def look (f:Str):List (Str × V)->Option V
 |[]=>none
 |(g,v)::r=>if f=g then some v else look f r
theorem yT (f:Str):∀fs:List (Str × V),fs.lookup f=look f fs
 |[]=>rfl
 |(g,v)::r=>by
  show(match f==g with|true=>some v|false=>r.lookup f)=if f=g then some v else look f r
  by_cases h:f=g
  . subst h;rw [if_pos rfl,beq_self_eq_true]
  . rw [if_neg h,beq_eq_false_iff_ne.mpr h];exact yT f r
section
variable {X:Cx}
def Tb (K:At):R2:=fun x y H Q=>Yz x y H Q\/V7 K x y H Q
theorem sN:NM X (Tb X.K):=fun value slice pins s σ H x y v u Q I r1 r2 h=>h.elim (adX value slice pins s σ H x y v u Q I r1 r2) (J8 value slice pins s σ H x y v u Q I r1 r2)
def J5 (K:At):List V->Hp->VK->Prop:=fun xs H Q=>P6 xs H Q\/∃p ys,xs=[.ref p]/\iN K H p ys/\Q (.int ys.length) H
theorem lB:nk X (.builtin "len") (J5 X.K):=fun pins s σ H xs us Q I r h=>by
 rcases h with h|⟨p,ys,e,hl,q⟩
 . exact MQ pins s σ H xs us Q I r h
 . exact qe pins s σ H xs us Q I r ⟨p,ys,e,.inl hl,q⟩
end
section
variable {σ:St} {H:Hp} {Q:VK} {D:Ends} {K:At}
theorem P1 {x:V} {ds:List BB} {i:Int} {d:BB} (hs:CU H x ds) (hi:zg ds i=some d) (g:AB H d Q):Tb K x (.int i) H Q:=.inl (acQ hs hi g)
theorem JB {p:Addr} {xs:List V} {i:Int} {v:V} (hs:iN K H p xs) (hi:zg xs i=some v) (g:Q v H):Tb K (.ref p) (.int i) H Q:=.inr ⟨p,xs,i,v,rfl,rfl,hs,hi,g⟩
theorem NW {v:V} {ds:List BB} (hs:CU H v ds) (h:Q (.int (ds.length:Nat)) H):J5 K [v] H Q:=.inl (Xa hs h)
theorem EF {p:Addr} {xs:List V} (hs:iN K H p xs) (h:Q (.int xs.length) H):J5 K [.ref p] H Q:=.inr ⟨p,xs,rfl,hs,h⟩
theorem V0 {ta tv:TE} {f:Str} (h:tv σ H fun y H1=>ta σ H1 fun x H2=>∃a C dx fs,x=.ref a/\H2 a=some (.ins C dx fs)/\tm K C/\aJ K C f/\fs.length<1000/\D.nx σ (upd H2 a (.ins C dx (lq f y fs)))):aa4 K ta tv f D σ H:=h
theorem T8 {p C dx:Addr} {fs fs':List (Str × V)} {f:Str} {y:V} (hp:H p=some (.ins C dx fs)) (c:tm K C) (n:aJ K C f) (hl:fs.length<1000) (e:lq f y fs=fs') (h:D.nx σ (upd H p (.ins C dx fs'))):
 ∃a C dx fs,V.ref p=.ref a/\H a=some (.ins C dx fs)/\tm K C/\aJ K C f/\fs.length<1000/\D.nx σ (upd H a (.ins C dx (lq f y fs))):=⟨p,C,dx,fs,rfl,hp,c,n,hl,by rw [e];exact h⟩
def Fc (C:Addr) (pre:List V->Prop) (fs:List V->List (Str × V)):Sp:=fun vs H Q _=>∃p dx args,vs=.ref p::args/\pre args/\H p=some (.ins C dx [])/\Q .a9 (upd H p (.ins C dx (fs args)))
theorem UK {C:Addr} {pre:List V->Prop} {fs:List V->List (Str × V)} {args:List V} {E:XK} (hp:pre args) (k:∀v H2,aA H H2->iL H2 v C (fs args)->Q v H2):
 ∀x dx,H x=none->H dx=none->dx≠x->Fc C pre fs (.ref x::args) (upd (upd H dx (.own x)) x (.ins C dx [])) (fun v H2=>v=.a9/\Q (.ref x) H2) E:=by
 intro x dx hx hd ne
 refine⟨x,dx,args,rfl,hp,av,rfl,k _ _ (fun b u e=>?_) ⟨x,dx,rfl,av⟩⟩
 rw [ay (aC e hx),ay (aC e hx),ay (aC e hd)]
 exact e
theorem Xf {R:V->Prop} {C dx p:Addr} {fs:List (Str × V)} {f:Str} {v:V} (hp:H p=some (.ins C dx fs)) (c:tm K C) (n:aJ K C f) (l:fs.lookup f=some v) (h:R v):
 ∃a C dx fs v,V.ref p=.ref a/\H a=some (.ins C dx fs)/\tm K C/\aJ K C f/\fs.lookup f=some v/\R v:=⟨p,C,dx,fs,v,rfl,hp,c,n,l,h⟩
theorem ae6 {R:Prop} (h:R):V.a9=V.a9/\R:=⟨rfl,h⟩
end
theorem bg {i:Int} (h1:-(10^200)<i) (h2:i<10^200):i.natAbs<2^2000:=by
 have:(10:Nat)^200<2^2000:=by decide+kernel
 have h3:i.natAbs<10^200:=by
  have e:((10:Nat)^200:Nat)=((10:Int)^200).toNat:=by decide+kernel
  rw [e]
  generalize (10:Int)^200=m at h1 h2 ⊢
  omega
 exact Nat.lt_trans h3 this
theorem ZL {i j:Int} (h1:-(10^200)<i/\i<10^200) (h2:-(10^200)<j/\j<10^200):J1 i j:=⟨bg h1.1 h1.2,bg h2.1 h2.2⟩
theorem ZT {i j:Int} (h1:0<j) (h2:j<10^200):UX i j:=⟨h1,bg (Int.lt_trans (by decide) h1) h2⟩
def cell (ns:List Int) (k:Nat):Int:=ns.getD k 0
def HX (K:At):Sp:=fun vs H Q _=>∃l ns k,vs=[.ref l,.int k]/\iN K H l (ns.map V.int)/\0<=k/\Q (.int (cell ns k.toNat)) H
theorem XW {K:At} {H:Hp} {Q:VK} {E:XK} {l:Addr} {ns:List Int} {k:Int} (h:iN K H l (ns.map V.int)) (hk:0<=k) (q:Q (.int (cell ns k.toNat)) H):HX K [.ref l,.int k] H Q E:=⟨l,ns,k,rfl,h,hk,q⟩
theorem R4 {ns:List Int} {k:Int} (h0:0<=k) (h:k<(ns.map V.int).length):zg (ns.map V.int) k=some (.int (cell ns k.toNat)):=by
 obtain⟨n,rfl⟩:=Aar h0
 refine zV ?_
 have hn:n<ns.length:=by simpa using h
 simp [cell,hn,NJ]
theorem RC {ns:List Int} {k:Int} (h0:0<=k) (h:¬k<(ns.map V.int).length):cell ns k.toNat=0:=by
 have:ns.length<=k.toNat:=by simp at h;omega
 simp [cell,NJ,this]
def By (sp:Sp) (vs:List V) (H:Hp) (Q:VK) (E:XK):Prop:=∃ws,vs=ws/\sp ws H Q E
theorem G0 (sp:Sp) (vs:List V) (H:Hp) (Q:VK) (E:XK):By sp vs H Q E=sp vs H Q E:=propext ⟨fun⟨_,e,h⟩=>e▸h,fun h=>⟨vs,rfl,h⟩⟩
def AF (sp:Sp) (eQ:List V) (E:XK) (t:TA):TE:=fun σ H Q=>t σ H fun vs H1=>By sp (vs++eQ) H1 Q E
theorem CZ (sp:Sp) (eQ:List V) (E:XK) (t:TA):AF sp eQ E t=CI sp eQ E t:=by
 funext σ H Q;unfold AF CI;congr 1;funext vs H1;exact G0 _ _ _ _ _
def A4 (C:Addr) (m:Str) (sp:Sp) (eQ:List V) (E:XK) (ta:TE) (t:TA):TE:=fun σ H Q=>ta σ H fun x H1=>∃a dx fs,x=.ref a/\H1 a=some (.ins C dx fs)/\fs.lookup m=none/\
 t σ H1 fun vs H2=>By sp (x::(vs++eQ)) H2 Q E
theorem C4 (C:Addr) (m:Str) (sp:Sp) (eQ:List V) (E:XK) (ta:TE) (t:TA):A4 C m sp eQ E ta t=DA C m sp eQ E ta t:=by
 funext σ H Q;unfold A4 DA;congr 1;funext x H1
 have:∀H2:Hp,(fun vs H2=>By sp (x::(vs++eQ)) H2 Q E)=fun vs H2=>sp (x::(vs++eQ)) H2 Q E:=fun _=>by funext vs H2;exact G0 _ _ _ _ _
 rw [this H1]
def uL (C:Addr) (sp:Sp) (vs:List V) (H1:Hp) (Q:VK) (E:XK):Prop:=∃ws,vs=ws/\∀x dx,H1 x=none->H1 dx=none->dx≠x->
 sp (.ref x::ws) (upd (upd H1 dx (.own x)) x (.ins C dx [])) (fun v H2=>v=.a9/\Q (.ref x) H2) E
def Bd (C:Addr) (sp:Sp) (eQ:List V) (E:XK) (t:TA):TE:=fun σ H Q=>t σ H fun vs H1=>uL C sp (vs++eQ) H1 Q E
theorem CY (C:Addr) (sp:Sp) (eQ:List V) (E:XK) (t:TA):Bd C sp eQ E t=GL C sp eQ E t:=by
 funext σ H Q;unfold Bd GL uL;congr 1;funext vs H1
 exact propext ⟨fun⟨_,e,h⟩=>by subst e;exact h,fun h=>⟨_,rfl,h⟩⟩
section
variable {X:Cx} {k:Nat} {f C:Addr} {ps:List Str} {sp:Sp} {eQ:List V} {x m:Str} {p pos apos:Pos} {e o:Expr} {es:List Expr} {ta:TE} {t:TA}
theorem aX (c:cT X.prog X.w X.K X.mg X.base k f ps eQ sp) (hr:cS k X.A) (hg:Gl X x) (hm:X.mg x=some (.ref f)) (hk:ET X.K (.ref f)=true)
 (ha:PA X (e::es) t) (zE:(x==("__debug__":Str))=false:=by decide) (he:DO (e::es) X.env=(false,eval e X.env)::DO es X.env:=by rfl) (uN:(RS pos (DO es X.env)).any (·.1)=false:=by rfl):
 PE X (.Call (.Name x p) (e::es) [] pos) (AF sp eQ E0 t):=by rw [CZ];exact TL c hr hg hm hk ha zE he uN
theorem az {pl:Sem Bool} (he:PE X o ta) (c:tm X.K C) (hm:Meth X.K C m f) (F:cT X.prog X.w X.K X.mg X.base k f ps eQ sp) (hr:cS k X.A) (ha:PA X (e::es) t)
 (se:DO (e::es) X.env=(false,eval e X.env)::DO es X.env:=by rfl) (uN:(RS pos (DO es X.env)).any (·.1)=false:=by rfl)
 (ht:eval (.Call (.Attribute o m apos) (e::es) [] pos) X.env=(do
  let ov <-eval o X.env
  Aa9 apos.atName
  let (f,first) <-Aba [ov] (Aad ov m pl)
  Abo pos f first (RS pos (DO (e::es) X.env)) (Aaj pos (Rs [] X.env))):=by rfl):
 PE X (.Call (.Attribute o m apos) (e::es) [] pos) (A4 C m sp eQ E0 ta t):=by rw [C4];exact R5 he c hm F hr ha se uN ht
theorem fL {pl:Sem Bool} (he:PE X o ta) (c:tm X.K C) (hm:Meth X.K C m f) (F:cT X.prog X.w X.K X.mg X.base k f ps eQ sp) (hr:cS k X.A)
 (ht:eval (.Call (.Attribute o m apos) [] [] pos) X.env=(do
  let ov <-eval o X.env
  Aa9 apos.atName
  let (f,first) <-Aba [ov] (Aad ov m pl)
  Abo pos f first (RS pos (DO [] X.env)) (Aaj pos (Rs [] X.env))):=by rfl):
 PE X (.Call (.Attribute o m apos) [] [] pos) (A4 C m sp eQ E0 ta F6):=by rw [C4];exact Ni he c hm F hr ht
theorem qc (M:Mk X.K C f) (F:cT X.prog X.w X.K X.mg X.base k f ps eQ sp) (hr:cS (k+1) X.A) (hg:Gl X x) (hm:X.mg x=some (.ref C))
 (ha:PA X (e::es) t) (zE:(x==("__debug__":Str))=false:=by decide) (he:DO (e::es) X.env=(false,eval e X.env)::DO es X.env:=by rfl) (uN:(RS pos (DO es X.env)).any (·.1)=false:=by rfl):
 PE X (.Call (.Name x p) (e::es) [] pos) (Bd C sp eQ E0 t):=by rw [CY];exact SG M F hr hg hm ha zE he uN
theorem Eb {pl:Sem Bool} (hg:Gl X x) (hm:X.mg x=some (.ref C)) (B:DL X.K C m f) (F:cT X.prog X.w X.K X.mg X.base k f ps eQ sp) (hr:cS k X.A) (ha:PA X (e::es) t)
 (zE:(x==("__debug__":Str))=false:=by decide)
 (se:DO (e::es) X.env=(false,eval e X.env)::DO es X.env:=by rfl) (uN:(RS pos (DO es X.env)).any (·.1)=false:=by rfl)
 (ht:eval (.Call (.Attribute (.Name x p) m apos) (e::es) [] pos) X.env=(do
  let ov <-eval (.Name x p) X.env
  Aa9 apos.atName
  let (f,first) <-Aba [ov] (Aad ov m pl)
  Abo pos f first (RS pos (DO (e::es) X.env)) (Aaj pos (Rs [] X.env))):=by rfl):
 PE X (.Call (.Attribute (.Name x p) m apos) (e::es) [] pos) (AF sp eQ E0 t):=by rw [CZ];exact RF hg hm B F hr ha zE se uN ht
end
section
variable {σ:St} {H:Hp} {Q:VK} {D:Ends} {K:At}
theorem SM {sp:Sp} {eQ:List V} {E:XK} {t:TA} (h:t σ H fun vs H1=>By sp (vs++eQ) H1 Q E):AF sp eQ E t σ H Q:=h
theorem HQ {sp:Sp} {vs ws:List V} {E:XK} (e:vs=ws) (h:sp ws H Q E):By sp vs H Q E:=⟨ws,e,h⟩
theorem RN {C:Addr} {m:Str} {sp:Sp} {eQ:List V} {E:XK} {ta:TE} {t:TA} (h:ta σ H fun x H1=>∃a dx fs,x=.ref a/\H1 a=some (.ins C dx fs)/\fs.lookup m=none/\t σ H1 fun vs H2=>By sp (x::(vs++eQ)) H2 Q E):A4 C m sp eQ E ta t σ H Q:=h
theorem Uo {C:Addr} {sp:Sp} {eQ:List V} {E:XK} {t:TA} (h:t σ H fun vs H1=>uL C sp (vs++eQ) H1 Q E):Bd C sp eQ E t σ H Q:=h
theorem v7 {C:Addr} {pre:List V->Prop} {fs:List V->List (Str × V)} {us args:List V} {E:XK} (e:us=args) (hp:pre args) (k:∀v H2,aA H H2->iL H2 v C (fs args)->Q v H2):uL C (Fc C pre fs) us H Q E:=⟨args,e,UK hp k⟩
theorem W4 {b:Bool} {R:Bool->Prop} (h:R b):∃k,Gd K (.bl b) H k/\R k:=⟨b,rfl,h⟩
end
theorem UU {n:Nat} (h:Nat.ble n 64=true):n<=Ev:=Me (LF h) (by decide)
theorem Se {H:Hp} {d:BB} {Q:VK} (h:∀v,Dv H v d->Q v H):AB H d Q:=by
 cases d with
 |none=>exact h _ .a9
 |bool b=>exact h _ (.bl b)
 |int i=>exact h _ (.int i)
 |str x=>exact h _ (.str x)
 |list l=>exact h
 |tuple l=>exact h
 |dict l=>exact h
section
variable {X:Cx} {st:Stmt} {rest:List Stmt}
def Vd (t u:TS):TS:=Y0 t u
theorem du {t u:TS} (h1:PS X st t) (h2:HV X rest u):HV X (st::rest) (Vd t u):=af h1 h2
end
section
variable {σ:St} {H:Hp} {Q:VK} {D:Ends} {K:At}
theorem iq {t u:TS} (R:St->Hp->Prop) (h:t {D with nx:=R} σ H) (k:∀σ' H',R σ' H'->u D σ' H'):Vd t u D σ H:=⟨R,h,k⟩
def R1 (K:At) (x:V) (g:TG) (tb:TS) (D:Ends) (σ:St) (H1:Hp):Prop:=∃a,x=.ref a/\(∃xs,iN K H1 a xs)/\∃W:Nat->Nat->St->Hp->Prop,(∃m,W 0 m σ H1)/\∀i m σ H,W i m σ H->
 ((QD K a).stop i H/\D.nx σ H)\/((QD K a).go i H/\∃N:St->Hp->Prop,(∀σ' H',N σ' H'->∃m',m'<m/\W (i+1) m' σ' H')/\∀x H',(QD K a).Rm i H x H'->g x σ H' fun σ2 H2=>tb {D with nx:=N,ct:=N,bk:=D.nx} σ2 H2)
theorem acA {tl:TE} {g:TG} {tb:TS} (h:tl σ H fun x H1=>R1 K x g tb D σ H1):Pg (NN K tl) g tb D σ H:=h
theorem forL {a:Addr} {xs:List V} {g:TG} {tb:TS} (hl:iN K H a xs) (Pv:Nat->St->Hp->Prop) (h0:Pv 0 σ H) (hk:∀i σ H,i<=xs.length->Pv i σ H->iN K H a xs)
 (hs:∀i x σ H,xs[i]? =some x->Pv i σ H->g x σ H fun σ2 H2=>tb {D with nx:=Pv (i+1),ct:=Pv (i+1),bk:=D.nx} σ2 H2) (hd:∀σ H,Pv xs.length σ H->D.nx σ H):R1 K (.ref a) g tb D σ H:=
 ⟨a,rfl,⟨xs,hl⟩,QP Pv h0 hk hs hd⟩
def ad3 (lo:Int) (n:Nat) (g:TG) (tb:TS) (D:Ends) (σ:St) (H1:Hp):Prop:=∃W:Nat->Nat->St->Hp->Prop,(∃m,W 0 m σ H1)/\∀i m σ H,W i m σ H->
 ((SW lo n).stop i H/\D.nx σ H)\/((SW lo n).go i H/\∃N:St->Hp->Prop,(∀σ' H',N σ' H'->∃m',m'<m/\W (i+1) m' σ' H')/\∀x H',(SW lo n).Rm i H x H'->g x σ H' fun σ2 H2=>tb {D with nx:=N,ct:=N,bk:=D.nx} σ2 H2)
theorem Tr {ta:TA} {g:TG} {tb:TS} (h:ta σ H fun vs H1=>∃j:Int,vs=[.int j]/\-(2^62)<=j/\j<2^62/\ad3 0 j.toNat g tb D σ H1):Pg (VF ta) g tb D σ H:=h
end
section
variable {X:Cx}
def Vn:List V->Hp->VK->Prop:=fun xs H Q=>∃i j,xs=[.int i,.int j]/\∀k,(k=i\/k=j)->i<=k->j<=k->Q (.int k) H
theorem CQ (hc:X.calm=true):nk X (.builtin "max") Vn:=fun pins s σ H xs us Q I r ⟨i,j,e,h⟩=>LR hc pins s σ H xs us Q I r ⟨i,j,e,by
 split
 . exact h _ (.inr rfl) (by omega) (by omega)
 . exact h _ (.inl rfl) (by omega) (by omega)⟩
def Vv:R2:=fun x y H Q=>∃i j,x=.int i/\y=.int j/\0<j/\(0<=i % j->i % j<j->Q (.int (i % j)) H)
theorem cH:rD X (WF .Mod) Vv:=fun pins s σ H x y v u Q I rx ry ⟨i,j,e1,e2,hj,h⟩=>Wt pins s σ H x y v u Q I rx ry ⟨i,j,e1,e2,hj,h (Abg _ (by omega)) (WJ _ hj)⟩
end
section
variable {σ:St} {H:Hp} {Q:VK} {D:Ends} {K:At}
theorem Xc {i j:Int} (h:∀k,(k=i\/k=j)->i<=k->j<=k->Q (.int k) H):Vn [.int i,.int j] H Q:=⟨i,j,rfl,h⟩
theorem WX {i j:Int} (hj:0<j) (h:0<=i % j->i % j<j->Q (.int (i % j)) H):Vv (.int i) (.int j) H Q:=⟨i,j,rfl,rfl,hj,h⟩
end
section
variable {σ:St} {H:Hp} {Q:VK} {D:Ends} {K:At}
def U0 (Pv:Nat->St->Hp->Prop) (m:Nat) (tb:TS) (D:Ends) (σ:St) (H1:Hp):Prop:=∃N:St->Hp->Prop,(∀σ' H',N σ' H'->∃m',m'<m/\Pv m' σ' H')/\tb {D with nx:=N,ct:=N,bk:=D.nx} σ H1
theorem Yh {Pv:Nat->St->Hp->Prop} {m:Nat} {tb:TS} (h:tb {D with nx:=fun σ' H'=>∃m',m'<m/\Pv m' σ' H',ct:=fun σ' H'=>∃m',m'<m/\Pv m' σ' H',bk:=D.nx} σ H):U0 Pv m tb D σ H:=⟨_,fun _ _ h=>h,h⟩
theorem wV {c:TT} {tb:TS} (Pv:Nat->St->Hp->Prop) (h0:∃m,Pv m σ H) (hs:∀m σ H,Pv m σ H->c σ H fun b H1=>if b=true then U0 Pv m tb D σ H1 else D.nx σ H1):Qs c tb D σ H:=⟨Pv,h0,hs⟩
end
end L2
namespace L2
theorem TC {n:Nat} (h:Nat.blt n 1000=true):n<1000:=by
 unfold Nat.blt at h
 exact LF h
end L2
namespace L2
open PySem PySem.Spec PyProof.Rows
section
variable {X:Cx}
def adH (f:Bool->Bool):R2:=fun x y H Q=>∃b c,x=.bl b/\y=.bl c/\Q (.bl (f (b==c))) H
theorem Wg:rD X (NH .Is) (adH id):=by
 intro pins s σ H x y v u Q I rx ry h
 obtain⟨b,c,rfl,rfl,q⟩:=h
 cases rx;cases ry
 exact is_bool (bp I q rfl)
end
section
variable {σ:St} {H:Hp} {Q:VK} {D:Ends} {K:At}
end
theorem W6 {H:Hp} {Q:VK} {i j p:Int} (c:S3 i j) (e:i^j.toNat=p) (h:Q (.int p) H):rI S3 (fun i j=>.int (i^j.toNat)) (.int i) (.int j) H Q:=⟨i,j,rfl,rfl,c,by show Q (.int (i^j.toNat)) H;rw [e];exact h⟩
section
variable {X:Cx} {e:Expr}
def acx (t u:TE):TE:=fun σ H Q=>t σ H Q\/u σ H Q
theorem yK {t u:TE} (h1:PE X e t) (h2:PE X e u):PE X e (acx t u):=PE.or h1 h2
end
section
variable {σ:St} {H:Hp} {Q:VK} {D:Ends} {K:At}
def ab9 (K:At) (x:V) (i j:Nat) (D:Ends) (σ:St) (H:Hp):Prop:=Jp K 2 (u6 (ml i) (u6 (ml j) LJ)) x σ H D.nx
theorem Xl {te:TE} {i j:Nat} (h:te σ H fun x H1=>ab9 K x i j D σ H1):N8 te (Jp K 2 (u6 (ml i) (u6 (ml j) LJ))) D σ H:=h
end
end L2
namespace L2
end L2
namespace L2
open PySem PySem.Spec PyProof.Rows PySem.W
structure Swo (lt:Nat->Nat->Bool):Prop where
 irr:∀a,lt a a=false
 asy:∀a b,lt a b=true->lt b a=false
 Ri:∀a b c,lt a b=false->lt b c=false->lt a c=false
section
variable {lt:Nat->Nat->Bool} {n:Nat} {S:AM->Prop} {cmp:Nat->Nat->(Bool->AM->Prop)->AM->Prop}
def Up (lt:Nat->Nat->Bool) (p:Array Nat) (k:Nat):Prop:=∀i j,i<j->j<k->lt (p.getD j 0) (p.getD i 0)=false
def Down (lt:Nat->Nat->Bool) (p:Array Nat) (k:Nat):Prop:=∀i j,i<j->j<k->lt (p.getD i 0) (p.getD j 0)=false
def Alike (lt:Nat->Nat->Bool) (p:Array Nat) (a b:Nat):Prop:=∀i j,a<=i->i<b->a<=j->j<b->lt (p.getD i 0) (p.getD j 0)=false
structure Ix (n:Nat) (p:Array Nat):Prop where
 sz:p.size=n
 pm:p.toList.Perm (AbO n)
theorem Ix.low {p:Array Nat} (h:Ix n p) {i:Nat} (hi:i<n):p.getD i 0<n:=by
 have MF:i<p.size:=by rw [h.sz];exact hi
 have e:p.getD i 0=p[i]:=by simp [Array.getD,MF]
 rw [e]
 have:p[i]∈p.toList:=by simp
 exact List.mem_range.mp (h.pm.mem_iff.mp this)
theorem Ix.perm {p q:Array Nat} (h:Ix n p) (hq:q.Perm p):Ix n q:=⟨hq.size_eq.trans h.sz,(Array.perm_iff_toList_perm.mp hq).trans h.pm⟩
theorem j5 {p:Array Nat} {i j:Nat} (hj:j<=p.size) (k:Nat):(kas_rev p i j).getD k 0=if i<=k/\k<j then p.getD (i+j - 1 - k) 0 else p.getD k 0:=by
 unfold kas_rev
 rw [MW,getElem?_mirror_all hj k]
 by_cases h:i<=k/\k<j
 . rw [if_pos h,if_pos h,MW]
 . rw [if_neg h,if_neg h,MW]
theorem Be {p:Array Nat} (h:Ix n p) (i j:Nat):Ix n (kas_rev p i j):=h.perm (mirror_perm _ _ _ _)
theorem G2 {p:Array Nat} {k d:Nat} (hk:k<p.size) (hd:d<=k) (i:Nat):(bubble p k d).getD i 0=if i=k - d then p.getD k 0 else if k - d<i/\i<=k then p.getD (i - 1) 0 else p.getD i 0:=by
 rw [MW,getElem?_bubble hk d hd i]
 by_cases h:i=k - d
 . rw [if_pos h,if_pos h,MW]
 . rw [if_neg h,if_neg h]
   by_cases h2:k - d<i/\i<=k
   . rw [if_pos h2,if_pos h2,MW]
   . rw [if_neg h2,if_neg h2,MW]
def ZO (n:Nat) (lt:Nat->Nat->Bool) (S:AM->Prop) (cmp:Nat->Nat->(Bool->AM->Prop)->AM->Prop):Prop:=
 ∀i j C s,i<n->j<n->S s->(∀s',S s'->C (lt i j) s')->cmp i j C s
variable (w:Swo lt) (ha:ZO n lt S cmp)
include w ha
theorem IZ {p:Array Nat} (hp:Ix n p) {Q:Nat->AM->Prop}:∀(f k:Nat),1<=k->k+f<=n->Up lt p k->(∀m s,S s->k<=m->m<=k+f->Up lt p m->(m=k+f\/(m<k+f/\lt (p.getD m 0) (p.getD (m - 1) 0)=true))->Q m s)->∀s,S s->(kas_asc p f k).kasWp cmp Q s
 |0,k,_,_,hu,hq,s,hs=>hq k s hs (BY _) (BY _) hu (.inl rfl)
 |f+1,k,h1,hf,hu,hq,s,hs=>by
  refine ha _ _ _ _ (hp.low (by omega)) (hp.low (by omega)) hs fun s' FQ=>?_
  cases e:lt (p.getD k 0) (p.getD (k - 1) 0) with
  |true=>exact hq k s' FQ (BY _) (by omega) hu (.inr ⟨by omega,e⟩)
  |false=>
   refine IZ hp f (k+1) (by omega) (by omega) (fun i j x5 hj=>?_) (fun m s hs a b c d=>hq m s hs (by omega) (by omega) c (by rcases d with d|d;exact .inl (by omega);exact .inr ⟨by omega,d.2⟩)) s' FQ
   by_cases UL:j<k
   . exact hu i j x5 UL
   . have:j=k:=by omega
     subst this
     by_cases hi:i=j - 1
     . rw [hi];exact e
     . exact w.Ri _ _ _ e (hu i (j - 1) (by omega) (by omega))
theorem zY {Q:Array Nat × Nat × Nat->AM->Prop}:∀(f:Nat) (p:Array Nat) (k q:Nat),Ix n p->k+f<=n->q+1<=k->Down lt p k->Alike lt p (k - (q+1)) k->
 (∀p' k' q' s,S s->Ix n p'->k<=k'->k'<=k+f->q'+1<=k'->Down lt p' k'->Alike lt p' (k' - (q'+1)) k'->Q (p',k',q') s)->∀s,S s->(kas_desc f p k q).kasWp cmp Q s
 |0,p,k,q,hp,_,h1,hd,hl,hq,s,hs=>hq p k q s hs hp (BY _) (BY _) h1 hd hl
 |f+1,p,k,q,hp,hf,h1,hd,hl,hq,s,hs=>by
  refine ha _ _ _ _ (hp.low (by omega)) (hp.low (by omega)) hs fun s' FQ=>?_
  cases e:lt (p.getD k 0) (p.getD (k - 1) 0) with
  |true=>
   have IW:∀i,i<k->lt (p.getD i 0) (p.getD k 0)=false:=fun i hi=>by
    by_cases h:i=k - 1
    . rw [h];exact w.asy _ _ e
    . exact w.Ri _ _ _ (hd i (k - 1) (by omega) (by omega)) (w.asy _ _ e)
   by_cases h0:q>0
   . simp only [if_true,if_pos h0]
     have hk:k<=p.size:=by rw [hp.sz];omega
     refine zY f _ (k+1) 0 (Be hp _ _) (by omega) (by omega) (fun i j x5 hj=>?_) (fun i j a b c d=>?_) (fun p' k' q' s hs a b c d e f=>hq p' k' q' s hs a (by omega) (by omega) d e f) s' FQ
     . rw [j5 hk,j5 hk]
       by_cases UL:j=k
       . subst UL
         rw [if_neg (show ¬(j - (q+1)<=j/\j<j) by omega)]
         by_cases hi:j - (q+1)<=i/\i<j
         . rw [if_pos hi];exact IW _ (by omega)
         . rw [if_neg hi];exact IW _ x5
       . by_cases hi:k - (q+1)<=i/\i<k
         . rw [if_pos hi,if_pos (show k - (q+1)<=j/\j<k by omega)]
           exact hl _ _ (by omega) (by omega) (by omega) (by omega)
         . rw [if_neg hi]
           by_cases M7:k - (q+1)<=j/\j<k
           . rw [if_pos M7];exact hd _ _ (by omega) (by omega)
           . rw [if_neg M7];exact hd _ _ x5 (by omega)
     . have:i=k:=by omega
       have:j=k:=by omega
       subst_vars
       exact w.irr _
   . simp only [if_true,if_neg h0]
     refine zY f _ (k+1) 0 hp (by omega) (by omega) (fun i j x5 hj=>?_) (fun i j a b c d=>?_) (fun p' k' q' s hs a b c d e f=>hq p' k' q' s hs a (by omega) (by omega) d e f) s' FQ
     . by_cases UL:j=k
       . subst UL;exact IW _ x5
       . exact hd _ _ x5 (by omega)
     . have:i=k:=by omega
       have:j=k:=by omega
       subst_vars
       exact w.irr _
  |false=>
   simp only [IN,if_false]
   refine ha _ _ _ _ (hp.low (by omega)) (hp.low (by omega)) FQ fun s2 z9=>?_
   cases e2:lt (p.getD (k - 1) 0) (p.getD k 0) with
   |true=>simp only [if_true];exact hq p k q s2 z9 hp (BY _) (by omega) h1 hd hl
   |false=>
    simp only [IN,if_false]
    refine zY f _ (k+1) (q+1) hp (by omega) (by omega) (fun i j x5 hj=>?_) (fun i j a b c d=>?_) (fun p' k' q' s hs a b c d e f=>hq p' k' q' s hs a (by omega) (by omega) d e f) s2 z9
    . by_cases UL:j=k
      . subst UL
        by_cases h:i=j - 1
        . rw [h];exact e2
        . exact w.Ri _ _ _ (hd i (j - 1) (by omega) (by omega)) e2
      . exact hd _ _ x5 (by omega)
    . by_cases hi:i=k
      . by_cases hj:j=k
        . rw [hi,hj];exact w.irr _
        . rw [hi];exact w.Ri _ _ _ e (hl _ _ (by omega) (by omega) (by omega) (by omega))
      . by_cases hj:j=k
        . rw [hj];exact w.Ri _ _ _ (hl _ _ (by omega) (by omega) (by omega) (by omega)) e2
        . exact hl _ _ (by omega) (by omega) (by omega) (by omega)
theorem FT {Q:Nat × Array Nat->AM->Prop} {p:Array Nat} {k:Nat} (hp:Ix n p) (h1:1<=k) (hk:k<=n) (hd:Down lt p k) (hq:∀m p' s,S s->Ix n p'->1<=m->m<=n->Up lt p' m->Q (m,p') s) (s:AM) (hs:S s):(kas_tail3 k n p).kasWp cmp Q s:=by
 unfold kas_tail3
 rw [Aas]
 have Gh:k<=p.size:=by rw [hp.sz];exact hk
 refine IZ w ha (Be hp 0 k) (n - k) k h1 (by omega) (fun i j x5 hj=>?_) (fun m s hs a b c _=>hq m _ s hs (Be hp _ _) (by omega) (by omega) c) s hs
 rw [j5 Gh,j5 Gh,if_pos (by omega),if_pos (by omega)]
 exact hd _ _ (by omega) (by omega)
theorem y8 {Q:Nat × Array Nat->AM->Prop} {p:Array Nat} {k:Nat} (hp:Ix n p) (h1:1<=k) (hk:k+1<=n) (hd:Down lt p (k+1)) (hq:∀m p' s,S s->Ix n p'->1<=m->m<=n->Up lt p' m->Q (m,p') s) (s:AM) (hs:S s):(kas_descPart k n p).kasWp cmp Q s:=by
 unfold kas_descPart
 rw [Aas]
 refine zY w ha _ p (k+1) 0 hp (by omega) (by omega) hd (fun i j a b c d=>?_) (fun p' k' q' s hs Q8 a b c rE hl=>?_) s hs
 . have:i=k:=by omega
   have:j=k:=by omega
   subst_vars
   exact w.irr _
 . by_cases h0:q'>0
   . simp only [if_pos h0]
     have Gh:k'<=p'.size:=by rw [Q8.sz];omega
     refine FT w ha (Be Q8 _ _) (by omega) (by omega) (fun i j x5 hj=>?_) hq s hs
     rw [j5 Gh,j5 Gh]
     by_cases hi:k' - (q'+1)<=i/\i<k'
     . rw [if_pos hi,if_pos (by omega)];exact hl _ _ (by omega) (by omega) (by omega) (by omega)
     . rw [if_neg hi]
       by_cases M7:k' - (q'+1)<=j/\j<k'
       . rw [if_pos M7];exact rE _ _ (by omega) (by omega)
       . rw [if_neg M7];exact rE _ _ x5 (by omega)
   . simp only [if_neg h0]
     exact FT w ha Q8 (by omega) (by omega) rE hq s hs
theorem Nq {Q:Nat × Array Nat->AM->Prop} {p:Array Nat} (hn:1<=n) (hp:Ix n p) (hq:∀m p' s,S s->Ix n p'->1<=m->m<=n->Up lt p' m->Q (m,p') s) (s:AM) (hs:S s):(kas_count n p).kasWp cmp Q s:=by
 unfold kas_count
 rw [Aas]
 refine IZ w ha hp (n - 1) 1 (BY _) (by omega) (fun i j _ _=>by omega) (fun m s hs a b hu hc=>?_) s hs
 by_cases hm:(m==n)=true
 . simp only [if_pos hm];exact hq m p s hs hp a (by have:=beq_iff_eq.mp hm;omega) hu
 . simp only [if_neg hm]
   have Jx:m≠n:=fun z=>hm (beq_iff_eq.mpr z)
   have iF:m<n:=by omega
   have wF:lt (p.getD m 0) (p.getD (m - 1) 0)=true:=by
    rcases hc with hc|hc
    . omega
    . exact hc.2
   by_cases h1:m>1
   . simp only [if_pos h1]
     refine ha _ _ _ _ (hp.low (by omega)) (hp.low (by omega)) hs fun s2 z9=>?_
     cases e:lt (p.getD 0 0) (p.getD (m - 1) 0) with
     |true=>simp only [if_true];exact hq m p s2 z9 hp a (by omega) hu
     |false=>
      simp only [IN,if_false]
      have hk:m<=p.size:=by rw [hp.sz];omega
      have al:∀i j,i<m->j<m->lt (p.getD i 0) (p.getD j 0)=false:=fun i j hi hj=>by
       have h1:lt (p.getD i 0) (p.getD 0 0)=false:=by
        by_cases h:i=0
        . rw [h];exact w.irr _
        . exact hu 0 i (by omega) hi
       have h2:lt (p.getD i 0) (p.getD (m - 1) 0)=false:=w.Ri _ _ _ h1 e
       by_cases h:j=m - 1
       . rw [h];exact h2
       . exact w.Ri _ _ _ h2 (hu j (m - 1) (by omega) (by omega))
      refine y8 w ha (Be hp _ _) a (by omega) (fun i j x5 hj=>?_) hq s2 z9
      rw [j5 hk,j5 hk,if_pos (by omega)]
      by_cases hjm:j<m
      . rw [if_pos (by omega)];exact al _ _ (by omega) (by omega)
      . rw [if_neg (by omega)]
        have:j=m:=by omega
        subst this
        exact w.Ri _ _ _ (al _ (j - 1) (by omega) (by omega)) (w.asy _ _ wF)
   . simp only [if_neg h1]
     refine y8 w ha hp a (by omega) (fun i j x5 hj=>?_) hq s hs
     have h1:m=1:=by omega
     have hi:i=m - 1:=by omega
     have hj:j=m:=by omega
     rw [hi,hj]
     exact w.asy _ _ wF
theorem BU {p:Array Nat} {k:Nat} (hp:Ix n p) (hk:k<n) (hu:Up lt p k) {Q:Nat->AM->Prop}:∀(f l r:Nat),l<=r->r<=k->r - l<=f->(∀i,i<l->lt (p.getD k 0) (p.getD i 0)=false)->(∀i,r<=i->i<k->lt (p.getD k 0) (p.getD i 0)=true)->
 (∀l s,S s->l<=k->(∀i,i<l->lt (p.getD k 0) (p.getD i 0)=false)->(∀i,l<=i->i<k->lt (p.getD k 0) (p.getD i 0)=true)->Q l s)->∀s,S s->(kas_place p k f l r).kasWp cmp Q s
 |0,l,r,hlr,hr,hf,h1,h2,hq,s,hs=>hq l s hs (by omega) h1 (fun i a b=>h2 i (by omega) b)
 |f+1,l,r,hlr,hr,hf,h1,h2,hq,s,hs=>by
  unfold kas_place
  by_cases h:l≥r
  . rw [if_pos h];exact hq l s hs (by omega) h1 (fun i a b=>h2 i (by omega) b)
  . rw [if_neg h]
    refine ha _ _ _ _ (hp.low hk) (hp.low (by omega)) hs fun s' FQ=>?_
    cases e:lt (p.getD k 0) (p.getD ((l+r) / 2) 0) with
    |true=>
     simp only [if_true]
     refine BU hp hk hu f l ((l+r) / 2) (by omega) (by omega) (by omega) h1 (fun i a b=>?_) hq s' FQ
     by_cases hi:i=(l+r) / 2
     . rw [hi];exact e
     . cases e3:lt (p.getD k 0) (p.getD i 0) with
       |true=>rfl
       |false=>rw [w.Ri _ _ _ e3 (hu ((l+r) / 2) i (by omega) b)] at e;exact e
    |false=>
     simp only [IN,if_false]
     refine BU hp hk hu f ((l+r) / 2+1) r (by omega) (by omega) (by omega) (fun i a=>?_) h2 hq s' FQ
     by_cases hi:i=(l+r) / 2
     . rw [hi];exact e
     . exact w.Ri _ _ _ e (hu i ((l+r) / 2) (by omega) (by omega))
theorem OV {Q:Array Nat->AM->Prop}:∀(f:Nat) (p:Array Nat) (k:Nat),Ix n p->k+f=n->Up lt p k->(∀p' s,S s->Ix n p'->Up lt p' n->Q p' s)->∀s,S s->(kas_bin f p k).kasWp cmp Q s
 |0,p,k,hp,hf,hu,hq,s,hs=>by
  have:k=n:=by omega
  subst this
  exact hq p s hs hp hu
 |f+1,p,k,hp,hf,hu,hq,s,hs=>by
  unfold kas_bin
  rw [Aas]
  refine BU w ha hp (by omega) hu k 0 k (by omega) (BY _) (by omega) (fun i h=>by omega) (fun i a b=>by omega) (fun l s hs hl h1 h2=>?_) s hs
  have hk:k<p.size:=by rw [hp.sz];omega
  refine OV f _ (k+1) (hp.perm (bubble_perm _ _ _)) (by omega) (fun i j x5 hj=>?_) hq s hs
  rw [G2 hk (by omega),G2 hk (by omega)]
  have el:k - (k - l)=l:=by omega
  rw [el]
  by_cases hjl:j=l
  . rw [if_pos hjl,if_neg (by omega),if_neg (by omega)];exact h1 i (by omega)
  . rw [if_neg hjl]
    by_cases NZ:i=l
    . rw [if_pos NZ,if_pos (by omega)];exact w.asy _ _ (h2 _ (by omega) (by omega))
    . rw [if_neg NZ]
      by_cases Ho:l<i/\i<=k
      . rw [if_pos Ho,if_pos (by omega)];exact hu _ _ (by omega) (by omega)
      . rw [if_neg Ho]
        by_cases M7:l<j/\j<=k
        . rw [if_pos M7];exact hu _ _ (by omega) (by omega)
        . rw [if_neg M7];exact hu _ _ x5 (by omega)
theorem Jw {Q:Array Nat->AM->Prop} (hn:1<=n) (hq:∀p' s,S s->Ix n p'->Up lt p' n->Q p' s) (s:AM) (hs:S s):(kas_sort n).kasWp cmp Q s:=by
 unfold kas_sort
 rw [Aas]
 refine Nq w ha hn ⟨by simp,by simp⟩ (fun m p' s hs hp h1 hm hu=>?_) s hs
 by_cases h:m<n
 . simp only [if_pos h]
   have:max m 1=m:=by omega
   rw [this]
   exact OV w ha _ p' m hp (by omega) hu hq s hs
 . simp only [if_neg h]
   have:m=n:=by omega
   subst this
   exact hq p' s hs hp hu
end
section
variable {X:Cx} {pins:List (Addr × Obj)} {σ:St} {H H':Hp} {s:AM} {a:Addr}
theorem Inv.EA {f:Obj->Obj} (I:Inv X pins σ H s) (fa:jd X pins H a):Inv X pins σ H {s with heap:=s.heap.update a f}:=
 I.turned (t':=s.toks) (fun b o hb e=>by rw [Abh _ _ _ _ hb];exact e) fa.1 fa.2.1 fa.2.2.2.1 fa.2.2.2.2.1 fa.2.2.2.2.2
theorem Inv.zm {o:Obj} (I:Inv X pins σ H s):Inv X pins σ H {s with heap:=s.heap.push o}:=I.kept (t':=s.toks) fun b u e=>BS _ e
theorem jd.keep (fa:jd X pins H a) (h:H' a=none):jd X pins H' a:=⟨h,fa.2⟩
theorem Inv.Py {acc:List V} {bh:List Value} {n:Nat} (I:Inv X pins σ H s) (fa:jd X pins H a) (CO:X.jm.heap.objs.size<=a) (hl:acc.length<=Ev) (r:Vals acc bh) (hd:s.heap.get? a=some {cls:=.type "list",data:=.seq bh.toArray n}):
 Inv X pins σ (upd H a (.lst acc)) s:=by
 have ne:∀b u,H b=some u->b≠a:=fun b u e=>aC e fa.1
 have old:∀b o,X.jm.heap.get? b=some o->b≠a:=fun b o e=>ES (DD (Db e) CO)
 have U:=I.base
 refine⟨I.ok,I.os,I.bare,⟨U.keep,U.slot,fun b o e n hx=>?_,U.there,fun b xs e=>?_,fun b o u e=>?_,fun b ps e=>?_⟩,I.loc,I.cell,?_,fun x c e=>?_,fun p hp=>?_,fun b u e=>?_,I.len⟩
 . rw [ay (old b o e)];exact U.free b o e n hx
 . rw [ay (ne b _ (U.wX b xs e))];exact U.wX b xs e
 . rw [ay (ne b _ (U.uk b o u e))];exact U.uk b o u e
 . obtain⟨more,q⟩:=U.zC b ps e
   exact⟨more,by rw [ay (ne b _ q)];exact q⟩
 . rw [ay (LH fa.2.1)];exact I.free
 . rw [ay (fa.2.2.2.2.1 x c e)];exact I.ni x c e
 . obtain⟨e1,e2,e3⟩:=I.pin p hp
   exact⟨e1,by rw [ay (fa.2.2.2.2.2 p hp)];exact e2,e3⟩
 . by_cases hb:b=a
   . subst hb
     rw [av] at e
     cases e
     exact⟨hl,bh,n,r,hd⟩
   . rw [ay hb] at e
     exact(I.bE b u e).rB (fun c v _ q=>q) (fun c q=>by rw [ay (ne c _ q)];exact q) fun c xs q=>by rw [ay (ne c _ q)];exact q
end
def Fs (a b:Str):Bool:=decide (a.cps.toList<b.cps.toList)
def bw (a b:Int × Str):Bool:=decide (a.1<b.1)||(decide (a.1=b.1)&&Fs a.2 b.2)
theorem R6 (a:Str):Fs a a=false:=decide_eq_false (List.lt_irrefl _)
theorem Sn {a b:Str} (h:Fs a b=true):Fs b a=false:=decide_eq_false (List.lt_asymm (of_decide_eq_true h))
theorem Kp {a b c:Str} (h:Fs a b=false) (h2:Fs b c=false):Fs a c=false:=by
 unfold Fs at*
 have Rl:b.cps.toList<=a.cps.toList:=AbF.mp (of_decide_eq_false h)
 have WH:c.cps.toList<=b.cps.toList:=AbF.mp (of_decide_eq_false h2)
 exact decide_eq_false (AbF.mpr (List.le_trans WH Rl))
theorem Uy {a b:Str} (h:a.cps.toList=b.cps.toList):a=b:=by
 cases a;cases b
 simp only at h
 rw [Array.toList_inj.mp h]
theorem R8 {a b:Str} (h:Fs a b=false) (h2:Fs b a=false):a=b:=by
 unfold Fs at*
 have Rl:b.cps.toList<=a.cps.toList:=AbF.mp (of_decide_eq_false h)
 have WH:a.cps.toList<=b.cps.toList:=AbF.mp (of_decide_eq_false h2)
 exact Uy (List.le_antisymm WH Rl)
theorem Gw {a b:Int × Str}:bw a b=true↔a.1<b.1\/(a.1=b.1/\Fs a.2 b.2=true):=by
 unfold bw;simp
theorem iI {a b:Int × Str}:bw a b=false↔¬a.1<b.1/\(a.1=b.1->Fs a.2 b.2=false):=by
 unfold bw;simp
theorem iR (a:Int × Str):bw a a=false:=iI.mpr ⟨by omega,fun _=>R6 _⟩
theorem AX {a b:Int × Str} (h:bw a b=true):bw b a=false:=by
 rcases Gw.mp h with h|⟨h,h2⟩
 . exact iI.mpr ⟨by omega,fun _=>by omega⟩
 . exact iI.mpr ⟨by omega,fun _=>Sn h2⟩
theorem Bj {a b c:Int × Str} (h:bw a b=false) (h2:bw b c=false):bw a c=false:=by
 obtain⟨h1,h3⟩:=iI.mp h
 obtain⟨h4,h5⟩:=iI.mp h2
 refine iI.mpr ⟨by omega,fun e=>?_⟩
 exact Kp (h3 (by omega)) (h5 (by omega))
theorem Ow {a b:Int × Str} (h:bw a b=false) (h2:bw b a=false):a=b:=by
 obtain⟨h1,h3⟩:=iI.mp h
 obtain⟨h4,h5⟩:=iI.mp h2
 have e:a.1=b.1:=by omega
 exact Prod.ext e (R8 (h3 e) (h5 e.symm))
section
variable {prog:Fa} {w:World} {A:IF} {E:Value->AM->Prop} {s:AM}
theorem Uw {x y:Addr} {i j:Int} {t u t2 u2:Tok} {c d:Str} {Q:Bool->AM->Prop} (hx:IsTup s.heap x #[.int i t,.str c t2]) (hy:IsTup s.heap y #[.int j u,.str d u2]) (h:Q (bw (i,c) (j,d)) s):
 wpAny (model prog w) A (keyLt' (tuples' true) (.ref x) (.ref y)) Q E s:=by
 obtain⟨ox,hox,cx,nx,dx⟩:=hx
 obtain⟨oy,hoy,cy,ny,dy⟩:=hy
 refine kat_lt hox dx hoy dy ?_
 refine kat_cons (wpAny_eqBool_int ?_)
 by_cases e:i=j
 . rw [show(i==j)=true from beq_iff_eq.mpr e]
   refine kat_yes (kat_cons (wpAny_eqBool_str ?_))
   by_cases e2:c=d
   . rw [decide_eq_true e2]
     refine kat_yes (kat_nil ?_)
     have:bw (i,c) (j,d)=false:=by rw [e,e2];exact iR _
     rw [this] at h
     exact h
   . rw [decide_eq_false e2]
     refine kat_no (kat_one _ _ (lt_str ?_))
     have:bw (i,c) (j,d)=Fs c d:=by unfold bw;simp [e]
     rw [this] at h
     exact h
 . rw [show(i==j)=false from beq_eq_false_iff_ne.mpr e]
   refine kat_no (oneLt_int ?_)
   have:bw (i,c) (j,d)=decide (i<j):=by unfold bw;simp [e]
   rw [this] at h
   exact h
end
def HE (sp:Sp) (kf:V->Int × Str) (H:Hp) (xs:List V):Prop:=∀v∈xs,∀H',aA H H'->sp [v] H' (fun y H2=>aA H' H2/\Dv H2 y (.tuple [.int (kf v).1,.str (kf v).2])) E0
def E1 {α:Type} (lt:α->α->Bool) (kf:V->α) (ys xs:List V):Prop:=ys.Perm xs/\ys.Pairwise fun x y=>lt (kf y) (kf x)=false
section
variable {X:Cx} {pins:List (Addr × Obj)} {σ:St} {H:Hp} {s:AM} {k:Nat} {f:Addr} {fd:Cf} {ps:List Str} {sp:Sp} {kf:V->Int × Str} {A:IF}
theorem SY {H':Hp} {s':AM} {v:V} {u:Value} {pl:List (Addr × Obj)} (F:aS X.prog X.w X.K X.mg X.base eP k f fd ps sp) (hb:Binds X.K fd ps []) (hr:cS (k+2) X.A) (I:Inv X pl σ H' s') (r:RelV v u)
 (hs:sp [v] H' (fun y H2=>aA H' H2/\Dv H2 y (.tuple [.int (kf v).1,.str (kf v).2])) E0):
 wpAny (model X.prog X.w) X.A.in1.in1 (call (.ref f) [u]) (EP X pl σ fun y H2=>aA H' H2/\Dv H2 y (.tuple [.int (kf v).1,.str (kf v).2])) (fun _ _=>False) s':=by
 have r2:Vals [v] [u]:=.cons r .nil
 have hl:([u]++[]).length=ps.length:=by have:=F.len _ _ _ _ hs;simpa using this
 have Pj:=hb s' [u] I.vX hl
 refine wpAny_call (Abn (F.run X.A.in1.in1 X.stack s' H' ⟨[u],[]⟩ [u] [v] _ E0 (cS.in1 (cS.in1 hr)) (I.Wj.in1.in1) (by simpa using Pj) r2 hs) fun r s2 hq=>?_)
 cases r with
 |error e=>exact hq.elim
 |ok fl=>
  cases fl with
  |ret u=>exact I.after hq
  |next=>exact Po hq
  |brk=>exact Po hq
  |cont=>exact Po hq
structure XD (X:Cx) (pins:List (Addr × Obj)) (σ:St) (H:Hp) (kf:V->Int × Str) (a kS:Addr) (oa:Obj) (xs:List V) (s':AM):Prop where
 mk::
 ex:∃H' us e ys,Inv X pins σ H' s'/\aA H H'/\H' a=none/\H' kS=none/\s'.heap.get? a=some oa/\s'.heap.get? kS=some (M2 "list" (Go us) e)/\Vals ys us/\eJ H' ys (xs.map fun v=>.tuple [.int (kf v).1,.str (kf v).2])
theorem CG {kS:Addr} {oa:Obj} {body:Value->PUnit->Sem (ForInStep PUnit)} {E:Value->AM->Prop} (F:aS X.prog X.w X.K X.mg X.base eP k f fd ps sp) (hb:Binds X.K fd ps []) (hr:cS (k+2) X.A) (hoa:∀v,oa.data≠.cell v)
 (Dr:∀x (s':AM) (R:AM->Prop),wpAny (model X.prog X.w) X.A.in1.in1 (call (.ref f) [x]) (fun k s2=>∃us e,s2.heap.get? kS=some (M2 "list" (Go us) e)/\us.length<64/\R {s2 with heap:=s2.heap.update kS (Lu (·.push k))}) (fun _ _=>False) s'->
  wpAny (model X.prog X.w) X.A.in1.in1 (body x ⟨⟩) (fun r s2=>r=.yield ⟨⟩/\R s2) E s')
 (fa:jd X pins H a) (fk:jd X pins H kS) (Q9:a≠kS):∀(rx:List V) (r:List Value) (xs:List V) (s':AM),Vals rx r->HE sp kf H rx->xs.length+rx.length<64->XD X pins σ H kf a kS oa xs s'->
  wpAny (model X.prog X.w) X.A.in1.in1 (forIn r PUnit.unit body) (fun _ s2=>XD X pins σ H kf a kS oa (xs++rx) s2) E s'
 |[],_,xs,s',hv,_,_,hK=>by
  cases hv
  rw [List.forIn_nil,Mo]
  exact FM hK
 |v::rx,_,xs,s',.cons (b:=u) (l₂:=r) hu hv,hkr,hlen,⟨H',us,e,ys,I,sm,ha,hk,oaE,okE,rv,dv⟩=>by
  rw [List.forIn_cons]
  have fa':=fa.keep (H':=H') ha
  have fk':=fk.keep (H':=H') hk
  have I':Inv X (pins++[(a,oa),(kS,M2 "list" (Go us) e)]) σ H' s':=by
   refine I.t4 fun p hp=>?_
   rcases Cn.mp hp with hp|hp
   . exact I.pin p (Co _ hp)
   . rcases AE.mp hp with rfl|hp
     . exact⟨oaE,ha,fa.2.1,fa.2.2.1,hoa⟩
     . have:p=(kS,M2 "list" (Go us) e):=by simpa using hp
       subst this
       exact⟨okE,hk,fk.2.1,fk.2.2.1,fun v z=>by cases z⟩
  have UN:us.length=xs.length:=by rw [<-rv.length,dv.length,AL]
  refine BC (NO (Dr u s' (fun s2=>XD X pins σ H kf a kS oa (xs++[v]) s2) (NO (SY F hb hr I' hu (hkr v BN H' sm)) (fun kv s2 hq=>?_) fun _ _ z=>z)) (fun q s2 hq=>?_) fun _ _ z=>z)
  . obtain⟨y,H2,I2,ry,mP,dy⟩:=hq
    have p1:=I2.pin (a,oa) (Co _ (Co _ BN))
    have p2:=I2.pin (kS,M2 "list" (Go us) e) (Co _ (Co _ (AD _ BN)))
    have I3:Inv X pins σ H2 s2:=I2.wu
    refine⟨us,e,p2.1,by simp at hlen;omega,?_⟩
    obtain⟨c,hc⟩:∃c,(s2.heap.update kS (Lu (·.push kv))).get? kS=some (M2 "list" (Go (us++[kv])) c):=by
     have ea:(Go us).push kv=Go (us++[kv]):=by simp
     rw [<-ea]
     exact⟨_,YO p2.1 (·.push kv)⟩
    refine⟨H2,us++[kv],c,ys++[y],I3.EA (fk.keep p2.2.1),sm.trans mP,p1.2.1,p2.2.1,?_,hc,rv.append (.cons ry .nil),?_⟩
    . show(s2.heap.update kS _).get? a=some oa
      rw [Abh _ _ _ _ Q9];exact p1.1
    . rw [Da]
      exact(dv.keeps mP).append (.cons dy .nil)
  . obtain⟨rfl,hq⟩:=hq
    have:=CG F hb hr hoa Dr fa fk Q9 rx r (xs++[v]) s2 hv (fun z hz=>hkr z (AD _ hz)) (by simp at hlen ⊢;omega) hq
    rw [Ps] at this
    exact this
theorem FV {xs:List V} {p:Array Nat} {α:Type} {lt:α->α->Bool} {kf:V->α} (hp:Ix xs.length p) (hu:Up (fun i j=>lt (kf (xs.getD i .a9)) (kf (xs.getD j .a9))) p xs.length):E1 lt kf (p.toList.map fun i=>xs.getD i .a9) xs:=by
 refine⟨?_,?_⟩
 . have h:=hp.pm.map fun i=>xs.getD i .a9
   have e:(AbO xs.length).map (fun i=>xs.getD i .a9)=xs:=by
    refine AaJ fun i=>?_
    rw [EU]
    by_cases hi:i<xs.length
    . rw [List.getElem?_range hi];simp [hi]
    . rw [Os (by simpa using hi),Os (by simpa using hi)];rfl
   rw [e] at h
   exact h
 . rw [Sk,On]
   intro i j hi hj x5
   have hsz:p.toList.length=xs.length:=by simp [hp.sz]
   have:=hu i j x5 (by omega)
   have gi:p.getD i 0=p.toList[i]:=by simp [Array.getD,show i<p.size by rw [hp.sz];omega]
   have gj:p.getD j 0=p.toList[j]:=by simp [Array.getD,show j<p.size by rw [hp.sz];omega]
   rw [gi,gj] at this
   exact this
theorem yw:∀{xs:List V} {us:List Value} (i:Nat),Vals xs us->RelV (xs.getD i .a9) (us.getD i OP)
 |_,_,_,.nil=>rfl
 |_,_,0,.cons r _=>r
 |_,_,i+1,.cons _ t=>by simpa using yw i t
theorem xZ {xs:List V} {us:List Value} (r:Vals xs us):∀l:List Nat,Vals (l.map fun i=>xs.getD i .a9) (l.map fun i=>us.getD i OP)
 |[]=>.nil
 |i::l=>.cons (yw i r) (xZ r l)
theorem FW {H:Hp} {g:V->BB}:∀{ys:List V} {xs:List V} {i:Nat},eJ H ys (xs.map g)->i<xs.length->Dv H (ys.getD i .a9) (g (xs.getD i .a9))
 |_,[],_,_,h=>by simp at h
 |_,_::_,0,.cons h _,_=>h
 |_,_::_,i+1,.cons _ t,hi=>by simpa using FW (i:=i) t (by simpa using hi)
def EK (X:Cx) (pins:List (Addr × Obj)) (σ:St) (H:Hp) {α:Type} (lt:α->α->Bool) (kf:V->α) (xs:List V) (Q:VK):Prop:=
 ∀a ys H',aA H H'->H a=none->H' a=none->E1 lt kf ys xs->Q (.ref a) (upd H' a (.lst ys))
theorem DK {H':Hp} {s':AM} {xs ys:List V} {us:List Value} {A:IF} (I:Inv X pins σ H' s') (rv:Vals ys us) (dv:eJ H' ys (xs.map fun v=>.tuple [.int (kf v).1,.str (kf v).2])):
 ZO xs.length (fun i j=>bw (kf (xs.getD i .a9)) (kf (xs.getD j .a9))) (fun z=>z=s') (kas_ask X.prog X.w A (tuples' true) us):=by
 intro i j C z hi hj hz hC
 subst hz
 have one:∀i,i<xs.length->∃x t t2,us.getD i OP=.ref x/\IsTup z.heap x #[.int (kf (xs.getD i .a9)).1 t,.str (kf (xs.getD i .a9)).2 t2]:=fun i hi=>by
  have d:=FW dv hi
  have r:=yw i rv
  generalize ys.getD i .a9=y at d r
  generalize us.getD i OP=u at r
  cases d with
  |tup h q=>
   have r':u=.ref _:=r
   obtain⟨bh,rr,tt,_⟩:=I.tuple (.of h)
   cases q with
   |cons h1 q=>
    cases q with
    |cons h2 q=>
     cases q
     cases h1;cases h2
     cases rr with
     |cons r1 rr=>
      cases rr with
      |cons r2 rr=>
       cases rr
       obtain⟨t1,rfl⟩:=r1
       obtain⟨t2,rfl⟩:=r2
       exact⟨_,t1,t2,r',tt⟩
 obtain⟨x,t,t2,e1,hx⟩:=one i hi
 obtain⟨y,u,u2,e2,hy⟩:=one j hj
 show wpAny (model X.prog X.w) A (keyLt' (tuples' true) (us.getD i OP) (us.getD j OP)) C (fun _ _=>False) z
 rw [e1,e2]
 exact Uw hx hy (hC _ rfl)
theorem vt {H':Hp} {s':AM}:∀{xs ys:List V} {us:List Value},Inv X pins σ H' s'->Vals ys us->eJ H' ys (xs.map fun v=>.tuple [.int (kf v).1,.str (kf v).2])->
 ∃fs,KatTups s'.heap us fs/\fs.length=us.length/\∀v∈fs,Looks (model X.prog X.w) s'.heap (typeOf v) (.type "int")
 |[],_,_,I,rv,dv=>by
  cases dv
  cases rv
  exact⟨[],trivial,rfl,fun _ z=>nomatch z⟩
 |x::xs,_,_,I,rv,dv=>by
  cases dv with
  |cons d dv=>
   cases rv with
   |cons r rv=>
    obtain⟨fs,h1,h2,h3⟩:=vt I rv dv
    cases d with
    |tup h q=>
     obtain⟨bh,rr,tt,_⟩:=I.tuple (.of h)
     cases q with
     |cons q1 q=>
      cases q with
      |cons q2 q=>
       cases q
       cases q1;cases q2
       cases rr with
       |cons r1 rr=>
        cases rr with
        |cons r2 rr=>
         cases rr
         obtain⟨t1,rfl⟩:=r1
         obtain⟨t2,rfl⟩:=r2
         cases r
         obtain⟨o,ho,hc,n,hd⟩:=tt
         refine⟨_::fs,KatTups.cons ho hc hd rfl h1,by simp [h2],fun v hv=>?_⟩
         rcases AE.mp hv with rfl|hv
         . exact .now
         . exact h3 v hv
end
section
variable {X:Cx} {pins:List (Addr × Obj)} {σ:St} {H:Hp} {s:AM} {k:Nat} {f:Addr} {fd:Cf} {ps:List Str} {sp:Sp} {kf:V->Int × Str} {A:IF}
theorem DJ {H':Hp} {s':AM} {a kS:Addr} {e e1:Nat} {us out:List Value} {ys:List V} {st:SortSt} {E:Value->AM->Prop} {P:PySem.Fin->AM->Prop} (I:Inv X pins σ H' s') (fa:jd X pins H' a) (fk:jd X pins H' kS) (Q9:a≠kS) (CO:X.jm.heap.objs.size<=a)
 (oa:s'.heap.get? a=some (M2 "list" #[] e1)) (ok:s'.heap.get? kS=some (M2 "list" (Go us) e)) (hz:us.length<64) (Yt:(arrOf st).map (·.2)=Go out) (ho:out.length<64) (hf:failedOf st=none) (rv:Vals ys out)
 (h:∀s2,Inv X pins σ (upd H' a (.lst ys)) s2->P (.done (.ret .none)) s2):wpAny (model X.prog X.w) A (ksk_tail a false e1 (.ref kS) st) P E s':=by
 have U6:(64:Nat)<=Ev:=by decide
 unfold ksk_tail
 dsimp only
 rw [Yt]
 refine BC (ZB ok rfl ?_ (by rw [Cc];omega) (IR _))
 refine BC (wpAny_letGo ?_)
 have oa1:(s'.heap.update kS (Lu fun _=>(#[]:Array Value))).get? a=some (M2 "list" #[] e1):=by rw [Abh _ _ _ _ Q9];exact oa
 have I1:Inv X pins σ H' {s' with heap:=s'.heap.update kS (Lu fun _=>(#[]:Array Value))}:=I.EA fk
 refine BC (AbG oa1 rfl ?_)
 refine BC (ZB oa1 rfl ?_ (IR _) (by show(Go out).size<=_;rw [Cc];omega))
 rw [hf]
 simp only [bne_self_eq_false,IN,if_false]
 refine FM (h _ ?_)
 have I2:=I1.EA (f:=Lu fun _=>Go out) fa
 exact I2.Py fa CO (by rw [rv.length];omega) rv (YO oa1 fun _=>Go out)
theorem NK {H':Hp} {s':AM} {a kS:Addr} {e e1:Nat} {us vs:List Value} {xs ys:List V} {Q:VK} {E:Value->AM->Prop} {P:PySem.Fin->AM->Prop} (sm:aA H H') (hHa:H a=none) (I:Inv X pins σ H' s') (fa:jd X pins H' a) (fk:jd X pins H' kS) (Q9:a≠kS) (CO:X.jm.heap.objs.size<=a)
 (oa:s'.heap.get? a=some (M2 "list" #[] e1)) (ok:s'.heap.get? kS=some (M2 "list" (Go us) e)) (h64:xs.length<64) (rx:Vals xs vs) (ry:Vals ys us) (dv:eJ H' ys (xs.map fun v=>.tuple [.int (kf v).1,.str (kf v).2]))
 (fin:EK X pins σ H bw kf xs Q) (h:∀s2,EP X pins σ Q (.ref a) s2->P (.done (.ret .none)) s2):wpAny (model X.prog X.w) A (ksk_end a false vs.toArray e1 (.ref kS) (Go us)) P E s':=by
 have lx:=rx.length
 have ly:=ry.length
 have ld:=dv.length
 rw [AL] at ld
 unfold ksk_end
 simp only [IN,if_false]
 by_cases h2:vs.toArray.size<2
 . rw [if_pos h2,if_pos h2]
   refine BC (FM ?_)
   rw [StateT.run_pure]
   refine BC (FM ?_)
   refine DJ (out:=vs) (ys:=xs) I fa fk Q9 CO oa ok (by omega) ?_ (by omega) rfl rx (fun s2 I2=>h s2 ⟨.ref a,_,I2,rfl,fin a xs H' sm hHa fa.1 ⟨Abt _,?_⟩⟩)
   . show((Go us).zip vs.toArray).map (·.2)=Go vs
     apply Array.toList_inj.mp
     have:us.length=vs.length:=by omega
     simp [List.map_snd_zip,this]
   . rw [Cc] at h2
     match xs,lx with
     |[],_=>exact .nil
     |[_],_=>exact List.pairwise_singleton _ _
     |_::_::_,lx=>simp at lx;omega
 . rw [if_neg h2,if_neg h2]
   rw [Cc] at h2
   obtain⟨fs,k1,k2,k3⟩:=vt I ry dv
   refine BC (kat_kind k1 (by omega) k3 (by decide) ?_)
   have Hq:us.length=vs.length:=by omega
   refine BC (NO (kat_run (Q:=fun uJ s2=>s2=s'/\∃p:Array Nat,Ix xs.length p/\arrOf uJ=p.map (kas_item ((Go us).zip (Go vs)))/\failedOf uJ=none/\Up (fun i j=>bw (kf (xs.getD i .a9)) (kf (xs.getD j .a9))) p xs.length)
    (G:=fun p s2=>s2=s'/\Ix xs.length p/\Up (fun i j=>bw (kf (xs.getD i .a9)) (kf (xs.getD j .a9))) p xs.length) Hq (by omega) (by omega) (fun p uJ s2 a1 a2 a3 ⟨a4,a5,a6⟩=>⟨a4,p,a5,a2,a3,a6⟩) ?_) ?_ fun _ _ z=>z)
   . rw [show vs.length=xs.length by omega]
     refine Jw (lt:=fun i j=>bw (kf (xs.getD i .a9)) (kf (xs.getD j .a9))) (S:=fun z=>z=s') ⟨fun _=>iR _,fun _ _=>AX,fun _ _ _=>Bj⟩ (DK I ry dv) (by omega) (fun p s2 hs hp hu=>⟨hs,hp,hu⟩) s' rfl
   . rintro⟨⟨⟩,uJ⟩ s2 ⟨rfl,p,hp,har,hf,hu⟩
     dsimp only
     refine DJ (out:=p.toList.map fun i=>vs.getD i OP) (ys:=p.toList.map fun i=>xs.getD i .a9) I fa fk Q9 CO oa ok (by omega) (kat_snds Hq har) (by simp [hp.sz];omega) hf (xZ rx _) (fun s3 I3=>h s3 ⟨.ref a,_,I3,rfl,fin a _ H' sm hHa fa.1 (FV hp hu)⟩)
theorem IH {l:Addr} {xs:List V} {Q:VK} {E:Value->AM->Prop} (I:Inv X pins σ H s) (hl:iN X.K H l xs) (h64:xs.length<64) (F:aS X.prog X.w X.K X.mg X.base eP k f fd ps sp) (hb:Binds X.K fd ps []) (hr:cS (k+2) X.A)
 (hk:HE sp kf H xs) (fin:EK X pins σ H bw kf xs Q):wpAny (model X.prog X.w) X.A (call (.builtin "sorted") [.ref l] [(OR "key",.ref f)]) (EP X pins σ Q) E s:=by
 have U6:(64:Nat)<=Ev:=by decide
 obtain⟨vs,rv,p,hz⟩:=I.list hl
 have lx:=rv.length
 refine call_function_entry_kw kind_sorted plain_sorted entry_sorted (ksk_s1 _ _) ?_
 unfold W1.«sorted»
 refine BC (m:=checkCount "sorted" 1 1 _) (FM ?_)
 refine BC (collect_list p.isList ?_ (by omega))
 refine BC (Aa3 ?_ (by omega))
 have fp0:jd X pins H s.heap.objs.size:=I.zI (BY _) (I.bE.fresh (BY _))
 have I2:Inv X pins σ H {s with heap:=(s.heap.push (M2 "list" #[] 0)).update s.heap.objs.size (Lu (·++vs.toArray))}:=(I.zm (o:=M2 "list" #[] 0)).EA fp0
 have hsz:((s.heap.push (M2 "list" #[] 0)).update s.heap.objs.size (Lu (·++vs.toArray))).objs.size=s.heap.objs.size+1:=by rw [Heap.size_update,size_push']
 generalize hG:(s.heap.push (M2 "list" #[] 0)).update s.heap.objs.size (Lu (·++vs.toArray))=h2 at I2 hsz ⊢
 have Ii:(h2.push (M2 "list" vs.toArray 0)).get? h2.objs.size=some (M2 "list" vs.toArray 0):=EM _ rfl
 have I3:Inv X pins σ H {s with heap:=h2.push (M2 "list" vs.toArray 0)}:=I2.zm
 have fa:jd X pins H h2.objs.size:=I2.zI (BY _) (I2.bE.fresh (BY _))
 have CO:X.jm.heap.objs.size<=h2.objs.size:=I2.sz
 show wpAny _ _ _ _ _ {s with heap:=h2.push (M2 "list" vs.toArray 0)}
 generalize h2.objs.size=a at*
 refine BC (Aat (wpAny_call_entry_kw slot_list_sort ⟨_,Ii,rfl⟩ entry_list_sort ?body (ksk_l1 _ _)))
 case body=>
  show wpAny (model X.prog X.w) X.A.in1.in1 (W1.«list.sort» ⟨[.ref a],[(OR "key",.ref f)]⟩) _ _ _
  rw [ksk_t1]
  generalize h2.push (M2 "list" vs.toArray 0)=h3 at*
  unfold ksk_tree
  refine BC (listItems_at Ii rfl ?_)
  refine BC (ZB Ii rfl ?_ (by rw [Cc];omega) (IR _))
  have I4:Inv X pins σ H {s with heap:=h3.update a (Lu fun _=>(#[]:Array Value))}:=I3.EA fa
  obtain⟨e1,oa⟩:∃e1,(h3.update a (Lu fun _=>(#[]:Array Value))).get? a=some (M2 "list" #[] e1):=⟨_,YO Ii fun _=>#[]⟩
  generalize h3.update a (Lu fun _=>(#[]:Array Value))=h4 at*
  refine BC (AbG oa rfl ?_)
  refine BC (wpAny_newTuple ?_ (by show vs.length<=_;omega))
  have I5:Inv X pins σ H {s with heap:=h4.push (M2 "tuple" vs.toArray 0)}:=I4.zm
  have oa5:(h4.push (M2 "tuple" vs.toArray 0)).get? a=some (M2 "list" #[] e1):=BS _ oa
  show wpAny _ _ _ _ _ {s with heap:=h4.push (M2 "tuple" vs.toArray 0)}
  generalize h4.push (M2 "tuple" vs.toArray 0)=h5 at*
  refine BC (Aa3 ?_ (IR _))
  have I6:Inv X pins σ H {s with heap:=h5.push (M2 "list" #[] 0)}:=I5.zm
  have fk:jd X pins H h5.objs.size:=I5.zI (BY _) (I5.bE.fresh (BY _))
  have VE:(h5.push (M2 "list" #[] 0)).get? a=some (M2 "list" #[] e1):=BS _ oa5
  have ok6:(h5.push (M2 "list" #[] 0)).get? h5.objs.size=some (M2 "list" #[] 0):=EM _ rfl
  have Q9:a≠h5.objs.size:=ES (Db oa5)
  show wpAny _ _ _ _ _ {s with heap:=h5.push (M2 "list" #[] 0)}
  show wpAny _ _ (Aba [_,.ref h5.objs.size] (ksk_rest a (.ref f) false vs.toArray e1 (.ref h5.objs.size))) _ _ _
  generalize h5.objs.size=kS at*
  generalize h5.push (M2 "list" #[] 0)=h6 at*
  refine Aat ?_
  unfold ksk_rest
  refine BC (wpAny_rule ?_)
  first
   |rw [List.forIn_toArray]
   |(rw [<-Array.forIn_toList];simp only [List.toList_toArray])
  refine BC (NO (CG (kf:=kf) F hb hr (oa:=M2 "list" #[] e1) (fun v z=>by cases z) (fun x s' R hx=>?_) fa fk Q9 xs vs [] {s with heap:=h6} rv hk (by simpa using h64) ⟨H,[],0,[],I6,aA.refl _,fa.1,fk.1,VE,ok6,.nil,.nil⟩) (fun _ s7 hK=>?_) fun _ _ z=>z)
  . refine BC (wpAny_attempt (NO hx (fun kv s2 hq=>?_) fun _ _ z=>z.elim))
    obtain⟨us,e,ok,iF,hR⟩:=hq
    dsimp only
    refine BC (ZB ok rfl ?_ (by rw [Cc];omega) (by rw [Array.size_push,Cc];omega))
    exact FM ⟨rfl,hR⟩
  . obtain⟨H',us,e,ys,I7,sm,ha7,hk7,oa7,ok7,ry,dv⟩:=hK
    try dsimp only
    refine BC (listItems_at ok7 rfl ?_)
    refine NK sm fa.1 I7 (fa.keep ha7) (fk.keep hk7) Q9 CO oa7 ok7 h64 rv ry (by simpa using dv) fin (fun s8 h8=>⟨_,rfl,FM ⟨_,rfl,h8⟩⟩)
end
def Ol (sp:Sp) (K:At) (vs:List V) (H:Hp) (Q:VK):Prop:=∃a xs kf,vs=[.ref a]/\iN K H a xs/\xs.length<64/\HE sp kf H xs/\∀l ys H',aA H H'->H l=none->H' l=none->E1 bw kf ys xs->Q (.ref l) (upd H' l (.lst ys))
def Nn (K:At) (sp:Sp) (t:TA):TE:=fun σ H Q=>t σ H fun vs H1=>Ol sp K vs H1 Q
section
variable {X:Cx} {k:Nat} {f:Addr} {ps:List Str} {sp:Sp} {e:Expr} {t:TA} {x:Str} {p p2 pos RM:Pos}
theorem QG (c:cT X.prog X.w X.K X.mg X.base k f ps [] sp) (hr:cS (k+2) X.A) (hg:Gl X "sorted") (hm:X.mg "sorted"=none) (hf:PE X (.Name x p2) (tC (.ref f))) (ha:PA X [e] t)
 (se:RS pos (DO [e] X.env)=(false,eval e X.env)::RS pos (DO [] X.env):=by rfl) (uN:(RS pos (DO [e] X.env)).any (·.1)=false:=by rfl):PE X (.Call (.Name "sorted" p) [e] [⟨some "key",.Name x p2,RM⟩] pos) (Nn X.K sp t):=by
 intro pins s σ H Q I h
 obtain⟨fd,ds,F,hb,hd⟩:=c.ex
 cases hd
 refine Q3 (vq I hg hm boot_sorted ?_)
 refine callWith_kw (dE (ha pos pins s σ H _ I h) fun us s1 ⟨vs,H1,I1,r1,q1⟩=>?_) se uN
 refine dE (TQ hf Xs pos pins s1 σ H1 (fun zs H2=>zs=[.ref f]/\H2=H1) I1 ⟨rfl,rfl⟩) fun ws s2 ⟨zs,H2,I2,rz,q2,q3⟩=>?_
 subst q2;subst q3
 obtain⟨a,xs,kf,e1,hl,h64,hk,fin⟩:=q1
 subst e1
 obtain⟨u,rfl,ru⟩:=vals1 r1
 obtain⟨w',rfl,GX⟩:=vals1 rz
 have e1:u=.ref a:=ru
 have e2:w'=.ref f:=GX
 subst e1;subst e2
 exact IH I2 hl h64 F hb hr hk (fun a ys H'=>fin a ys H')
end
end L2
namespace L2
open PySem PySem.Spec PyProof.Rows
theorem BV {scope:Scope} {env:Env} (h:∀x∈scope.names,x.2=.free->∃c,env.cells.lookup x.1=some c):
 ∃cl,closureFor scope env=pure cl/\(∀x c,cl.lookup x=some c->env.cells.lookup x=some c)/\∀x∈scope.names,x.2=.free->∃c,cl.lookup x.1=some c:=by
 have key:∀(l:List (Str × AbW)) (acc:List (Str × Addr)),(∀x∈l,x.2=.free->∃c,env.cells.lookup x.1=some c)->(∀x c,acc.lookup x=some c->env.cells.lookup x=some c)->
  ∃cl,(forIn l acc (fun(x:Str × AbW) (r:List (Str × Addr))=>(match x with
   |(name,kind)=>if (kind==UF)=true then (do let c <-cellOf env name;pure (YU ((name,c)::r))) else pure (YU r):Sem (ForInStep (List (Str × Addr))))):Sem _)=pure cl/\
   (∀x c,cl.lookup x=some c->env.cells.lookup x=some c)/\(∀x∈l,x.2=.free->∃c,cl.lookup x.1=some c)/\∀x,(∃c,acc.lookup x=some c)->∃c,cl.lookup x=some c:=by
  intro l
  induction l with
  |nil=>intro acc _ ha;exact⟨acc,rfl,ha,fun _ z=>(nomatch z),fun _ z=>z⟩
  |cons p r ih=>
   intro acc hl ha
   obtain⟨n,k⟩:=p
   rw [List.forIn_cons]
   by_cases hk:k=.free
   . subst hk
     obtain⟨c,hc⟩:=hl (n,.free) BN rfl
     have DE:cellOf env n=pure c:=by unfold cellOf;rw [hc]
     obtain⟨cl,e,h1,h2,h3⟩:=ih ((n,c)::acc) (fun x hx=>hl x (AD _ hx)) (fun x d hd=>by
      rw [LB] at hd
      by_cases hx:x=n
      . subst hx;rw [beq_self_eq_true] at hd;cases hd;exact hc
      . rw [beq_eq_false_iff_ne.mpr hx] at hd;exact ha x d hd)
     refine⟨cl,?_,h1,fun x hx hf=>?_,fun x ⟨d,hd⟩=>h3 x ?_⟩
     . simp only [beq_self_eq_true,if_true,DE]
       exact e
     . rcases AE.mp hx with rfl|hx
       . exact h3 n ⟨c,by rw [LB,beq_self_eq_true]⟩
       . exact h2 x hx hf
     . rw [LB]
       by_cases hx:x=n
       . subst hx;rw [beq_self_eq_true];exact⟨c,rfl⟩
       . rw [beq_eq_false_iff_ne.mpr hx];exact⟨d,hd⟩
   . obtain⟨cl,e,h1,h2,h3⟩:=ih acc (fun x hx=>hl x (AD _ hx)) ha
     refine⟨cl,?_,h1,fun x hx hf=>?_,h3⟩
     . have:(k==UF)=false:=by simpa using hk
       simp only [this,IN,if_false]
       exact e
     . rcases AE.mp hx with rfl|hx
       . exact absurd hf hk
       . exact h2 x hx hf
 obtain⟨cl,e,h1,h2,_⟩:=key scope.names [] h (fun _ _ z=>by simp at z)
 refine⟨cl,?_,h1,h2⟩
 unfold closureFor
 show(forIn scope.names [] _>>=fun cs=>pure cs)=_
 refine Eq.trans (congrArg (·>>=_) e) rfl
theorem qq {env:Env} {scope:Scope} {x:Str}:(AbV scope env).names.lookup x=(scope.names.lookup x).map fun k=>if (k==UF&&env.scope.kind==.function&&env.kindOf x==some .cell)=true then .cell else k:=by
 unfold AbV
 show YA x (List.map _ scope.names)=_
 generalize scope.names=l
 induction l with
 |nil=>rfl
 |cons p r ih=>
  obtain⟨n,k⟩:=p
  rw [EO]
  dsimp only
  by_cases hx:x=n
  . subst hx
    by_cases hc:(k==UF&&env.scope.kind==.function&&env.kindOf x==some .cell)=true
    . rw [if_pos hc,LB,LB,beq_self_eq_true];simp only [Abi,if_pos hc]
    . rw [if_neg hc,LB,LB,beq_self_eq_true];simp only [Abi,if_neg hc]
  . have hb:(x==n)=false:=beq_eq_false_iff_ne.mpr hx
    by_cases hc:(k==UF&&env.scope.kind==.function&&env.kindOf n==some .cell)=true
    . rw [if_pos hc,LB,LB,hb];exact ih
    . rw [if_neg hc,LB,LB,hb];exact ih
theorem AbS {α:Type} {x:Str} {k:α}:∀{l:List (Str × α)},l.lookup x=some k->(x,k)∈l
 |[],h=>by simp at h
 |(n,j)::r,h=>by
  rw [LB] at h
  by_cases hx:x=n
  . subst hx;rw [beq_self_eq_true] at h;cases h;exact BN
  . rw [beq_eq_false_iff_ne.mpr hx] at h;exact AD _ (AbS h)
def mR (X:Cx) (N:List Str) (scope:Scope) (cl:List (Str × Addr)) (C:Addr) (s:AM) (H:Hp) (fp:List Addr):Cx:=
 {X with N:=N,jm:=s,HC:=H,env:=compEnvC scope cl C X.env,outer:=X.stack,stack:=X.stack,ex:=fp,fn:=fun _=>false,pn:=[],xe:=fun _ _=>False}
structure uf (X:Cx) (T M:List Str) (scope:Scope):Prop where
 kind:scope.kind=.function
 cell:∀y∈scope.names,y.2≠.cell
 names:∀y∈scope.names,y.2=.local->scope.names.lookup y.1=some .local
 free:∀y∈scope.names,y.2=.free->X.env.scope.names.lookup y.1=some .cell\/X.env.scope.names.lookup y.1=some .free
 len:M.length=X.N.length
 old:∀(i:Nat) x,M[i]? =some x->X.N[i]? =some x/\scope.names.lookup x=some .free\/scope.names.lookup x=none
section
variable {X:Cx} {pins:List (Addr × Obj)} {σ:St} {H:Hp} {s:AM} {T M:List Str} {scope:Scope} {cl:List (Str × Addr)} {fp:List Addr}
theorem Z1 {C:Addr} (I:Inv X pins σ H s) (hN:uf X T M scope) (h1:∀x c,cl.lookup x=some c->X.env.cells.lookup x=some c) (h2:∀x∈scope.names,x.2=.free->∃c,cl.lookup x.1=some c)
 (hC:s.heap.objs.size<=C) (hf:∀b∈fp,jd X pins H b) (Zb:∀b∈fp,b<s.heap.objs.size):(mR X (T++M) scope cl C s H fp).Ok where
 mod:=I.ok.mod
 kind:=hN.kind
 glob:=I.ok.glob
 blt:=I.ok.blt
 above:=hC
 inj:=fun x y c e1 e2=>I.ok.inj x y c (h1 x c e1) (h1 y c e2)
 has:=fun x hx=>by
  have u3:(AbV scope X.env).names.lookup x=some .cell\/(AbV scope X.env).names.lookup x=some .free:=hx
  rw [qq] at u3
  cases e:scope.names.lookup x with
  |none=>rw [e] at u3;simp at u3
  |some k=>
   have hm:=AbS e
   have hk:k=.free:=by
    rw [e] at u3
    simp only [Abi,AbX.injEq] at u3
    by_cases hf:k=.free
    . exact hf
    . have:(k==UF)=false:=by simpa using hf
      simp only [this,Bool.false_and,IN,if_false] at u3
      rcases u3 with u3|u3
      . exact absurd u3 (hN.cell _ hm)
      . exact u3
   exact h2 (x,k) hm hk
 ZE:=fun _ _ z=>by cases z
 hd:=I.ok.hd
 frames:=I.ok.frames
 stk:=.inl rfl
 exf:=fun b hb=>⟨ES (DD (Zb b hb) hC),fun x c e=>(hf b hb).2.2.2.2.1 x c (h1 x c e)⟩
 bs:=I.bs
 Nb:=Me I.ok.Nb I.sz
 KQ:=fun b o e hb=>by
  rcases (hf b hb).2.2.2.1 with z|z
  . exact I.ok.KQ b o e z
  . exact absurd (DD (Db e) (Me I.ok.Nb z)) (OF _)
 Mb:=fun b hb z=>by
  rcases AE.mp (I.Ig b z) with e|e
  . exact(hf b hb).2.1 e
  . exact(hf b hb).2.2.1 e
 xJ:=I.stack
 Uc:=I.JP
theorem Qh {C:Addr} {h₁:Heap} {tk:Nat} (I:Inv X pins σ H s) (hN:uf X T M scope) (h1:∀x c,cl.lookup x=some c->X.env.cells.lookup x=some c) (h2:∀x∈scope.names,x.2=.free->∃c,cl.lookup x.1=some c)
 (hC:s.heap.objs.size<=C) (hf:∀b∈fp,jd X pins H b) (Zb:∀b∈fp,b<s.heap.objs.size)
 {m:Str->Option Value} (hn:h₁.Ns C m) (old:∀b o,s.heap.get? b=some o->h₁.get? b=some o):
 Inv (mR X (T++M) scope cl C s H fp) [] (LM T.length none++σ) H {s with heap:=h₁,toks:=tk} where
 ok:=Z1 I hN h1 h2 hC hf Zb
 os:=rfl
 bare:=I.bare
 base:=Un.kept old
 loc:=by
  refine⟨m,hn,fun i x v e1 e2 e3=>?_⟩
  have e1':(T++M)[i]? =some x:=e1
  by_cases hi:i<T.length
  . rw [Aaf (by simpa using hi),Aao,if_pos hi] at e2
    cases e2
  . have MF:T.length<=i:=Nat.le_of_not_lt hi
    rw [Pd MF] at e1'
    rw [Pd (by simpa using MF),YE] at e2
    have A5:Vis (AbV scope X.env) x:=e3
    rcases hN.old _ x e1' with⟨hx,M4⟩|tQ
    . obtain⟨m0,CO,hl0⟩:=I.loc
      have hk:=hN.free _ (AbS M4) rfl
      have Gh:X.env.scope.names.lookup x=some .cell\/X.env.scope.names.lookup x=some .free:=hk
      obtain⟨u,r,l⟩:=hl0 _ x v hx e2 (.inr Gh)
      refine⟨u,r,.inr ?_⟩
      rcases l with⟨z,_⟩|⟨_,c,hc,DE⟩
      . have z':X.env.scope.names.lookup x=some .local:=z
        rw [z'] at Gh;rcases Gh with q|q <;>cases q
      . obtain⟨c',wF⟩:=h2 _ (AbS M4) rfl
        have:c'=c:=by have:=h1 _ _ wF;rw [hc] at this;exact(CC this).symm
        subst this
        refine⟨?_,c',wF,?_⟩
        . show(AbV scope X.env).names.lookup x=some .cell\/(AbV scope X.env).names.lookup x=some .free
          rw [qq,M4]
          simp only [Abi,AbX.injEq]
          by_cases hc:(UF==UF&&X.env.scope.kind==.function&&X.env.kindOf x==some .cell)=true
          . left;rw [if_pos hc]
          . right;rw [if_neg hc]
        . obtain⟨o,ho,hd⟩:=DE
          exact⟨o,old _ _ ho,hd⟩
    . unfold Vis at A5
      rw [qq,tQ] at A5
      simp at A5
 cell:=fun x c e=>by
  obtain⟨v,o,ho,hd⟩:=I.cell x c (h1 x c e)
  exact⟨v,o,old _ _ ho,hd⟩
 free:=I.bE.fresh hC
 ni:=fun x c e=>I.ni x c (h1 x c e)
 pin:=fun p hp=>nomatch hp
 bE:=I.bE.kept old
 len:=by
  show(LM T.length none++σ).length=(T++M).length
  rw [Do,Do,YE,hN.len,I.len]
theorem Ul {C D:Addr} {s':AM} {σ':St} {H':Hp} {acc:List V} {bh:List Value} {n:Nat} (I:Inv X pins σ H s) (I':Inv (mR X (T++M) scope cl C s H fp) [] σ' H' s')
 (hf:∀b∈fp,jd X pins H b) (hD:s.heap.objs.size<=D) (hn:H' D=none) (hl:acc.length<=Ev) (r:Vals acc bh) (hd:s'.heap.get? D=some {cls:=.type "list",data:=.seq bh.toArray n}):
 Inv X pins σ (upd H' D (.lst acc)) s':=by
 have U:Un (Lf X.stack) fp H H' s.heap s'.heap:=I'.base
 have neD:∀b o,s.heap.get? b=some o->b≠D:=fun b o e=>ES (DD (Db e) hD)
 have neT:∀b u,H' b=some u->b≠D:=fun b u e=>aC e hn
 refine I.abu (ch:=fp) I'.os ⟨U.keep,U.slot,fun b o e1 e2 e3=>?_,U.there,fun b xs e=>?_,fun b o u e=>?_,fun b ps e=>?_⟩ (fun b u e=>?_) I'.bare (fun b hb=>⟨(hf b hb).2.2.2.1,(hf b hb).2.1,(hf b hb).2.2.2.2.1,(hf b hb).2.2.2.2.2⟩)
 . rw [ay (neD b o e1)];exact U.free b o e1 e2 e3
 . rw [ay (neT b _ (U.wX b xs e))];exact U.wX b xs e
 . rw [ay (neT b _ (U.uk b o u e))];exact U.uk b o u e
 . obtain⟨more,q⟩:=U.zC b ps e
   exact⟨more,by rw [ay (neT b _ q)];exact q⟩
 . by_cases hb:b=D
   . subst hb
     rw [av] at e
     cases e
     exact⟨hl,bh,n,r,hd⟩
   . rw [ay hb] at e
     exact(I'.bE b u e).rB (fun c v _ q=>q) (fun c q=>by rw [ay (neT c _ q)];exact q) fun c xs q=>by rw [ay (neT c _ q)];exact q
end
theorem HS {prog:Fa} {w:World} {A:IF} {R:Result->AM->Prop} {s:AM} {elt target iter:Expr} {ifs:List Expr} {scope:Scope} {pos:Pos} {it acc:Value} {env:Env} (I:Nat->AM->Prop)
 (turn:∀n s,I n s->wpAny (model prog w) A (pyNext it) (fun r s₁=>match r with
  |none=>R (.ok .next) s₁
  |some v=>wpAny (model prog w) A (Aa8 target it v) (fun _ UP=>wpAny (model prog w) A (assign target env v) (fun _ s₂=>
   wpAny (model prog w) A (forIn ifs true fun c r=>if r=true then do let ok <-isTrue c env (eval c env);pure (YU ok) else pure (YU r)) (fun ok s₃=>
    if ok=true then wpAny (model prog w) A (eval elt env) (fun x s₄=>
     wpAny (model prog w) A (call (.builtin "list.append") [acc,x]) (fun _ s₅=>∃m,m<n/\I m s₅) (fun _ _=>False) s₄) (fun _ _=>False) s₃
    else ∃m,m<n/\I m s₃) (fun _ _=>False) s₂) (fun _ _=>False) UP) (fun _ _=>False) s₁) (fun _ _=>False) s)
 (n:Nat) (h:I n s):
 AbE (model prog w) A (.compLoop (.ListComp elt [⟨target,iter,ifs,0⟩] scope pos) 0 it acc env) R s:=by
 refine codeAny_loop rfl I (fun n s hI=>?_) n h
 show wpAny _ A ((compTurn (.ListComp elt [⟨target,iter,ifs,0⟩] scope pos) 0 it acc env).onRaise (fun x=>do noteFrame x env;theTreesLotGoes x)) _ _ s
 refine wpAny_noted ?_
 rw [compTurn_list]
 refine BC (wpAny_standAt (BC (NO (turn n s hI) (fun r s₁ h₁=>?_) fun _ _ h'=>h'.elim)))
 cases r with
 |none=>exact FM h₁
 |some v=>
  refine BC (NO h₁ (fun _ UP aci=>?_) fun _ _ h'=>h'.elim)
  refine BC (NO aci (fun _ s₂ h₂=>BC (NO h₂ (fun ok s₃ h₃=>?_) fun _ _ h'=>h'.elim)) fun _ _ h'=>h'.elim)
  cases ok with
  |false=>exact FM ⟨rfl,h₃⟩
  |true=>
   exact BC (BC (NO h₃ (fun x s₄ h₄=>BC (NO h₄ (fun _ s₅ h₅=>FM (FM ⟨rfl,h₅⟩)) fun _ _ h'=>h'.elim)) fun _ _ h'=>h'.elim))
def PIf (X:Cx) (ifs:List Expr) (t:TT):Prop:=
 ∀(pins:List (Addr × Obj)) (s:AM) (σ:St) (H:Hp) (Q:Bool->Hp->Prop),Inv X pins σ H s->t σ H Q->
  wpAny (model X.prog X.w) X.A (forIn ifs true fun c r=>if r=true then do let ok <-isTrue c X.env (eval c X.env);pure (YU ok) else pure (YU r)) (TP X pins σ Q) X.xe s
def agf:TT:=fun _ H Q=>Q true H
theorem EC {X:Cx}:PIf X [] agf:=fun _ _ _ H _ I h=>wpAny_tests_nil ⟨H,I,h⟩
theorem JD {X:Cx} {c:Expr} {t:TT} (h:PT X c t):PIf X [c] t:=fun pins s σ H Q I q=>wpAny_tests_one (h pins s σ H Q I q)
def ZZ (k:Nat) (g:TG) (tc:TT) (te:TE) (Fin:List V->Hp->Prop) (σ:St) (J:It) (H1:Hp):Prop:=
 ∃W:Nat->Nat->List V->Hp->Prop,(∃m,W 0 m [] H1)/\∀i m acc H,W i m acc H->
  (J.stop i H/\Fin acc H)\/(J.go i H/\acc.length<Ev/\∀x H',J.Rm i H x H'->g x (LM k none++σ) H' fun σ2 H2=>tc σ2 H2 fun b H3=>
   if b=true then te σ2 H3 fun y H4=>∃m',m'<m/\W (i+1) m' (acc++[y]) H4 else ∃m',m'<m/\W (i+1) m' acc H3)
section
variable {X:Cx} {pins:List (Addr × Obj)} {σ:St} {H:Hp} {s:AM} {T M:List Str} {scope:Scope} {cl:List (Str × Addr)} {fp:List Addr} {g:TG} {tc:TT} {te:TE} {tg elt iter:Expr} {ifs:List Expr} {pos:Pos}
theorem Inv.forget {X:Cx} {pins:List (Addr × Obj)} {σ σ':St} {H:Hp} {s:AM} (I:Inv X pins σ' H s) (k:Nat) (hk:k+σ.length=σ'.length) (h:σ'.drop k=σ):Inv X pins (LM k none++σ) H s:=by
 refine I.weak (by simp [hk]) (fun i v e=>?_)
 by_cases hi:i<k
 . rw [Aaf (by simpa using hi),Aao,if_pos hi] at e;cases e
 . rw [Pd (by simpa using hi),YE,<-h,List.getElem?_drop] at e
   have:k+(i - k)=i:=by omega
   rw [this] at e;exact e
theorem Qc {it:Addr} {tn:Nat->Heap->Prop} {J:It} {RR:Value->Addr->Result->AM->Prop} {Fin:List V->Hp->Prop} {E:Value->AM->Prop}
 (hN:uf X T M scope) (DB:X.calm=true) (h1:∀x c,cl.lookup x=some c->X.env.cells.lookup x=some c) (h2:∀x∈scope.names,x.2=.free->∃c,cl.lookup x.1=some c)
 (hg:∀cl C s H fp,PG (mR X (T++M) scope cl C s H fp) tg g) (hgk:∀v H Q,g v (LM T.length none++σ) H Q->g v (LM T.length none++σ) H fun σ2 H2=>Q σ2 H2/\T.length+σ.length=σ2.length/\σ2.drop T.length=σ)
 (hc:∀cl C s H fp,PIf (mR X (T++M) scope cl C s H fp) ifs tc) (he:∀cl C s H fp,PE (mR X (T++M) scope cl C s H fp) elt te)
 (I:Inv X pins σ H s) (Tn:Turn X.prog X.w X.K tg J fp it tn) (st:tn 0 s.heap) (hf:∀b∈fp,jd X pins H b) (hW:ZZ T.length g tc te Fin σ J H)
 (hR:∀D C s' H' acc m,s.heap.objs.size<=D->s.heap.objs.size<=C->C≠D->s'.heap.Ns C m->H' C=none->H' D=none->Inv X pins σ (upd H' D (.lst acc)) s'->Fin acc H'->RR (.ref D) C (.ok .next) s'):
 wpAny (model X.prog X.w) X.A (newList []) (fun acc s₃=>wpAny (model X.prog X.w) X.A (newFunctionEnv scope X.env.globals cl [] X.env.qual none .none (some X.env)) (fun Z4 s₄=>
  AbE (model X.prog X.w) X.A (.compStart (.ListComp elt [⟨tg,iter,ifs,0⟩] scope pos) 0 (.ref it) acc {Z4 with scope:=AbV scope X.env}) (RR acc Z4.locals) s₄) E s₃) E s:=by
 refine wpAny_newObj_type (wpAny_newFunctionEnv hN.cell (by intro y hy;simp at hy) (fun h₁ IT D8=>?_) hN.kind)
 dsimp only at IT D8 ⊢
 generalize hH2:s.heap.push {cls:=.type "list",dict:=none,data:=.seq ([]:List Value).toArray}=H2 at IT D8 ⊢
 have hC:H2.objs.size=s.heap.objs.size+1:=by rw [<-hH2,Aae]
 have hDC:s.heap.objs.size≠H2.objs.size:=by rw [hC];exact ES (AaX _)
 have Y2:s.heap.objs.size<=H2.objs.size:=by rw [hC];exact AaG _
 have Zb:∀b∈fp,b<s.heap.objs.size:=fun b hb=>by obtain⟨o,ho,_⟩:=Tn.obj _ _ st b hb;exact Db ho
 have old:∀b o,s.heap.get? b=some o->h₁.get? b=some o:=fun b o e=>D8.extBut b o (ES (DD (Db e) Y2)) (BS _ (hH2▸BS _ e))
 have lg:h₁.PlainList s.heap.objs.size #[]:=⟨_,D8.extBut _ _ hDC (BS _ (hH2▸EM _ rfl))⟩
 generalize Xr:s.heap.objs.size=D at*
 generalize hCe:H2.objs.size=C at*
 have I0:Inv (mR X (T++M) scope cl C s H fp) [] (LM T.length none++σ) H {s with heap:=h₁,toks:=s.toks+([]:List (Str × Value)).length}:=
  Qh I hN h1 h2 (by rw [Xr];exact Y2) hf (by rw [Xr];exact Zb) IT old
 have st0:tn 0 h₁:=Tn.keep _ _ _ st fun b _ o e=>old b o e
 obtain⟨W,⟨m0,w0⟩,turn⟩:=hW
 have nDf:∀b∈fp,b≠D:=fun b hb=>ES (Zb b hb)
 have stat:∀{H':Hp} {pl:List (Addr × Obj)},(∀b∈fp,H' b=none)->(∀p∈pl,p.1=D)->∀b∈fp,jd (mR X (T++M) scope cl C s H fp) pl H' b:=fun {H' pl} hn hp b hb=>by
  have ok:=I0.ok
  refine⟨hn b hb,(ok.exf b hb).1,ok.Mb b hb,.inl hb,(ok.exf b hb).2,fun p hq=>?_⟩
  have vV:p∈pl:=hq
  rw [hp p vV];exact LH (nDf b hb)
 have loop:AbE (model X.prog X.w) X.A (.compLoop (.ListComp elt [⟨tg,iter,ifs,0⟩] scope pos) 0 (.ref it) (.ref D) (compEnvC scope cl C X.env)) (RR (.ref D) C) {s with heap:=h₁,toks:=s.toks+([]:List (Str × Value)).length}:=by
  refine HS (fun n s'=>∃i acc H' bh,Inv (mR X (T++M) scope cl C s H fp) [] (LM T.length none++σ) H' s'/\tn i s'.heap/\(∀b∈fp,H' b=none)/\s'.heap.PlainList D bh/\H' D=none/\Vals acc bh.toList/\acc.length<=Ev/\W i n acc H') ?_ m0
   ⟨0,[],H,#[],I0,st0,fun b hb=>(hf b hb).1,lg,I.bE.fresh (by rw [Xr];exact BY _),.nil,IR _,w0⟩
  rintro n s3 ⟨i,acc,H3,bh,I3,ZS,yl,⟨nn,ho⟩,hD3,hv,hlen,w3⟩
  have afZ:∀{H'} {s'} {σ'} {o:Obj},Inv (mR X (T++M) scope cl C s H fp) [] σ' H' s'->s'.heap.get? D=some o->(∀v,o.data≠.cell v)->H' D=none->Inv (mR X (T++M) scope cl C s H fp) [(D,o)] σ' H' s':=fun {H' s' σ' o} I' e d hn=>by
   refine I'.t4 fun p hp=>?_
   have e':p=(D,o):=by simpa using hp
   subst e'
   refine⟨e,hn,hDC,fun z=>?_,d⟩
   have z':D∈Lf X.stack:=z
   obtain⟨_,o',PY,_⟩:=I.stack.mem z'
   exact absurd (Db PY) (by rw [Xr];exact OF _)
  have I3':=afZ I3 ho (fun v z=>by cases z) hD3
  rcases turn i n acc H3 w3 with⟨stop,fin⟩|⟨go,hl,step⟩
  . refine dE (Tn.done (mR X (T++M) scope cl C s H fp) rfl rfl rfl DB i _ s3 _ H3 _ I3' (stat yl (by simp)) ZS stop) fun r s4 ⟨hr,I4⟩=>?_
    subst hr
    have e4:=(I4.pin (D,_) (Co _ BN)).1
    have I4':Inv (mR X (T++M) scope cl C s H fp) [] (LM T.length none++σ) H3 s4:=I4.t4 fun p hp=>nomatch hp
    obtain⟨m4,n4,_⟩:=I4'.loc
    exact hR D C s4 H3 acc m4 (BY _) Y2 (LH hDC) n4 I4'.free hD3 (Ul I I4' hf (by rw [Xr];exact BY _) hD3 hlen hv (by simpa using e4)) fin
  . refine dE (Tn.item (mR X (T++M) scope cl C s H fp) rfl rfl rfl DB i _ s3 _ H3 _ I3' (stat yl (by simp)) ZS go) fun r s4 ⟨u,hr,h4⟩=>?_
    subst hr
    refine dE h4 fun _ s5 ⟨x,H5,I5,r5,y5,VS,fr5⟩=>?_
    have I5':=I5.pinned (stat fr5 (by simp)) (Tn.obj _ _ VS)
    refine dE (hg _ _ _ _ _ _ s5 _ H5 x u _ I5' r5 (hgk _ _ _ (step x H5 y5))) fun _ s6 ⟨σ6,H6,I6,q6,q6a,q6b⟩=>?_
    refine dE (hc _ _ _ _ _ _ s6 σ6 H6 _ I6 q6) fun b s7 ⟨H7,I7,q7⟩=>?_
    have rest:∀{s8:AM} {H8:Hp},Inv (mR X (T++M) scope cl C s H fp) ([(D,_)]++A6 fp s5.heap) σ6 H8 s8->tn (i+1) s8.heap/\(∀b∈fp,H8 b=none)/\s8.heap.PlainList D bh/\H8 D=none/\Inv (mR X (T++M) scope cl C s H fp) [] (LM T.length none++σ) H8 s8:=fun {s8 H8} I8=>by
     refine⟨Tn.keep _ _ _ VS fun b hb o e=>(I8.pin (b,o) (Co _ (Co _ (qa hb e)))).1,fun b hb=>?_,⟨nn,(I8.pin (D,_) (Co _ (EQ _ BN))).1⟩,(I8.pin (D,_) (Co _ (EQ _ BN))).2.1,(I8.forget T.length q6a q6b).t4 fun p hp=>nomatch hp⟩
     obtain⟨o,e,d⟩:=Tn.obj _ _ VS b hb
     exact(I8.pin (b,o) (Co _ (Co _ (qa hb e)))).2.1
    cases b with
    |false=>
     obtain⟨m',hm,w7⟩:=q7
     obtain⟨a1,a2,a3,a4,a5⟩:=rest I7
     exact⟨m',hm,i+1,acc,H7,bh,a5,a1,a2,a3,a4,hv,hlen,w7⟩
    |true=>
     refine dE (he _ _ _ _ _ _ s7 σ6 H7 _ I7 q7) fun y s8 ⟨yv,H8,I8,r8,m',hm,w8⟩=>?_
     obtain⟨a1,a2,a3,a4,a5⟩:=rest I8
     have hsz:bh.size<=Ev:=by have:=hv.length;simp at this;omega
     refine wpAny_list_append_plain (hsz:=hsz) a3 fun h9 hl9 XS=>?_
     refine⟨m',hm,i+1,acc++[yv],H8,bh.push y,?_,?_,a2,hl9,a4,?_,by simp;omega,w8⟩
     . exact a5.turned (t':=s8.toks) (it:=D) (fun b o hb e=>(XS.2 b hb).trans e) a4 hDC (.inr (by show s.heap.objs.size<=D;rw [Xr];exact BY _)) (fun x c e z=>by
        obtain⟨v,o,ho,_⟩:=I.cell x c (h1 x c e)
        exact absurd (Db ho) (by rw [Xr,z];exact OF _)) (fun p hp=>nomatch hp)
     . exact Tn.keep _ _ _ a1 fun b hb o e=>(XS.2 b (nDf b hb)).trans e
     . simpa using Vals.append hv (.cons r8 .nil)
 exact codeAny_compStart_list loop (Tn.self _ _ _ _ _ st0 loop)
end
def TK (k:Nat) (g:TG):Prop:=∀v (τ σ:St) H Q,τ.length=k->g v (τ++σ) H Q->g v (τ++σ) H fun σ2 H2=>Q σ2 H2/\∃τ',τ'.length=k/\σ2=τ'++σ
def KH (k:Nat) (g:Oj):Prop:=∀vs (τ σ:St) H Q,τ.length=k->g vs (τ++σ) H Q->g vs (τ++σ) H fun σ2 H2=>Q σ2 H2/\∃τ',τ'.length=k/\σ2=τ'++σ
theorem yH {k i:Nat} (h:i<k):TK k (ml i):=fun v τ σ H Q hl q=>by
 have e:(τ++σ).set i (some v)=τ.set i (some v)++σ:=List.set_append_left _ _ (by omega)
 exact⟨q,τ.set i (some v),by simp [hl],e⟩
theorem Dt {k:Nat}:KH k LJ:=fun vs τ σ H Q hl ⟨e,q⟩=>⟨e,q,τ,hl,rfl⟩
theorem pP {k i:Nat} {u:Oj} (h:i<k) (h2:KH k u):KH k (u6 (ml i) u):=fun vs τ σ H Q hl ⟨v,r,e,q⟩=>by
 have e1:(τ++σ).set i (some v)=τ.set i (some v)++σ:=List.set_append_left _ _ (by omega)
 refine⟨v,r,e,?_⟩
 show u r ((τ++σ).set i (some v)) H _
 rw [e1]
 have q':u r ((τ++σ).set i (some v)) H Q:=q
 rw [e1] at q'
 exact h2 r _ σ H Q (by simp [hl]) q'
theorem GO {K:At} {k n:Nat} {u:Oj} (h:KH k u):TK k (Jp K n u):=fun v τ σ H Q hl ⟨a,xs,e,hq,hn,q⟩=>⟨a,xs,e,hq,hn,h xs τ σ H Q hl q⟩
def JW (Q:VK) (acc:List V) (H:Hp):Prop:=∀p,H p=none->Q (.ref p) (upd H p (.lst acc))
def tLC (k:Nat) (wi:TI) (g:TG) (tc:TT) (te:TE):TE:=fun σ H Q=>wi σ H fun J H1=>ZZ k g tc te (JW Q) σ J H1
section
variable {X:Cx} {T M:List Str} {scope:Scope} {g:TG} {tc:TT} {te:TE} {wi:TI} {tg elt iter:Expr} {ifs:List Expr} {pos:Pos}
theorem J0 (hN:uf X T M scope) (DB:X.calm=true) (hi:PI X tg iter wi) (hg:∀cl C s H fp,PG (mR X (T++M) scope cl C s H fp) tg g) (hgo:TK T.length g)
 (hc:∀cl C s H fp,PIf (mR X (T++M) scope cl C s H fp) ifs tc) (he:∀cl C s H fp,PE (mR X (T++M) scope cl C s H fp) elt te)
 (hs:∀x,Abv iter X.env x=pure x:=by intro _;rfl):PE X (.ListComp elt [⟨tg,iter,ifs,0⟩] scope pos) (tLC T.length wi g tc te):=by
 intro pins s σ H Q I h
 obtain⟨cl,ZC,h1,h2⟩:=BV (scope:=scope) (env:=X.env) fun x hx hf=>I.ok.has x.1 (hN.free x hx hf)
 rw [eval_ListComp]
 refine wpAny_comprehension_free (use:=none) rfl hs ZC hN.kind hN.names (dE (hi pins s σ H _ I h) fun xv s1 Rl=>dE Rl fun itv s2 WH=>?_)
 obtain⟨it,fp,tn,J,H2,e,I2,Tn,st,hf,hW⟩:=WH
 subst e
 refine Qc (RR:=fun acc C=>compPost (model X.prog X.w) X.A X.xe none (EP X pins σ Q) acc C) hN DB h1 h2 hg (fun v H Q q=>?_) hc he I2 Tn st hf hW ?_
 . have:=hgo v (LM T.length none) σ H Q (by simp) q
   refine(by
    have e:(fun(σ2:St) (H2:Hp)=>Q σ2 H2/\T.length+σ.length=σ2.length/\σ2.drop T.length=σ)=fun σ2 H2=>Q σ2 H2/\∃τ':St,τ'.length=T.length/\σ2=τ'++σ:=by
     funext σ2 H2
     refine propext ⟨fun⟨a,b,c⟩=>⟨a,σ2.take T.length,by rw [Ll];omega,by rw [<-c,SO]⟩,fun⟨a,τ',b,c⟩=>⟨a,by rw [c,Do,b],by rw [c,<-b,List.drop_left]⟩⟩
    rw [e];exact this)
 . intro D C s' H' acc m hD hC pk hn hHC hHD Ib fin
   refine⟨m,hn,fun h' FQ=>⟨.ref D,_,?_,rfl,fin D hHD⟩⟩
   exact Ib.turned (t':=s'.toks) (it:=C) (fun b o hb e=>(FQ.2 b hb).trans e) (by rw [ay pk];exact hHC) (Nat.ne_of_gt (DD I2.lt hC)) (.inr (Me I2.sz hC)) (fun x c e z=>by
    obtain⟨v,q⟩:=I2.cell x c e
    exact absurd (DD q.lt (by rw [z];exact hC)) (OF _)) (fun p hp z=>absurd (DD (Db (I2.pin p hp).1) (by rw [z];exact hC)) (OF _))
theorem aaj {i:Nat} {y:Str} {py aa8:Pos} (oF:X.N.Nodup) (MF:X.N[i]? =some y) (hy:Loc X.env.scope y) (hN:uf X T M scope) (DB:X.calm=true) (hi:PI X tg iter wi) (hg:∀cl C s H fp,PG (mR X (T++M) scope cl C s H fp) tg g) (hgo:TK T.length g)
 (hc:∀cl C s H fp,PIf (mR X (T++M) scope cl C s H fp) ifs tc) (he:∀cl C s H fp,PE (mR X (T++M) scope cl C s H fp) elt te)
 (hsw:swapsWith (.ListComp elt [⟨tg,iter,ifs,0⟩] scope pos) (some (.Name y py)) aa8.line X.env=pure true)
 (hs:∀x,Abv iter X.env x=pure x:=by intro _;rfl) (hf':X.fn y=true\/X.env.scope.names.lookup y=some .local:=by first|exact .inl rfl|exact .inr rfl|assumption):
 PS X (.Assign [.Name y py] (.ListComp elt [⟨tg,iter,ifs,0⟩] scope pos) aa8) (N8 (tLC T.length wi g tc te) (ml i)):=by
 intro pins s σ H D' I h
 have h:tLC T.length wi g tc te σ H fun x H1=>D'.nx (σ.set i (some x)) H1:=h
 obtain⟨cl,ZC,h1,h2⟩:=BV (scope:=scope) (env:=X.env) fun x hx hf=>I.ok.has x.1 (hN.free x hx hf)
 rw [exec_Assign_Name_used _ _ _ _ hsw]
 refine BC (wpAny_standAt (BC ?_))
 show wpAny _ X.A (do let _ <-comprehension (.ListComp elt [⟨tg,iter,ifs,0⟩] scope pos) scope X.env _ (newList []) false (eval iter X.env) (some (assign (.Name y py) X.env))) _ _ s
 refine BC (NO (wpAny_comprehension_free (use:=some (assign (.Name y py) X.env)) (Q:=fun _ s'=>SP X pins D' .next s') rfl hs ZC hN.kind hN.names
  (dE (hi pins s σ H _ I h) fun xv s1 Rl=>dE Rl fun itv s2 WH=>?_)) (fun _ s' hq=>FM (FM hq)) fun _ _ e=>e)
 obtain⟨it,fp,tn,J,H2,e,I2,Tn,st,hf,hW⟩:=WH
 subst e
 refine Qc (RR:=fun acc C=>compPost (model X.prog X.w) X.A X.xe (some (assign (.Name y py) X.env)) (fun _ s'=>SP X pins D' .next s') acc C) hN DB h1 h2 hg (fun v H Q q=>?_) hc he I2 Tn st hf hW ?_
 . have:=hgo v (LM T.length none) σ H Q (by simp) q
   refine(by
    have e:(fun(σ2:St) (H2:Hp)=>Q σ2 H2/\T.length+σ.length=σ2.length/\σ2.drop T.length=σ)=fun σ2 H2=>Q σ2 H2/\∃τ':St,τ'.length=T.length/\σ2=τ'++σ:=by
     funext σ2 H2
     refine propext ⟨fun⟨a,b,c⟩=>⟨a,σ2.take T.length,by rw [Ll];omega,by rw [<-c,SO]⟩,fun⟨a,τ',b,c⟩=>⟨a,by rw [c,Do,b],by rw [c,<-b,List.drop_left]⟩⟩
    rw [e];exact this)
 . intro D C s' H' acc m hD hC pk hn hHC hHD Ib fin
   show wpAny _ X.A (assign (.Name y py) X.env (.ref D)) _ _ _
   refine wpAny_assign_Name (C2 Ib oF MF hy (v:=.ref D) rfl (fun s3 I3 ⟨a,sb,ha⟩=>?_) hf')
   have hCL:C≠X.env.locals:=Nat.ne_of_gt (DD I2.lt hC)
   have hCc:∀x c,X.env.cells.lookup x=some c->c≠C:=fun x c e z=>by
    obtain⟨v,q⟩:=I2.cell x c e
    exact absurd (DD q.lt (by rw [z];exact hC)) (OF _)
   have hCa:C≠a:=by
    rcases ha with rfl|ha
    . exact hCL
    . exact LH (hCc _ _ ha)
   refine⟨m,hn.sameBut sb hCa,fun h' FQ=>⟨_,_,?_,fin D hHD⟩⟩
   exact I3.turned (t':=s3.toks) (it:=C) (fun b o hb e=>(FQ.2 b hb).trans e) (by rw [ay pk];exact hHC) hCL (.inr (Me I2.sz hC)) hCc (fun p hp z=>absurd (DD (Db (I2.pin p hp).1) (by rw [z];exact hC)) (OF _))
end
end L2
namespace L2
open PySem PySem.Spec PyProof.Rows PySem.W
mutual
def Dc:BB->Bool
 | .none=>true
 | .bool _=>true
 | .int _=>true
 | .str _=>true
 | .tuple ds=>ej ds
 | .list _=>false
 | .dict _=>false
def ej:List BB->Bool
 |[]=>true
 |d::ds=>Dc d&&ej ds
end
theorem vI:∀{ds:List BB},ej ds=true↔∀d∈ds,Dc d=true
 |[]=>by simp [ej]
 |d::ds=>by simp [ej,vI (ds:=ds)]
theorem gR {ds es:List BB} (h1:ej ds=true) (h2:ej es=true):ej (ds++es)=true:=by
 rw [vI] at*
 intro d hd
 rcases Cn.mp hd with h|h
 . exact h1 d h
 . exact h2 d h
theorem cL {α:Type} {f:α->BB} (h:∀x,Dc (f x)=true) (xs:List α):ej (xs.map f)=true:=by
 rw [vI]
 intro d hd
 obtain⟨x,_,rfl⟩:=AT.mp hd
 exact h x
structure Mv (S:List Addr) (H H':Hp):Prop where
 kp:∀a o,a∉S->H a=some o->H' a=some o
 tp:∀a xs,H a=some (.tup xs)->H' a=some (.tup xs)
 dm:∀a,H' a=none->H a=none
theorem Mv.refl {S:List Addr} {H:Hp}:Mv S H H:=⟨fun _ _ _ h=>h,fun _ _ h=>h,fun _ h=>h⟩
theorem aA.mv {S:List Addr} {H H':Hp} (s:aA H H'):Mv S H H':=⟨fun a o _ h=>s a o h,fun a xs h=>s a _ h,fun a h=>by
 cases e:H a with
 |none=>rfl
 |some o=>rw [s a o e] at h;cases h⟩
theorem Mv.trans {S:List Addr} {H H1 H2:Hp} (m:Mv S H H1) (m2:Mv S H1 H2):Mv S H H2:=⟨fun a o n h=>m2.kp a o n (m.kp a o n h),fun a xs h=>m2.tp a xs (m.tp a xs h),fun a h=>m.dm a (m2.dm a h)⟩
theorem Mv.step {S S1:List Addr} {H H1 H2:Hp} (m:Mv S H H1) (m2:Mv S1 H1 H2) (hs:∀a∈S1,a∈S\/H a=none):Mv S H H2:=by
 refine⟨fun a o n h=>?_,fun a xs h=>m2.tp a xs (m.tp a xs h),fun a h=>m.dm a (m2.dm a h)⟩
 refine m2.kp a o (fun z=>?_) (m.kp a o n h)
 rcases hs a z with q|q
 . exact n q
 . rw [q] at h;cases h
theorem Mv.zb {S:List Addr} {H H1 H2:Hp} (m:Mv S H H1) (s:aA H1 H2):Mv S H H2:=m.trans s.mv
theorem Mv.at {S:List Addr} {H H':Hp} {a:Addr} {o:HO} (m:Mv S H H') (n:a∉S) (h:H a=some o):H' a=some o:=m.kp a o n h
theorem Mv.none {S:List Addr} {H H':Hp} {a:Addr} (m:Mv S H H') (h:H' a=none):H a=none:=m.dm a h
theorem aA.none {H H':Hp} {a:Addr} (m:aA H H') (h:H' a=none):H a=none:=(m.mv (S:=[])).dm a h
theorem Mv.aV {H:Hp} {p:Addr} {o u:HO} (h:H p=some u) (nt:∀xs,u≠.tup xs):Mv [p] H (upd H p o):=⟨fun a v n e=>by
 rw [ay (fun z=>n (by simp [z]))];exact e,fun a xs e=>by
 rw [ay (fun z=>by subst z;rw [h] at e;exact nt xs (CC e))];exact e,fun a e=>by
 by_cases z:a=p
 . subst z;rw [av] at e;cases e
 . rw [ay z] at e;exact e⟩
mutual
theorem Dv.zq {H H':Hp} (t:∀a xs,H a=some (.tup xs)->H' a=some (.tup xs)):∀{v:V} {d:BB},Dv H v d->Dc d=true->Dv H' v d
 |_,_,.a9,_=>.a9
 |_,_,.bl b,_=>.bl b
 |_,_,.int i,_=>.int i
 |_,_,.str x,_=>.str x
 |_,_,.tup h r,c=>.tup (t _ _ h) (eJ.zq t r (by simpa [Dc] using c))
 |_,_,.lst h r,c=>by simp [Dc] at c
 |_,_,.dct h r,c=>by simp [Dc] at c
theorem eJ.zq {H H':Hp} (t:∀a xs,H a=some (.tup xs)->H' a=some (.tup xs)):∀{v:List V} {d:List BB},eJ H v d->ej d=true->eJ H' v d
 |_,_,.nil,_=>.nil
 |_,_,.cons h r,c=>by
  have c':=c
  simp only [ej,RI] at c'
  exact .cons (Dv.zq t h c'.1) (eJ.zq t r c'.2)
end
theorem Mv.dat {S:List Addr} {H H':Hp} {v:V} {d:BB} (m:Mv S H H') (i:Dc d=true) (h:Dv H v d):Dv H' v d:=h.zq m.tp i
theorem Mv.HL {S:List Addr} {H H':Hp} {v:List V} {d:List BB} (m:Mv S H H') (i:ej d=true) (h:eJ H v d):eJ H' v d:=h.zq m.tp i
def eF (H:Hp) (p:Addr) (ds:List BB):Prop:=∃xs,H p=some (.lst xs)/\eJ H xs ds/\ej ds=true
theorem eF.dv {H:Hp} {p:Addr} {ds:List BB} (h:eF H p ds):Dv H (.ref p) (.list ds):=let ⟨_,e,d,_⟩:=h;.lst (.of e) d
theorem eF.keeps {H H':Hp} {p:Addr} {ds:List BB} (s:aA H H') (h:eF H p ds):eF H' p ds:=let ⟨xs,e,d,i⟩:=h;⟨xs,s _ _ e,d.keeps s,i⟩
theorem eF.mv {S:List Addr} {H H':Hp} {p:Addr} {ds:List BB} (m:Mv S H H') (n:p∉S) (h:eF H p ds):eF H' p ds:=let ⟨xs,e,d,i⟩:=h;⟨xs,m.at n e,m.HL i d,i⟩
theorem eF.ne {H:Hp} {p q:Addr} {ds:List BB} (h:eF H p ds) (hn:H q=none):p≠q:=let ⟨_,e,_,_⟩:=h;aC e hn
theorem zR {H:Hp} {p:Addr} {xs:List V} {ds:List BB} (hn:H p=none) (d:eJ H xs ds) (i:ej ds=true):eF (upd H p (.lst xs)) p ds:=⟨xs,av,d.keeps (dX hn),i⟩
theorem Oy {p q:Addr} (h:p≠q):p∉[q]:=by simpa using h
theorem small {n m:Nat} (h:n<=m) (hm:m<=4000:=by decide):n<=Ev:=Me h (Me hm (by decide))
theorem iP {n:Nat} (h:n<=4000):n<Ev:=Abq h (by decide)
section
variable {σ:St} {H:Hp} {Q:VK} {D:Ends} {K:At} {p:Addr} {ds:List BB}
theorem afg {T:String} {r:V->List V->Hp->VK->Prop} {to:TE} {t:TA} (h:to σ H fun x H1=>UE K T x H1/\t σ H1 fun xs H2=>r x xs H2 Q):tBM K T r to t σ H Q:=h
theorem aby {T:String} {r:V->List V->Hp->VK->Prop} {to:TE} (h:to σ H fun x H1=>UE K T x H1/\r x [] H1 Q):aaD K T r to σ H Q:=h
theorem PX {R:Prop} (hp:eF H p ds) (h:R):UE K "list" (.ref p) H/\R:=let ⟨xs,e,_,_⟩:=hp;⟨.inl ⟨rfl,xs,iN.of e⟩,h⟩
theorem abm {y:V} {d:BB} (hp:eF H p ds) (hl:ds.length<=4000) (hy:Dv H y d) (hi:Dc d=true) (h:∀H2,Mv [p] H H2->eF H2 p (ds++[d])->Q .a9 H2):D1 (.ref p) [y] H Q:=by
 obtain⟨xs,e,dv,i⟩:=hp
 have m:Mv [p] H (upd H p (.lst (xs++[y]))):=.aV e (by intro _ z;cases z)
 refine⟨p,xs,y,rfl,rfl,e,by rw [dv.length];exact iP hl,h _ m ⟨_,av,m.HL (gR i (by simp [ej,hi])) (dv.append (.cons hy .nil)),gR i (by simp [ej,hi])⟩⟩
theorem X1 {xs:List V} (hl:xs.length<=Ev) (hd:eJ H xs ds) (hi:ej ds=true) (k:∀p H2,aA H H2->H p=none->eF H2 p ds->Q (.ref p) H2):WW xs H Q:=
 ⟨hl,ds,hd,fun p H2 s n e d _=>k p H2 s n ⟨xs,e,d,hi⟩⟩
end
theorem eJ.perm {α:Type} {H:Hp} {g:α->BB} {xs ys:List V} (p0:ys.Perm xs):∀{cs:List α},eJ H xs (cs.map g)->∃Rc:List α,Rc.Perm cs/\eJ H ys (Rc.map g):=by
 have p:=p0.symm
 clear p0
 induction p with
 |nil=>intro cs h;exact⟨cs,.refl _,h⟩
 |cons x _ ih=>
  intro cs h
  cases cs with
  |nil=>cases h
  |cons c cs=>
   cases h with
   |cons h r=>
    obtain⟨Rc,p',h'⟩:=ih r
    exact⟨c::Rc,p'.cons c,.cons h h'⟩
 |swap x y l=>
  intro cs h
  cases cs with
  |nil=>cases h
  |cons c cs=>
   cases h with
   |cons h r=>
    cases cs with
    |nil=>cases r
    |cons c2 cs=>
     cases r with
     |cons h2 r=>exact⟨c2::c::cs,.swap c c2 cs,.cons h2 (.cons h r)⟩
 |trans _ _ ih1 ih2=>
  intro cs h
  obtain⟨c1,p1,h1⟩:=ih1 h
  obtain⟨c2,p2,h2⟩:=ih2 h1
  exact⟨c2,p2.trans p1,h2⟩
theorem eJ.pairwise {α β:Type} {H:Hp} {g:α->BB} {key:α->β} {kf:V->β} {R:β->β->Prop} (hk:∀v c,Dv H v (g c)->kf v=key c):∀{xs:List V} {cs:List α},eJ H xs (cs.map g)->xs.Pairwise (fun x y=>R (kf x) (kf y))->cs.Pairwise (fun c d=>R (key c) (key d))
 |_,[],.nil,_=>.nil
 |_,c::cs,.cons h r,p=>by
  rw [Aau] at p ⊢
  refine⟨fun d hd=>?_,eJ.pairwise hk r p.2⟩
  obtain⟨i,hi⟩:=AaZ hd
  obtain⟨x,hx,hv⟩:=r.get (i:=i) (d:=g d) (by rw [EU,hi];rfl)
  have:=p.1 x (B0 hx)
  rw [hk _ _ h,hk _ _ hv] at this
  exact this
theorem Dv.lst_inv {H:Hp} {v:V} {ds:List BB} (h:Dv H v (.list ds)):∃a xs,v=.ref a/\(∀K:At,iN K H a xs)/\eJ H xs ds:=by
 cases h with
 |lst h r=>exact⟨_,_,rfl,fun _=>.inl h,r⟩
section
variable {σ:St} {H:Hp} {Q:VK} {D:Ends} {K:At} {p:Addr} {v:V} {ds:List BB}
theorem Qu {sp:Sp} {t:TA} (h:t σ H fun vs H1=>Ol sp K vs H1 Q):Nn K sp t σ H Q:=h
def LCT (te:TE) (N:Option V->Hp->Prop) (σ2:St) (b:Bool) (H3:Hp):Prop:=if b=true then te σ2 H3 (fun y H4=>N (some y) H4) else N none H3
theorem acz {k:Nat} {tl:TE} {g:TG} {tc:TT} {te:TE} (h:tl σ H fun x H1=>∃a,x=.ref a/\(∃xs,iN K H1 a xs)/\ZZ k g tc te (JW Q) σ (QD K a) H1):tLC k (NN K tl) g tc te σ H Q:=h
theorem Xv {k:Nat} {g:TG} {tc:TT} {te:TE} {α:Type} {cs:List α} {gd:α->BB} (pf:α->Bool) (fd:α->BB) (hl:Dv H v (.list (cs.map gd))) (hlen:cs.length<=4000) (hi:∀c,Dc (fd c)=true)
 (turn:∀x c H' (N:Option V->Hp->Prop),c∈cs->aA H H'->Dv H' x (gd c)->(pf c=true->∀y H4,aA H' H4->Dv H4 y (fd c)->N (some y) H4)->(pf c=false->∀H3,aA H' H3->N none H3)->
  g x (LM k none++σ) H' fun σ2 H2=>tc σ2 H2 fun b H3=>LCT te N σ2 b H3)
 (kk:∀q H',aA H H'->H q=none->eF H' q ((cs.filter pf).map fd)->Q (.ref q) H'):∃a,v=.ref a/\(∃xs,iN K H a xs)/\ZZ k g tc te (JW Q) σ (QD K a) H:=by
 obtain⟨p,xs,rfl,e,dv⟩:=hl.lst_inv
 have hl0:iN K H p xs:=e K
 have MY:xs.length=cs.length:=by rw [dv.length,AL]
 refine⟨p,rfl,⟨xs,hl0⟩,fun i m acc H'=>i<=cs.length/\m=cs.length - i/\aA H H'/\eJ H' acc (((cs.take i).filter pf).map fd),⟨cs.length,IR _,rfl,aA.refl _,by simpa using eJ.nil⟩,?_⟩
 rintro i m acc H' ⟨uY,hm,sm,lg⟩
 have Dw:iN K H' p xs:=aA.seq sm hl0
 have Jm:acc.length<=cs.length:=by
  rw [lg.length,AL]
  exact Me (Nl _ _) (by rw [Ll];omega)
 by_cases hc:i=cs.length
 . left
   refine⟨⟨xs,Dw,by omega⟩,fun q hq=>?_⟩
   rw [hc,SC] at lg
   have mP:aA H (upd H' q (.lst acc)):=sm.trans (dX hq)
   exact kk q _ mP (sm.none hq) ⟨acc,av,lg.keeps (dX hq),cL hi _⟩
 . right
   have iF:i<cs.length:=by omega
   have XE:i<xs.length:=by omega
   refine⟨⟨xs,xs[i],Dw,AC XE⟩,iP (by omega),fun x H2 hy=>?_⟩
   obtain⟨rfl,hy⟩:=hy
   have hx:=hy xs Dw
   have hcs:cs[i]? =some cs[i]:=AC iF
   obtain⟨x',u3,hd⟩:=dv.get (i:=i) (d:=gd cs[i]) (by rw [EU,hcs];rfl)
   rw [hx] at u3
   cases u3
   have FU:cs.take (i+1)=cs.take i++[cs[i]]:=by rw [Tu,hcs];rfl
   exact turn x cs[i] H2 (fun o H4=>match o with|some y=>∃m',m'<m/\i+1<=cs.length/\m'=cs.length - (i+1)/\aA H H4/\eJ H4 (acc++[y]) (((cs.take (i+1)).filter pf).map fd)|none=>∃m',m'<m/\i+1<=cs.length/\m'=cs.length - (i+1)/\aA H H4/\eJ H4 acc (((cs.take (i+1)).filter pf).map fd))
    (List.getElem_mem iF) sm (hd.keeps sm)
    (fun hp y H4 s4 d4=>⟨cs.length - (i+1),by omega,iF,rfl,sm.trans s4,by
     rw [FU,ON,Da]
     simp only [NE,hp,if_true,Aav,EO,AaR]
     exact eJ.append (lg.keeps s4) (.cons d4 .nil)⟩)
    (fun hp H3 s3=>⟨cs.length - (i+1),by omega,iF,rfl,sm.trans s3,by
     rw [FU,ON,Da]
     simp only [NE,hp,IN,if_false,Aav,AaR,Mo]
     exact lg.keeps s3⟩)
end
def Kf (scope sc:Scope) (N M:List Str):Bool:=
 (scope.kind==.function)&&scope.names.all (fun y=>y.2 !=.cell)&&scope.names.all (fun y=>y.2 !=.local||scope.names.lookup y.1==some .local)&&
  scope.names.all (fun y=>y.2 !=.free||(sc.names.lookup y.1==some .cell||sc.names.lookup y.1==some .free))&&(M.length==N.length)&&
  (M.zip N).all fun p=>(p.1==p.2&&scope.names.lookup p.1==some .free)||scope.names.lookup p.1==none
theorem lcn {X:Cx} {T M:List Str} {scope:Scope} (sc:Scope) (N:List Str) (hs:X.env.scope=sc) (hN:X.N=N) (h:Kf scope sc N M=true):uf X T M scope:=by
 unfold Kf at h
 simp only [RI,List.all_eq_true,Bool.or_eq_true,bne_iff_ne,beq_iff_eq,ne_eq] at h
 obtain⟨⟨⟨⟨⟨h1,h2⟩,h3⟩,h4⟩,h5⟩,h6⟩:=h
 refine⟨h1,h2,fun y hy e=>?_,fun y hy e=>?_,by rw [hN];exact h5,fun i x hx=>?_⟩
 . rcases h3 y hy with z|z
   . exact absurd e z
   . exact z
 . rw [hs]
   rcases h4 y hy with z|z
   . exact absurd e z
   . exact z
 . have hi:i<M.length:=(AS.mp hx).1
   have hiN:i<N.length:=by omega
   have hz:(M.zip N)[i]? =some (x,N[i]):=by
    rw [List.getElem?_zip_eq_some]
    exact⟨hx,AC hiN⟩
   rcases h6 _ (B0 hz) with⟨a,b⟩|a
   . left
     refine⟨?_,b⟩
     rw [hN,AC hiN]
     have a':x=N[i]:=a
     rw [a']
   . exact .inr a
section
variable {σ:St} {H:Hp} {Q:VK} {D:Ends} {K:At} {p:Addr} {v:V} {ds:List BB}
theorem Qi {z:Str} {i:Int} {c:Nat} (hl:z.length<=Ev) (hi:zg z.cps.toList i=some c) (h:Q (.str ⟨#[c]⟩) H):Tb K (.str z) (.int i) H Q:=.inl (.inr ⟨z,i,c,rfl,rfl,hl,hi,h⟩)
def Vy:R2:=fun x y H Q=>∃i j,x=.str i/\y=.str j/\i.length+j.length<=Ev/\Q (.str (i++j)) H
theorem T2 {X:Cx}:rD X (WF .Add) Vy:=Hs
theorem Jf {i j:Str} (hl:i.length+j.length<=4000) (h:Q (.str (i++j)) H):Vy (.str i) (.str j) H Q:=⟨i,j,rfl,rfl,small hl,h⟩
theorem Ia {R:Bool->Prop} (hp:Dv H v (.list ds)) (h:R (!ds.isEmpty)):∃k,Gd K v H k/\R k:=by
 obtain⟨p,xs,rfl,e,dv⟩:=hp.lst_inv
 refine⟨_,.inl ⟨xs,e K,rfl⟩,?_⟩
 have:xs.isEmpty=ds.isEmpty:=by cases dv <;>rfl
 rw [this];exact h
def KO (K:At):List V->Hp->VK->Prop:=fun xs H Q=>∃p ys,xs=[.ref p]/\(iN K H p ys\/zQ K H p ys)/\∀l,H l=none->Q (.ref l) (upd H l (.lst ys))
theorem GV {X:Cx}:nk X (.type "list") (KO X.K):=D3
theorem Qr (hp:Dv H v (.list ds)) (i:ej ds=true) (k:∀q H',aA H H'->H q=none->eF H' q ds->Q (.ref q) H'):KO K [v] H Q:=by
 obtain⟨p,xs,rfl,e,dv⟩:=hp.lst_inv
 exact⟨p,xs,rfl,.inl (e K),fun l hl=>k l _ (dX hl) hl (zR hl dv i)⟩
theorem afD {α:Type} {cs:List α} {gd:α->BB} {g:TG} {tb:TS} (hl:Dv H v (.list (cs.map gd))) (Pv:Nat->St->Hp->Prop) (h0:Pv 0 σ H) (hk:∀i σ H',i<=cs.length->Pv i σ H'->∀a xs,v=.ref a->iN K H a xs->iN K H' a xs)
 (hs:∀i c x σ H',cs[i]? =some c->Pv i σ H'->(Dc (gd c)=true->(∀a xs,H a=some (.tup xs)->H' a=some (.tup xs))->Dv H' x (gd c))->(aA H H'->Dv H' x (gd c))->g x σ H' fun σ2 H2=>tb {D with nx:=Pv (i+1),ct:=Pv (i+1),bk:=D.nx} σ2 H2) (hd:∀σ H',Pv cs.length σ H'->D.nx σ H'):R1 K v g tb D σ H:=by
 obtain⟨p,xs,rfl,e,dv⟩:=hl.lst_inv
 have MY:xs.length=cs.length:=by rw [dv.length,AL]
 refine forL (e K) Pv h0 (fun i σ H' hi hp=>hk i σ H' (by omega) hp p xs rfl (e K)) (fun i x σ H' hx hp=>?_) (fun σ H' hp=>hd σ H' (by rw [<-MY];exact hp))
 have hi:i<cs.length:=by have:=(AS.mp hx).1;omega
 obtain⟨x',u3,rE⟩:=dv.get (i:=i) (d:=gd cs[i]) (by rw [EU,AC hi];rfl)
 rw [hx] at u3
 cases u3
 exact hs i cs[i] x σ H' (AC hi) hp (fun im t=>rE.zq t im) (fun s=>rE.keeps s)
end
end L2
namespace L2
end L2
namespace L2
open PySem
theorem Ph {α β:Type} [Inhabited α] {f:α->β} {xs:List α} {i:Int} (h0:0<=i) (h1:i<xs.length):zg (xs.map f) i=some (f (xs.getD i.toNat default)):=by
 obtain⟨m,rfl⟩:=Aar h0
 have hm:m<xs.length:=by omega
 refine zV ?_
 rw [EU,AC hm]
 simp [hm]
theorem Wy {α:Type} {g:α->BB} {xs:List α} {K:At} {H:Hp} {Q:VK} {v:V} (hs:Dv H v (.list (xs.map g))) (h:Q (.int (xs.length:Nat)) H):J5 K [v] H Q:=NW (.inr hs) (by rw [AL];exact h)
theorem S5 {i:Nat} {v:V} {σ:St} {H:Hp} {R:St->Hp->Prop} (h:R (σ.set i (some v)) H):ml i v σ H R:=h
theorem Mv.J4 {p:Addr} {H H1 H2:Hp} (s:aA H H1) (m:Mv [p] H1 H2) (n:H p=Option.none):aA H H2:=fun a o e=>m.kp a o (Oy (aC e n)) (s a o e)
theorem Mv.sq {K:At} {S:List Addr} {H H':Hp} {a:Addr} {xs:List V} (m:Mv S H H') (n:a∉S) (h:iN K H a xs):iN K H' a xs:=by
 rcases h with(h|⟨o,h⟩)|h
 . exact .inl (.inl (m.at n h))
 . exact .inl (.inr ⟨o,m.at n h⟩)
 . exact .inr h
theorem Yr {K:At} {H:Hp} {v:V} {R:Bool->Prop} (hp:Dv H v (.list [])) (h:R false):∃k,Gd K v H k/\R k:=Ia hp h
theorem X6 {K:At} {H:Hp} {v:V} {ds:List BB} {R:Bool->Prop} (hp:Dv H v (.list ds)) (hn:ds≠[]) (h:R true):∃k,Gd K v H k/\R k:=Ia hp (by
 cases ds with
 |nil=>exact absurd rfl hn
 |cons d ds=>exact h)
theorem BW {te:TE} {N:Option V->Hp->Prop} {σ2:St} {b:Bool} {H3:Hp} (h1:b=true->te σ2 H3 (fun y H4=>N (some y) H4)) (h2:b=false->N none H3):LCT te N σ2 b H3:=by
 unfold LCT
 cases b with
 |true=>rw [if_pos rfl];exact h1 rfl
 |false=>rw [if_neg (by simp)];exact h2 rfl
end L2
namespace L2
open PySem PySem.Spec PyProof.Rows
section
variable {X:Cx} {K:At} {a b e:Expr} {es:List Expr} {ta:TE} {pos:Pos}
theorem La (h:X.K=K) (ha:PE X a ta) (he:∀whole,isTrue a X.env whole=(do let v <-whole;Aa9 a.pos;Aba [v] (truthy v))):PT X a (fun σ H Q=>ta σ H fun x H'=>∃k,Gd K x H' k/\Q k H'):=by rw [<-h];exact bx ha he
theorem JR {k:Nat} {t:Oj} {n:Nat} (h:X.K=K) (hc:X.calm=true) (hs:PGs X es t) (hn:(AaD es X.env).length=n:=by rfl) (se:(AaD es X.env).findIdx? (·.1)=none:=by rfl):PG X (.Tuple es k pos) (Jp K n t):=by rw [<-h];exact EJ hc hs hn se
theorem z6 {f:Str} (h:X.K=K) (ha:PE X a ta) (hb:T0 a f X.env (eval a X.env)=eval a X.env:=by rfl):PE X (.Attribute a f pos) (XR K ta f):=by rw [<-h];exact aq ha hb
end
end L2
namespace L2
open PySem PySem.Spec PyProof.Rows PySem.W
inductive nQ (H:Hp):List (Key × V)->List (Str × BB)->Prop where
 |nil:nQ H [] []
 |cons {k:Str} {v:V} {d:BB} {kvs:List (Key × V)} {m:List (Str × BB)} (h:Dv H v d) (i:Dc d=true) (r:nQ H kvs m):nQ H ((.inr k,v)::kvs) ((k,d)::m)
theorem nQ.zq {H H':Hp} (t:∀a xs,H a=some (.tup xs)->H' a=some (.tup xs)):∀{kvs:List (Key × V)} {m:List (Str × BB)},nQ H kvs m->nQ H' kvs m
 |_,_,.nil=>.nil
 |_,_,.cons h i r=>.cons (h.zq t i) i (nQ.zq t r)
theorem nQ.length {H:Hp}:∀{kvs:List (Key × V)} {m:List (Str × BB)},nQ H kvs m->kvs.length=m.length
 |_,_,.nil=>rfl
 |_,_,.cons _ _ r=>by simp [nQ.length r]
def uq (m:List (Str × BB)) (k:Str):Option BB:=(m.find? fun kv=>decide (kv.1=k)).map (·.2)
def putD (m:List (Str × BB)) (k:Str) (d:BB):List (Str × BB):=if (m.any fun kv=>decide (kv.1=k))=true then m.map (fun kv=>if kv.1=k then (kv.1,d) else kv) else m++[(k,d)]
def tK (m:List (Str × BB)) (k:Str):List (Str × BB):=m.filter fun kv=>decide (kv.1≠k)
theorem J6 {a b:Str}:((WS a:Key)=WS b)=(a=b):=propext ⟨fun h=>AaB h,fun h=>by rw [h]⟩
theorem nQ.val {H:Hp} {k:Str}:∀{kvs:List (Key × V)} {m:List (Str × BB)},nQ H kvs m->(∀d,uq m k=some d->∃v,lu kvs (.inr k)=some v/\Dv H v d)/\(uq m k=none->lu kvs (.inr k)=none)
 |_,_,.nil=>⟨fun d h=>by simp [uq] at h,fun _=>rfl⟩
 |_,_,.cons (k:=j) h i r=>by
  obtain⟨h1,h2⟩:=nQ.val (k:=k) r
  by_cases e:j=k
  . subst e
    refine⟨fun d hd=>⟨_,oR rfl,?_⟩,fun hd=>by simp [uq] at hd⟩
    simp [uq] at hd
    subst hd;exact h
  . have e':(WS j:Key)≠.inr k:=fun z=>e (AaB z)
    have el:∀(d:BB) (m:List (Str × BB)),uq ((j,d)::m) k=uq m k:=fun d m=>by simp [uq,Q2,e]
    refine⟨fun d hd=>?_,fun hd=>?_⟩
    . rw [el] at hd
      obtain⟨v,hv,rE⟩:=h1 d hd
      exact⟨v,by rw [lE e'];exact hv,rE⟩
    . rw [el] at hd
      rw [lE e'];exact h2 hd
theorem nQ.any {H:Hp} {k:Str}:∀{kvs:List (Key × V)} {m:List (Str × BB)},nQ H kvs m->(kvs.any fun kv=>decide (kv.1=.inr k))=m.any fun kv=>decide (kv.1=k)
 |_,_,.nil=>rfl
 |_,_,.cons h i r=>by
  simp only [Aa2,nQ.any r,J6]
theorem nQ.append {H:Hp}:∀{kvs aaC:List (Key × V)} {m m':List (Str × BB)},nQ H kvs m->nQ H aaC m'->nQ H (kvs++aaC) (m++m')
 |_,_,_,_,.nil,s=>s
 |_,_,_,_,.cons h i r,s=>.cons h i (nQ.append r s)
theorem nQ.repl {H:Hp} {k:Str} {v:V} {d:BB} (hv:Dv H v d) (hi:Dc d=true):∀{kvs:List (Key × V)} {m:List (Str × BB)},nQ H kvs m->nQ H (kvs.map fun kv=>if kv.1=.inr k then (kv.1,v) else kv) (m.map fun kv=>if kv.1=k then (kv.1,d) else kv)
 |_,_,.nil=>.nil
 |_,_,.cons (k:=j) h i r=>by
  rw [EO,EO]
  by_cases e:j=k
  . subst e
    rw [if_pos rfl,if_pos rfl]
    exact .cons hv hi (nQ.repl hv hi r)
  . rw [if_neg (fun z=>e (AaB z)),if_neg e]
    exact .cons h i (nQ.repl hv hi r)
theorem nQ.put {H:Hp} {k:Str} {v:V} {d:BB} {kvs:List (Key × V)} {m:List (Str × BB)} (r:nQ H kvs m) (hv:Dv H v d) (hi:Dc d=true):nQ H (putK kvs (.inr k) v) (putD m k d):=by
 unfold putK putD
 rw [r.any]
 by_cases h:(m.any fun kv=>decide (kv.1=k))=true
 . rw [if_pos h,if_pos h];exact r.repl hv hi
 . rw [if_neg h,if_neg h];exact r.append (.cons hv hi .nil)
theorem nQ.drop {H:Hp} {k:Str}:∀{kvs:List (Key × V)} {m:List (Str × BB)},nQ H kvs m->nQ H (lD kvs (.inr k)) (tK m k)
 |_,_,.nil=>.nil
 |_,_,.cons (k:=j) h i r=>by
  by_cases e:j=k
  . subst e
    have:=nQ.drop (k:=j) r
    simpa [lD,tK] using this
  . have:=nQ.drop (k:=k) r
    have e':(WS j:Key)≠.inr k:=fun z=>e (AaB z)
    simp only [lD,tK,NE] at this ⊢
    rw [if_pos (by simpa using e'),if_pos (by simpa using e)]
    exact .cons h i this
def nW (H:Hp) (p:Addr) (m:List (Str × BB)):Prop:=∃kvs,H p=some (.dK kvs)/\nQ H kvs m
theorem nW.keeps {H H':Hp} {p:Addr} {m:List (Str × BB)} (s:aA H H') (h:nW H p m):nW H' p m:=let ⟨kvs,e,d⟩:=h;⟨kvs,s _ _ e,d.zq fun a xs e=>s _ _ e⟩
theorem nW.mv {S:List Addr} {H H':Hp} {p:Addr} {m:List (Str × BB)} (v:Mv S H H') (n:p∉S) (h:nW H p m):nW H' p m:=let ⟨kvs,e,d⟩:=h;⟨kvs,v.at n e,d.zq v.tp⟩
section
variable {σ:St} {H:Hp} {Q:VK} {D:Ends} {K:At} {p:Addr} {m:List (Str × BB)} {k:Str}
theorem WO (h:∀p H2,aA H H2->H p=none->nW H2 p []->Q (.ref p) H2):QJ σ H Q:=fun p hp=>h p _ (dX hp) hp ⟨[],av,.nil⟩
theorem S2 {td ty tv:TE} (h:tv σ H fun v H1=>td σ H1 fun x H2=>ty σ H2 fun y H3=>∃a H4,x=.ref a/\Cz H3 a y v H4/\D.nx σ H4):U5 td ty tv D σ H:=h
theorem OY {v:V} {d:BB} {R:Hp->Prop} (hp:nW H p m) (hl:m.length<=4000) (hv:Dv H v d) (hi:Dc d=true) (h:∀H2,Mv [p] H H2->nW H2 p (putD m k d)->R H2):∃a H4,V.ref p=.ref a/\Cz H a (.str k) v H4/\R H4:=by
 obtain⟨kvs,e,dk⟩:=hp
 have mv:Mv [p] H (upd H p (.dK (putK kvs (.inr k) v))):=.aV e (by intro _ z;cases z)
 exact⟨p,_,rfl,Cz.k (k:=.inr k) e (by rw [dk.length];exact iP hl),h _ mv ⟨_,av,(dk.put hv hi).zq mv.tp⟩⟩
theorem Ti {td ty:TE} (h:td σ H fun x H1=>ty σ H1 fun y H2=>∃a v,x=.ref a/\ip H2 a y (some v)/\Q v H2):Ve td ty σ H Q:=h
theorem XG {d:BB} {R:V->Prop} (hp:nW H p m) (hk:uq m k=some d) (h:AB H d fun v _=>R v):∃a v,V.ref p=.ref a/\ip H a (.str k) (some v)/\R v:=by
 obtain⟨kvs,e,dk⟩:=hp
 obtain⟨v,hv,hd⟩:=(dk.val (k:=k)).1 d hk
 exact⟨p,v,rfl,by rw [<-hv];exact ip.k (k:=.inr k) e,h.use hd⟩
theorem Wu {td ty:TE} (h:ty σ H fun y H1=>td σ H1 fun x H2=>∃a o,x=.ref a/\ip H2 a y o/\Q (.bl o.isSome) H2):abI ty td σ H Q:=h
theorem Ru {td ty:TE} (h:ty σ H fun y H1=>td σ H1 fun x H2=>∃a o,x=.ref a/\ip H2 a y o/\Q (.bl (!o.isSome)) H2):JA ty td σ H Q:=h
theorem ab4 (hp:nW H p m) (k:Str):∃o,ip H p (.str k) o/\o.isSome=(uq m k).isSome:=by
 obtain⟨kvs,e,dk⟩:=hp
 refine⟨lu kvs (.inr k),ip.k (k:=.inr k) e,?_⟩
 obtain⟨h1,h2⟩:=dk.val (k:=k)
 cases hl:uq m k with
 |none=>rw [h2 hl];rfl
 |some d=>obtain⟨v,hv,_⟩:=h1 d hl;rw [hv];rfl
theorem aaz {R:Option V->Prop} (hp:nW H p m) (h:∀o:Option V,o.isSome=(uq m k).isSome->R o):∃a o,V.ref p=.ref a/\ip H a (.str k) o/\R o:=by
 obtain⟨o,g,e⟩:=ab4 hp k
 exact⟨p,o,rfl,g,h o e⟩
theorem RB {r r':R2} {ta tb tc:TE} (h:ta σ H fun x H1=>tb σ H1 fun y H2=>r x y H2 fun z H3=>∃k,z=.bl k/\if k=true then tc σ H3 fun u H4=>r' y u H4 Q else Q (.bl false) H3):OQ r r' ta tb tc σ H Q:=h
def ow:Option Int->V|none=>.a9|some i=>.int i
end
end L2
namespace L2
theorem afP {t:TE} {σ:St} {H:Hp} {Q:Bool->Hp->Prop} (h:t σ H fun x H'=>∃k,x=.bl k/\Q k H'):tB t σ H Q:=h
end L2
namespace L2
open PySem
theorem Ku {Hb:Hp} {σ:St} {H:Hp} {D:Ends} {K:At} {v:V} {α:Type} {cs:List α} {gd:α->BB} {g:TG} {tb:TS} (hl:Dv Hb v (.list (cs.map gd))) (Pv:Nat->St->Hp->Prop) (h0:Pv 0 σ H) (hk:∀i σ H',i<=cs.length->Pv i σ H'->∀a xs,v=.ref a->iN K Hb a xs->iN K H' a xs)
 (hs:∀i c x σ H',cs[i]? =some c->Pv i σ H'->(Dc (gd c)=true->(∀a xs,Hb a=some (.tup xs)->H' a=some (.tup xs))->Dv H' x (gd c))->(aA Hb H'->Dv H' x (gd c))->g x σ H' fun σ2 H2=>tb {D with nx:=Pv (i+1),ct:=Pv (i+1),bk:=D.nx} σ2 H2) (hd:∀σ H',Pv cs.length σ H'->D.nx σ H'):R1 K v g tb D σ H:=by
 obtain⟨p,xs,rfl,e,dv⟩:=hl.lst_inv
 have MY:xs.length=cs.length:=by rw [dv.length,AL]
 refine forL (hk 0 σ H (IR _) h0 p xs rfl (e K)) Pv h0 (fun i σ H' hi hp=>hk i σ H' (by omega) hp p xs rfl (e K)) (fun i x σ H' hx hp=>?_) (fun σ H' hp=>hd σ H' (by rw [<-MY];exact hp))
 have hi:i<cs.length:=by have:=(AS.mp hx).1;omega
 obtain⟨x',u3,rE⟩:=dv.get (i:=i) (d:=gd cs[i]) (by rw [EU,AC hi];rfl)
 rw [hx] at u3
 cases u3
 exact hs i cs[i] x σ H' (AC hi) hp (fun im t=>rE.zq t im) (fun s=>rE.keeps s)
end L2
namespace L2
open PySem PySem.Spec PyProof.Rows PySem.W
section
variable {X:Cx} {tg:Expr}
section
variable {σ:St} {H:Hp} {Q:VK} {D:Ends} {K:At}
end
end
end L2
namespace L2
open PySem
section
variable {H:Hp} {Q:VK} {K:At}
end
end L2
namespace L2
open PySem PySem.Spec PyProof.Rows PySem.W
section
variable {X:Cx}
end
section
variable {σ:St} {H:Hp} {Q:VK} {D:Ends} {K:At} {p:Addr} {ds:List BB}
theorem eJ.drop {H:Hp}:∀{xs:List V} {ds:List BB} (n:Nat),eJ H xs ds->eJ H (xs.drop n) (ds.drop n)
 |_,_,0,h=>h
 |_,_,_+1,.nil=>.nil
 |_,_,n+1,.cons _ r=>eJ.drop n r
theorem eJ.take {H:Hp}:∀{xs:List V} {ds:List BB} (n:Nat),eJ H xs ds->eJ H (xs.take n) (ds.take n)
 |_,_,0,_=>.nil
 |_,_,_+1,.nil=>.nil
 |_,_,n+1,.cons h r=>.cons h (eJ.take n r)
theorem Jo {q:Addr} {es:List BB} (hp:eF H p ds) (hq:eF H q es) (hl:ds.length+es.length<=4000) (k:∀r H',aA H H'->H r=none->eF H' r (ds++es)->Q (.ref r) H'):abh (.ref p) (.ref q) H Q:=by
 obtain⟨xs,e,dv,im⟩:=hp
 obtain⟨zs,e2,ZF,im2⟩:=hq
 refine⟨p,q,xs,zs,rfl,rfl,e,e2,by rw [dv.length,ZF.length];exact small hl,fun r hr=>?_⟩
 exact k r _ (dX hr) hr (zR hr (dv.append ZF) (gR im im2))
end
end L2
namespace L2
open PySem PySem.Calls PyProof.Rows
section
variable {X:Cx} {e k:Expr} {te tk:TE} {pos p2:Pos}
end
section
variable {X:Cx}
end
section
variable {K:At} {σ:St} {H:Hp} {Q:VK} {p:Addr} {ds:List BB}
end
end L2
namespace L2
open PySem PySem.Spec PyProof.Rows PySem.W
section
variable {X:Cx}
def UpS (ss:List Str):Prop:=ss.Pairwise fun a b=>Fs b a=false
theorem xP:∀(r:List Str) (p:Str),risingS p r=true->(∀x∈r,Fs x p=false)/\UpS r
 |[],_,_=>⟨fun x hx=>(by cases hx),Abz⟩
 |y::r,p,h=>by
  unfold risingS at h
  rw [RI] at h
  obtain⟨h1,h2⟩:=h
  have Rl:Fs y p=false:=by
   have:ltCps y.cps.toList p.cps.toList=false:=by simpa using h1
   rw [ltCps_eq] at this
   exact this
  obtain⟨a,b⟩:=xP r y h2
  refine⟨fun x hx=>?_,Aau.mpr ⟨a,b⟩⟩
  rcases AE.mp hx with rfl|hx
  . exact Rl
  . exact Kp (a x hx) Rl
theorem DP {ss:List Str} (h:sortedS ss=true):UpS ss:=by
 cases ss with
 |nil=>exact Abz
 |cons x r=>obtain⟨a,b⟩:=xP r x h;exact Aau.mpr ⟨a,b⟩
theorem DG:∀{us:List Value} {ss:List Str},StrsAre us ss->Vals (ss.map V.str) us
 |_,_,.nil=>.nil
 |_,_,.cons _ t r=>.cons ⟨t,rfl⟩ (DG r)
theorem F8 {H:Hp}:∀(ss:List Str),eJ H (ss.map V.str) (ss.map GM)
 |[]=>.nil
 |x::r=>.cons (.str x) (F8 r)
end
section
variable {prog:Fa} {w:World} {A:IF} {E:Value->AM->Prop} {s:AM} {it l:Addr} {bh:Array Value}
end
section
variable {X:Cx} {e:Expr} {te:TE} {p p2 pos afy:Pos}
end
section
variable {K:At} {σ:St} {H:Hp} {Q:VK} {p:Addr} {ds:List BB} {v:V}
end
section
variable {P:Fa} {w:World} {H:Hp} {h:Heap} {d:Addr} {o:Obj} {kvs:List (Key × V)}
theorem rq.tT (ok:rq P w H h) (hd:H d=some (.dK kvs)) (ho:h.get? d=some o):rq P w (upd H d (.tT o (.dK kvs))) h:=by
 intro b u q
 by_cases hb:b=d
 . subst hb
   rw [av] at q
   cases q
   exact⟨ho,ok b _ hd⟩
 . rw [ay hb] at q
   refine(ok b u q).rB (fun c v _ r=>r) (fun c r=>?_) fun c xs r=>?_
   . rw [ay (oY r hd (by intro z;cases z))];exact r
   . rw [ay (oY r hd (by intro z;cases z))];exact r
theorem rq.XB (ok:rq P w H h) (hd:H d=some (.tT o (.dK kvs))):rq P w (upd H d (.dK kvs)) h:=by
 intro b u q
 by_cases hb:b=d
 . subst hb
   rw [av] at q
   cases q
   exact(ok b _ hd).2
 . rw [ay hb] at q
   refine(ok b u q).rB (fun c v _ r=>r) (fun c r=>?_) fun c xs r=>?_
   . rw [ay (oY r hd (by intro z;cases z))];exact r
   . rw [ay (oY r hd (by intro z;cases z))];exact r
end
section
variable {X:Cx} {pins:List (Addr × Obj)} {σ:St} {H:Hp} {s:AM} {d:Addr} {o:Obj} {kvs:List (Key × V)}
theorem Inv.freeze (I:Inv X pins σ H s) (hd:H d=some (.dK kvs)) (ho:s.heap.get? d=some o):Inv X pins σ (upd H d (.tT o (.dK kvs))) s:=by
 have u:Un X.fs [] H (upd H d (.tT o (.dK kvs))) s.heap s.heap:={
  keep:=fun b u e n _ _=>e
  slot:=fun b u e n _ _=>⟨u.slots,e⟩
  free:=fun b u e n _=>by rw [ay (LH (aC hd n))];exact n
  there:=fun b u e _=>⟨u,e⟩
  wX:=fun b xs e=>by rw [ay (oY e hd (by intro z;cases z))];exact e
  uk:=fun b u v e=>by rw [ay (oY e hd (by intro z;cases z))];exact e
  zC:=fun b ps e=>⟨#[],by rw [ay (oY e hd (by intro z;cases z)),e];simp⟩}
 exact I.un (h':=s.heap) (t':=s.toks) u (I.bE.tT hd ho)
theorem Inv.XB (I:Inv X pins σ H s) (hd:H d=some (.tT o (.dK kvs))) (h0:∀u v,X.HC d≠some (.tT u v)):Inv X pins σ (upd H d (.dK kvs)) s:=by
 have nn:∀b,H b=none->upd H d (.dK kvs) b=none:=fun b n=>by rw [ay (LH (aC hd n))];exact n
 refine⟨I.ok,I.os,I.bare,⟨I.base.keep,I.base.slot,fun b u e n x=>nn b (I.base.free b u e n x),I.base.there,fun b xs e=>?_,fun b u v e=>?_,fun b ps e=>?_⟩,I.loc,I.cell,nn _ I.free,fun x c e=>nn c (I.ni x c e),fun p hp=>?_,I.bE.XB hd,I.len⟩
 . have z:=I.base.wX b xs e
   rw [ay (oY z hd (by intro q;cases q))];exact z
 . have z:=I.base.uk b u v e
   have hb:b≠d:=fun q=>h0 u v (q▸e)
   rw [ay hb];exact z
 . obtain⟨m,z⟩:=I.base.zC b ps e
   exact⟨m,by rw [ay (oY z hd (by intro q;cases q))];exact z⟩
 . obtain⟨a1,a2,a3⟩:=I.pin p hp
   exact⟨a1,nn _ a2,a3⟩
theorem Inv.acK (I:Inv X pins σ H s) (hd:H d=some (.dK kvs)):∀u v,X.HC d≠some (.tT u v):=fun u v z=>by
 have:=I.base.uk d u v z
 rw [hd] at this
 cases this
def VC (t:TE):TE:=fun σ H Q=>∃d kvs,H d=some (.dK kvs)/\t σ H fun v H'=>(∃o,H' d=some (.tT o (.dK kvs)))/\Q v (upd H' d (.dK kvs))
theorem Sj {e:Expr} {t:TE} (h:PE X e t):PE X e (VC t):=by
 intro pins s σ H Q I ⟨d,kvs,hd,ht⟩
 have h0:=I.acK hd
 exact dE (h pins s σ H _ I ht) fun v s1 ⟨x,H1,I1,r,⟨o,ho⟩,q⟩=>⟨x,_,I1.XB ho h0,r,q⟩
end
theorem KA {P:Fa} {w:World} {H:Hp} {h:Heap} {d:Addr} {o:Obj} {kvs:List (Key × V)} {es:Array DictEntry} {ep:Nat} (ok:rq P w H h) (hd:H d=some (.tT o (.dK kvs))) (he:o.data=.dict es ep):(d==Sc)=false/\∃vs,KV kvs vs/\h.DictAt (bb P w) d vs ep:=by
 obtain⟨ho,_,hs,vs,kv,o2,es2,ep2,a1,a2,a3,a4⟩:=ok d _ hd
 rw [ho] at a1
 cases a1
 rw [he] at a3
 cases a3
 exact⟨hs,vs,kv,_,_,ho,a2,he,a4⟩
theorem vR {α β:Type} {F:α->β->Prop}:∀{xs:List α} {ys:List β},AbH F xs ys->∀{i:Nat} {x:α},xs[i]? =some x->∃y,ys[i]? =some y/\F x y
 |_,_,.nil,i,x,h=>by simp at h
 |_,_,.cons r t,0,x,h=>by
  have e:=CC h
  exact⟨_,rfl,e▸r⟩
 |_,_,.cons r t,i+1,x,h=>by
  obtain⟨y,e,q⟩:=vR t (i:=i) (by simpa using h)
  exact⟨y,by simpa using e,q⟩
theorem Gz {k:Key} {v:Value} (h:A9 k v=true):RelV (kV k) v:=by
 rcases de h with⟨i,t,rfl,rfl⟩|⟨x,t,rfl,rfl⟩
 . exact⟨t,rfl⟩
 . exact⟨t,rfl⟩
def DRd (H:Hp) (p:Addr) (m:List (Str × BB)):Prop:=∃kvs,Rd H p (.dK kvs)/\nQ H kvs m
theorem nW.rd {H:Hp} {p:Addr} {m:List (Str × BB)} (h:nW H p m):DRd H p m:=let ⟨kvs,e,d⟩:=h;⟨kvs,.inl e,d⟩
theorem nQ.Ue {H:Hp}:∀{kvs:List (Key × V)} {m:List (Str × BB)},nQ H kvs m->∀{i:Nat} {kv:Key × V},kvs[i]? =some kv->∃k d,m[i]? =some (k,d)/\kv.1=.inr k/\Dv H kv.2 d
 |_,_,.nil,i,kv,h=>by simp at h
 |_,_,.cons (k:=k) (d:=d) hv _ r,0,kv,h=>by
  have e:=(CC h).symm
  subst e
  exact⟨k,d,rfl,rfl,hv⟩
 |_,_,.cons _ _ r,i+1,kv,h=>by
  obtain⟨k,d,e,q⟩:=nQ.Ue r (i:=i) (by simpa using h)
  exact⟨k,d,by simpa using e,q⟩
section
variable {σ:St} {H:Hp} {Q:VK} {K:At} {p:Addr} {m:List (Str × BB)} {k:Str}
end
section
variable {X:Cx}
def Kg:V->List V->Hp->VK->Prop:=fun x vs H Q=>∃a kvs k v,x=.ref a/\vs=[kV k]/\H a=some (.dK kvs)/\lu kvs k=some v/\Q v (upd H a (.dK (lD kvs k)))
theorem qk:Zd X "dict.pop" Kg:=by
 intro pins s σ H x vs v us Q I rx rv h
 obtain⟨a,kvs,k,y,rfl,rfl,hH,hv,q⟩:=h
 cases rx
 obtain⟨u,rfl,ru⟩:=rv.one
 exact Z9 I hH ru hv (.inl rfl) fun w' s' I' r=>⟨y,_,I',r,q⟩
end
section
variable {σ:St} {H:Hp} {Q:VK} {K:At} {p:Addr} {m:List (Str × BB)} {k:Str}
theorem Hl {R:Prop} (hp:nW H p m) (h:R):UE K "dict" (.ref p) H/\R:=let ⟨kvs,e,_⟩:=hp;⟨.inr (.inr (.inl ⟨rfl,.inl ⟨kvs,e⟩⟩)),h⟩
theorem Eo {d:BB} (hp:nW H p m) (hk:uq m k=some d) (h:∀v H2,Mv [p] H H2->nW H2 p (tK m k)->Q v H2):Kg (.ref p) [.str k] H Q:=by
 obtain⟨kvs,e,dk⟩:=hp
 obtain⟨v,hv,hd⟩:=(dk.val (k:=k)).1 d hk
 have mv:Mv [p] H (upd H p (.dK (lD kvs (.inr k)))):=.aV e (by intro _ z;cases z)
 refine⟨p,kvs,.inr k,v,rfl,rfl,e,hv,h v _ mv ⟨_,av,dk.drop.zq mv.tp⟩⟩
end
section
variable {σ:St} {H:Hp} {Q:VK} {K:At} {p:Addr}
end
section
variable {X:Cx}
end
theorem Av {h:Heap} {o u:Obj} {b:Addr} (e:(h.push o).get? b=some u) (n:b≠h.objs.size):h.get? b=some u:=by
 obtain⟨e1,e2⟩:=Heap.get?_some_iff.mp e
 refine Heap.get?_some_iff.mpr ⟨?_,e2⟩
 cases h
 simpa [Heap.push,Array.getElem?_push,n] using e1
section
variable {prog:Fa} {w:World} {K:Type} [DecidableEq K] {knd:KeyKind prog w K} {A:IF} {E:Value->AM->Prop} {s:AM} {d:Addr} {kvs:List (K × Value)} {ep:Nat}
theorem Qz {R:Result->AM->Prop} (hh:A.handled=none) (hd:(d==Sc)=false) (y:Addr) (c0:Nat) (hz:kvs.length<=Ev) (hm:s.heap.DictAt knd d kvs ep)
 (hy:s.heap.get? y=some {cls:=.type "list",data:=.seq #[] c0}) (hyd:y≠d)
 (hR:∀s' acc c,s'.gens=s.gens->s'.drawn=s.drawn->s'.os=s.os->(∀b o,b≠y->s.heap.get? b=some o->s'.heap.get? b=some o)->s'.heap.get? y=some {cls:=.type "list",data:=.seq acc c}->ItemsOf (fun i v=>∃k x,kvs[i]? =some (k,x)/\knd.is k v=true) acc kvs.length->R (.ok (.ret .none)) s'):
 wpAny (model prog w) A.in1 (Zl (.ref y) (.ref d) .none)
  (fun f s'=>match f with| .done g=>R (.ok g) s'| .again c=>c.quiet=true/\AbE (model prog w) A c R s') (fun e s'=>R (.error e) s') s:=by
 have hT:s.TypeIs (.ref d) "dict":=hm.dictOf.typeIs
 have hyl:y<s.heap.objs.size:=Db hy
 have hdl:d<s.heap.objs.size:=hm.lt_size
 have W:=(Walks.dictKeys (knd:=knd) (A:=A.in1) hh s.heap.objs.size d (ES hdl) kvs ep).toS
 have nf:y∉[s.heap.objs.size,d]:=by simp [hyd,ES hyl]
 unfold Zl
 refine BC (wpAny_typeOf hT ?_)
 have a1:W1.List.listSameRef (.ref y) (.ref d)=false:=by simp [W1.List.listSameRef,hyd]
 have a2:(AaC "dict"==AaC "list")=false:=by decide
 have a3:(AaC "dict"==AaC "tuple")=false:=by decide
 simp only [a1,a2,a3,Bool.or_self,IN,if_false]
 refine BC (wpAny_pyIter_dict hd hm ?_)
 refine BC (Aat ?_)
 have hT1:AM.TypeIs {s with heap:=s.heap.push {cls:=.type "dict_keyiterator",data:=.fields #[.ref d,.int 0 0,.int kvs.length 0,.int ep 0]}} (.ref d) "dict":=by
  obtain⟨o,es,e,c,_⟩:=id hm
  exact⟨o,BS _ e,c.1⟩
 unfold W1.List.listLengthHint
 refine BC (wpAny_specialOf hT1 F.slot_dict_len.lookup ?_)
 generalize hid:("dict.__len__":String)=id0
 wp_delta
 rw [show splitId id0=some ("dict","__len__") from by subst hid;decide+kernel]
 subst hid
 refine BC (wpAny_isInstance (T:="dict") (b:=true) hT1 (by rw [isSubtype_type];kernel_rfl) ?_)
 refine wpAny_ite_split (fun ZA=>absurd ZA (by decide)) (fun _=>?_)
 refine wpAny_ite_split (fun _=>?_) (fun ZA=>absurd (by decide+kernel) ZA)
 refine BC (wpAny_typeOf hT1 (FM ?_))
 show wpAny _ A.in1 (rule "list.extend.makes-room">>=fun _=>W1.List.listTouch (.ref y)>>=fun _=>
  again (.builtin "list.extend.loop" ⟨[.ref y,.ref s.heap.objs.size,.none],[]⟩)) _ _ _
 refine BC (wpAny_rule ?_)
 have hy1:=BS {cls:=.type "dict_keyiterator",data:=.fields #[.ref d,.int 0 0,.int kvs.length 0,.int ep 0]} hy
 refine BC ?_
 show wpAny _ A.in1 (updateSeq y (·.push .none)>>=fun _=>updateSeq y (·.pop)) _ _ _
 refine BC (wpAny_updateSeq hy1 rfl ?_)
 have Wo:=AaU (Lu (·.push OP)) hy1 rfl
 refine wpAny_updateSeq (hz:=by seq_fits) Wo rfl ?_
 have hy3:=AaU (Lu (·.pop)) Wo rfl
 have ot:∀b o,b≠y->(s.heap.push {cls:=.type "dict_keyiterator",data:=.fields #[.ref d,.int 0 0,.int kvs.length 0,.int ep 0]}).get? b=some o->(((s.heap.push {cls:=.type "dict_keyiterator",data:=.fields #[.ref d,.int 0 0,.int kvs.length 0,.int ep 0]}).update y (Lu (·.push OP))).update y (Lu (·.pop))).get? b=some o:=
  fun b o hb e=>(We _ _ (LH hb)).trans ((We _ _ (LH hb)).trans e)
 have it0:Heap.IsKeyIter (s.heap.push {cls:=.type "dict_keyiterator",data:=.fields #[.ref d,.int 0 0,.int kvs.length 0,.int ep 0]}) s.heap.objs.size d 0 kvs.length ep:=⟨_,EM _ rfl,rfl,rfl⟩
 refine FM ⟨plainId_quiet F.plain_extend_loop _,codeAny_extend_loopS W hz _ nf _ kvs.length 0 _ _ _ rfl (IR _) ⟨it0.at fun o e=>ot _ o (LH (ES hyl)) e,(hm.push _).at' fun o e=>ot _ o (LH hyd) e⟩ hy3 (ItemsOf.nil _) fun s' acc c hmv hs lg=>?_⟩
 refine hR s' acc c hmv.gens hmv.drawn hmv.os (fun b o hb e=>hmv.heap b o ?_ (ot b o hb (BS _ e))) hs lg
 simp [hb,ES (Db e)]
theorem Bs {Q:Value->AM->Prop} (hh:A.handled=none) (hd:(d==Sc)=false) (hz:kvs.length<=Ev) (hm:s.heap.DictAt knd d kvs ep)
 (hQ:∀s' acc c,s'.gens=s.gens->s'.drawn=s.drawn->s'.os=s.os->(∀b o,s.heap.get? b=some o->s'.heap.get? b=some o)->s'.heap.get? s.heap.objs.size=some {cls:=.type "list",data:=.seq acc c}->ItemsOf (fun i v=>∃k x,kvs[i]? =some (k,x)/\knd.is k v=true) acc kvs.length->Q (.ref s.heap.objs.size) s'):
 wpAny (model prog w) A (call (.type "list") [.ref d]) Q E s:=by
 have hdl:d<s.heap.objs.size:=hm.lt_size
 refine callType_codes (Q₁:=fun u s1=>u=.ref s.heap.objs.size/\s1={s with heap:=s.heap.push {cls:=.type "list",data:=.seq #[]}}) F.called_list (F.typeCall_list_1 _) F.entry_list_init (code_list_new _ ⟨rfl,rfl⟩) fun u s1 hu=>?_
 obtain⟨rfl,rfl⟩:=hu
 have h0:(s.heap.push {cls:=.type "list",data:=.seq #[]}).get? s.heap.objs.size=some {cls:=.type "list",data:=.seq #[]}:=EM _ rfl
 refine⟨⟨_,h0,rfl⟩,F.args_list_init_2 _ _,?_⟩
 show wpAny _ _ (W1.List.listItems (.ref s.heap.objs.size)>>=fun old=>W1.List.listUpdate (.ref s.heap.objs.size) (fun _=>#[])>>=fun _=>letGo old.toList.reverse>>=fun _=>Zl (.ref s.heap.objs.size) (.ref d) .none) _ _ _
 refine BC ?_
 unfold W1.List.listItems
 refine BC (wpAny_seqItems h0 rfl (FM (BC ?_)))
 refine wpAny_updateSeq h0 rfl (BC (wpAny_letGo ?_))
 have h2:=AaU (Lu (fun _=>(#[]:Array Value))) h0 rfl
 have ot:∀b o,b≠s.heap.objs.size->s.heap.get? b=some o->((s.heap.push {cls:=.type "list",data:=.seq #[]}).update s.heap.objs.size (Lu (fun _=>(#[]:Array Value)))).get? b=some o:=fun b o hb e=>by
  rw [We _ _ (LH hb)]
  exact BS _ e
 refine Qz (A:=A.in1) hh hd _ _ hz (hm.at' fun o e=>ot d o (ES hdl) e) h2 (LH (ES hdl)) fun s' acc c e1 e2 e3 Zz hs lg=>?_
 exact⟨rfl,hQ s' acc c e1 e2 e3 (fun b o e=>Zz b o (ES (Db e)) (ot b o (ES (Db e)) e)) hs lg⟩
end
section
variable {X:Cx}
def OB:List V->Hp->VK->Prop:=fun xs H Q=>∃p kvs,xs=[.ref p]/\Rd H p (.dK kvs)/\∀q,H q=none->Q (.ref q) (upd H q (.lst (kvs.map fun kv=>kV kv.1)))
theorem BK {P:Fa} {w:World} {kvs:List (Key × V)} {vs:List (Key × Value)} {acc:Array Value} (kv:KV kvs vs) (h:ItemsOf (fun i v=>∃k x,vs[i]? =some (k,x)/\(bb P w).is k v=true) acc vs.length):Vals (kvs.map fun kv=>kV kv.1) acc.toList:=by
 obtain⟨h0,h1⟩:=h
 have key:∀(kvs:List (Key × V)) (vs:List (Key × Value)),KV kvs vs->∀l:List Value,l.length=vs.length->(∀(i:Nat) (v:Value),l[i]? =some v->∃k x,vs[i]? =some (k,x)/\(bb P w).is k v=true)->Vals (kvs.map fun kv=>kV kv.1) l:=by
  intro kvs vs r
  induction r with
  |nil=>
   intro l hl _
   cases l with
   |nil=>exact .nil
   |cons=>simp at hl
  |cons r t ih=>
   intro l hl hi
   cases l with
   |nil=>simp at hl
   |cons v l=>
    refine .cons ?_ (ih l (by simpa using hl) fun i v e=>?_)
    . obtain⟨k,x,e,hk⟩:=hi 0 v rfl
      have e':=CC e
      dsimp only
      rw [r.1,e']
      exact Gz hk
    . exact hi (i+1) v (by simpa using e)
 exact key kvs vs kv acc.toList (by simpa using h0) fun i v e=>h1 i v (by simpa using e)
theorem Iy (hc:X.calm=true):nk X (.type "list") OB:=by
 intro pins s σ H xs us Q I rv h
 obtain⟨p,kvs,rfl,hH,q⟩:=h
 obtain⟨u,rfl,ru⟩:=rv.one
 cases ru
 have ob:c9 X.prog X.w H s.heap p (.dK kvs):=by
  rcases hH with e|⟨o,e⟩
  . exact I.bE p _ e
  . exact(I.bE p _ e).2
 obtain⟨hz,hs,vs,kv,dof⟩:=ob
 obtain⟨ep,da⟩:=dof.dictAt
 have hlen:vs.length=kvs.length:=kv.length.symm
 refine Bs (I.ok.hd hc) hs (by rw [hlen];exact hz) da fun s' acc c eg ed eo hk FQ lg=>?_
 obtain⟨h',g',d',tk',os'⟩:=s'
 have eg:g'=s.gens:=eg
 have ed:d'=s.drawn:=ed
 have eo:os'=s.os:=eo
 subst eg;subst ed;subst eo
 refine⟨.ref s.heap.objs.size,_,I.laid (t':=tk') (o:=.lst (kvs.map fun kv=>kV kv.1)) (fun b ob e=>hk b ob e) (BY _) ?_,rfl,q _ (I.bE.fresh (BY _))⟩
 exact⟨by rw [AL];exact hz,acc.toList,c,BK kv lg,by simpa using FQ⟩
end
section
variable {σ:St} {H:Hp} {Q:VK} {p:Addr} {m:List (Str × BB)}
theorem nQ.keys {H H':Hp}:∀{kvs:List (Key × V)} {m:List (Str × BB)},nQ H kvs m->eJ H' (kvs.map fun kv=>kV kv.1) ((m.map (·.1)).map GM)
 |_,_,.nil=>.nil
 |_,_,.cons _ _ r=>.cons (.str _) (nQ.keys r)
theorem yX:∀ss:List Str,ej (ss.map GM)=true
 |[]=>rfl
 |_::r=>by rw [EO,ej,yX r];rfl
theorem R7 (hp:DRd H p m) (k:∀q H',aA H H'->H q=none->eF H' q ((m.map (·.1)).map GM)->Q (.ref q) H'):OB [.ref p] H Q:=by
 obtain⟨kvs,e,dk⟩:=hp
 exact⟨p,kvs,rfl,e,fun q hq=>k q _ (dX hq) hq (zR hq dk.keys (yX _))⟩
end
theorem ur:entryFor table "dict_itemiterator.__iter__"=some W1.«dict_keyiterator.__iter__»:=
 PySem.W.kcp_entry
def Iti (d:Addr) (o:Obj) (kvs:List (Key × V)):It:=⟨fun i H=>i<kvs.length/\H d=some (.tT o (.dK kvs)),fun i H v H'=>∃t kv,kvs[i]? =some kv/\v=.ref t/\H t=none/\H'=upd H t (.tup [kV kv.1,kv.2]),fun i H=>i=kvs.length/\H d=some (.tT o (.dK kvs))⟩
theorem IV {P:Fa} {w:World} {K:At} {elts:List Expr} {x1} {pos:Pos} {it d:Addr} {o:Obj} {kvs:List (Key × V)} {es:Array DictEntry} {ep:Nat} (he:o.data=.dict es ep) (pk:d≠it):
 Turn P w K (.Tuple elts x1 pos) (Iti d o kvs) [it] it (fun i h=>∃ok ov,IsItemIter h it d i kvs.length ep ok ov) where
 mem:=by simp
 obj:=fun i h st b hb=>by
  have e:b=it:=by simpa using hb
  subst e
  obtain⟨ok,ov,e⟩:=st
  exact⟨_,e,fun v z=>by cases z⟩
 keep:=fun i h h' st k=>let ⟨ok,ov,e⟩:=st;⟨ok,ov,k it (by simp) _ e⟩
 item:=by
  intro X hP hw hK hc i pins s σ H E I hf st hg
  subst hP hw hK
  obtain⟨f0,f1,f2,f3,f4,f5⟩:=hf it (by simp)
  obtain⟨hi,hd⟩:=hg
  obtain⟨_,vs,kv,da⟩:=KA I.bE hd he
  have hl:vs.length=kvs.length:=kv.length.symm
  obtain⟨ok,ov,st⟩:=st
  obtain⟨q,hq⟩:∃q,kvs[i]? =some q:=⟨_,AC hi⟩
  obtain⟨⟨k,v⟩,hy,Wo⟩:=vR kv hq
  have NZ:it<s.heap.objs.size:=Db st
  have hn:H s.heap.objs.size=none:=I.bE.fresh (BY _)
  refine wpAny_pyNext_items_item (knd:=bb X.prog X.w) (by rw [hl];exact st) da hy fun key h' hk hit ht hz kk=>?_
  rw [hl] at hit
  refine⟨_,rfl,wpAny_letOwnedTupleGo_items (s:={s with heap:=h'}) hit fun h2 af0 sb=>?_⟩
  have I1:Inv X pins σ (upd H s.heap.objs.size (.tup [kV q.1,q.2])) {s with heap:=s.heap.push {cls:=.type "tuple",data:=.seq #[key,v]}}:=
   I.laid (t':=s.toks) (fun b u e=>BS _ e) (BY _) (show c9 X.prog X.w _ _ _ (.tup [kV q.1,q.2]) from⟨by rw [AaE];simp,[key,v],.cons (by rw [Wo.1];exact Gz hk) (.cons Wo.2 .nil),IsTup.new _ _⟩)
  have hni:upd H s.heap.objs.size (.tup [kV q.1,q.2]) it=none:=by rw [ay (ES NZ)];exact f0
  have I2:Inv X pins σ (upd H s.heap.objs.size (.tup [kV q.1,q.2])) {s with heap:=h2}:=by
   refine Inv.turned (s:={s with heap:=s.heap.push {cls:=.type "tuple",data:=.seq #[key,v]}}) (h':=h2) (t':=s.toks) (it:=it) I1 (fun b u hb e=>?_) hni f1 f3 f4 f5
   by_cases hbn:b=s.heap.objs.size
   . subst hbn
     have e0:(s.heap.push {cls:=.type "tuple",data:=.seq #[key,v]}).get? s.heap.objs.size=some {cls:=.type "tuple",data:=.seq #[key,v]}:=EM _ rfl
     have e1:=e0.symm.trans e
     cases e1
     exact(sb.2 _ hb).trans ht
   . exact(sb.2 _ hb).trans (kk b u hb (Av e hbn))
  refine⟨.ref s.heap.objs.size,_,I2,rfl,⟨_,q,hq,rfl,hn,rfl⟩,⟨_,_,af0⟩,fun b hb=>?_⟩
  have e:b=it:=by simpa using hb
  rw [e]
  exact hni
 done:=by
  intro X hP hw hK hc i pins s σ H E I hf st hg
  subst hP hw hK
  obtain⟨f0,f1,f2,f3,f4,f5⟩:=hf it (by simp)
  obtain⟨hi,hd⟩:=hg
  obtain⟨_,vs,kv,da⟩:=KA I.bE hd he
  have hl:vs.length=kvs.length:=kv.length.symm
  obtain⟨ok,ov,st⟩:=st
  refine wpAny_pyNext_items_end (knd:=bb X.prog X.w) (I.ok.hd hc) (by rw [hl];exact st) da (by rw [hi,<-hl];simp) fun h' hx=>⟨rfl,I.turned (t':=s.toks) (fun b u hb e=>hx b u hb e) f0 f1 f3 f4 f5⟩
 self:=fun A i s Q E st q=>by
  obtain⟨ok,ov,st⟩:=st
  have hT:s.TypeIs (.ref it) "dict_itemiterator":=⟨_,st,rfl⟩
  refine AbA hT F.slot_dict_itemiterator_iter (Aak F.slot_dict_itemiterator_iter hT ur ?_ (F.args_dict_itemiterator_iter_1 _))
  show wpAny _ _ (ret (.ref it)) _ _ s
  exact FM ⟨_,rfl,"dict_itemiterator",_,hT,F.slot_dict_itemiterator_next.lookup,q⟩
def Ot (tl:TE):TI:=fun σ H R=>tl σ H fun v H1=>∃d kvs,v=.ref d/\H1 d=some (.dK kvs)/\∀o,R (Iti d o kvs) (upd H1 d (.tT o (.dK kvs)))
theorem P7 {X:Cx} {elts:List Expr} {x1} {Qa:Pos} {l:Expr} {tl:TE} {apos jF:Pos} (hl:PE X l tl)
 (Ao:T0 l "items" X.env (eval l X.env)=eval l X.env:=by rfl) (hline:(apos.endLine==jF.line)=true:=by rfl):PI X (.Tuple elts x1 Qa) (.Call (.Attribute l "items" apos) [] [] jF) (Ot tl):=by
 intro pins s σ H R I h
 refine Aap Ao hline (dE (hl pins s σ H _ I h) fun v s1 ⟨y,H1,I1,r1,q1⟩=>?_)
 obtain⟨d,kvs,rfl,hd,q⟩:=q1
 obtain⟨h1,h2⟩:=DV I1 (T:="dict") r1 (.inr (.inr (.inl ⟨rfl,.inl ⟨kvs,hd⟩⟩)))
 cases r1
 refine⟨"dict","dict.items",KF,PySem.F.slot_dict_items,PySem.F.type_dict_items,h1,h2,SB rfl (Abd ?_)⟩
 obtain⟨_,hs,vs,kv,o,es,ep,ho,a2,a3,a4⟩:=(show c9 X.prog X.w H1 s1.heap d (.dK kvs) from I1.bE d _ hd)
 have da:s1.heap.DictAt (bb X.prog X.w) d vs ep:=⟨o,es,ho,a2,a3,a4⟩
 have iF:d<s1.heap.objs.size:=Db ho
 have hlen:vs.length=kvs.length:=kv.length.symm
 refine Abp PySem.F.slot_dict_items da.dictOf.typeIs PySem.F.entry_dict_items (PySem.F.args_dict_items_1 _) (meets_dict_items (bb X.prog X.w) d hs) ⟨⟨vs,da.dictOf⟩,?_⟩
 refine wpAny_pyIter_items (v:=s1.heap.objs.size) ⟨_,EM _ rfl,rfl,rfl⟩ (da.push _) ?_
 have I2:=I1.freeze hd ho
 have hsz:(s1.heap.push {cls:=.type "dict_items",data:=.fields #[.ref d]}).objs.size=s1.heap.objs.size+1:=Aae ..
 refine⟨_,[_],_,_,_,rfl,I2.kept (t':=s1.toks) fun b u e=>BS _ (BS _ e),IV a3 (ES (by rw [hsz];exact Aaa iF)),⟨_,_,by rw [<-hlen];exact EM _ rfl⟩,fun b hb=>?_,q o⟩
 have e:b=(s1.heap.push {cls:=.type "dict_items",data:=.fields #[.ref d]}).objs.size:=by simpa using hb
 subst e
 exact I2.zI (by rw [hsz];exact AaG _) (I2.bE.fresh (by rw [hsz];exact AaG _))
section
variable {σ:St} {H:Hp} {D:Ends} {p:Addr} {m:List (Str × BB)} {g:TG} {tb:TS}
end
section
variable {σ:St} {H:Hp} {K:At}
theorem Bn {x:V} {i j:Nat} {d1 d2:BB} {R:St->Hp->Prop} (hd:Dv H x (.tuple [d1,d2])) (h:∀v1 v2,Dv H v1 d1->Dv H v2 d2->R ((σ.set i (some v1)).set j (some v2)) H):
 Jp K 2 (u6 (ml i) (u6 (ml j) LJ)) x σ H R:=by
 cases hd with
 |tup ha r=>
  cases r with
  |cons h1 r=>
   cases r with
   |cons h2 r=>
    cases r
    exact⟨_,_,rfl,.of ha,rfl,_,_,rfl,_,_,rfl,rfl,h _ _ h1 h2⟩
end
end L2
namespace L2
open PySem
section
variable {prog:Fa} {w:World} {A:IF} {E:Value->AM->Prop} {s:AM}
end
section
variable {prog:Fa} {w:World} {A:IF} {E:Value->AM->Prop} {s:AM}
end
set_option maxRecDepth 100000
section
variable {prog:Fa} {w:World} {A:IF} {E:Value->AM->Prop} {s:AM} {it a:Addr} {o:Obj} {es:Array (Int × Value)} {ep:Nat} {t:SetTable}
end
section
variable {prog:Fa} {w:World} {A:IF} {E:Value->AM->Prop} {s:AM} {it a:Addr} {o:Obj} {es:Array (Int × Value)} {ep:Nat} {t:SetTable}
end
section
variable {prog:Fa} {w:World} {A:IF} {E:Value->AM->Prop} {s:AM} {it a:Addr} {o:Obj} {es:Array (Int × Value)} {ep:Nat} {t:SetTable}
end
end L2
namespace L2
open PySem PySem.Spec PyProof.Rows
section
variable {prog:Fa} {w:World} {A:IF} {R:Result->AM->Prop} {it y:Addr} {fp wr:List Addr} {G:Array GenState->Array GenState->Prop} {n:Nat} {Pv:Nat->Value->Prop} {St:Nat->AM->Prop}
end
section
variable {prog:Fa} {w:World} {A:IF} {E:Value->AM->Prop} {s:AM}
set_option maxRecDepth 100000 in
set_option maxHeartbeats 3200000 in
end
section
variable {prog:Fa} {w:World} {A:IF} {E:Value->AM->Prop} {s:AM} {a:Addr} {S:Int->Bool} {n:Nat}
end
end L2
namespace L2
open PySem PySem.Spec PyProof.Rows PySem.W
section
variable {X:Cx} {e:Expr} {te:TE} {p p2 pos afy:Pos}
end
section
variable {σ:St} {H:Hp} {Q:VK} {v:V}
end
section
variable {X:Cx}
end
section
variable {σ:St} {H:Hp} {Q:VK} {K:At} {p:Addr} {m:List (Str × BB)}
end
section
variable {M:Model} {A:IF} {E:Value->AM->Prop} {s:AM} {env:Env} {outer:List Env} {L a T:Addr} {c:Value} {base:Heap} {Q:Unit->AM->Prop}
end
section
variable {P:Fa} {w:World} {K:At} {mg:Str->Option Value} {base:Heap} {N:List Str} {qual:Str} {scope:Scope} {f:Addr} {cd:Value} {A:IF} {outer:List Env} {s0:AM} {H0:Hp} {E:XK} {CX:GH} {pins:List (Addr × Obj)} {σ:St} {H:Hp} {s:AM}
end
section
variable {K:At} {h:Heap} {C:Addr} {bmB:List Value} {newId:String}
end
section
variable {X:Cx} {pins:List (Addr × Obj)} {σ:St} {H:Hp} {s:AM}
end
section
variable {M:Model} {A:IF} {E:Value->AM->Prop}
end
section
variable {X:Cx}
end
section
variable {P:Fa} {w:World} {K:At} {mg:Str->Option Value} {base:Heap}
end
section
variable {X:Cx} {k:Nat} {f:Addr} {ps:List Str} {sp:Sp} {eQ:List V} {E:XK} {x:Str} {p pos:Pos} {e:Expr} {es:List Expr} {t:TA}
end
section
variable {σ:St} {H:Hp} {Q:VK} {D:Ends} {K:At} {E:XK} {C:Addr} {ta:TA}
end
section
variable {X:Cx}
end
section
variable {σ:St} {H:Hp} {Q:VK} {D:Ends} {K:At}
end
section
variable {X:Cx} {pins:List (Addr × Obj)} {σ:St} {H:Hp} {s:AM} {h':Heap}
theorem Inv.Sw {t':Nat} {i1 i2:Addr} (I:Inv X pins σ H s) (k:∀b o,b≠i1->b≠i2->s.heap.get? b=some o->h'.get? b=some o) (f1:jd X pins H i1) (f2:jd X pins H i2):Inv X pins σ H {s with heap:=h',toks:=t'}:=by
 have YR:∀b u,H b=some u->b≠i1/\b≠i2:=fun b u e=>⟨fun z=>(by rw [z,f1.1] at e;cases e),fun z=>(by rw [z,f2.1] at e;cases e)⟩
 have nc:∀{b:Addr},b∉[i1,i2]->b≠i1/\b≠i2:=fun {b} h=>by simpa using h
 refine I.step (g':=s.gens) (d':=s.drawn) (ch:=[i1,i2]) (fun b hb=>?_) (fun b o _ _ hc e _=>k b o (nc hc).1 (nc hc).2 e) (fun b o _ _ hc e _=>⟨o.slots,k b o (nc hc).1 (nc hc).2 e⟩) (fun _ _ _ _ n=>n)
  (fun b o hc e=>⟨o,k b o (nc hc).1 (nc hc).2 e⟩) (fun _ _ e=>e) (fun _ _ _ e=>e) (fun b ps e=>⟨#[],by rw [e];simp⟩) (fun m hm=>?_) (fun b u e=>?_) I.bare
 . have e:b=i1\/b=i2:=by simpa using hb
   rcases e with rfl|rfl
   . exact⟨f1.2.2.2.1,f1.2.1,f1.2.2.2.2.1,f1.2.2.2.2.2⟩
   . exact⟨f2.2.2.2.1,f2.2.1,f2.2.2.2.2.1,f2.2.2.2.2.2⟩
 . obtain⟨o,es,ep,ho,r⟩:=hm
   exact⟨o,es,ep,k _ o (LH f1.2.1) (LH f2.2.1) ho,r⟩
 . refine(I.bE b u e).rB (fun c v hc q=>k c v ?_ ?_ q) (fun _ q=>q) fun _ _ q=>q
   . rcases hc with z|z
     . rw [z];exact(YR b u e).1
     . exact(YR c _ z).1
   . rcases hc with z|z
     . rw [z];exact(YR b u e).2
     . exact(YR c _ z).2
end
theorem qQ:entryFor table "enumerate.__iter__"=some W1.«dict_keyiterator.__iter__»:=
 entryFor_alias (id':="dict_keyiterator.__iter__") (by kernel_rfl) rfl (by decide+kernel) (by kernel_rfl)
def Itn (K:At) (a:Addr):It:=⟨fun i H=>∃xs x,iN K H a xs/\xs[i]? =some x,fun i H v H'=>∃t x,(∀xs,iN K H a xs->xs[i]? =some x)/\v=.ref t/\H t=none/\H'=upd H t (.tup [.int i,x]),fun i H=>∃xs,iN K H a xs/\xs.length<=i⟩
theorem Li {P:Fa} {w:World} {K:At} {elts:List Expr} {x1} {pos:Pos} {e it a:Addr} (pk:e≠it):
 Turn P w K (.Tuple elts x1 pos) (Itn K a) [e,it] e (fun i h=>(∃old,IsEnum h e it (i:Nat) old)/\h.IsListIter it a i) where
 mem:=by simp
 obj:=fun i h st b hb=>by
  have e':b=e\/b=it:=by simpa using hb
  obtain⟨⟨old,q⟩,o,e1,c,d⟩:=st
  rcases e' with rfl|rfl
  . exact⟨_,q,fun v z=>by cases z⟩
  . exact⟨o,e1,fun v z=>by rw [d] at z;cases z⟩
 keep:=fun i h h' st k=>⟨let ⟨old,q⟩:=st.1;⟨old,k e (by simp) _ q⟩,st.2.at fun o q=>k it (by simp) o q⟩
 item:=by
  intro X hP hw hK hc i pins s σ H E I hf st hg
  subst hP hw hK
  have fe:=hf e (by simp)
  have fi:=hf it (by simp)
  obtain⟨xs,x,hq,hx⟩:=hg
  obtain⟨bh,rv,p,hz⟩:=I.list hq
  obtain⟨u,hu,ru⟩:=rv.get hx
  obtain⟨⟨old,he⟩,hit⟩:=st
  have hel:e<s.heap.objs.size:=Db he
  have NZ:it<s.heap.objs.size:=by obtain⟨o,ho,_⟩:=id hit;exact Db ho
  have hn:H s.heap.objs.size=none:=I.bE.fresh (BY _)
  refine wpAny_pyNext_enum_item he hit p.isList (x:=u) (by simpa using hu) pk fun h' UY af8 ht hz' kk=>?_
  refine⟨_,rfl,wpAny_letOwnedTupleGo_enum (s:={s with heap:=h',toks:=s.toks+1}) UY fun h2 he2 sb=>?_⟩
  replace sb:Abl e h' h2:=sb
  let tb:Obj:={cls:=.type "tuple",data:=.seq #[.int i s.toks,u]}
  have I1:Inv X pins σ (upd H s.heap.objs.size (.tup [.int i,x])) {s with heap:=s.heap.push tb}:=
   I.laid (t':=s.toks) (fun b u e=>BS _ e) (BY _) (show c9 X.prog X.w _ _ _ (.tup [.int i,x]) from⟨by rw [AaE];simp,[.int i s.toks,u],.cons ⟨_,rfl⟩ (.cons ru .nil),IsTup.new _ _⟩)
  have Yb:upd H s.heap.objs.size (.tup [.int i,x]) e=none:=by rw [ay (ES hel)];exact fe.1
  have abU:upd H s.heap.objs.size (.tup [.int i,x]) it=none:=by rw [ay (ES NZ)];exact fi.1
  have I2:Inv X pins σ (upd H s.heap.objs.size (.tup [.int i,x])) {s with heap:=h2,toks:=s.toks+1}:=by
   refine Inv.Sw (s:={s with heap:=s.heap.push tb}) (h':=h2) (t':=s.toks+1) (i1:=e) (i2:=it) I1 (fun b u' Vx Hm q=>?_) ⟨Yb,fe.2⟩ ⟨abU,fi.2⟩
   by_cases hbn:b=s.heap.objs.size
   . subst hbn
     have e0:(s.heap.push tb).get? s.heap.objs.size=some tb:=EM _ rfl
     have e1:=e0.symm.trans q
     cases e1
     exact(sb.2 _ Vx).trans ht
   . exact(sb.2 _ Vx).trans (kk b u' Vx Hm (Av q hbn))
  refine⟨.ref s.heap.objs.size,_,I2,rfl,⟨_,x,fun ys hy=>by rw [I.Ft hy hq];exact hx,rfl,hn,rfl⟩,⟨⟨_,he2⟩,af8.at fun o q=>(sb.2 it (LH pk)).trans q⟩,fun b hb=>?_⟩
  have e':b=e\/b=it:=by simpa using hb
  rcases e' with rfl|rfl
  . exact Yb
  . exact abU
 done:=by
  intro X hP hw hK hc i pins s σ H E I hf st hg
  subst hP hw hK
  obtain⟨f0,f1,f2,f3,f4,f5⟩:=hf it (by simp)
  obtain⟨xs,hq,hx⟩:=hg
  obtain⟨bh,rv,p,hz⟩:=I.list hq
  have hl:=rv.length
  obtain⟨⟨old,he⟩,hit⟩:=st
  exact wpAny_pyNext_enum_end (I.ok.hd hc) he hit p.isList (by simp;omega) fun h' eb=>⟨rfl,I.turned (t':=s.toks) (fun b o hb e=>eb b o hb e) f0 f1 f3 f4 f5⟩
 self:=fun A i s Q E st q=>by
  obtain⟨⟨old,he⟩,hit⟩:=st
  have hT:s.TypeIs (.ref e) "enumerate":=⟨_,he,rfl⟩
  refine AbA hT Zp (Aak Zp hT qQ ?_ (F.args_enumerate_iter_1 _))
  show wpAny _ _ (ret (.ref e)) _ _ s
  exact FM ⟨_,rfl,"enumerate",_,hT,F.slot_enumerate_next.lookup,q⟩
def Vr (K:At) (ta:TA):TI:=fun σ H R=>ta σ H fun vs H1=>∃a,vs=[.ref a]/\(∃xs,iN K H1 a xs)/\R (Itn K a) H1
theorem RT {X:Cx} {elts:List Expr} {x1} {Qa:Pos} {a:Expr} {ta:TA} {p pos:Pos} (hg:Gl X "enumerate") (hm:X.mg "enumerate"=none) (ha:PA X [a] ta) (hs:DO [a] X.env=[(false,eval a X.env)]:=by rfl):
 PI X (.Tuple elts x1 Qa) (.Call (.Name "enumerate" p) [a] [] pos) (Vr X.K ta):=by
 intro pins s σ H R I h
 refine Call_ (vq I hg hm boot_enumerate (XV (dE (ha pos pins s σ H _ I h) fun us s1 ⟨vs,H1,I1,r1,q1⟩=>?_) hs rfl))
 obtain⟨l,e,⟨xs,hq⟩,q⟩:=q1
 subst e
 cases r1 with
 |cons r rr=>
  cases rr
  cases r
  obtain⟨bh,rv,p,hz⟩:=I1.list hq
  refine call_enumerate_list p.isList fun h' he hit hsz hk=>?_
  have hT:(⟨h',s1.gens,s1.drawn,s1.toks,s1.os⟩:AM).TypeIs (.ref (s1.heap.objs.size+1)) "enumerate":=⟨_,he,rfl⟩
  refine AbA hT Zp (Aak Zp hT qQ ?_ (F.args_enumerate_iter_1 _))
  show wpAny _ _ (ret (.ref (s1.heap.objs.size+1))) _ _ _
  refine FM ⟨_,rfl,"enumerate",_,hT,F.slot_enumerate_next.lookup,?_⟩
  refine⟨s1.heap.objs.size+1,[s1.heap.objs.size+1,s1.heap.objs.size],_,_,H1,rfl,I1.kept (t':=s1.toks) hk,Li (a:=l) (Nat.succ_ne_self _),⟨⟨_,he⟩,hit⟩,fun b hb=>?_,q⟩
  have e:b=s1.heap.objs.size+1\/b=s1.heap.objs.size:=by simpa using hb
  rcases e with rfl|rfl
  . exact I1.zI (AaG _) (I1.bE.fresh (AaG _))
  . exact I1.zI (BY _) (I1.bE.fresh (BY _))
section
variable {X:Cx}
end
section
variable {σ:St} {H:Hp} {Q:VK}
end
section
variable {σ:St} {H:Hp} {Q:VK} {K:At} {v:V}
end
end L2
namespace L2
open PySem
section
variable {H:Hp} {Q:VK} {K:At}
end
end L2
namespace L2
open PySem PySem.Spec PyProof.Rows PySem.W
theorem J2 (num:Nat->Int):∀k,argBest (fun i j=>decide (num i<num j)) k<=k/\∀j,j<=k->num (argBest (fun i j=>decide (num i<num j)) k)<=num j
 |0=>⟨Nat.le_refl _,fun j hj=>by have:j=0:=by omega
                                 subst this;exact Zs _⟩
 |k+1=>by
  obtain⟨h1,h2⟩:=J2 num k
  unfold argBest
  by_cases h:num (k+1)<num (argBest (fun i j=>decide (num i<num j)) k)
  . rw [if_pos (decide_eq_true h)]
    refine⟨BY _,fun j hj=>?_⟩
    by_cases hk:j=k+1
    . subst hk;exact Zs _
    . exact Int.le_trans (NL h) (h2 j (by omega))
  . rw [if_neg (by simpa using h)]
    refine⟨by omega,fun j hj=>?_⟩
    by_cases hk:j=k+1
    . subst hk;omega
    . exact h2 j (by omega)
section
variable {X:Cx}
theorem Kx {H1:Hp} {kvs:List (Key × V)} {vs:List (Key × Value)} {m:List (Str × BB)} {ns:List Int} {i:Nat} {k:Key} {v:Value} (hlen:vs.length=kvs.length) (kv:KV kvs vs) (dk:nQ H1 kvs m) (Jx:m.map (·.2)=ns.map Sm) (hv:vs[i]? =some (k,v)):∃t,v=.int (ns.getD i 0) t:=by
 have hnl:ns.length=kvs.length:=by
  have:=congrArg Abc Jx
  rw [AL,AL] at this
  rw [<-this];exact dk.length.symm
 have hi:i<kvs.length:=by rw [<-hlen];exact(AS.mp hv).1
 obtain⟨y,hy,Wo⟩:=vR kv (AC hi)
 rw [hv] at hy
 cases hy
 obtain⟨k',dd,Zz,hkc,hdv⟩:=dk.Ue (AC hi)
 have Q6:i<ns.length:=by omega
 have hdd:dd=.int (ns.getD i 0):=by
  have e1:(m.map (·.2))[i]? =some dd:=by rw [EU,Zz];rfl
  rw [Jx,EU,AC Q6] at e1
  rw [NJ,AC Q6]
  exact(CC e1).symm
 subst hdd
 have hq:=hdv.int_inv
 have r2:=Wo.2
 rw [hq] at r2
 obtain⟨t,ht⟩:=r2
 exact⟨t,ht⟩
def Pp:V->Hp->VK->Prop:=fun x H Q=>∃(p:Addr) (m:List (Str × BB)) (ns:List Int),x=.ref p/\nW H p m/\m.map (·.2)=ns.map Sm/\0<ns.length/\∀k∈ns,(∀j∈ns,k<=j)->Q (.int k) H
def Vj (te:TE):TE:=fun σ H Q=>te σ H fun x H1=>Pp x H1 Q
theorem Sr {e:Expr} {te:TE} {p pos apos jF:Pos} (he:PE X e te) (hc:X.calm=true) (hg:Gl X "min") (hm:X.mg "min"=none)
 (Ao:T0 e "values" X.env (eval e X.env)=eval e X.env:=by rfl) (hline:(apos.endLine==jF.line)=true:=by rfl)
 (h2:DO [.Call (.Attribute e "values" apos) [] [] jF] X.env=(false,eval (.Call (.Attribute e "values" apos) [] [] jF) X.env)::DO [] X.env:=by rfl):
 PE X (.Call (.Name "min" p) [.Call (.Attribute e "values" apos) [] [] jF] [] pos) (Vj te):=by
 intro pins s σ H Q I h
 refine Q3 (vq I hg hm boot_min ?_ (by decide) (by decide))
 refine PyProof.Rows.callWith_builtin1 ?_ h2 rfl
 rw [h2]
 show wpAny _ _ (spliced ((false,eval (.Call (.Attribute e "values" apos) [] [] jF) X.env)::RS pos (DO [] X.env))) _ _ s
 refine Abm (Aap Ao hline (dE (he pins s σ H _ I h) fun v s1 ⟨y,H1,I1,r1,q1⟩=>?_))
 obtain⟨d,m,ns,rfl,⟨kvs,hd,dk⟩,Jx,ad2,q⟩:=q1
 obtain⟨h1,h2⟩:=DV I1 (T:="dict") r1 (.inr (.inr (.inl ⟨rfl,.inl ⟨kvs,hd⟩⟩)))
 cases r1
 refine⟨"dict","dict.values",KF,PySem.F.slot_dict_values,PySem.F.type_dict_values,h1,h2,SB rfl (Abd ?_)⟩
 obtain⟨_,hs,vs,kv,o,es,ep,ho,a2,a3,a4⟩:=(show c9 X.prog X.w H1 s1.heap d (.dK kvs) from I1.bE d _ hd)
 have da:s1.heap.DictAt (bb X.prog X.w) d vs ep:=⟨o,es,ho,a2,a3,a4⟩
 have iF:d<s1.heap.objs.size:=Db ho
 have hlen:vs.length=kvs.length:=kv.length.symm
 refine Abp PySem.F.slot_dict_values da.dictOf.typeIs PySem.F.entry_dict_values (PySem.F.args_dict_values_1 _) (meets_dict_values (bb X.prog X.w) d hs) ⟨⟨vs,da.dictOf⟩,?_⟩
 refine Abx ?_
 have hsz:(s1.heap.push {cls:=.type "dict_values",data:=.fields #[.ref d]}).objs.size=s1.heap.objs.size+1:=Aae ..
 have hA:X.A.in1.handled=none:=I1.ok.hd hc
 have hnl:ns.length=kvs.length:=by
  have:=congrArg Abc Jx
  rw [AL,AL] at this
  rw [<-this];exact dk.length.symm
 refine call_min_walk (wpAny_pyIter_values (v:=s1.heap.objs.size) ⟨_,EM _ rfl,rfl,rfl⟩ (da.push _) ?_)
 refine⟨_,_,_,_,_,_,fun i j=>decide (ns.getD i 0<ns.getD j 0),rfl,Walks.dictValues (knd:=bb X.prog X.w) hA _ d (ES (by rw [hsz];exact Aaa iF)) vs ep,⟨⟨_,EM _ rfl,rfl,rfl⟩,(da.push _).push _⟩,?_,by omega,CmpOf.ints_lt (fun i=>ns.getD i 0) ?_,?_⟩
 . intro b hb
   rw [Aae]
   have:b=(s1.heap.push {cls:=.type "dict_values",data:=.fields #[.ref d]}).objs.size\/b=d:=by simpa using hb
   rcases this with rfl|rfl
   . exact AaX _
   . rw [hsz];exact Aaa (Aaa iF)
 . rintro i v ⟨k,hv⟩
   exact Kx hlen kv dk Jx hv
 . rintro v h' tk ⟨k,hv⟩ hk
   have b:=J2 (fun i=>ns.getD i 0) (vs.length - 1)
   generalize argBest (fun i j=>decide (ns.getD i 0<ns.getD j 0)) (vs.length - 1)=ix at b hv
   obtain⟨b1,b2⟩:=b
   obtain⟨t,rfl⟩:=Kx hlen kv dk Jx hv
   have I2:Inv X pins σ H1 {s1 with heap:=s1.heap.push {cls:=.type "dict_values",data:=.fields #[.ref d]}}:=I1.kept (t':=s1.toks) fun b o e=>BS _ e
   have fp:=I2.zI (H':=H1) (BY _) (I2.bE.fresh (BY _))
   have I3:=I2.turned (t':=tk) (h':=h') (it:=(s1.heap.push {cls:=.type "dict_values",data:=.fields #[.ref d]}).objs.size) (fun b o hb e=>hk b o (by simpa using hb) (BS _ e)) fp.1 fp.2.1 fp.2.2.2.1 fp.2.2.2.2.1 fp.2.2.2.2.2
   have hb:ix<ns.length:=by omega
   refine⟨.int _,H1,I3,⟨t,rfl⟩,q _ ?_ ?_⟩
   . rw [NJ,AC hb];exact List.getElem_mem hb
   . intro k hk
     obtain⟨j,hj,rfl⟩:=PM hk
     have:=b2 j (by omega)
     rwa [NJ (i:=j),AC hj] at this
end
section
variable {σ:St} {H:Hp} {Q:VK}
theorem Ux {te:TE} (h:te σ H fun x H1=>Pp x H1 Q):Vj te σ H Q:=h
theorem YW {p:Addr} {m:List (Str × BB)} {ns:List Int} (hp:nW H p m) (hm:m.map (·.2)=ns.map Sm) (hl:0<ns.length) (h:∀k∈ns,(∀j∈ns,k<=j)->Q (.int k) H):Pp (.ref p) H Q:=⟨p,m,ns,rfl,hp,hm,hl,h⟩
end
def pairD (k:Int × Str):BB:=.tuple [.int k.1,.str k.2]
def Zv (H:Hp):V->Int × Str
 | .ref a=>match H a with
   |some (.tup [.int i,.str x])=>(i,x)
   |_=>(0,Str.empty)
 |_=>(0,Str.empty)
theorem O4 {H:Hp} {v:V} {k:Int × Str} (h:Dv H v (pairD k)):Zv H v=k:=by
 unfold pairD at h
 cases h with
 |tup ha r=>
  cases r with
  |cons h1 r=>
   cases r with
   |cons h2 r=>
    cases r
    cases h1;cases h2
    simp only [Zv,ha]
theorem JN {H:Hp}:∀{xs:List V} {ks:List (Int × Str)},eJ H xs (ks.map pairD)->eJ H xs (xs.map fun v=>.tuple [.int (Zv H v).1,.str (Zv H v).2])
 |_,[],.nil=>.nil
 |_,_::_,.cons h r=>.cons (by show Dv H _ (.tuple [.int (Zv H _).1,.str (Zv H _).2]);rw [O4 h];exact h) (JN r)
section
variable {X:Cx} {pins:List (Addr × Obj)} {σ:St} {H:Hp} {s:AM}
theorem DT {l:Addr} {xs:List V} {kf:V->Int × Str} {Q:VK} {E:Value->AM->Prop} (I:Inv X pins σ H s) (hl:iN X.K H l xs) (h64:xs.length<64) (dv:eJ H xs (xs.map fun v=>.tuple [.int (kf v).1,.str (kf v).2])) (fin:EK X pins σ H bw kf xs Q):
 wpAny (model X.prog X.w) X.A (call (.builtin "sorted") [.ref l]) (EP X pins σ Q) E s:=by
 have U6:(64:Nat)<=Ev:=by decide
 obtain⟨vs,rv,p,hz⟩:=I.list hl
 have lx:=rv.length
 refine Calls.call_function_entry kind_sorted plain_sorted entry_sorted (args_sorted1 _) ?_
 unfold W1.«sorted»
 refine BC (m:=checkCount "sorted" 1 1 _) (FM ?_)
 refine BC (collect_list p.isList ?_ (by omega))
 refine BC (Aa3 ?_ (by omega))
 have fp0:jd X pins H s.heap.objs.size:=I.zI (BY _) (I.bE.fresh (BY _))
 have I2:Inv X pins σ H {s with heap:=(s.heap.push (M2 "list" #[] 0)).update s.heap.objs.size (Lu (·++vs.toArray))}:=(I.zm (o:=M2 "list" #[] 0)).EA fp0
 have hsz:((s.heap.push (M2 "list" #[] 0)).update s.heap.objs.size (Lu (·++vs.toArray))).objs.size=s.heap.objs.size+1:=by rw [Heap.size_update,size_push']
 generalize hG:(s.heap.push (M2 "list" #[] 0)).update s.heap.objs.size (Lu (·++vs.toArray))=h2 at I2 hsz ⊢
 have Ii:(h2.push (M2 "list" vs.toArray 0)).get? h2.objs.size=some (M2 "list" vs.toArray 0):=EM _ rfl
 have I3:Inv X pins σ H {s with heap:=h2.push (M2 "list" vs.toArray 0)}:=I2.zm
 have fa:jd X pins H h2.objs.size:=I2.zI (BY _) (I2.bE.fresh (BY _))
 have CO:X.jm.heap.objs.size<=h2.objs.size:=I2.sz
 show wpAny _ _ _ _ _ {s with heap:=h2.push (M2 "list" vs.toArray 0)}
 generalize h2.objs.size=a at*
 refine BC (Aat (Aak slot_list_sort ⟨_,Ii,rfl⟩ entry_list_sort ?body (args_list_sort _)))
 case body=>
  show wpAny (model X.prog X.w) X.A.in1.in1 (W1.«list.sort» ⟨[.ref a],[]⟩) _ _ _
  rw [list_sort_plain]
  generalize h2.push (M2 "list" vs.toArray 0)=h3 at*
  refine BC (listItems_at Ii rfl ?_)
  refine BC (ZB Ii rfl ?_ (by rw [Cc];omega) (IR _))
  have I4:Inv X pins σ H {s with heap:=h3.update a (Lu fun _=>(#[]:Array Value))}:=I3.EA fa
  obtain⟨e1,oa⟩:∃e1,(h3.update a (Lu fun _=>(#[]:Array Value))).get? a=some (M2 "list" #[] e1):=⟨_,YO Ii fun _=>#[]⟩
  generalize h3.update a (Lu fun _=>(#[]:Array Value))=h4 at*
  refine BC (AbG oa rfl ?_)
  refine BC (wpAny_newTuple ?_ (by show vs.length<=_;omega))
  have I5:Inv X pins σ H {s with heap:=h4.push (M2 "tuple" vs.toArray 0)}:=I4.zm
  have oa5:(h4.push (M2 "tuple" vs.toArray 0)).get? a=some (M2 "list" #[] e1):=BS _ oa
  show wpAny _ _ _ _ _ {s with heap:=h4.push (M2 "tuple" vs.toArray 0)}
  generalize h4.push (M2 "tuple" vs.toArray 0)=h5 at*
  refine BC (Aa3 ?_ (IR _))
  have I6:Inv X pins σ H {s with heap:=h5.push (M2 "list" #[] 0)}:=I5.zm
  have VE:(h5.push (M2 "list" #[] 0)).get? a=some (M2 "list" #[] e1):=BS _ oa5
  refine Aat ?_
  show wpAny _ _ _ _ _ {s with heap:=h5.push (M2 "list" #[] 0)}
  generalize h5.push (M2 "list" #[] 0)=h6 at*
  dsimp only
  by_cases iF:vs.toArray.size<2
  . rw [if_pos iF,if_pos iF]
    refine BC (FM ?_)
    rw [StateT.run_pure]
    refine BC (FM ?_)
    dsimp only
    have Yt:(arrOf (SortSt.mk' general' (vs.toArray.zip vs.toArray) #[] 7 none)).map (·.2)=Go vs:=by
     show(vs.toArray.zip vs.toArray).map (·.2)=Go vs
     apply Array.toList_inj.mp
     simp [List.map_snd_zip]
    rw [Yt]
    refine BC (AbG VE rfl ?_)
    refine BC (ZB VE rfl ?_ (IR _) (by show(Go vs).size<=_;rw [Cc];omega))
    simp only [bne_self_eq_false,IN,if_false]
    have I7:=(I6.EA (f:=Lu fun _=>Go vs) fa).Py fa CO (by rw [rv.length];omega) rv (YO VE fun _=>Go vs)
    refine FM ⟨_,rfl,FM ⟨_,rfl,.ref a,_,I7,rfl,fin a xs H (aA.refl _) fa.1 fa.1 ⟨Abt _,?_⟩⟩⟩
    rw [Cc] at iF
    match xs,lx with
    |[],_=>exact .nil
    |[_],_=>exact List.pairwise_singleton _ _
    |_::_::_,lx=>simp at lx;omega
  . rw [if_neg iF,if_neg iF]
    rw [Cc] at iF
    obtain⟨fs,k1,k2,k3⟩:=vt I6 rv dv
    refine BC (kat_kind k1 (by omega) k3 (by decide) ?_)
    refine BC (NO (kat_run (Q:=fun uJ s2=>s2={s with heap:=h6}/\∃p:Array Nat,Ix xs.length p/\arrOf uJ=p.map (kas_item ((Go vs).zip (Go vs)))/\failedOf uJ=none/\Up (fun i j=>bw (kf (xs.getD i .a9)) (kf (xs.getD j .a9))) p xs.length)
     (G:=fun p s2=>s2={s with heap:=h6}/\Ix xs.length p/\Up (fun i j=>bw (kf (xs.getD i .a9)) (kf (xs.getD j .a9))) p xs.length) rfl (by omega) (by omega) (fun p uJ s2 a1 a2 a3 ⟨a4,a5,a6⟩=>⟨a4,p,a5,a2,a3,a6⟩) ?_) ?_ fun _ _ z=>z)
    . rw [show vs.length=xs.length by omega]
      refine Jw (lt:=fun i j=>bw (kf (xs.getD i .a9)) (kf (xs.getD j .a9))) (S:=fun z=>z={s with heap:=h6}) ⟨fun _=>iR _,fun _ _=>AX,fun _ _ _=>Bj⟩ (DK I6 rv dv) (by omega) (fun p s2 hs hp hu=>⟨hs,hp,hu⟩) _ rfl
    . rintro⟨⟨⟩,uJ⟩ s2 ⟨rfl,p,hp,har,hf,hu⟩
      dsimp only
      rw [kat_snds rfl har]
      have ho:(p.toList.map fun i=>vs.getD i OP).length<64:=by simp [hp.sz];omega
      refine BC (AbG VE rfl ?_)
      refine BC (ZB VE rfl ?_ (IR _) (by show(Go (p.toList.map fun i=>vs.getD i OP)).size<=_;rw [Cc];omega))
      rw [hf]
      simp only [bne_self_eq_false,IN,if_false]
      have Hn:=xZ rv p.toList
      have I7:=(I6.EA (f:=Lu fun _=>Go (p.toList.map fun i=>vs.getD i OP)) fa).Py fa CO (by rw [Hn.length];omega) Hn (YO VE fun _=>Go (p.toList.map fun i=>vs.getD i OP))
      exact FM ⟨_,rfl,FM ⟨_,rfl,.ref a,_,I7,rfl,fin a _ H (aA.refl _) fa.1 fa.1 (FV hp hu)⟩⟩
def Qd:List V->Hp->VK->Prop:=fun xs H Q=>∃(v:V) (ks:List (Int × Str)),xs=[v]/\Dv H v (.list (ks.map pairD))/\ks.length<64/\∀q H' (UH:List (Int × Str)),aA H H'->H q=none->UH.Perm ks->UH.Pairwise (fun c d=>bw d c=false)->eF H' q (UH.map pairD)->Q (.ref q) H'
theorem Ir:nk X (.builtin "sorted") Qd:=by
 intro pins s σ H xs us Q I r h
 obtain⟨v,ks,rfl,hd,hl,q⟩:=h
 obtain⟨u,rfl,ru⟩:=vals1 r
 obtain⟨p,ys,rfl,e,dv⟩:=hd.lst_inv
 cases ru
 refine DT I (e X.K) (by rw [dv.length,AL];exact hl) (JN dv) fun a zs H' sm hn hn' ord=>?_
 obtain⟨pm,pw⟩:=ord
 obtain⟨UH,pc,dv'⟩:=dv.perm pm
 have mP:aA H (upd H' a (.lst zs)):=sm.trans (dX hn')
 exact q a _ UH mP hn pc (eJ.pairwise (R:=fun a b=>bw b a=false) (key:=fun k=>k) (fun v c hv=>O4 hv) dv' pw) ⟨zs,av,dv'.keeps mP,cL (fun _=>rfl) _⟩
end
section
variable {σ:St} {H:Hp} {Q:VK}
theorem RA {v:V} {ks:List (Int × Str)} (hp:Dv H v (.list (ks.map pairD))) (hl:ks.length<64) (h:∀q H' (UH:List (Int × Str)),aA H H'->H q=none->UH.Perm ks->UH.Pairwise (fun c d=>bw d c=false)->eF H' q (UH.map pairD)->Q (.ref q) H'):Qd [v] H Q:=⟨v,ks,rfl,hp,hl,h⟩
end
section
variable {σ:St} {H:Hp} {Q:VK} {K:At} {p:Addr} {m:List (Str × BB)} {k:Str}
theorem ZP {n:Nat} {tl:TE} {g:TG} {tc:TT} {te:TE} (hp:nW H p m) (htl:∀R:V->Hp->Prop,R (.ref p) H->tl σ H R) (pf:Str × BB->Bool) (fd:Str × BB->BB) (hlen:m.length<=4000) (hi:∀c,Dc (fd c)=true)
 (turn:∀x c Hf H' (N:Option V->Hp->Prop),c∈m->Mv [p] H Hf->DRd Hf p m->aA Hf H'->Dv H' x (.tuple [.str c.1,c.2])->(pf c=true->∀y H4,aA H' H4->Dv H4 y (fd c)->N (some y) H4)->(pf c=false->∀H3,aA H' H3->N none H3)->
  g x (LM n none++σ) H' fun σ2 H2=>tc σ2 H2 fun b H3=>LCT te N σ2 b H3)
 (kk:∀q H',aA H H'->H q=none->eF H' q ((m.filter pf).map fd)->Q (.ref q) H'):VC (tLC n (Ot tl) g tc te) σ H Q:=by
 obtain⟨kvs,e,dk⟩:=hp
 refine⟨p,kvs,e,htl _ ⟨p,kvs,rfl,e,fun o=>?_⟩⟩
 have mv:Mv [p] H (upd H p (.tT o (.dK kvs))):=.aV e (by intro _ z;cases z)
 have rd:DRd (upd H p (.tT o (.dK kvs))) p m:=⟨kvs,.inr ⟨o,av⟩,dk.zq mv.tp⟩
 have hl:kvs.length=m.length:=dk.length
 refine⟨fun i j acc H'=>i<=m.length/\j=m.length - i/\aA (upd H p (.tT o (.dK kvs))) H'/\eJ H' acc (((m.take i).filter pf).map fd),⟨m.length,IR _,rfl,aA.refl _,by simpa using eJ.nil⟩,?_⟩
 rintro i j acc H' ⟨uY,rfl,sm,lg⟩
 have hfz:H' p=some (.tT o (.dK kvs)):=sm _ _ av
 have Jm:acc.length<=m.length:=by
  rw [lg.length,AL]
  refine Me (Nl _ _) ?_
  rw [Ll]
  omega
 by_cases hc:i=m.length
 . left
   refine⟨⟨by omega,hfz⟩,fun q hq=>?_⟩
   have ZK:p≠q:=aC hfz hq
   have tk:m.take i=m:=List.take_of_length_le (by omega)
   rw [tk] at lg
   have ups:upd (upd H' q (.lst acc)) p (.dK kvs) q=some (.lst acc):=by rw [ay (LH ZK),av]
   refine⟨⟨o,by rw [ay ZK];exact hfz⟩,kk q _ (fun a u z=>?_) ?_ ⟨acc,ups,lg.zq (fun a xs z=>?_) (cL hi _),cL hi _⟩⟩
   . by_cases ha:a=p
     . subst ha;rw [e] at z;cases z;exact av
     . have z1:H' a=some u:=sm _ _ (by rw [ay ha];exact z)
       rw [ay ha,ay (aC z1 hq)];exact z1
   . cases hz:H q with
     |none=>rfl
     |some u=>
      have:H' q=some u:=sm _ _ (by rw [ay (LH ZK)];exact hz)
      rw [hq] at this;cases this
   . rw [ay (oY z hfz (by intro y;cases y)),ay (aC z hq)];exact z
 . right
   have iF:i<m.length:=by omega
   refine⟨⟨by omega,hfz⟩,iP (by omega),fun x H2 hy=>?_⟩
   obtain⟨t,kv,Zg,rfl,ht,rfl⟩:=hy
   obtain⟨c,d,hm,hkc,hdv⟩:=dk.Ue Zg
   have FU:m.take (i+1)=m.take i++[(c,d)]:=by rw [Tu,hm];rfl
   have Z2:aA H' (upd H' t (.tup [kV kv.1,kv.2])):=dX ht
   have adW:Dv H' kv.2 d:=((dk.zq mv.tp).zq (fun a xs z=>sm a _ z)).Ue Zg |> fun⟨c',d',Zz,_,h'⟩=>by
    rw [hm] at Zz;cases Zz;exact h'
   have hx:Dv (upd H' t (.tup [kV kv.1,kv.2])) (.ref t) (.tuple [.str c,d]):=by
    have e1:kV kv.1=.str c:=by rw [hkc];rfl
    rw [e1] at Z2 ⊢
    exact .tup av (.cons (.str _) (.cons (adW.keeps Z2) .nil))
   have mP:=sm.trans Z2
   refine turn (.ref t) (c,d) _ _ (fun r H4=>match r with|some y=>∃j',j'<m.length - i/\i+1<=m.length/\j'=m.length - (i+1)/\aA (upd H p (.tT o (.dK kvs))) H4/\eJ H4 (acc++[y]) (((m.take (i+1)).filter pf).map fd)|none=>∃j',j'<m.length - i/\i+1<=m.length/\j'=m.length - (i+1)/\aA (upd H p (.tT o (.dK kvs))) H4/\eJ H4 acc (((m.take (i+1)).filter pf).map fd))
    (B0 hm) mv rd mP hx (fun hb y H4 s4 d4=>⟨m.length - (i+1),by omega,iF,rfl,mP.trans s4,?_⟩) (fun hb H3 s3=>⟨m.length - (i+1),by omega,iF,rfl,mP.trans s3,?_⟩)
   . rw [FU,ON,Da]
     simp only [NE,hb,if_true,Aav,EO,AaR]
     exact eJ.append (lg.keeps (Z2.trans s4)) (.cons d4 .nil)
   . rw [FU,ON,Da]
     simp only [NE,hb,IN,if_false,Aav,AaR,Mo]
     exact lg.keeps (Z2.trans s3)
theorem JV {R:Bool->Prop} (hp:nW H p m) (h:R (!m.isEmpty)):∃b,Gd K (.ref p) H b/\R b:=by
 obtain⟨kvs,e,dk⟩:=hp
 refine⟨_,.inr (.inr ⟨kvs,e,rfl⟩),?_⟩
 have:kvs.isEmpty=m.isEmpty:=by
  have:=dk.length
  cases kvs <;>cases m <;>simp_all
 rw [this];exact h
theorem PB {td ty:TE} (h:td σ H fun x H1=>∃a,x=.ref a/\IsD H1 a/\ty σ H1 fun y H2=>∃o,ip H2 a y o/\Q (o.getD .a9) H2):Nm td ty σ H Q:=h
theorem T5 {R:Addr->Prop} (hp:nW H p m) (h:R p):∃a,V.ref p=.ref a/\IsD H a/\R a:=by
 obtain⟨kvs,e,_⟩:=hp
 exact⟨p,rfl,.inl ⟨kvs,.inl e⟩,h⟩
theorem O0 (hp:nW H p m) (h1:∀d,uq m k=some d->∀v,Dv H v d->Q v H) (h2:uq m k=none->Q .a9 H):∃o,ip H p (.str k) o/\Q (o.getD .a9) H:=by
 obtain⟨kvs,e,dk⟩:=hp
 refine⟨lu kvs (.inr k),.inl ⟨kvs,.inr k,.inl e,rfl,rfl⟩,?_⟩
 obtain⟨g1,g2⟩:=dk.val (k:=k)
 cases hl:uq m k with
 |none=>rw [g2 hl];exact h2 hl
 |some d=>obtain⟨v,hv,hd⟩:=g1 d hl;rw [hv];exact h1 d hl v hd
end
section
variable {M:Model} {A:IF} {E:Value->AM->Prop} {s:AM} {env:Env} {outer:List Env} {L a T:Addr} {c:Value} {od:Option Addr} {base:Heap} {Q:Unit->AM->Prop}
end
section
variable {P:Fa} {w:World} {K:At} {mg:Str->Option Value} {base:Heap} {N:List Str} {qual:Str} {scope:Scope} {f:Addr} {cd:Value} {A:IF} {outer:List Env} {s0:AM} {H0:Hp} {E:XK} {CX:GH} {pins:List (Addr × Obj)} {σ:St} {H:Hp} {s:AM}
end
section
variable {X:Cx} {CX:GH} {k:Nat} {f C:Addr} {fd:Cf} {ps:List Str} {sp:Sp} {eQ:List V} {ds:List Value} {E:St->XK} {x m:Str} {p pos apos:Pos} {e o:Expr} {es:List Expr} {ta:TE} {t:TA}
end
section
variable {P:Fa} {w:World} {K:At} {mg:Str->Option Value} {base:Heap}
end
section
variable {prog:Fa} {w:World} {A:IF} {E:Value->AM->Prop} {s:AM} {K:At} {x C:Addr} {ox:Obj} {name:Str} {v:Value} {cd:ClassData}
open Builtin.ObjectAttr in
open Builtin.ObjectAttr in
end
section
variable {prog:Fa} {w:World} {A:IF} {E:Value->AM->Prop} {h:Heap} {g:Array GenState} {d:Drawn} {t:Nat} {os:OsState}
variable {nm q:Str} {C N:Addr} {bs bm bmB:List Value} {aeS:Bool} {sn:List Str} {sub:List Value} {ab:Bool} {col:Option Bool} {dd:Option Addr} {k0 k1 k2 k3 k5:Option Value} {B newId aeq:String}
end
section
variable {X:Cx} {W:Addr} {x:Str} {p pos apos:Pos} {e:Expr} {es:List Expr} {t:TA} {pl:Sem Bool}
end
section
variable {prog:Fa} {w:World} {A:IF} {E:Value->AM->Prop} {s:AM} {env:Env}
variable {nm q:Str} {C N:Addr} {bs bm bmB:List Value} {aeS:Bool} {sn:List Str} {sub:List Value} {ab:Bool} {col:Option Bool} {dd:Option Addr} {k0 k1 k2 k3 k5:Option Value} {newId:String}
end
section
variable {X:Cx} {pins:List (Addr × Obj)} {σ:St} {H:Hp} {a C:Addr} {od:Option Addr} {Dn:Ends}
end
section
variable {X:Cx} {e:Expr} {te:TE} {y y2:Str} {k k2:Nat} {p1 p2 p3 pos:Pos}
end
section
variable {σ:St} {H:Hp} {Q:VK} {D:Ends} {K:At} {C:Addr} {E:St->XK}
end
section
variable {prog:Fa} {w:World} {A:IF} {R:Result->AM->Prop} {I S:Addr} {fp wr:List Addr} {n:Nat} {P:Nat->Value->Prop} {St:Nat->Heap->Prop} {bt:Nat->Nat->Bool}
end
section
variable {prog:Fa} {w:World} {A:IF} {E:Value->AM->Prop} {s:AM}
end
section
variable {X:Cx}
end
section
variable {σ:St} {H:Hp} {Q:VK} {D:Ends} {K:At}
def ZJ (K:At) (vs:List V) (g:TG) (tb:TS) (D:Ends) (σ:St) (H1:Hp):Prop:=∃a,vs=[.ref a]/\(∃xs,iN K H1 a xs)/\∃W:Nat->Nat->St->Hp->Prop,(∃m,W 0 m σ H1)/\∀i m σ H,W i m σ H->
 ((Itn K a).stop i H/\D.nx σ H)\/((Itn K a).go i H/\∃N:St->Hp->Prop,(∀σ' H',N σ' H'->∃m',m'<m/\W (i+1) m' σ' H')/\∀x H',(Itn K a).Rm i H x H'->g x σ H' fun σ2 H2=>tb {D with nx:=N,ct:=N,bk:=D.nx} σ2 H2)
theorem X9 {ta:TA} {g:TG} {tb:TS} (h:ta σ H fun vs H1=>ZJ K vs g tb D σ H1):Pg (Vr K ta) g tb D σ H:=h
end
section
variable {σ:St} {H:Hp} {Q:VK} {K:At}
theorem XF {p:Addr} {xs:List V} {y:V} (e:H p=some (.lst xs)) (hl:xs.length<=4000) (h:Q .a9 (upd H p (.lst (xs++[y])))):D1 (.ref p) [y] H Q:=⟨p,xs,y,rfl,rfl,e,iP hl,h⟩
end
section
variable {X:Cx}
def ui {α:Type} (xs:List α) (k:Nat) (y:α):List α:=xs.take k++y::xs.drop k
theorem GA {α:Type} (xs:List α) (k:Nat) (y:α):(ui xs k y).length=xs.length+1:=by
 unfold ui
 rw [Do,GG,Ll,List.length_drop]
 omega
theorem Vals.ins {xs:List V} {us:List Value} {y:V} {u:Value} (r:Vals xs us) (ry:RelV y u) (k:Nat):Vals (ui xs k y) (ui us k u):=(r.take k).append (.cons ry (r.drop k))
def KG:V->List V->Hp->VK->Prop:=fun x vs H Q=>∃l xs i y,x=.ref l/\vs=[.int i,y]/\H l=some (.lst xs)/\0<=i/\i<=xs.length/\xs.length<Ev/\Q .a9 (upd H l (.lst (ui xs i.toNat y)))
theorem Mz:Zd X "list.insert" KG:=by
 intro pins s σ H x vs v us Q I rx rv h
 obtain⟨l,xs,i,y,rfl,rfl,hH,h0,h1,hz,q⟩:=h
 cases rx
 cases rv with
 |cons ri rv=>
  obtain⟨t,rfl⟩:=ri
  obtain⟨u,rfl,ru⟩:=Vals.one rv
  obtain⟨z,bh,n,r,hl,e⟩:=I.Hh hH
  have z9:Ev<=2^62:=by decide
  have afS:W1.List.listFitsIndex i=true:=fitsIndex_both (by omega) (by omega)
  refine AbR F.slot_list_insert ⟨_,e,rfl⟩ F.entry_list_insert (F.args_list_insert_3 _ _ _) (AutoSeq1.list_insert_list_int_val_1 l bh.toArray n i t u (by simp [afS]) (by rw [Cc];omega)) ⟨e,?_⟩
  refine⟨.a9,_,I.Ox (its':=ui bh i.toNat u) hH e ?_ (r.ins ru i.toNat) ?_,rfl,q⟩
  . show(bh.toArray.extract 0 (if i<0 then (i+(bh.toArray.size:Int)).toNat else min i.toNat bh.toArray.size)).push u++bh.toArray.extract (if i<0 then (i+(bh.toArray.size:Int)).toNat else min i.toNat bh.toArray.size)=(ui bh i.toNat u).toArray
    rw [kl_ins_eq,Cc,if_neg (by omega),Nat.min_eq_left (by omega)]
    rfl
  . rw [GA];omega
end
section
open PySem.SeqAt
open PySem.AutoSeq1 (wpAny_loadPart')
open PySem.MeetsSeq PySem.MeetsSeq2 PySem.MeetsSeq3
theorem QH (A:IF) (s:AM) (a:Int) (t:Tok) (c:Int) (u:Tok) (prog:Fa) (w:World) (E:Value->AM->Prop) (Q:Value->AM->Prop) (h:Q (.bool (decide (a>c))) s):
 wpAny (model prog w) A (richCompare .Gt (.int a t) (.int c u)) Q E s:=
 (PyProof.Rows.gt_int h:wpAny (model prog w) A (NH .Gt (.int a t) (.int c u)) Q E s)
theorem Qn (A:IF) (s:AM) (a:Str) (t:Tok) (c:Str) (u:Tok) (prog:Fa) (w:World) (E:Value->AM->Prop) (Q:Value->AM->Prop) (h:Q (.bool (decide (c.cps.toList<a.cps.toList))) s):
 wpAny (model prog w) A (richCompare .Gt (.str a t) (.str c u)) Q E s:=
 (PySem.P.gt_str h:wpAny (model prog w) A (NH .Gt (.str a t) (.str c u)) Q E s)
theorem B3 (l b:Addr) (n n2:Nat) (dd dd2:Option Addr) (sl sl2:Array (Option Value)) (i j:Int) (t u t2 u2:Tok) (c d:Str):
 Meets (W1.«tuple.__gt__» ⟨[.ref l,.ref b],[]⟩)
  (fun _ R s=>s.heap.get? l=some {cls:=.type "tuple",dict:=dd,data:=.seq #[.int i t,.str c t2] n,slots:=sl}/\s.heap.get? b=some {cls:=.type "tuple",dict:=dd2,data:=.seq #[.int j u,.str d u2] n2,slots:=sl2}/\
   R (.ok (.ret (.bool (bw (j,d) (i,c))))) s):=
 .of_wp fun prog w A R s h=>by
  obtain⟨hp,g,d0,tk,os⟩:=s;obtain⟨hl,hb,h⟩:=h
  have f2:=AutoSeq1.sub_tuple_tuple
  wp_walk using wpAny_loadPart' hl,wpAny_loadPart' hb,wpAny_forIn_list _ (fun rest b s'=>b.1=none/\s'=⟨hp,g,d0,tk,os⟩/\
   (rest=[(.int i t,.int j u),(.str c t2,.str d u2)]\/(rest=[(.str c t2,.str d u2)]/\i=j)\/(rest=[]/\i=j/\c=d))) _
  case turn=>
   rintro⟨y,x⟩ rest b s' ⟨Pj,rfl,hr⟩
   rcases hr with hr|⟨hr,e⟩|⟨hr,_⟩
   . injection hr with hyx O5
     injection hyx with hy hx
     subst hy hx O5
     have he:=EqAt.int_int (A:=A.in1) (s:=⟨hp,g,d0,tk,os⟩) i t j u
     refine BC (he prog w _ _ ?_)
     by_cases e:i=j
     . rw [show(i==j)=true from beq_iff_eq.mpr e]
       wp_walk
       exact⟨rfl,rfl,.inr (.inl ⟨rfl,e⟩)⟩
     . rw [show(i==j)=false from beq_eq_false_iff_ne.mpr e]
       have hri:=QH A.in1 ⟨hp,g,d0,tk,os⟩ i t j u prog w
       have hv:bw (j,d) (i,c)=decide (i>j):=by
        unfold bw
        have:¬j=i:=fun z=>e z.symm
        simp [this]
       rw [hv] at h
       wp_walk using hri
       exact⟨_,rfl,by simpa using h⟩
   . injection hr with hyx O5
     injection hyx with hy hx
     subst hy hx O5
     have he:=EqAt.str_str (A:=A.in1) (s:=⟨hp,g,d0,tk,os⟩) c t2 d u2
     refine BC (he prog w _ _ ?_)
     by_cases e2:c=d
     . rw [show(c==d)=true from beq_iff_eq.mpr e2]
       wp_walk
       exact⟨rfl,rfl,.inr (.inr ⟨rfl,e,e2⟩)⟩
     . rw [show(c==d)=false from beq_eq_false_iff_ne.mpr e2]
       have hri:=Qn A.in1 ⟨hp,g,d0,tk,os⟩ c t2 d u2 prog w
       have hv:bw (j,d) (i,c)=decide (d.cps.toList<c.cps.toList):=by
        unfold bw Fs
        simp [e]
       rw [hv] at h
       wp_walk using hri
       exact⟨_,rfl,by simpa using h⟩
   . cases hr
  case fin=>
   rintro⟨b1,b2⟩ s' ⟨Pj,rfl,hr⟩
   simp only at Pj
   subst Pj
   rcases hr with hr|⟨hr,_⟩|⟨_,e,e2⟩
   . cases hr
   . cases hr
   . have hv:bw (j,d) (i,c)=false:=by rw [e,e2];exact iR _
     rw [hv] at h
     wp_walk
     exact⟨_,rfl,by simpa [W1.Tuple.tupleCompareSizes] using h⟩
  case h=>
   exact⟨rfl,rfl,.inl rfl⟩
end
section
variable {X:Cx}
def abN (K:At):R2:=fun x y H Q=>∃a b i c j d,x=.ref a/\y=.ref b/\zQ K H a [.int i,.str c]/\zQ K H b [.int j,.str d]/\Q (.bl (bw (j,d) (i,c))) H
theorem Yw (hu:X.A.units<cLine):rD X (NH .Gt) (abN X.K):=by
 intro pins s σ H x y v u Q I rx ry h
 obtain⟨a,b,i,c,j,d,rfl,rfl,ha,hb,q⟩:=h
 cases rx
 cases ry
 obtain⟨bh,r1,p1,_⟩:=I.tuple ha
 obtain⟨Fx,r2,p2,_⟩:=I.tuple hb
 cases r1 with
 |cons ri r1=>
  obtain⟨t,rfl⟩:=ri
  obtain⟨_,rfl,t2,rfl⟩:=Vals.one r1
  cases r2 with
  |cons rj r2=>
   obtain⟨t',rfl⟩:=rj
   obtain⟨_,rfl,t2',rfl⟩:=Vals.one r2
   obtain⟨⟨cls,dd,data,sl⟩,ho,hc,n,hd⟩:=id p1
   obtain⟨⟨ajy,dd2,data2,sl2⟩,ho2,QY,n2,hd2⟩:=id p2
   simp only at hc hd QY hd2
   subst hc hd QY hd2
   exact richCompare_meets_room (op:=.Gt) ⟨_,ho,rfl⟩ ⟨_,ho2,rfl⟩ PySem.F.slot_tuple_gt PySem.F.entry_tuple_gt (PySem.F.args_tuple_gt_2 _ _) (B3 a b n n2 dd dd2 sl sl2 i j t t' t2 t2' c d)
    ⟨ho,ho2,show AbN (bw (j,d) (i,c))≠Value.notImplemented/\(EP X pins σ Q) (.bool (bw (j,d) (i,c))) s from⟨(fun x=>nomatch x),⟨.bl _,H,I,rfl,q⟩⟩⟩ hu
end
section
variable {σ:St} {H:Hp} {Q:VK} {D:Ends} {K:At}
theorem J9 {v:V} {k:Int × Str} (h:Dv H v (pairD k)):∃a,v=.ref a/\H a=some (.tup [.int k.1,.str k.2]):=by
 unfold pairD at h
 cases h with
 |tup ha r=>
  cases r with
  |cons h1 r=>
   cases r with
   |cons h2 r=>
    cases r
    cases h1;cases h2
    exact⟨_,rfl,ha⟩
theorem C6 {H:Hp}:∀{xs:List V} {ds:List BB} (n:Nat),eJ H xs ds->eJ H (xs.eraseIdx n) (ds.eraseIdx n)
 |_,_,_,.nil=>.nil
 |_,_,0,.cons _ r=>r
 |_,_,n+1,.cons h r=>.cons h (C6 n r)
theorem Bq {α β:Type} {f:α->β}:∀{l:List α} {i:Nat},(l.eraseIdx i).map f=(l.map f).eraseIdx i
 |[],_=>rfl
 |_::_,0=>rfl
 |a::l,i+1=>by rw [Aaq,EO,EO,Aaq,Bq]
theorem aaT {x y:V} {k j:Int × Str} (h1:Dv H x (pairD k)) (h2:Dv H y (pairD j)) (h:Q (.bl (bw j k)) H):abN K x y H Q:=by
 obtain⟨a,rfl,ha⟩:=J9 h1
 obtain⟨b,rfl,hb⟩:=J9 h2
 exact⟨a,b,k.1,k.2,j.1,j.2,rfl,rfl,.of ha,.of hb,h⟩
theorem WL {p:Addr} {ks:List (Int × Str)} {y:V} {k:Int × Str} {i:Int} (hp:eF H p (ks.map pairD)) (hy:Dv H y (pairD k)) (h0:0<=i) (h1:i<=ks.length) (hl:ks.length<=4000) (h:∀H2,Mv [p] H H2->eF H2 p ((ui ks i.toNat k).map pairD)->Q .a9 H2):KG (.ref p) [.int i,y] H Q:=by
 obtain⟨xs,e,dv,im⟩:=hp
 have MY:xs.length=ks.length:=by rw [dv.length,AL]
 have m:Mv [p] H (upd H p (.lst (ui xs i.toNat y))):=.aV e (by intro _ z;cases z)
 have e2:(ui ks i.toNat k).map pairD=(ks.map pairD).take i.toNat++pairD k::(ks.map pairD).drop i.toNat:=by
  unfold ui
  rw [Da,EO,List.map_take,List.map_drop]
 refine⟨p,xs,i,y,rfl,rfl,e,h0,by omega,by rw [MY];exact iP hl,h _ m ⟨_,av,m.HL (cL (fun _=>rfl) _) ?_,cL (fun _=>rfl) _⟩⟩
 rw [e2]
 exact eJ.append (dv.take i.toNat) (.cons hy (dv.drop i.toNat))
theorem XH {p:Addr} {ks:List (Int × Str)} {i:Int} (hp:eF H p (ks.map pairD)) (h0:0<=i) (h1:i<ks.length) (hl:ks.length<=4000) (h:∀v H2,Mv [p] H H2->eF H2 p ((ks.eraseIdx i.toNat).map pairD)->Q v H2):Pz (.ref p) [.int i] H Q:=by
 obtain⟨xs,e,dv,im⟩:=hp
 have MY:xs.length=ks.length:=by rw [dv.length,AL]
 have hi:i.toNat<xs.length:=by omega
 have m:Mv [p] H (upd H p (.lst (xs.eraseIdx i.toNat))):=.aV e (by intro _ z;cases z)
 refine⟨p,xs,i,i.toNat,xs[i.toNat],rfl,rfl,e,by omega,by omega,?_,AC hi,h _ _ m ⟨_,av,m.HL (cL (fun _=>rfl) _) ?_,cL (fun _=>rfl) _⟩⟩
 . unfold seqIndex?
   have aeR:¬i<0:=by omega
   have hc:(decide (0<=i)&&decide (i<(xs.length:Int)))=true:=by rw [decide_eq_true h0,decide_eq_true (by omega:i<(xs.length:Int))];rfl
   simp only [aeR,if_false,hc,if_true]
 . rw [Bq]
   exact C6 i.toNat dv
theorem aaI {p:Addr} {xs:List V} {g:TG} {tb:TS} (Pv:Nat->St->Hp->Prop) (h0:Pv 0 σ H) (hk:∀i σ H',i<=xs.length->Pv i σ H'->H' p=some (.lst xs))
 (hs:∀i x t σ H',xs[i]? =some x->Pv i σ H'->H' t=none->g (.ref t) σ (upd H' t (.tup [.int (i:Int),x])) fun σ2 H2=>tb {D with nx:=Pv (i+1),ct:=Pv (i+1),bk:=D.nx} σ2 H2) (hd:∀σ H',Pv xs.length σ H'->D.nx σ H'):ZJ K [.ref p] g tb D σ H:=by
 have at':∀i σ H',i<=xs.length->Pv i σ H'->iN K H' p xs:=fun i σ H' hi hp=>.of (hk i σ H' hi hp)
 refine⟨p,rfl,⟨xs,at' 0 σ H (IR _) h0⟩,fun i m σ H=>i<=xs.length/\m=xs.length - i/\Pv i σ H,⟨_,IR _,rfl,h0⟩,?_⟩
 rintro i m σ H' ⟨hi,hm,hp⟩
 have Dw:=at' i σ H' hi hp
 by_cases hc:i=xs.length
 . subst hc
   exact .inl ⟨⟨xs,Dw,by omega⟩,hd σ H' hp⟩
 . have XE:i<xs.length:=by omega
   refine .inr ⟨⟨xs,xs[i],Dw,AC XE⟩,Pv (i+1),fun σ' H2 SF=>⟨xs.length - (i+1),by omega,by omega,rfl,SF⟩,fun x H2 hy=>?_⟩
   obtain⟨t,x',hy,rfl,ht,rfl⟩:=hy
   have hx:=hy xs Dw
   exact hs i x' t σ H' hx hp ht
end
section
variable {X:Cx}
def Tg:V->List V->Hp->VK->Prop:=fun x vs H Q=>∃i:Int,x=.int i/\vs=[]/\Q (.int (IS i:Nat)) H
theorem Ms:MtR X "int.bit_length" Tg:=by
 intro pins s σ H x vs v us Q I rx rv h
 obtain⟨i,rfl,rfl,q⟩:=h
 obtain⟨t,rfl⟩:=rx
 have Et:=rv.zero
 subst Et
 exact call_gives F.slot_int_bit_length (typeIs_int _ _ _) F.entry_int_bit_length (F.args_int_bit_length_1 _) (AutoIntG2.int_bit_length_int_0 i t) ⟨.int _,H,I.tok _,⟨_,rfl⟩,q⟩
end
theorem Ar {x y:Int} (hx:0<=x) (hy:0<=y):AaM x y=((x.toNat&&&y.toNat:Nat):Int):=by
 unfold AaM
 rw [decide_eq_true hx,decide_eq_true hy]
theorem Dd {x y:Int} (hx:0<=x) (hy:0<=y):P3 x y=((x.toNat|||y.toNat:Nat):Int):=by
 have e:∀z:Int,VT (VT z)=z:=fun z=>by unfold VT;omega
 have n1:¬0<=VT x:=by unfold VT;omega
 have n2:¬0<=VT y:=by unfold VT;omega
 unfold P3 AaM
 rw [decide_eq_false n1,decide_eq_false n2]
 simp only [e]
theorem yR {x s j:Nat} (hb:x.testBit s=true):(x - 2^s).testBit j=(x.testBit j&&decide (j≠s)):=by
 have hp:0<2^s:=Nat.two_pow_pos s
 have hl:x % 2^s<2^(s+1):=DD (Nat.mod_lt _ hp) (Nat.pow_le_pow_right (by decide) (by omega))
 have hx:x=2^(s+1)*(x / 2^(s+1))+(2^s+x % 2^s):=by
  have h1:=Nat.div_add_mod x (2^s)
  have h2:=Nat.div_add_mod (x / 2^s) 2
  have h3:x / 2^s % 2=1:=by
   rw [Aaz] at hb
   exact of_decide_eq_true hb
  have h4:x / 2^s / 2=x / 2^(s+1):=by rw [Nat.div_div_eq_div_mul,Abr]
  have e:2^(s+1)*(x / 2^(s+1))=2^s*(2*(x / 2^(s+1))):=by rw [Abr,Nat.mul_assoc]
  rw [e]
  rw [h3,h4] at h2
  have h5:2^s*(x / 2^s)=2^s*(2*(x / 2^(s+1)))+2^s:=by
   conv=>lhs;rw [<-h2]
   rw [Nat.mul_add,Nat.mul_one]
  omega
 have hs:x - 2^s=2^(s+1)*(x / 2^(s+1))+x % 2^s:=by omega
 rw [hs,Nat.testBit_two_pow_mul_add _ hl]
 split
 . rename_i hj
   rw [Nat.testBit_mod_two_pow]
   by_cases e:j=s
   . simp [e]
   . simp [e,show j<s from by omega]
 . rename_i hj
   rw [Nat.testBit_div_two_pow]
   rw [show j - (s+1)+(s+1)=j from by omega]
   simp [show j≠s from by omega]
theorem Ae {x:Int} {s:Nat} (hx:0<=x) (hb:x.toNat.testBit s=true):Na x (1*2^s)=((x.toNat - 2^s:Nat):Int):=by
 have hy:(0:Int)<=1*2^s:=by rw [AaK];exact NL (Int.pow_pos (by decide))
 have ey:(1*2^s:Int).toNat=2^s:=by
  rw [AaK]
  have:(2:Int)^s=((2^s:Nat):Int):=by norm_cast
  rw [this];rfl
 have e1:x.toNat|||2^s=x.toNat:=by
  apply Nat.eq_of_testBit_eq
  intro i
  rw [Nat.testBit_or,Abj]
  by_cases c:s=i
  . subst c;rw [hb];rfl
  . simp [c]
 have e2:x.toNat&&&2^s=2^s:=by
  apply Nat.eq_of_testBit_eq
  intro i
  rw [Nat.testBit_and,Abj]
  by_cases c:s=i
  . subst c;rw [hb];simp
  . simp [c]
 unfold Na
 rw [Dd hx hy,Ar hx hy,ey,e1,e2]
 have hle:2^s<=x.toNat:=Nat.ge_two_pow_of_testBit hb
 omega
theorem L0 (s:Nat):(1*2^s:Int).toNat=2^s:=by
 rw [AaK]
 have:(2:Int)^s=((2^s:Nat):Int):=by norm_cast
 rw [this];rfl
theorem FH {x:Nat} (h:0<x):x.testBit x.log2=true:=by
 rw [Aaz]
 have h1:2^x.log2<=x:=Nat.log2_self_le (by omega)
 have h2:x<2^(x.log2+1):=Nat.lt_log2_self
 have h3:x / 2^x.log2=1:=by
  apply Nat.div_eq_of_lt_le
  . omega
  . rw [Abr] at h2;omega
 rw [h3];rfl
section
variable {X:Cx}
end
section
variable {σ:St} {H:Hp} {Q:VK}
end
section
variable {σ:St} {H:Hp} {Q:VK} {K:At}
theorem U9 {k:Nat} {g:TG} {tc:TT} {te:TE} {p:Addr} {xs:List V} (hl:iN K H p xs) (hlen:xs.length<=4000) (Pv:Nat->List V->Hp->Prop) (h0:Pv 0 [] H) (hk:∀i acc H',i<=xs.length->Pv i acc H'->iN K H' p xs/\acc.length<=xs.length)
 (turn:∀i x acc H' (N:Option V->Hp->Prop),xs[i]? =some x->Pv i acc H'->(∀y H4,Pv (i+1) (acc++[y]) H4->N (some y) H4)->(∀H4,Pv (i+1) acc H4->N none H4)->
  g x (LM k none++σ) H' fun σ2 H2=>tc σ2 H2 fun b H3=>LCT te N σ2 b H3)
 (kk:∀acc H' q,Pv xs.length acc H'->H' q=none->Q (.ref q) (upd H' q (.lst acc))):∃a,V.ref p=.ref a/\(∃xs,iN K H a xs)/\ZZ k g tc te (JW Q) σ (QD K a) H:=by
 refine⟨p,rfl,⟨xs,hl⟩,fun i m acc H'=>i<=xs.length/\m=xs.length - i/\Pv i acc H',⟨xs.length,IR _,rfl,h0⟩,?_⟩
 rintro i m acc H' ⟨uY,hm,hp⟩
 obtain⟨Dw,Jm⟩:=hk i acc H' uY hp
 by_cases hc:i=xs.length
 . subst hc
   exact .inl ⟨⟨xs,Dw,BY _⟩,fun q hq=>kk acc H' q hp hq⟩
 . have XE:i<xs.length:=by omega
   refine .inr ⟨⟨xs,xs[i],Dw,AC XE⟩,iP (by omega),fun x H2 hy=>?_⟩
   obtain⟨rfl,hy⟩:=hy
   have hx:=hy xs Dw
   exact turn i x acc H2 (fun o H4=>match o with|some y=>∃m',m'<m/\i+1<=xs.length/\m'=xs.length - (i+1)/\Pv (i+1) (acc++[y]) H4|none=>∃m',m'<m/\i+1<=xs.length/\m'=xs.length - (i+1)/\Pv (i+1) acc H4) hx hp
    (fun y H4 h=>⟨xs.length - (i+1),by omega,XE,rfl,h⟩) fun H4 h=>⟨xs.length - (i+1),by omega,XE,rfl,h⟩
end
def BM (mg:Str->Option Value) (h:Heap):Prop:=∃bm ob,mg "__builtins__"=some (.ref bm)/\bm≠AbP/\h.get? bm=some ob/\ob.cls=.type "module"/\ob.dict=some AbP/\ob.data=.plain
section
variable {X:Cx} {pins:List (Addr × Obj)} {σ:St} {H:Hp} {s:AM} {c P:Addr} {params:AbM} {body:Expr} {scope:Scope} {pos:Pos} {afv:List (Str × Addr)} {E:Value->AM->Prop}
end
section
variable {X:Cx} {pins:List (Addr × Obj)} {σ σ':St} {H:Hp} {s:AM} {A:IF} {N:List Str} {p name qual:Str} {params:AbM} {body:Expr} {scope:Scope} {afv:List (Str × Addr)} {g c':Addr} {pm ctv:Value} {v:V} {u:Value} {k:Nat} {Q:VK} {te:TE}
end
section
variable {X:Cx} {pins:List (Addr × Obj)} {σ:St} {H:Hp} {s:AM} {f a:Addr} {sp:Sp} {kf:V->Int × Str} {A:IF}
end
section
variable {X:Cx} {pins:List (Addr × Obj)} {σ:St} {H:Hp} {s:AM} {P:Addr} {params:AbM} {body:Expr} {scope:Scope} {p:Str} {xs:List Str} {js:List Nat} {te:TE} {k:Nat} {pos:Pos}
variable {e:Expr} {t:TA} {pn p2 jF RM:Pos}
end
structure aj8 (K:At) (f c P:Addr):Prop where
 fn:∃(oc:Value) (od:Option Addr) (fd:Cf) (sl:Array (Option Value)),K.lookup f=some ⟨oc,od,.func fd,sl⟩/\fd.code=.ref c
 cd:codeHdIn K c P=true
 no:K.lookup P=none
section
variable {P:Fa} {w:World} {K:At} {mg:Str->Option Value} {base:Heap}
end
section
variable {X:Cx} {P:Addr} {params:AbM} {scope:Scope} {p x:Str} {j:Nat}
end
section
variable {σ:St} {H:Hp} {Q:VK} {K:At} {p:Addr} {m:List (Str × BB)}
end
section
variable {σ:St} {H:Hp} {D:Ends} {p:Addr} {m:List (Str × BB)} {g:TG} {tb:TS}
end
section
variable {σ:St} {H:Hp} {Q:VK} {K:At} {p:Addr} {m:List (Str × BB)} {k:Str}
end
def CL (m:List (Str × V)):List (Key × V):=m.map fun x=>(.inr x.1,x.2)
theorem Fp {k:Str}:∀{m:List (Str × V)},((CL m).any fun kv=>decide (kv.1=.inr k))=m.any fun kv=>decide (kv.1=k)
 |[]=>rfl
 |x::r=>by
  have:=Fp (k:=k) (m:=r)
  unfold CL at*
  simp only [EO,Aa2,this,J6]
theorem Fb {m:List (Str × V)} {k:Str} {v:V} (h:k∉m.map (·.1)):putK (CL m) (.inr k) v=CL (m++[(k,v)]):=by
 unfold putK
 rw [Fp,if_neg]
 . unfold CL;rw [Da];rfl
 . simp only [Mn,not_exists,not_and]
   intro x hx e
   exact h (AT.mpr ⟨x,hx,of_decide_eq_true e⟩)
theorem Ks {k:Str}:∀{m:List (Str × V)},k∈m.map (·.1)->∃v,(k,v)∈m/\lu (CL m) (.inr k)=some v
 |[],h=>by simp at h
 |(j,v)::r,h=>by
  by_cases e:j=k
  . subst e
    exact⟨v,BN,oR rfl⟩
  . have h2:k∈r.map (·.1):=by
     rcases AE.mp h with z|z
     . exact absurd z.symm e
     . exact z
    obtain⟨u,hu,hv⟩:=Ks h2
    exact⟨u,AD _ hu,by unfold CL at*;rw [EO,lE (fun z=>e (AaB z))];exact hv⟩
section
variable {σ:St} {H H':Hp} {Q:VK} {K:At} {p l:Addr} {ns:List Str} {f:Str->List BB} {k:Str}
end
section
variable {H H':Hp} {P:Addr} {pos:Pos} {q:Str}
end
section
variable {prog:Fa} {w:World} {A:IF} {E:Value->AM->Prop} {s:AM}
theorem GZ {T:String} {r d:Addr} {n:Nat} {Pk:Nat->Value->Prop} {OK:Heap->Prop} {ss:List Str} {Q:Value->AM->Prop} (src:KdlSrc prog w T r d n Pk OK) (hh:A.handled=none) (ok:OK s.heap) (h64:n<64) (hP:∀acc:Array Value,ItemsOf Pk acc n->StrsAre acc.toList ss)
 (h:∀(h1 h':Heap) (tk e:Nat) (us:List Value) (Lq:List Str),(∀b u,s.heap.get? b=some u->h1.get? b=some u)->(∀b u,h1.get? b=some u->h'.get? b=some u)->h'.get? h1.objs.size=some {cls:=.type "list",data:=.seq us.toArray e}->StrsAre us Lq->Lq.Perm ss->sortedS Lq=true->Q (.ref h1.objs.size) {s with heap:=h',toks:=tk}):
 wpAny (model prog w) A (call (.builtin "sorted") [.ref r]) Q E s:=by
 refine Calls.call_function_entry kind_sorted plain_sorted entry_sorted (args_sorted1 _) ?_
 unfold W1.«sorted»
 refine BC (m:=checkCount "sorted" 1 1 _) (FM ?_)
 refine BC (kdu_collect (A:=A.in1) src hh ok (by rw [AaE];omega) fun h1 tk acc kp lg=>?_)
 have hS:=hP acc lg
 have hn:acc.toList.length<64:=by
  have e:acc.size=n:=lg.1
  rw [Aa6,e];exact h64
 refine BC (Aa3 ?_ (hsz:=by rw [AaE];omega))
 generalize acc.toList=vs at*
 have Ii:(h1.push (M2 "list" vs.toArray 0)).get? h1.objs.size=some (M2 "list" vs.toArray 0):=EM _ rfl
 refine BC (Aat (Aak slot_list_sort ⟨_,Ii,rfl⟩ entry_list_sort (list_sort_treeK strKind_oneLt Ii hS.keysOf (fun v₁ v₂ rest e=>keyKind_strs (by rw [<-e];exact hS)) hn fun uJ a1 a2=>⟨_,rfl,?_⟩) (args_list_sort _)))
 obtain⟨Lq,b1,b2,b3⟩:=sorted_out_str hS a1 a2
 obtain⟨e,he⟩:=sortedHeap_at (out:=(arrOf uJ).map (·.2)) Ii
 refine FM ⟨_,rfl,h h1 _ tk e ((arrOf uJ).map (·.2)).toList Lq kp (fun b u q=>?_) (by rw [Array.toArray_toList];exact he) b1 b2 b3⟩
 have iF:b<h1.objs.size:=Db q
 rw [sortedHeap_old (ES iF) (by rw [size_push'];exact Aaa iF)]
 exact BS _ q
end
section
variable {X:Cx}
def Xi:V->Hp->VK->Prop:=fun x H Q=>∃(p:Addr) (kvs:List (Key × V)) (ks:List Str),x=.ref p/\H p=some (.dK kvs)/\kvs.map (fun kv=>kV kv.1)=ks.map V.str/\ks.length<64/\∀q H' ss,aA H H'->H q=none->ss.Perm ks->UpS ss->eF H' q (ss.map GM)->Q (.ref q) H'
theorem Dq:∀{ks:List Str} {us:List Value},Vals (ks.map V.str) us->StrsAre us ks
 |[],_,.nil=>.nil
 |_::_,_,.cons q t=>by
  obtain⟨tk,rfl⟩:=q
  exact .cons _ _ (Dq t)
theorem ME {pins:List (Addr × Obj)} {σ:St} {H:Hp} {s:AM} {Q:VK} {h1 h':Heap} {tk e:Nat} {us:List Value} {Lq:List Str} (I:Inv X pins σ H s) (k1:∀b u,s.heap.get? b=some u->h1.get? b=some u) (k2:∀b u,h1.get? b=some u->h'.get? b=some u) (he:h'.get? h1.objs.size=some {cls:=.type "list",data:=.seq us.toArray e}) (hS:StrsAre us Lq) (hl:Lq.length<64)
 (q:∀q H',aA H H'->H q=none->eF H' q (Lq.map GM)->Q (.ref q) H'):∃v H1,Inv X pins σ H1 {s with heap:=h',toks:=tk}/\RelV v (.ref h1.objs.size)/\Q v H1:=by
 have I1:=I.kept (t':=tk) (h':=h1) k1
 have hq:H h1.objs.size=none:=I1.bE.fresh (BY _)
 refine⟨.ref h1.objs.size,upd H h1.objs.size (.lst (Lq.map V.str)),I1.laid (t':=tk) k2 (BY _) ?_,rfl,q _ _ (dX hq) hq (zR hq (F8 Lq) (cL (fun _=>rfl) _))⟩
 exact⟨by rw [AL];exact AaO (iP (by omega)),us,e,DG hS,he⟩
def J7:List V->Hp->VK->Prop:=fun xs H Q=>∃v,xs=[v]/\Xi v H Q
theorem Jr (hc:X.calm=true):nk X (.builtin "sorted") J7:=by
 intro pins s σ H xs us Q I r h
 obtain⟨v,rfl,d,kvs,ks,rfl,hd,Ze,hl,q⟩:=h
 obtain⟨u,rfl,ru⟩:=vals1 r
 cases ru
 obtain⟨hz,hs,vs,kv,dof⟩:=(show c9 X.prog X.w H s.heap d (.dK kvs) from I.bE d _ hd)
 obtain⟨ep,da⟩:=dof.dictAt
 have hlen:vs.length=kvs.length:=kv.length.symm
 have Zj:kvs.length=ks.length:=by have:=congrArg Abc Ze;rwa [AL,AL] at this
 refine GZ (kdl_dict (knd:=bb X.prog X.w) (kvs:=vs) (ep:=ep) hs) (I.ok.hd hc) da (by omega) (fun acc lg=>Dq (Ze▸BK kv lg)) fun h1 h' tk e us Lq k1 k2 he hS hp FQ=>?_
 exact ME I k1 k2 he hS (by rw [hp.length_eq];exact hl) fun a H' sm hn Dw=>q a H' Lq sm hn hp (DP FQ) Dw
end
section
variable {σ:St} {H:Hp} {Q:VK}
end
section
variable {σ:St} {H H':Hp} {Q:VK} {D:Ends} {K:At} {p l t:Addr} {ns:List Str} {f:Str->List Str} {b:Str->Bool} {k:Str}
end
section
variable {X:Cx}
end
section
variable {σ:St} {H:Hp} {Q:VK}
end
section
variable {X:Cx} {o i:Expr} {pos:Pos} {td ty:TE} {A:Addr} {m:List (Str × Int)}
end
section
variable {σ:St} {H:Hp} {Q:VK} {A:Addr} {m:List (Str × Int)}
end
section
variable {H:Hp} {Q:VK} {K:At} {p:Addr} {ds:List BB}
end
def SQ:TE:=fun _ _ _=>False
theorem Ba {X:Cx} {e:Expr}:PE X e SQ:=fun _ _ _ _ _ _ h=>h.elim
structure Fr (cs S:List Addr) (H H':Hp):Prop where
 kp:∀x o,H x=some o->(∀kvs,o=.dK kvs->x∉S)->(∀C dx fs,o=.ins C dx fs->C∉cs)->H' x=some o
 dm:∀x,H' x=none->H x=none
def nd:BB->Bool
 | .dict _=>false
 | .list ds=>ndA ds
 | .tuple ds=>ndA ds
 |_=>true
where ndA:List BB->Bool
 |[]=>true
 |d::r=>nd d&&ndA r
section
variable {cs S:List Addr} {H H1 H':Hp} {p q:Addr} {v:V} {K:At}
theorem Fr.Qe {C dx:Addr} {fs:List (Str × V)} (m:Mv [p] H H') (h:H p=some (.ins C dx fs)) (hC:C∈cs):Fr cs S H H':=⟨fun x o e _ b=>m.kp x o (fun z=>by
 rw [AN.mp z,h] at e
 cases e
 exact b _ _ _ rfl hC) e,m.dm⟩
theorem Fr.dkM {kvs:List (Key × V)} (m:Mv [p] H H') (h:H p=some (.dK kvs)) (hS:p∈S):Fr cs S H H':=⟨fun x o e a _=>m.kp x o (fun z=>by
 have z:=AN.mp z
 subst z
 rw [h] at e
 cases e
 exact a _ rfl hS) e,m.dm⟩
theorem Fr.ins {C:Addr} {fs:List (Str × V)} (f:Fr cs S H H') (hC:C∉cs) (h:iL H v C fs):iL H' v C fs:=by
 obtain⟨p,dx,rfl,e⟩:=h
 exact⟨p,dx,rfl,f.kp p _ e (by intro _ z;cases z) (by intro _ _ _ z;cases z;exact hC)⟩
end
def qC (H:Hp) (p:Addr) (ns:List Str) (f:Str->V):Prop:=H p=some (.dK (CL (ns.map fun n=>(n,f n))))
def cU {β:Type} (f:Str->β) (k:Str) (v:β):Str->β:=fun n=>if n=k then v else f n
theorem aP {β:Type} {f:Str->β} {k:Str} {v:β}:cU f k v k=v:=if_pos rfl
theorem dF {β:Type} {f:Str->β} {k n:Str} {v:β} (h:n≠k):cU f k v n=f n:=if_neg h
section
variable {σ:St} {H H':Hp} {Q:VK} {K:At} {p:Addr} {ns:List Str} {f:Str->V} {k:Str} {v:V}
theorem qC.congr {g:Str->V} (h:qC H p ns f) (e:∀n∈ns,f n=g n):qC H p ns g:=by
 have:(ns.map fun n=>(n,f n))=ns.map fun n=>(n,g n):=Su fun n hn=>by rw [e n hn]
 unfold qC at*
 rw [<-this];exact h
theorem S7 (h:nW H p []):qC H p [] f:=by
 obtain⟨kvs,e,d⟩:=h
 cases d
 exact e
theorem qC.keeps (s:aA H H') (h:qC H p ns f):qC H' p ns f:=s _ _ h
theorem qC.mv {S:List Addr} (m:Mv S H H') (n:p∉S) (h:qC H p ns f):qC H' p ns f:=m.kp _ _ n h
theorem qC.keys:(ns.map fun n=>(n,f n)).map (·.1)=ns:=by rw [KB];exact List.map_id' _
theorem qC.val (hk:k∈ns):lu (CL (ns.map fun n=>(n,f n))) (.inr k)=some (f k):=by
 obtain⟨u,hu,e⟩:=Ks (m:=ns.map fun n=>(n,f n)) (k:=k) (by rw [qC.keys];exact hk)
 obtain⟨n,_,z⟩:=AT.mp hu
 cases z
 exact e
theorem qC.no (hk:k∉ns):lu (CL (ns.map fun n=>(n,f n))) (.inr k)=none:=by
 have h:=AG (WS k:Key) (CL (ns.map fun n=>(n,f n)))
 rw [Fp] at h
 cases e:lu (CL (ns.map fun n=>(n,f n))) (.inr k) with
 |none=>rfl
 |some u=>
  rw [e] at h
  obtain⟨x,hx,hd⟩:=Mn.mp h
  obtain⟨n,hn,rfl⟩:=AT.mp hx
  exact absurd (of_decide_eq_true hd▸hn) hk
theorem R3 {R:Hp->Prop} (hp:qC H p ns f) (hl:ns.length<=4000) (hk:k∉ns) (h:∀H2,Mv [p] H H2->qC H2 p (ns++[k]) (cU f k v)->R H2):∃a H4,V.ref p=.ref a/\Cz H a (.str k) v H4/\R H4:=by
 have mv:Mv [p] H (upd H p (.dK (putK (CL (ns.map fun n=>(n,f n))) (.inr k) v))):=.aV hp (by intro _ z;cases z)
 refine⟨p,_,rfl,Cz.k (k:=.inr k) hp (by unfold CL;rw [AL,AL];exact iP hl),h _ mv ?_⟩
 unfold qC
 rw [av,Fb (by rw [qC.keys];exact hk)]
 have e:(ns.map fun n=>(n,f n))=ns.map fun n=>(n,cU f k v n):=Su fun n hn=>by rw [dF (fun z:n=k=>hk (by rw [<-z];exact hn))]
 rw [e,Da,List.map_singleton,aP]
theorem TF {R:V->Prop} (hp:qC H p ns f) (hk:k∈ns) (h:R (f k)):∃a v,V.ref p=.ref a/\ip H a (.str k) (some v)/\R v:=
 ⟨p,f k,rfl,by rw [<-qC.val hk];exact ip.k (k:=.inr k) hp,h⟩
theorem Wd {R:Option V->Prop} (hp:qC H p ns f) (h:∀o:Option V,(o.isSome=true↔k∈ns)->(k∈ns->o=some (f k))->R o):∃a o,V.ref p=.ref a/\ip H a (.str k) o/\R o:=by
 by_cases hk:k∈ns
 . exact⟨p,_,rfl,by rw [<-qC.val hk];exact ip.k (k:=.inr k) hp,h (some (f k)) ⟨fun _=>hk,fun _=>rfl⟩ fun _=>rfl⟩
 . exact⟨p,_,rfl,by rw [<-qC.no (f:=f) hk];exact ip.k (k:=.inr k) hp,h none ⟨fun z=>(by cases z),fun z=>absurd z hk⟩ fun z=>absurd z hk⟩
theorem K2:lD (CL (ns.map fun n=>(n,f n))) (.inr k)=CL ((ns.filter fun x=>decide (x≠k)).map fun n=>(n,f n)):=by
 induction ns with
 |nil=>rfl
 |cons a r ih=>
  unfold CL lD at*
  rw [EO,EO,NE,NE,ih]
  by_cases e:a=k
  . have e1:¬decide ((WS a:Key)≠WS k)=true:=by simp [e]
    have e2:¬decide (a≠k)=true:=by simp [e]
    rw [if_neg e1,if_neg e2]
  . have e1:decide ((WS a:Key)≠WS k)=true:=by simpa using fun z:(WS a:Key)=WS k=>e (AaB z)
    have e2:decide (a≠k)=true:=by simpa using e
    rw [if_pos e1,if_pos e2];rfl
theorem RQ (hp:qC H p ns f) (hk:k∈ns) (h:∀H2,Mv [p] H H2->qC H2 p (ns.filter fun x=>decide (x≠k)) f->Q (f k) H2):Kg (.ref p) [.str k] H Q:=by
 have mv:Mv [p] H (upd H p (.dK (lD (CL (ns.map fun n=>(n,f n))) (.inr k)))):=.aV hp (by intro _ z;cases z)
 refine⟨p,_,.inr k,f k,rfl,rfl,hp,qC.val hk,h _ mv ?_⟩
 unfold qC
 rw [av,K2]
theorem aay {R:Prop} (hp:qC H p ns f) (h:R):UE K "dict" (.ref p) H/\R:=⟨.inr (.inr (.inl ⟨rfl,.inl ⟨_,hp⟩⟩)),h⟩
theorem qC.ab5:(CL (ns.map fun n=>(n,f n))).map (fun kv=>kV kv.1)=ns.map V.str:=by unfold CL;rw [KB,KB];rfl
end
section
variable {σ:St} {H:Hp} {Q:VK} {K:At}
end
end L2
set_option maxHeartbeats 4000000
namespace My
open PySem L2
theorem ln1 {α:Type} {us:List α} (h:us.length=1):∃a,us=[a]:=by
 cases us with
 |nil=>cases h
 |cons a r=>
  cases r with
  |nil=>exact⟨a,rfl⟩
  |cons _ _=>exact absurd (AaV h) (Nat.succ_ne_zero _)
theorem m7 {K:At} {fd:Cf} {ps:List Str} (h:∀a:Value,AbQ fd ⟨[a],[]⟩=pure (ps.zip [a])) (hl:ps.length=1:=by rfl):Binds K fd ps []:=.all fun us hz=>by
 obtain⟨a,rfl⟩:=ln1 (hz.trans hl)
 exact h a
theorem ln2 {α:Type} {us:List α} (h:us.length=2):∃a b,us=[a,b]:=by
 cases us with
 |nil=>cases h
 |cons a r=>
  obtain⟨b,rfl⟩:=ln1 (us:=r) (AaV h)
  exact⟨a,b,rfl⟩
theorem eC {K:At} {fd:Cf} {ps:List Str} (h:∀a b:Value,AbQ fd ⟨[a,b],[]⟩=pure (ps.zip [a,b])) (hl:ps.length=2:=by rfl):Binds K fd ps []:=.all fun us hz=>by
 obtain⟨a,b,rfl⟩:=ln2 (hz.trans hl)
 exact h a b
theorem Zc {α:Type} {us:List α} (h:us.length=3):∃a b c,us=[a,b,c]:=by
 cases us with
 |nil=>cases h
 |cons a r=>
  obtain⟨b,c,rfl⟩:=ln2 (us:=r) (AaV h)
  exact⟨a,b,c,rfl⟩
theorem iC {K:At} {fd:Cf} {ps:List Str} (h:∀a b c:Value,AbQ fd ⟨[a,b,c],[]⟩=pure (ps.zip [a,b,c])) (hl:ps.length=3:=by rfl):Binds K fd ps []:=.all fun us hz=>by
 obtain⟨a,b,c,rfl⟩:=Zc (hz.trans hl)
 exact h a b c
theorem ln4 {α:Type} {us:List α} (h:us.length=4):∃a b c d,us=[a,b,c,d]:=by
 cases us with
 |nil=>cases h
 |cons a r=>
  obtain⟨b,c,d,rfl⟩:=Zc (us:=r) (AaV h)
  exact⟨a,b,c,d,rfl⟩
theorem Vw {K:At} {fd:Cf} {ps:List Str} (h:∀a b c d:Value,AbQ fd ⟨[a,b,c,d],[]⟩=pure (ps.zip [a,b,c,d])) (hl:ps.length=4:=by rfl):Binds K fd ps []:=.all fun us hz=>by
 obtain⟨a,b,c,d,rfl⟩:=ln4 (hz.trans hl)
 exact h a b c d
theorem ln5 {α:Type} {us:List α} (h:us.length=5):∃a b c d e,us=[a,b,c,d,e]:=by
 cases us with
 |nil=>cases h
 |cons a r=>
  obtain⟨b,c,d,e,rfl⟩:=ln4 (us:=r) (AaV h)
  exact⟨a,b,c,d,e,rfl⟩
theorem abS {K:At} {fd:Cf} {ps:List Str} (h:∀a b c d e:Value,AbQ fd ⟨[a,b,c,d,e],[]⟩=pure (ps.zip [a,b,c,d,e])) (hl:ps.length=5:=by rfl):Binds K fd ps []:=.all fun us hz=>by
 obtain⟨a,b,c,d,e,rfl⟩:=ln5 (hz.trans hl)
 exact h a b c d e
theorem ln6 {α:Type} {us:List α} (h:us.length=6):∃a b c d e f,us=[a,b,c,d,e,f]:=by
 cases us with
 |nil=>cases h
 |cons a r=>
  obtain⟨b,c,d,e,f,rfl⟩:=ln5 (us:=r) (AaV h)
  exact⟨a,b,c,d,e,f,rfl⟩
theorem acJ {K:At} {fd:Cf} {ps:List Str} (h:∀a b c d e f:Value,AbQ fd ⟨[a,b,c,d,e,f],[]⟩=pure (ps.zip [a,b,c,d,e,f])) (hl:ps.length=6:=by rfl):Binds K fd ps []:=.all fun us hz=>by
 obtain⟨a,b,c,d,e,f,rfl⟩:=ln6 (hz.trans hl)
 exact h a b c d e f
def num (c:Int):Int:=if c % 3=0 then c / 3 % 7 else if c % 3=1 then c / 3 % 1000 else c / 3 % 10^39
def J3 (m:V):Prop:=m=.a9\/∃i,m=.int i/\1<=i
def IE (m:V) (n:Int):Int:=match m with
 | .int i=>if i<=n then i else n
 |_=>n
def Ct (m:V) (n:Int) (d:BB):BB:=match m with
 | .int i=>if i<=n then .none else d
 |_=>d
theorem E9 {i n:Int} {d:BB} (h:i<=n):Ct (.int i) n d=.none:=if_pos h
theorem EH {i n:Int} {d:BB} (h:¬i<=n):Ct (.int i) n d=d:=if_neg h
theorem Kd {i n:Int} (h:i<=n):IE (.int i) n=i:=if_pos h
theorem JO {i n:Int} (h:¬i<=n):IE (.int i) n=n:=if_neg h
def place (m:V) (n:Int) (d:BB):BB:=.tuple [.int (IE m n),Ct m n d]
def JE:List V->List (Str × V)
 |[st,sp,wd,m]=>[("many",m),("start",st),("step",sp),("wide",wd)]
 |_=>[]
inductive Wk (R:Int->Int->Int × Int) (now:Int):Int->Int->Int->Int->Int->Int->Prop where
 |here {num x y:Int} (h:now<y):Wk R now num x y num x y
 |next {num x y k x' y':Int} (h:y<=now) (w:Wk R now (num+1) (R num y).1 (R num y).2 k x' y'):Wk R now num x y k x' y'
theorem Wk.inj {R:Int->Int->Int × Int} {now num x y k x' y' k2 x2 y2:Int} (h:Wk R now num x y k x' y') (g:Wk R now num x y k2 x2 y2):k=k2/\x'=x2/\y'=y2:=by
 induction h with
 |here h=>
  cases g with
  |here _=>exact⟨rfl,rfl,rfl⟩
  |next h2 _=>omega
 |next h _ ih=>
  cases g with
  |here h2=>omega
  |next _ w=>exact ih w
def steps (e span now:Int):Int:=max 0 ((now - e) / span+1)
theorem GY {e span now:Int}:0<=steps e span now:=by unfold steps;omega
theorem NB {e span now b:Int} (hs:0<span) (h:now - e<=b) (hb:0<=b):steps e span now<=b+1:=by
 unfold steps
 have:(now - e) / span<=b:=by
  by_cases h0:0<=now - e
  . exact Int.le_trans (Int.ediv_le_self _ h0) h
  . have:=Int.ediv_neg_of_neg_of_pos (show now - e<0 by omega) hs
    omega
 omega
local macro_rules|`(tactic|walk_at "same")=>`(tactic|first|(refine' aA.trans ?m ?s;(case s=>assumption);(case m=>walk_at "same"))|fail)
set_option hygiene false in
local macro_rules|`(tactic|walk_at "same")=>`(tactic|first|assumption|fail)
set_option hygiene false in
local macro_rules|`(tactic|walk_at "same")=>`(tactic|first|exact aA.refl _|fail)
local macro_rules|`(tactic|walk_at "at")=>`(tactic|first|(refine' aA.at ?s ?m;(case s=>assumption);(case m=>walk_at "at"))|fail)
set_option hygiene false in
local macro_rules|`(tactic|walk_at "at")=>`(tactic|first|exact av|fail)
set_option hygiene false in
local macro_rules|`(tactic|walk_at "at")=>`(tactic|first|assumption|fail)
local macro_rules|`(tactic|walk_at "dat")=>`(tactic|first|(refine' Dv.keeps ?s ?m;(case s=>assumption);(case m=>walk_at "dat"))|fail)
set_option hygiene false in
local macro_rules|`(tactic|walk_at "dat")=>`(tactic|first|assumption|fail)
set_option hygiene false in
local macro_rules|`(tactic|walk_at "dat")=>`(tactic|first|exact Dv.str _|fail)
set_option hygiene false in
local macro_rules|`(tactic|walk_at "dat")=>`(tactic|first|exact Dv.bl _|fail)
set_option hygiene false in
local macro_rules|`(tactic|walk_at "dat")=>`(tactic|first|exact Dv.a9|fail)
set_option hygiene false in
local macro_rules|`(tactic|walk_at "dat")=>`(tactic|first|exact Dv.int _|fail)
local macro_rules|`(tactic|walk_at "ins")=>`(tactic|first|(refine' iL.keeps ?s ?m;(case s=>assumption);(case m=>walk_at "ins"))|fail)
set_option hygiene false in
local macro_rules|`(tactic|walk_at "ins")=>`(tactic|first|assumption|fail)
local macro_rules|`(tactic|walk_at "dats")=>`(tactic|first|(refine' eJ.keeps ?s ?m;(case s=>assumption);(case m=>walk_at "dats"))|fail)
set_option hygiene false in
local macro_rules|`(tactic|walk_at "dats")=>`(tactic|first|assumption|fail)
local macro_rules|`(tactic|walk_at "dats")=>`(tactic|first|(refine' eJ.cons ?m ?s;(case m=>walk_at "dat");(case s=>walk_at "dats"))|fail)
set_option hygiene false in
local macro_rules|`(tactic|walk_at "dats")=>`(tactic|first|exact eJ.nil|fail)
local macro_rules|`(tactic|walk_at "sql")=>`(tactic|first|(refine' aA.seq ?s ?m;(case s=>assumption);(case m=>walk_at "sql"))|fail)
set_option hygiene false in
local macro_rules|`(tactic|walk_at "sql")=>`(tactic|first|assumption|fail)
local macro_rules|`(tactic|walk_at "isq")=>`(tactic|first|(refine' Or.inr ?m;case m=>walk_at "dat")|fail)
local macro_rules|`(tactic|walk_at "isq")=>`(tactic|first|(refine' FF ?m;case m=>walk_at "dat")|fail)
set_option hygiene false in
local macro_rules|`(tactic|walk_at "side")=>`(tactic|first|exact⟨by decide,by decide,by decide⟩|fail)
set_option hygiene false in
local macro_rules|`(tactic|walk_at "side")=>`(tactic|first|exact ZL ⟨by omega,by omega⟩ ⟨by omega,by omega⟩|fail)
set_option hygiene false in
local macro_rules|`(tactic|walk_at "side")=>`(tactic|first|exact ZT (by omega) (by omega)|fail)
set_option hygiene false in
local macro_rules|`(tactic|walk_at "side")=>`(tactic|first|exact(by decide)|fail)
set_option hygiene false in
local macro_rules|`(tactic|walk_at "side")=>`(tactic|first|assumption|fail)
set_option hygiene false in
local macro_rules|`(tactic|walk_at "side")=>`(tactic|first|omega|fail)
set_option hygiene false in
local macro_rules|`(tactic|walk_at "use")=>`(tactic|fail)
set_option hygiene false in
local macro_rules|`(tactic|walk_at "lk")=>`(tactic|fail)
set_option hygiene false in
local macro_rules|`(tactic|walk_at "put")=>`(tactic|fail)
set_option hygiene false in
local macro_rules|`(tactic|walk_at "fin")=>`(tactic|fail)
set_option hygiene false in
local macro_rules|`(tactic|walk_at "wds")=>`(tactic|first|with_reducible refine HQ (ws:=[]) rfl ?_|fail)
set_option hygiene false in
local macro_rules|`(tactic|walk_at "wds")=>`(tactic|first|with_reducible refine HQ (ws:=[_,_,_,_,_,_]) rfl ?_|fail)
set_option hygiene false in
local macro_rules|`(tactic|walk_at "wds")=>`(tactic|first|with_reducible refine HQ (ws:=[_,_,_,_,_]) rfl ?_|fail)
set_option hygiene false in
local macro_rules|`(tactic|walk_at "wds")=>`(tactic|first|with_reducible refine HQ (ws:=[_,_,_,_]) rfl ?_|fail)
set_option hygiene false in
local macro_rules|`(tactic|walk_at "wds")=>`(tactic|first|with_reducible refine HQ (ws:=[_,_,_]) rfl ?_|fail)
set_option hygiene false in
local macro_rules|`(tactic|walk_at "wds")=>`(tactic|first|with_reducible refine HQ (ws:=[_,_]) rfl ?_|fail)
set_option hygiene false in
local macro_rules|`(tactic|walk_at "wds")=>`(tactic|first|with_reducible refine HQ (ws:=[_]) rfl ?_|fail)
set_option hygiene false in
local macro_rules|`(tactic|walk_at "mks")=>`(tactic|first|refine v7 (args:=[_,_,_,_,_]) rfl ?_ (fun _ _ _ _=>?_)|fail)
set_option hygiene false in
local macro_rules|`(tactic|walk_at "mks")=>`(tactic|first|refine v7 (args:=[_,_,_,_]) rfl ?_ (fun _ _ _ _=>?_)|fail)
set_option hygiene false in
local macro_rules|`(tactic|walk_at "mks")=>`(tactic|first|refine v7 (args:=[_,_,_]) rfl ?_ (fun _ _ _ _=>?_)|fail)
set_option hygiene false in
local macro_rules|`(tactic|walk_at "mks")=>`(tactic|first|refine v7 (args:=[_,_]) rfl ?_ (fun _ _ _ _=>?_)|fail)
set_option hygiene false in
local macro_rules|`(tactic|walk_at "mks")=>`(tactic|first|refine v7 (args:=[_]) rfl ?_ (fun _ _ _ _=>?_)|fail)
local macro_rules|`(tactic|walk_at "br")=>`(tactic|((with_reducible refine ab3 (fun hb=>?_) (fun hb=>?_)) <;>(try simp only [id,decide_eq_true_eq,decide_eq_false_iff_not,AbB,Bool.not_eq_false',Bool.not_true,Bool.not_false,V.int.injEq,Bool.true_eq_false,IN,reduceCtorEq,decide_true,decide_false,not_true,not_false_iff,UV,BB.eqvAll,RI,Bool.and_eq_false_iff,Bool.or_eq_true,Bool.or_eq_false_iff,beq_iff_eq,beq_eq_false_iff_ne,ne_eq,bne_iff_ne,Bool.and_true,Bool.and_false,Bool.and_self,beq_self_eq_true,isInt,isBool,isStr,UR,isTup,abj,GG,YI] at hb) <;>(try (exfalso;omega)) <;>(try (exfalso;(refine' ae4 hb ?d);(case d=>walk_at "dat")))))
set_option hygiene false in
local macro_rules|`(tactic|walk_at "rd1")=>`(tactic|first|walk_at "fin"|fail)
set_option hygiene false in
local macro_rules|`(tactic|walk_at "rd1")=>`(tactic|first|walk_at "use"|fail)
set_option hygiene false in
local macro_rules|`(tactic|walk_at "rd1")=>`(tactic|first|walk_at "mks"|fail)
set_option hygiene false in
local macro_rules|`(tactic|walk_at "rd1")=>`(tactic|first|walk_at "wds"|fail)
set_option hygiene false in
local macro_rules|`(tactic|walk_at "rd1")=>`(tactic|first|with_reducible refine Se (fun _ _=>?_)|fail)
set_option hygiene false in
local macro_rules|`(tactic|walk_at "rd1")=>`(tactic|first|with_reducible refine Xl ?_|fail)
set_option hygiene false in
local macro_rules|`(tactic|walk_at "rd1")=>`(tactic|first|with_reducible refine Uo ?_|fail)
set_option hygiene false in
local macro_rules|`(tactic|walk_at "rd1")=>`(tactic|first|with_reducible refine RN ?_|fail)
set_option hygiene false in
local macro_rules|`(tactic|walk_at "rd1")=>`(tactic|first|with_reducible refine abg ?_|fail)
set_option hygiene false in
local macro_rules|`(tactic|walk_at "rd1")=>`(tactic|first|with_reducible refine Tr ?_|fail)
set_option hygiene false in
local macro_rules|`(tactic|walk_at "rd1")=>`(tactic|first|with_reducible refine acA ?_|fail)
set_option hygiene false in
local macro_rules|`(tactic|walk_at "rd1")=>`(tactic|first|with_reducible refine Yh ?_|fail)
set_option hygiene false in
local macro_rules|`(tactic|walk_at "rd1")=>`(tactic|first|with_reducible refine WC ?_|fail)
local macro_rules|`(tactic|walk_at "rd1")=>`(tactic|first|((with_reducible refine' Xh ?e1 ?e2 (fun _ _ _ _=>?_));(case e1=>exact UU rfl);(case e2=>walk_at "dats"))|fail)
set_option hygiene false in
local macro_rules|`(tactic|walk_at "rd1")=>`(tactic|first|with_reducible refine X2 ?_|fail)
set_option hygiene false in
local macro_rules|`(tactic|walk_at "rd1")=>`(tactic|first|with_reducible refine S8 (fun _ _=>?_)|fail)
set_option hygiene false in
local macro_rules|`(tactic|walk_at "rd1")=>`(tactic|first|with_reducible refine RP ?_|fail)
set_option hygiene false in
local macro_rules|`(tactic|walk_at "rd1")=>`(tactic|first|with_reducible refine RG ?_|fail)
local macro_rules|`(tactic|walk_at "rd1")=>`(tactic|first|((with_reducible refine' Mt ?e ?_);case e=>walk_at "dat")|fail)
local macro_rules|`(tactic|walk_at "rd1")=>`(tactic|first|((with_reducible refine' MU ?e ?_);case e=>walk_at "dat")|fail)
local macro_rules|`(tactic|walk_at "rd1")=>`(tactic|first|((with_reducible refine' L7 ?e ?_);case e=>walk_at "dat")|fail)
local macro_rules|`(tactic|walk_at "rd1")=>`(tactic|first|((with_reducible refine' IL ?e ?_);case e=>walk_at "dat")|fail)
local macro_rules|`(tactic|walk_at "rd1")=>`(tactic|first|((with_reducible refine' L5 ?e ?_);case e=>walk_at "dat")|fail)
local macro_rules|`(tactic|walk_at "rd1")=>`(tactic|first|((with_reducible refine' Ua ?e1 ?e2 ?_);(case e1=>walk_at "at");(case e2=>walk_at "lk"))|fail)
local macro_rules|`(tactic|walk_at "rd1")=>`(tactic|first|((with_reducible refine' xA ?e1 ?e2 ?_);(case e1=>walk_at "ins");(case e2=>walk_at "lk"))|fail)
local macro_rules|`(tactic|walk_at "rd1")=>`(tactic|first|((with_reducible refine' Xf ?e1 ?e2 ?e3 ?e4 ?_);(case e1=>walk_at "at");(case e2=>assumption);(case e3=>assumption);(case e4=>walk_at "lk"))|fail)
local macro_rules|`(tactic|walk_at "rd1")=>`(tactic|first|((with_reducible refine' YL ?e1 ?e2 ?e3 ?e4 ?_);(case e1=>walk_at "ins");(case e2=>assumption);(case e3=>assumption);(case e4=>walk_at "lk"))|fail)
local macro_rules|`(tactic|walk_at "rd1")=>`(tactic|first|((with_reducible refine' T8 ?e1 ?e2 ?e3 ?e4 ?e5 ?_);(case e1=>walk_at "at");(case e2=>assumption);(case e3=>assumption);(case e4=>exact TC rfl);(case e5=>walk_at "put"))|fail)
set_option hygiene false in
local macro_rules|`(tactic|walk_at "rd1")=>`(tactic|first|with_reducible refine V0 ?_|fail)
set_option hygiene false in
local macro_rules|`(tactic|walk_at "rd1")=>`(tactic|first|with_reducible refine ae6 ?_|fail)
local macro_rules|`(tactic|walk_at "rd1")=>`(tactic|first|((with_reducible refine' WX ?e (fun _ _=>?_));case e=>walk_at "side")|fail)
set_option hygiene false in
local macro_rules|`(tactic|walk_at "rd1")=>`(tactic|first|with_reducible refine Xc (fun _ _ _ _=>?_)|fail)
local macro_rules|`(tactic|walk_at "rd1")=>`(tactic|first|((with_reducible refine' EF ?e ?_);case e=>walk_at "sql")|fail)
local macro_rules|`(tactic|walk_at "rd1")=>`(tactic|first|((with_reducible refine' NW ?e ?_);case e=>walk_at "isq")|fail)
local macro_rules|`(tactic|walk_at "rd1")=>`(tactic|first|((with_reducible refine' P1 ?e1 ?e2 ?_);(case e1=>walk_at "isq");(case e2=>exact rfl))|fail)
local macro_rules|`(tactic|walk_at "rd1")=>`(tactic|first|((with_reducible refine' UZ ?e1 ?e2 ?e3 ?e4 ?e5 ?_);(case e1=>walk_at "dat");(case e2=>walk_at "dat");(case e3=>first|rfl|assumption);(case e4=>first|rfl|assumption);(case e5=>first|exact LF rfl|assumption))|fail)
local macro_rules|`(tactic|walk_at "rd1")=>`(tactic|first|((with_reducible refine' acE ?e ?_);case e=>exact rfl)|fail)
set_option hygiene false in
local macro_rules|`(tactic|walk_at "rd1")=>`(tactic|first|with_reducible refine X7 ?_|fail)
set_option hygiene false in
local macro_rules|`(tactic|walk_at "rd1")=>`(tactic|first|walk_at "br"|fail)
set_option hygiene false in
local macro_rules|`(tactic|walk_at "rd1")=>`(tactic|first|with_reducible refine MB ?_|fail)
set_option hygiene false in
local macro_rules|`(tactic|walk_at "rd1")=>`(tactic|first|with_reducible refine O7 ?_|fail)
set_option hygiene false in
local macro_rules|`(tactic|walk_at "rd1")=>`(tactic|first|with_reducible refine W4 ?_|fail)
set_option hygiene false in
local macro_rules|`(tactic|walk_at "rd1")=>`(tactic|first|with_reducible refine afi ?_|fail)
set_option hygiene false in
local macro_rules|`(tactic|walk_at "rd1")=>`(tactic|first|with_reducible refine ZY ?_|fail)
set_option hygiene false in
local macro_rules|`(tactic|walk_at "rd1")=>`(tactic|first|with_reducible refine VW ?_|fail)
set_option hygiene false in
local macro_rules|`(tactic|walk_at "rd1")=>`(tactic|first|with_reducible refine aca ?_|fail)
set_option hygiene false in
local macro_rules|`(tactic|walk_at "rd1")=>`(tactic|first|with_reducible refine V4 ?_|fail)
set_option hygiene false in
local macro_rules|`(tactic|walk_at "rd1")=>`(tactic|first|with_reducible refine aa6 ?_|fail)
set_option hygiene false in
local macro_rules|`(tactic|walk_at "rd1")=>`(tactic|first|with_reducible refine afr ?_|fail)
set_option hygiene false in
local macro_rules|`(tactic|walk_at "rd1")=>`(tactic|first|with_reducible refine Z3 ?_|fail)
set_option hygiene false in
local macro_rules|`(tactic|walk_at "rd1")=>`(tactic|first|with_reducible refine VR ?_|fail)
set_option hygiene false in
local macro_rules|`(tactic|walk_at "rd1")=>`(tactic|first|with_reducible refine aft ?_|fail)
set_option hygiene false in
local macro_rules|`(tactic|walk_at "rd1")=>`(tactic|first|with_reducible refine SM ?_|fail)
set_option hygiene false in
local macro_rules|`(tactic|walk_at "rd1")=>`(tactic|first|with_reducible refine acb ?_|fail)
set_option hygiene false in
local macro_rules|`(tactic|walk_at "rd1")=>`(tactic|first|with_reducible refine Xk ?_|fail)
set_option hygiene false in
local macro_rules|`(tactic|walk_at "rd1")=>`(tactic|first|with_reducible refine r_u ?_|fail)
local macro_rules|`(tactic|walk_at "rd1")=>`(tactic|first|((with_reducible refine' r_i ?e ?_);case e=>walk_at "side")|fail)
local macro_rules|`(tactic|walk_at "rd1")=>`(tactic|first|((with_reducible refine' W6 ?e1 ?e2 ?_);(case e1=>exact⟨by decide,by decide,by decide⟩);(case e2=>((conv=>lhs;simp only [Int.reduceToNat]) <;>exact rfl)))|fail)
set_option hygiene false in
local macro_rules|`(tactic|walk_at "rd1")=>`(tactic|first|with_reducible refine ad1 ?_|fail)
set_option hygiene false in
local macro_rules|`(tactic|walk_at "rd1")=>`(tactic|first|with_reducible refine afC ?_|fail)
set_option hygiene false in
local macro_rules|`(tactic|walk_at "rd1")=>`(tactic|first|with_reducible refine afx ?_|fail)
set_option hygiene false in
local macro_rules|`(tactic|walk_at "rd1")=>`(tactic|first|with_reducible refine r_c ?_|fail)
local macro_rules|`(tactic|walk_at "rd1")=>`(tactic|first|((with_reducible refine' N3 ?e ?_);case e=>exact rfl)|fail)
set_option hygiene false in
local macro_rules|`(tactic|walk_at "rd1")=>`(tactic|first|with_reducible refine aa0 ?_|fail)
set_option hygiene false in
local macro_rules|`(tactic|walk_at "rd1")=>`(tactic|first|with_reducible refine Xg ?_|fail)
set_option hygiene false in
local macro_rules|`(tactic|walk_at "rd1")=>`(tactic|first|with_reducible refine aaR ?_|fail)
set_option hygiene false in
local macro_rules|`(tactic|walk_at "rd1")=>`(tactic|first|with_reducible refine aa9 ?_|fail)
set_option hygiene false in
local macro_rules|`(tactic|walk_at "rd1")=>`(tactic|first|with_reducible refine Yg ?_|fail)
local macro_rules|`(tactic|walk_at "lat")=>`(tactic|first|(refine' eF.mv ?s ?n ?m;(case s=>assumption);(case n=>walk_at "nin");(case m=>walk_at "lat"))|fail)
local macro_rules|`(tactic|walk_at "lat")=>`(tactic|first|(refine' eF.keeps ?s ?m;(case s=>assumption);(case m=>walk_at "lat"))|fail)
set_option hygiene false in
local macro_rules|`(tactic|walk_at "lat")=>`(tactic|first|assumption|fail)
local macro_rules|`(tactic|walk_at "nin")=>`(tactic|first|(refine' Oy ?n1;(case n1=>walk_at "ne"))|fail)
local macro_rules|`(tactic|walk_at "ne")=>`(tactic|first|(refine' LH (eF.ne ?h ?n);(case n=>assumption);(case h=>walk_at "lat"))|fail)
local macro_rules|`(tactic|walk_at "ne")=>`(tactic|first|(refine' eF.ne ?h ?n;(case n=>assumption);(case h=>walk_at "lat"))|fail)
set_option hygiene false in
local macro_rules|`(tactic|walk_at "ne")=>`(tactic|first|(refine LH ?_;assumption)|fail)
set_option hygiene false in
local macro_rules|`(tactic|walk_at "ne")=>`(tactic|first|assumption|fail)
local macro_rules|`(tactic|walk_at "dla")=>`(tactic|first|(refine' nW.mv ?s ?n ?m;(case s=>assumption);(case n=>walk_at "nin");(case m=>walk_at "dla"))|fail)
local macro_rules|`(tactic|walk_at "dla")=>`(tactic|first|(refine' nW.keeps ?s ?m;(case s=>assumption);(case m=>walk_at "dla"))|fail)
set_option hygiene false in
local macro_rules|`(tactic|walk_at "dla")=>`(tactic|first|assumption|fail)
local macro_rules|`(tactic|walk_at "ne")=>`(tactic|first|(refine' LH (nW.ne ?h ?n);(case n=>assumption);(case h=>walk_at "dla"))|fail)
local macro_rules|`(tactic|walk_at "ne")=>`(tactic|first|(refine' nW.ne ?h ?n;(case n=>assumption);(case h=>walk_at "dla"))|fail)
local macro_rules|`(tactic|walk_at "imm")=>`(tactic|first|(refine' eF.zq ?h;(case h=>assumption))|fail)
set_option hygiene false in
local macro_rules|`(tactic|walk_at "imm")=>`(tactic|first|exact cL (fun _=>rfl) _|fail)
set_option hygiene false in
local macro_rules|`(tactic|walk_at "imm")=>`(tactic|first|assumption|fail)
set_option hygiene false in
local macro_rules|`(tactic|walk_at "imm")=>`(tactic|first|rfl|fail)
set_option hygiene false in
local macro_rules|`(tactic|walk_at "dm")=>`(tactic|first|exact fun _ h=>h|fail)
set_option hygiene false in
local macro_rules|`(tactic|walk_at "none")=>`(tactic|first|assumption|fail)
local macro_rules|`(tactic|walk_at "same")=>`(tactic|first|(refine' Mv.J4 ?s ?m ?n;(case m=>assumption);(case s=>walk_at "same");(case n=>walk_at "none"))|fail)
local macro_rules|`(tactic|walk_at "mv")=>`(tactic|first|(refine' Mv.step ?m ?s ?h;(case s=>assumption);(case m=>walk_at "mv");(case h=>walk_at "ours"))|fail)
local macro_rules|`(tactic|walk_at "mv")=>`(tactic|first|(refine' Mv.zb ?m ?s;(case s=>assumption);(case m=>walk_at "mv"))|fail)
set_option hygiene false in
local macro_rules|`(tactic|walk_at "mv")=>`(tactic|first|assumption|fail)
set_option hygiene false in
local macro_rules|`(tactic|walk_at "mv")=>`(tactic|first|exact Mv.refl|fail)
set_option hygiene false in
local macro_rules|`(tactic|walk_at "ours")=>`(tactic|fail)
local macro_rules|`(tactic|walk_at "dat")=>`(tactic|first|(refine' Mv.dat ?s ?i ?m;(case s=>assumption);(case i=>walk_at "imm");(case m=>walk_at "dat"))|fail)
local macro_rules|`(tactic|walk_at "dat")=>`(tactic|first|(refine' eF.dv ?m;(case m=>walk_at "lat"))|fail)
local macro_rules|`(tactic|walk_at "dats")=>`(tactic|first|(refine' Mv.HL ?s ?i ?m;(case s=>assumption);(case i=>walk_at "imm");(case m=>walk_at "dats"))|fail)
set_option hygiene false in
local macro_rules|`(tactic|walk_at "len")=>`(tactic|first|omega|fail)
set_option hygiene false in
local macro_rules|`(tactic|walk_at "len")=>`(tactic|first|(simp only [AL,Do,GG,YI];omega)|fail)
local macro_rules|`(tactic|walk_at "rd1")=>`(tactic|first|((with_reducible refine' P1 ?e1 ?e2 ?_);(case e1=>walk_at "isq");(case e2=>first|exact ZD|(refine' Ph ?a ?b;(case a=>omega);(case b=>walk_at "len"))|fail))|fail)
local macro_rules|`(tactic|walk_at "rd1")=>`(tactic|first|((with_reducible refine' Wy ?e ?_);case e=>walk_at "dat")|fail)
local macro_rules|`(tactic|walk_at "rd1")=>`(tactic|first|((with_reducible refine' Jf ?e ?_);case e=>walk_at "len")|fail)
local macro_rules|`(tactic|walk_at "rd1")=>`(tactic|first|((with_reducible refine' Ia ?e ?_);case e=>walk_at "dat")|fail)
local macro_rules|`(tactic|walk_at "rd1")=>`(tactic|first|((with_reducible refine' X6 ?e ?e2 ?_);(case e=>walk_at "dat");(case e2=>simp))|fail)
local macro_rules|`(tactic|walk_at "rd1")=>`(tactic|first|((with_reducible refine' Yr ?e ?_);case e=>walk_at "dat")|fail)
local macro_rules|`(tactic|walk_at "rd1")=>`(tactic|first|((with_reducible refine' Qr ?e1 ?e2 (fun _ _ _ _ _=>?_));(case e1=>walk_at "dat");(case e2=>walk_at "imm"))|fail)
set_option hygiene false in
local macro_rules|`(tactic|walk_at "rd1")=>`(tactic|first|with_reducible refine acz ?_|fail)
set_option hygiene false in
local macro_rules|`(tactic|walk_at "rd1")=>`(tactic|first|with_reducible refine Qu ?_|fail)
local macro_rules|`(tactic|walk_at "rd1")=>`(tactic|first|((with_reducible refine' X1 ?e1 ?e2 ?e3 (fun _ _ _ _ _=>?_));(case e1=>exact UU rfl);(case e2=>walk_at "dats");(case e3=>exact rfl))|fail)
local macro_rules|`(tactic|walk_at "rd1")=>`(tactic|first|((with_reducible refine' abm ?e1 ?e2 ?e3 ?e4 (fun _ _ _=>?_));(case e1=>walk_at "lat");(case e3=>walk_at "dat");(case e2=>walk_at "len");(case e4=>walk_at "imm"))|fail)
local macro_rules|`(tactic|walk_at "rd1")=>`(tactic|first|((with_reducible refine' PX ?e ?_);case e=>walk_at "lat")|fail)
set_option hygiene false in
local macro_rules|`(tactic|walk_at "rd1")=>`(tactic|first|with_reducible refine aby ?_|fail)
set_option hygiene false in
local macro_rules|`(tactic|walk_at "rd1")=>`(tactic|first|with_reducible refine afg ?_|fail)
set_option hygiene false in
local macro_rules|`(tactic|walk_at "rd1")=>`(tactic|first|with_reducible refine S5 ?_|fail)
local macro_rules|`(tactic|walk_at "rd1")=>`(tactic|first|((with_reducible refine' XG ?e1 ?e2 ?_);(case e1=>walk_at "dla");(case e2=>assumption))|fail)
local macro_rules|`(tactic|walk_at "rd1")=>`(tactic|first|((with_reducible refine' aaz ?e1 (fun _ _=>?_));(case e1=>walk_at "dla"))|fail)
local macro_rules|`(tactic|walk_at "rd1")=>`(tactic|first|((with_reducible refine' OY ?e1 ?e2 ?e3 ?e4 (fun _ _ _=>?_));(case e1=>walk_at "dla");(case e3=>walk_at "dat");(case e2=>walk_at "len");(case e4=>walk_at "imm"))|fail)
set_option hygiene false in
local macro_rules|`(tactic|walk_at "rd1")=>`(tactic|first|with_reducible refine Ru ?_|fail)
set_option hygiene false in
local macro_rules|`(tactic|walk_at "rd1")=>`(tactic|first|with_reducible refine Wu ?_|fail)
set_option hygiene false in
local macro_rules|`(tactic|walk_at "rd1")=>`(tactic|first|with_reducible refine Ti ?_|fail)
set_option hygiene false in
local macro_rules|`(tactic|walk_at "rd1")=>`(tactic|first|with_reducible refine S2 ?_|fail)
set_option hygiene false in
local macro_rules|`(tactic|walk_at "rd1")=>`(tactic|first|with_reducible refine WO (fun _ _ _ _ _=>?_)|fail)
set_option hygiene false in
local macro_rules|`(tactic|walk_at "rd1")=>`(tactic|first|with_reducible refine RB ?_|fail)
set_option hygiene false in
local macro_rules|`(tactic|walk_at "rd1")=>`(tactic|first|with_reducible refine afP ?_|fail)
local macro_rules|`(tactic|walk_at "rd1")=>`(tactic|first|((with_reducible refine' Jo ?e1 ?e2 ?e3 (fun _ _ _ _ _=>?_));(case e1=>walk_at "lat");(case e2=>walk_at "lat");(case e3=>walk_at "len"))|fail)
set_option hygiene false in
local macro_rules|`(tactic|walk_at "rd1")=>`(tactic|fail)
set_option hygiene false in
local macro_rules|`(tactic|walk_at "rd1")=>`(tactic|fail)
set_option hygiene false in
local macro_rules|`(tactic|walk_at "rd1")=>`(tactic|fail)
local macro_rules|`(tactic|walk_at "rd1")=>`(tactic|first|((with_reducible refine' T5 ?e1 ?_);(case e1=>walk_at "dla"))|fail)
set_option hygiene false in
local macro_rules|`(tactic|walk_at "rd1")=>`(tactic|first|with_reducible refine PB ?_|fail)
set_option hygiene false in
local macro_rules|`(tactic|walk_at "rd1")=>`(tactic|first|with_reducible refine Ux ?_|fail)
set_option hygiene false in
local macro_rules|`(tactic|walk_at "rd1")=>`(tactic|fail)
set_option hygiene false in
local macro_rules|`(tactic|walk_at "rd1")=>`(tactic|first|with_reducible refine X9 ?_|fail)
set_option hygiene false in
local macro_rules|`(tactic|walk_at "rd1")=>`(tactic|fail)
set_option hygiene false in
local macro_rules|`(tactic|walk_at "rd1")=>`(tactic|fail)
def top (i:Nat):Stmt:=PySem.Challenge.pw_wakefew_k52_one_bell_rings.main.body.getD i (.Pass ⟨0,0,0,0⟩)
set_option hygiene false in
local macro_rules|`(tactic|walk_at "scp")=>`(tactic|exact⟨rfl,rfl,rfl,by decide+kernel,rfl,by decide+kernel,by decide+kernel⟩)
abbrev kP:Stmt:=inClass (top 2) 0
theorem ya:aw ["self","name","rule","weight","home","by_day"] ["self","name","rule","weight","home","by_day"] (ao kP):=by walk_at "scp"
abbrev tq:Stmt:=inClass (top 2) 1
theorem D2:aw ["self","shift"] ["self","shift"] (ao tq):=by walk_at "scp"
abbrev mh:Stmt:=inClass (top 2) 2
theorem zD:aw ["self"] ["self"] (ao mh):=by walk_at "scp"
abbrev ju:Stmt:=inClass (top 2) 3
theorem vL:aw ["self"] ["self"] (ao ju):=by walk_at "scp"
abbrev oK:Stmt:=inClass (top 2) 4
theorem AJ:aw ["self","at"] ["self","at"] (ao oK):=by walk_at "scp"
abbrev kD:Stmt:=inClass (top 2) 5
theorem gu:aw ["self","shown","low","last","place"] ["self","shown"] (ao kD):=by walk_at "scp"
abbrev rL:Stmt:=inClass (top 2) 6
theorem xl:aw ["self","now","shift","lead"] ["self","now","shift"] (ao rL):=by walk_at "scp"
abbrev sW:Stmt:=inClass (top 2) 7
theorem Fe:aw ["self"] ["self"] (ao sW):=by walk_at "scp"
abbrev iZ:Stmt:=inClass (top 15) 0
theorem vy:aw ["self"] ["self"] (ao iZ):=by walk_at "scp"
abbrev jE:Stmt:=inClass (top 17) 0
theorem we:aw ["self","now"] ["self","now"] (ao jE):=by walk_at "scp"
abbrev tO:Stmt:=inClass (top 17) 1
theorem DR:aw ["self","name","time"] ["self","name","time"] (ao tO):=by walk_at "scp"
abbrev pV:Stmt:=inClass (top 17) 2
theorem uD:aw ["self","name","time"] ["self","name"] (ao pV):=by walk_at "scp"
abbrev nL:Stmt:=inClass (top 17) 3
theorem lh:aw ["self","to","told","time","name"] ["self","to"] (ao nL):=by walk_at "scp"
abbrev nV:Stmt:=inClass (top 17) 4
theorem Af:aw ["self"] ["self"] (ao nV):=by walk_at "scp"
abbrev kQ:Stmt:=inClass (top 17) 5
theorem yd:aw ["self","name"] ["self","name"] (ao kQ):=by walk_at "scp"
abbrev gK:Stmt:=inClass (top 17) 7
theorem rH:aw ["self","name"] ["self","name"] (ao gK):=by walk_at "scp"
abbrev rR:Stmt:=inClass (top 18) 0
theorem Ej:aw ["self","name","time"] ["self","name","time"] (ao rR):=by walk_at "scp"
abbrev sL:Stmt:=inClass (top 18) 1
theorem Ew:aw ["self","name","time"] ["self","name","time"] (ao sL):=by walk_at "scp"
abbrev jR:Stmt:=inClass (top 18) 2
theorem A2:aw ["self","to"] ["self","to"] (ao jR):=by walk_at "scp"
abbrev vD:Stmt:=top 20
theorem F9:aw ["thing"] ["thing"] (ao vD):=by walk_at "scp"
abbrev lT:Stmt:=top 25
theorem qN:aw ["rounds","slots"] ["rounds"] (ao lT):=by walk_at "scp"
abbrev sk:Stmt:=top 26
theorem iV:aw ["rounds","wheels","unit","slots"] ["rounds"] (ao sk):=by walk_at "scp"
abbrev vl:Stmt:=top 27
theorem iE:aw ["row","pair","low","high","middle"] ["row","pair"] (ao vl):=by walk_at "scp"
abbrev jK:Stmt:=inClass (top 28) 0
theorem wo:aw ["self","unit","slots"] ["self","unit","slots"] (ao jK):=by walk_at "scp"
abbrev oN:Stmt:=inClass (top 28) 1
theorem Bi:aw ["self","time","now"] ["self","time","now"] (ao oN):=by walk_at "scp"
abbrev kn:Stmt:=inClass (top 28) 2
theorem yu:aw ["self","time"] ["self","time"] (ao kn):=by walk_at "scp"
abbrev lK:Stmt:=inClass (top 28) 3
theorem rh:aw ["self","name","time","slot"] ["self","name","time"] (ao lK):=by walk_at "scp"
abbrev jO:Stmt:=inClass (top 28) 4
theorem mX:aw ["self","name","time","slot"] ["self","name","time"] (ao jO):=by walk_at "scp"
abbrev oP:Stmt:=inClass (top 28) 5
theorem Bw:aw ["self","slot"] ["self","slot"] (ao oP):=by walk_at "scp"
abbrev kK:Stmt:=inClass (top 28) 6
theorem dq:aw ["self","now","to","passed","names","slot"] ["self","now","to"] (ao kK):=by walk_at "scp"
abbrev i5:Stmt:=inClass (top 29) 0
theorem vM:aw ["self","rounds","now"] ["self","rounds","now"] (ao i5):=by walk_at "scp"
abbrev jv:Stmt:=inClass (top 29) 4
theorem iA:aw ["self","time","now","k","wheel"] ["self","time","now"] (ao jv):=by walk_at "scp"
abbrev lZ:Stmt:=inClass (top 29) 5
theorem zL:aw ["self","name","time"] ["self","name","time"] (ao lZ):=by walk_at "scp"
abbrev jt:Stmt:=inClass (top 29) 6
theorem mr:aw ["self","name","time","now","k"] ["self","name","time","now"] (ao jt):=by walk_at "scp"
abbrev mD:Stmt:=inClass (top 29) 7
theorem rl:aw ["self","name","time","k"] ["self","name","time"] (ao mD):=by walk_at "scp"
abbrev jH:Stmt:=inClass (top 29) 8
theorem dQ:aw ["self","to","left","wheel","over","name"] ["self","to"] (ao jH):=by walk_at "scp"
abbrev iy:Stmt:=inClass (top 29) 9
theorem gJ:aw ["self","to","span","names"] ["self","to"] (ao iy):=by walk_at "scp"
abbrev ki:Stmt:=inClass (top 31) 0
theorem yk:aw ["self","rounds","now"] ["self","rounds","now"] (ao ki):=by walk_at "scp"
abbrev gm:Stmt:=inClass (top 31) 2
theorem w6:aw ["self"] ["self"] (ao gm):=by walk_at "scp"
abbrev kz:Stmt:=inClass (top 31) 4
theorem xW:aw ["self","bell"] ["self","bell"] (ao kz):=by walk_at "scp"
abbrev kO:Stmt:=inClass (top 31) 5
theorem yE:aw ["self","bell"] ["self","bell"] (ao kO):=by walk_at "scp"
abbrev rV:Stmt:=inClass (top 31) 6
theorem E3:aw ["self","bell"] ["self","bell"] (ao rV):=by walk_at "scp"
abbrev vx:Stmt:=inClass (top 31) 7
theorem yU:aw ["self","bell","entries"] ["self","bell"] (ao vx):=by walk_at "scp"
abbrev kB:Stmt:=inClass (top 31) 8
theorem yD:aw ["self","bell"] ["self","bell"] (ao kB):=by walk_at "scp"
abbrev sC:Stmt:=inClass (top 31) 10
theorem Fl:aw ["self","bell"] ["self","bell"] (ao sC):=by walk_at "scp"
abbrev nX:Stmt:=inClass (top 31) 11
theorem Aq:aw ["self","bell","at"] ["self","bell","at"] (ao nX):=by walk_at "scp"
abbrev oC:Stmt:=inClass (top 31) 12
theorem Bx:aw ["self","bell"] ["self","bell"] (ao oC):=by walk_at "scp"
abbrev nZ:Stmt:=inClass (top 31) 14
theorem BJ:aw ["self","bell"] ["self","bell"] (ao nZ):=by walk_at "scp"
abbrev jh:Stmt:=inClass (top 31) 15
theorem zy:aw ["self","time"] ["self","time"] (ao jh):=by walk_at "scp"
abbrev sQ:Stmt:=top 33
theorem E7:aw ["bell"] ["bell"] (ao sQ):=by walk_at "scp"
abbrev jb:Stmt:=inClass (top 34) 0
theorem vE:aw ["self","rounds","now"] ["self","rounds","now"] (ao jb):=by walk_at "scp"
abbrev qg:Stmt:=inClass (top 34) 1
theorem ux:aw ["self","name","rule","weight","group","by_day","bell"] ["self","name","rule","weight","group","by_day"] (ao qg):=by walk_at "scp"
abbrev tU:Stmt:=inClass (top 34) 12
theorem lA:aw ["self","to","most","deed","entries","wakings"] ["self","to","most","deed"] (ao tU):=by walk_at "scp"
abbrev jg:Stmt:=inClass (top 34) 13
theorem lG:aw ["self","to","least"] ["self","to"] (ao jg):=by walk_at "scp"
abbrev fB:Stmt:=inClass (top 34) 14
theorem dD:aw ["self","deed","names","entries","may_ring","bell"] ["self","deed"] (ao fB):=by walk_at "scp"
abbrev oB:Stmt:=inClass (top 34) 15
theorem sR:aw ["self","bell","deed","entry"] ["self","bell","deed"] (ao oB):=by walk_at "scp"
abbrev qy:Stmt:=top 36
theorem Cd:aw ["number","least","what"] ["number","least","what"] (ao qy):=by walk_at "scp"
abbrev qu:Stmt:=top 37
theorem CB:aw ["end","span","now"] ["end","span","now"] (ao qu):=by walk_at "scp"
abbrev kJ:Stmt:=inClass (top 38) 0
theorem xU:aw ["self","many"] ["self","many"] (ao kJ):=by walk_at "scp"
abbrev kl:Stmt:=inClass (top 38) 6
theorem yG:aw ["self","number","stretch"] ["self","number","stretch"] (ao kl):=by walk_at "scp"
abbrev kC:Stmt:=inClass (top 39) 0
theorem xT:aw ["self","start","step","wide","many"] ["self","start","step","wide","many"] (ao kC):=by walk_at "scp"
abbrev iW:Stmt:=inClass (top 39) 1
theorem my:aw ["self","number","first"] ["self","number"] (ao iW):=by walk_at "scp"
abbrev qx:Stmt:=inClass (top 39) 2
theorem CD:aw ["self"] ["self"] (ao qx):=by walk_at "scp"
abbrev oA:Stmt:=inClass (top 39) 3
theorem AU:aw ["self","number","settled"] ["self","number","settled"] (ao oA):=by walk_at "scp"
abbrev n9:Stmt:=inClass (top 39) 4
theorem lF:aw ["self","number","last","now","end","found"] ["self","number","last","now"] (ao n9):=by walk_at "scp"
abbrev rT:Stmt:=inClass (top 39) 6
theorem EL:aw ["self"] ["self"] (ao rT):=by walk_at "scp"
abbrev lN:Stmt:=top 41
theorem zB:aw ["_law_script","_law_k"] ["_law_script","_law_k"] (ao lN):=by walk_at "scp"
abbrev pW:Stmt:=top 42
theorem B8:aw ["_law_found"] ["_law_found"] (ao pW):=by walk_at "scp"
abbrev tj:Stmt:=top 43
theorem iO:aw ["_law_cell","_law_k","_law_number","_law_word"] ["_law_cell","_law_k"] (ao tj):=by walk_at "scp"
abbrev qi:Stmt:=top 44
theorem oI:aw ["_law_found","_law_entry","_law_part"] ["_law_found"] (ao qi):=by walk_at "scp"
abbrev sF:Stmt:=top 45
theorem pK:aw ["_law_name_here","_law_first","_law_wide","_law_number","_law_many","_law_last","_law_found"] ["_law_name_here","_law_first","_law_wide","_law_number","_law_many"] (ao sF):=by walk_at "scp"
abbrev pT:Stmt:=top 46
theorem uC:aw ["_law_keeper","_law_cell","_law_to","_law_most"] ["_law_keeper","_law_cell","_law_to"] (ao pT):=by walk_at "scp"
abbrev NA:Stmt:=top 47
theorem cJ:aw ["_law_script","_law_now","_law_start","_law_step","_law_wide","_law_many","_law_name_here","_law_rounds","_law_keeper","_law_number","_law_cell","_law_to","_law_most","_law_found","_law_due","_law_stopped","_law_k","_law_first"] ["_law_script"] (ao NA):=by walk_at "scp"
theorem wC:¬(("name":Str)="rule")/\¬(("name":Str)="weight")/\¬(("name":Str)="home")/\¬(("name":Str)="by_day")/\¬(("name":Str)="number")/\¬(("name":Str)="stretch")/\¬(("name":Str)="since")/\¬(("name":Str)="until")/\¬(("rule":Str)="name")/\¬(("rule":Str)="weight")/\¬(("rule":Str)="home")/\¬(("rule":Str)="by_day")/\¬(("rule":Str)="number")/\¬(("rule":Str)="stretch")/\¬(("rule":Str)="since")/\¬(("rule":Str)="until")/\¬(("weight":Str)="name")/\¬(("weight":Str)="rule")/\¬(("weight":Str)="home")/\¬(("weight":Str)="by_day")/\¬(("weight":Str)="number")/\¬(("weight":Str)="stretch")/\¬(("weight":Str)="since")/\¬(("weight":Str)="until")/\¬(("home":Str)="name"):=by decide+kernel
theorem xc:¬(("home":Str)="rule")/\¬(("home":Str)="weight")/\¬(("home":Str)="by_day")/\¬(("home":Str)="number")/\¬(("home":Str)="stretch")/\¬(("home":Str)="since")/\¬(("home":Str)="until")/\¬(("by_day":Str)="name")/\¬(("by_day":Str)="rule")/\¬(("by_day":Str)="weight")/\¬(("by_day":Str)="home")/\¬(("by_day":Str)="number")/\¬(("by_day":Str)="stretch")/\¬(("by_day":Str)="since")/\¬(("by_day":Str)="until")/\¬(("number":Str)="name")/\¬(("number":Str)="rule")/\¬(("number":Str)="weight")/\¬(("number":Str)="home")/\¬(("number":Str)="by_day")/\¬(("number":Str)="stretch")/\¬(("number":Str)="since")/\¬(("number":Str)="until")/\¬(("stretch":Str)="name")/\¬(("stretch":Str)="rule"):=by decide+kernel
theorem nM:¬(("stretch":Str)="weight")/\¬(("stretch":Str)="home")/\¬(("stretch":Str)="by_day")/\¬(("stretch":Str)="number")/\¬(("stretch":Str)="since")/\¬(("stretch":Str)="until")/\¬(("since":Str)="name")/\¬(("since":Str)="rule")/\¬(("since":Str)="weight")/\¬(("since":Str)="home")/\¬(("since":Str)="by_day")/\¬(("since":Str)="number")/\¬(("since":Str)="stretch")/\¬(("since":Str)="until")/\¬(("until":Str)="name")/\¬(("until":Str)="rule")/\¬(("until":Str)="weight")/\¬(("until":Str)="home")/\¬(("until":Str)="by_day")/\¬(("until":Str)="number")/\¬(("until":Str)="stretch")/\¬(("until":Str)="since")/\¬(("__init__":Str)="name")/\¬(("__init__":Str)="rule")/\¬(("__init__":Str)="weight"):=by decide+kernel
theorem o7:¬(("__init__":Str)="home")/\¬(("__init__":Str)="by_day")/\¬(("__init__":Str)="number")/\¬(("__init__":Str)="stretch")/\¬(("__init__":Str)="since")/\¬(("__init__":Str)="until")/\¬(("lead":Str)="name")/\¬(("lead":Str)="rule")/\¬(("lead":Str)="weight")/\¬(("lead":Str)="home")/\¬(("lead":Str)="by_day")/\¬(("lead":Str)="number")/\¬(("lead":Str)="stretch")/\¬(("lead":Str)="since")/\¬(("lead":Str)="until")/\¬(("is_over":Str)="name")/\¬(("is_over":Str)="rule")/\¬(("is_over":Str)="weight")/\¬(("is_over":Str)="home")/\¬(("is_over":Str)="by_day")/\¬(("is_over":Str)="number")/\¬(("is_over":Str)="stretch")/\¬(("is_over":Str)="since")/\¬(("is_over":Str)="until")/\¬(("is_waiting":Str)="name"):=by decide+kernel
theorem lP:¬(("is_waiting":Str)="rule")/\¬(("is_waiting":Str)="weight")/\¬(("is_waiting":Str)="home")/\¬(("is_waiting":Str)="by_day")/\¬(("is_waiting":Str)="number")/\¬(("is_waiting":Str)="stretch")/\¬(("is_waiting":Str)="since")/\¬(("is_waiting":Str)="until")/\¬(("settle":Str)="name")/\¬(("settle":Str)="rule")/\¬(("settle":Str)="weight")/\¬(("settle":Str)="home")/\¬(("settle":Str)="by_day")/\¬(("settle":Str)="number")/\¬(("settle":Str)="stretch")/\¬(("settle":Str)="since")/\¬(("settle":Str)="until")/\¬(("catch_up":Str)="name")/\¬(("catch_up":Str)="rule")/\¬(("catch_up":Str)="weight")/\¬(("catch_up":Str)="home")/\¬(("catch_up":Str)="by_day")/\¬(("catch_up":Str)="number")/\¬(("catch_up":Str)="stretch")/\¬(("catch_up":Str)="since"):=by decide+kernel
theorem nH:¬(("catch_up":Str)="until")/\¬(("wait":Str)="name")/\¬(("wait":Str)="rule")/\¬(("wait":Str)="weight")/\¬(("wait":Str)="home")/\¬(("wait":Str)="by_day")/\¬(("wait":Str)="number")/\¬(("wait":Str)="stretch")/\¬(("wait":Str)="since")/\¬(("wait":Str)="until")/\¬(("rest":Str)="name")/\¬(("rest":Str)="rule")/\¬(("rest":Str)="weight")/\¬(("rest":Str)="home")/\¬(("rest":Str)="by_day")/\¬(("rest":Str)="number")/\¬(("rest":Str)="stretch")/\¬(("rest":Str)="since")/\¬(("rest":Str)="until")/\¬(("move":Str)="name")/\¬(("move":Str)="rule")/\¬(("move":Str)="weight")/\¬(("move":Str)="home")/\¬(("move":Str)="by_day")/\¬(("move":Str)="number"):=by decide+kernel
theorem rk:¬(("move":Str)="stretch")/\¬(("move":Str)="since")/\¬(("move":Str)="until")/\¬(("about":Str)="name")/\¬(("about":Str)="rule")/\¬(("about":Str)="weight")/\¬(("about":Str)="home")/\¬(("about":Str)="by_day")/\¬(("about":Str)="number")/\¬(("about":Str)="stretch")/\¬(("about":Str)="since")/\¬(("about":Str)="until")/\¬(("above_of":Str)="marks")/\¬(("marks":Str)="above_of")/\¬(("__init__":Str)="above_of")/\¬(("__init__":Str)="marks")/\¬(("add":Str)="above_of")/\¬(("add":Str)="marks")/\¬(("has":Str)="above_of")/\¬(("has":Str)="marks")/\¬(("sleep":Str)="above_of")/\¬(("sleep":Str)="marks")/\¬(("wake":Str)="above_of")/\¬(("wake":Str)="marks")/\¬(("end":Str)="above_of"):=by decide+kernel
theorem wc:¬(("end":Str)="marks")/\¬(("awake":Str)="above_of")/\¬(("awake":Str)="marks")/\¬(("marked":Str)="above_of")/\¬(("marked":Str)="marks")/\¬(("chain":Str)="above_of")/\¬(("chain":Str)="marks")/\¬(("within":Str)="above_of")/\¬(("within":Str)="marks")/\¬(("all_of":Str)="above_of")/\¬(("all_of":Str)="marks")/\¬(("check_stands":Str)="above_of")/\¬(("check_stands":Str)="marks")/\¬(("depth_of":Str)="above_of")/\¬(("depth_of":Str)="marks")/\¬(("awake_within":Str)="above_of")/\¬(("awake_within":Str)="marks")/\¬(("unmark":Str)="above_of")/\¬(("unmark":Str)="marks")/\¬(("now":Str)="times")/\¬(("times":Str)="now")/\¬(("enter":Str)="now")/\¬(("enter":Str)="times")/\¬(("leave":Str)="now")/\¬(("leave":Str)="times"):=by decide+kernel
theorem sJ:¬(("pass_on":Str)="now")/\¬(("pass_on":Str)="times")/\¬(("__init__":Str)="now")/\¬(("__init__":Str)="times")/\¬(("put":Str)="now")/\¬(("put":Str)="times")/\¬(("take":Str)="now")/\¬(("take":Str)="times")/\¬(("due":Str)="now")/\¬(("due":Str)="times")/\¬(("least":Str)="now")/\¬(("least":Str)="times")/\¬(("time_of":Str)="now")/\¬(("time_of":Str)="times")/\¬(("all_of":Str)="now")/\¬(("all_of":Str)="times")/\¬(("check_waits":Str)="now")/\¬(("check_waits":Str)="times")/\¬(("unit":Str)="slots")/\¬(("unit":Str)="span")/\¬(("unit":Str)="mask")/\¬(("unit":Str)="names_in")/\¬(("slots":Str)="unit")/\¬(("slots":Str)="span")/\¬(("slots":Str)="mask"):=by decide+kernel
theorem m9:¬(("slots":Str)="names_in")/\¬(("span":Str)="unit")/\¬(("span":Str)="slots")/\¬(("span":Str)="mask")/\¬(("span":Str)="names_in")/\¬(("mask":Str)="unit")/\¬(("mask":Str)="slots")/\¬(("mask":Str)="span")/\¬(("mask":Str)="names_in")/\¬(("names_in":Str)="unit")/\¬(("names_in":Str)="slots")/\¬(("names_in":Str)="span")/\¬(("names_in":Str)="mask")/\¬(("__init__":Str)="unit")/\¬(("__init__":Str)="slots")/\¬(("__init__":Str)="span")/\¬(("__init__":Str)="mask")/\¬(("__init__":Str)="names_in")/\¬(("holds":Str)="unit")/\¬(("holds":Str)="slots")/\¬(("holds":Str)="span")/\¬(("holds":Str)="mask")/\¬(("holds":Str)="names_in")/\¬(("slot_of":Str)="unit")/\¬(("slot_of":Str)="slots"):=by decide+kernel
theorem rn:¬(("slot_of":Str)="span")/\¬(("slot_of":Str)="mask")/\¬(("slot_of":Str)="names_in")/\¬(("lay_in":Str)="unit")/\¬(("lay_in":Str)="slots")/\¬(("lay_in":Str)="span")/\¬(("lay_in":Str)="mask")/\¬(("lay_in":Str)="names_in")/\¬(("lift_out":Str)="unit")/\¬(("lift_out":Str)="slots")/\¬(("lift_out":Str)="span")/\¬(("lift_out":Str)="mask")/\¬(("lift_out":Str)="names_in")/\¬(("empty":Str)="unit")/\¬(("empty":Str)="slots")/\¬(("empty":Str)="span")/\¬(("empty":Str)="mask")/\¬(("empty":Str)="names_in")/\¬(("let_out":Str)="unit")/\¬(("let_out":Str)="slots")/\¬(("let_out":Str)="span")/\¬(("let_out":Str)="mask")/\¬(("let_out":Str)="names_in")/\¬(("now":Str)="wheels")/\¬(("now":Str)="far"):=by decide+kernel
theorem v8:¬(("now":Str)="moves")/\¬(("times":Str)="wheels")/\¬(("times":Str)="far")/\¬(("times":Str)="moves")/\¬(("wheels":Str)="now")/\¬(("wheels":Str)="times")/\¬(("wheels":Str)="far")/\¬(("wheels":Str)="moves")/\¬(("far":Str)="now")/\¬(("far":Str)="times")/\¬(("far":Str)="wheels")/\¬(("far":Str)="moves")/\¬(("moves":Str)="now")/\¬(("moves":Str)="times")/\¬(("moves":Str)="wheels")/\¬(("moves":Str)="far")/\¬(("__init__":Str)="wheels")/\¬(("__init__":Str)="far")/\¬(("__init__":Str)="moves")/\¬(("wheel_of":Str)="now")/\¬(("wheel_of":Str)="times")/\¬(("wheel_of":Str)="wheels")/\¬(("wheel_of":Str)="far")/\¬(("wheel_of":Str)="moves")/\¬(("bits":Str)="now"):=by decide+kernel
theorem uy:¬(("bits":Str)="times")/\¬(("bits":Str)="wheels")/\¬(("bits":Str)="far")/\¬(("bits":Str)="moves")/\¬(("moved":Str)="now")/\¬(("moved":Str)="times")/\¬(("moved":Str)="wheels")/\¬(("moved":Str)="far")/\¬(("moved":Str)="moves")/\¬(("wheel_at":Str)="now")/\¬(("wheel_at":Str)="times")/\¬(("wheel_at":Str)="wheels")/\¬(("wheel_at":Str)="far")/\¬(("wheel_at":Str)="moves")/\¬(("enter":Str)="wheels")/\¬(("enter":Str)="far")/\¬(("enter":Str)="moves")/\¬(("lie_down":Str)="now")/\¬(("lie_down":Str)="times")/\¬(("lie_down":Str)="wheels")/\¬(("lie_down":Str)="far")/\¬(("lie_down":Str)="moves")/\¬(("leave":Str)="wheels")/\¬(("leave":Str)="far")/\¬(("leave":Str)="moves"):=by decide+kernel
theorem nu:¬(("pass_on":Str)="wheels")/\¬(("pass_on":Str)="far")/\¬(("pass_on":Str)="moves")/\¬(("come_near":Str)="now")/\¬(("come_near":Str)="times")/\¬(("come_near":Str)="wheels")/\¬(("come_near":Str)="far")/\¬(("come_near":Str)="moves")/\¬(("put":Str)="wheels")/\¬(("put":Str)="far")/\¬(("put":Str)="moves")/\¬(("take":Str)="wheels")/\¬(("take":Str)="far")/\¬(("take":Str)="moves")/\¬(("due":Str)="wheels")/\¬(("due":Str)="far")/\¬(("due":Str)="moves")/\¬(("least":Str)="wheels")/\¬(("least":Str)="far")/\¬(("least":Str)="moves")/\¬(("time_of":Str)="wheels")/\¬(("time_of":Str)="far")/\¬(("time_of":Str)="moves")/\¬(("all_of":Str)="wheels")/\¬(("all_of":Str)="far"):=by decide+kernel
theorem qS:¬(("all_of":Str)="moves")/\¬(("check_waits":Str)="wheels")/\¬(("check_waits":Str)="far")/\¬(("check_waits":Str)="moves")/\¬(("waits":Str)="rounds")/\¬(("waits":Str)="now")/\¬(("waits":Str)="shift")/\¬(("waits":Str)="groups")/\¬(("waits":Str)="by_name")/\¬(("rounds":Str)="waits")/\¬(("rounds":Str)="now")/\¬(("rounds":Str)="shift")/\¬(("rounds":Str)="groups")/\¬(("rounds":Str)="by_name")/\¬(("now":Str)="waits")/\¬(("now":Str)="rounds")/\¬(("now":Str)="shift")/\¬(("now":Str)="groups")/\¬(("now":Str)="by_name")/\¬(("shift":Str)="waits")/\¬(("shift":Str)="rounds")/\¬(("shift":Str)="now")/\¬(("shift":Str)="groups")/\¬(("shift":Str)="by_name")/\¬(("groups":Str)="waits"):=by decide+kernel
theorem pB:¬(("groups":Str)="rounds")/\¬(("groups":Str)="now")/\¬(("groups":Str)="shift")/\¬(("groups":Str)="by_name")/\¬(("by_name":Str)="waits")/\¬(("by_name":Str)="rounds")/\¬(("by_name":Str)="now")/\¬(("by_name":Str)="shift")/\¬(("by_name":Str)="groups")/\¬(("__init__":Str)="waits")/\¬(("__init__":Str)="rounds")/\¬(("__init__":Str)="shift")/\¬(("__init__":Str)="groups")/\¬(("__init__":Str)="by_name")/\¬(("add":Str)="waits")/\¬(("add":Str)="rounds")/\¬(("add":Str)="now")/\¬(("add":Str)="shift")/\¬(("add":Str)="groups")/\¬(("add":Str)="by_name")/\¬(("move":Str)="waits")/\¬(("move":Str)="rounds")/\¬(("move":Str)="now")/\¬(("move":Str)="shift")/\¬(("move":Str)="groups"):=by decide+kernel
theorem qY:¬(("move":Str)="by_name")/\¬(("put_off":Str)="waits")/\¬(("put_off":Str)="rounds")/\¬(("put_off":Str)="now")/\¬(("put_off":Str)="shift")/\¬(("put_off":Str)="groups")/\¬(("put_off":Str)="by_name")/\¬(("let_by":Str)="waits")/\¬(("let_by":Str)="rounds")/\¬(("let_by":Str)="now")/\¬(("let_by":Str)="shift")/\¬(("let_by":Str)="groups")/\¬(("let_by":Str)="by_name")/\¬(("take":Str)="waits")/\¬(("take":Str)="rounds")/\¬(("take":Str)="shift")/\¬(("take":Str)="groups")/\¬(("take":Str)="by_name")/\¬(("group":Str)="waits")/\¬(("group":Str)="rounds")/\¬(("group":Str)="now")/\¬(("group":Str)="shift")/\¬(("group":Str)="groups")/\¬(("group":Str)="by_name")/\¬(("sleep":Str)="waits"):=by decide+kernel
theorem qK:¬(("sleep":Str)="rounds")/\¬(("sleep":Str)="now")/\¬(("sleep":Str)="shift")/\¬(("sleep":Str)="groups")/\¬(("sleep":Str)="by_name")/\¬(("wake":Str)="waits")/\¬(("wake":Str)="rounds")/\¬(("wake":Str)="now")/\¬(("wake":Str)="shift")/\¬(("wake":Str)="groups")/\¬(("wake":Str)="by_name")/\¬(("end":Str)="waits")/\¬(("end":Str)="rounds")/\¬(("end":Str)="now")/\¬(("end":Str)="shift")/\¬(("end":Str)="groups")/\¬(("end":Str)="by_name")/\¬(("turn":Str)="waits")/\¬(("turn":Str)="rounds")/\¬(("turn":Str)="now")/\¬(("turn":Str)="shift")/\¬(("turn":Str)="groups")/\¬(("turn":Str)="by_name")/\¬(("idle":Str)="waits")/\¬(("idle":Str)="rounds"):=by decide+kernel
theorem zj:¬(("idle":Str)="now")/\¬(("idle":Str)="shift")/\¬(("idle":Str)="groups")/\¬(("idle":Str)="by_name")/\¬(("go":Str)="waits")/\¬(("go":Str)="rounds")/\¬(("go":Str)="now")/\¬(("go":Str)="shift")/\¬(("go":Str)="groups")/\¬(("go":Str)="by_name")/\¬(("wakes_by":Str)="waits")/\¬(("wakes_by":Str)="rounds")/\¬(("wakes_by":Str)="now")/\¬(("wakes_by":Str)="shift")/\¬(("wakes_by":Str)="groups")/\¬(("wakes_by":Str)="by_name")/\¬(("ring_all":Str)="waits")/\¬(("ring_all":Str)="rounds")/\¬(("ring_all":Str)="now")/\¬(("ring_all":Str)="shift")/\¬(("ring_all":Str)="groups")/\¬(("ring_all":Str)="by_name")/\¬(("ring":Str)="waits")/\¬(("ring":Str)="rounds")/\¬(("ring":Str)="now"):=by decide+kernel
theorem u5:¬(("ring":Str)="shift")/\¬(("ring":Str)="groups")/\¬(("ring":Str)="by_name")/\¬(("bells":Str)="waits")/\¬(("bells":Str)="rounds")/\¬(("bells":Str)="now")/\¬(("bells":Str)="shift")/\¬(("bells":Str)="groups")/\¬(("bells":Str)="by_name")/\¬(("about":Str)="waits")/\¬(("about":Str)="rounds")/\¬(("about":Str)="now")/\¬(("about":Str)="shift")/\¬(("about":Str)="groups")/\¬(("about":Str)="by_name")/\¬(("known":Str)="waits")/\¬(("known":Str)="rounds")/\¬(("known":Str)="now")/\¬(("known":Str)="shift")/\¬(("known":Str)="groups")/\¬(("known":Str)="by_name")/\¬(("ahead":Str)="waits")/\¬(("ahead":Str)="rounds")/\¬(("ahead":Str)="now")/\¬(("ahead":Str)="shift"):=by decide+kernel
theorem qO:¬(("ahead":Str)="groups")/\¬(("ahead":Str)="by_name")/\¬(("bell_of":Str)="waits")/\¬(("bell_of":Str)="rounds")/\¬(("bell_of":Str)="now")/\¬(("bell_of":Str)="shift")/\¬(("bell_of":Str)="groups")/\¬(("bell_of":Str)="by_name")/\¬(("all_bells":Str)="waits")/\¬(("all_bells":Str)="rounds")/\¬(("all_bells":Str)="now")/\¬(("all_bells":Str)="shift")/\¬(("all_bells":Str)="groups")/\¬(("all_bells":Str)="by_name")/\¬(("bells_in":Str)="waits")/\¬(("bells_in":Str)="rounds")/\¬(("bells_in":Str)="now")/\¬(("bells_in":Str)="shift")/\¬(("bells_in":Str)="groups")/\¬(("bells_in":Str)="by_name")/\¬(("is_awake":Str)="waits")/\¬(("is_awake":Str)="rounds")/\¬(("is_awake":Str)="now")/\¬(("is_awake":Str)="shift")/\¬(("is_awake":Str)="groups"):=by decide+kernel
theorem kT:¬(("is_awake":Str)="by_name")/\¬(("shown_to":Str)="waits")/\¬(("shown_to":Str)="rounds")/\¬(("shown_to":Str)="now")/\¬(("shown_to":Str)="shift")/\¬(("shown_to":Str)="groups")/\¬(("shown_to":Str)="by_name")/\¬(("hang":Str)="waits")/\¬(("hang":Str)="rounds")/\¬(("hang":Str)="now")/\¬(("hang":Str)="shift")/\¬(("hang":Str)="groups")/\¬(("hang":Str)="by_name")/\¬(("lay":Str)="waits")/\¬(("lay":Str)="rounds")/\¬(("lay":Str)="now")/\¬(("lay":Str)="shift")/\¬(("lay":Str)="groups")/\¬(("lay":Str)="by_name")/\¬(("let_wait":Str)="waits")/\¬(("let_wait":Str)="rounds")/\¬(("let_wait":Str)="now")/\¬(("let_wait":Str)="shift")/\¬(("let_wait":Str)="groups")/\¬(("let_wait":Str)="by_name"):=by decide+kernel
theorem oT:¬(("lay_all":Str)="waits")/\¬(("lay_all":Str)="rounds")/\¬(("lay_all":Str)="now")/\¬(("lay_all":Str)="shift")/\¬(("lay_all":Str)="groups")/\¬(("lay_all":Str)="by_name")/\¬(("lift":Str)="waits")/\¬(("lift":Str)="rounds")/\¬(("lift":Str)="now")/\¬(("lift":Str)="shift")/\¬(("lift":Str)="groups")/\¬(("lift":Str)="by_name")/\¬(("settle":Str)="waits")/\¬(("settle":Str)="rounds")/\¬(("settle":Str)="now")/\¬(("settle":Str)="shift")/\¬(("settle":Str)="groups")/\¬(("settle":Str)="by_name")/\¬(("finish":Str)="waits")/\¬(("finish":Str)="rounds")/\¬(("finish":Str)="now")/\¬(("finish":Str)="shift")/\¬(("finish":Str)="groups")/\¬(("finish":Str)="by_name")/\¬(("drop":Str)="waits"):=by decide+kernel
theorem tR:¬(("drop":Str)="rounds")/\¬(("drop":Str)="now")/\¬(("drop":Str)="shift")/\¬(("drop":Str)="groups")/\¬(("drop":Str)="by_name")/\¬(("remove":Str)="waits")/\¬(("remove":Str)="rounds")/\¬(("remove":Str)="now")/\¬(("remove":Str)="shift")/\¬(("remove":Str)="groups")/\¬(("remove":Str)="by_name")/\¬(("pass_to":Str)="waits")/\¬(("pass_to":Str)="rounds")/\¬(("pass_to":Str)="now")/\¬(("pass_to":Str)="shift")/\¬(("pass_to":Str)="groups")/\¬(("pass_to":Str)="by_name")/\¬(("many":Str)="start")/\¬(("many":Str)="step")/\¬(("many":Str)="wide")/\¬(("start":Str)="many")/\¬(("start":Str)="step")/\¬(("start":Str)="wide")/\¬(("step":Str)="many")/\¬(("step":Str)="start"):=by decide+kernel
theorem wI:¬(("step":Str)="wide")/\¬(("wide":Str)="many")/\¬(("wide":Str)="start")/\¬(("wide":Str)="step")/\¬(("__init__":Str)="many")/\¬(("__init__":Str)="start")/\¬(("__init__":Str)="step")/\¬(("__init__":Str)="wide")/\¬(("stretch_of":Str)="many")/\¬(("stretch_of":Str)="start")/\¬(("stretch_of":Str)="step")/\¬(("stretch_of":Str)="wide")/\¬(("begin":Str)="many")/\¬(("begin":Str)="start")/\¬(("begin":Str)="step")/\¬(("begin":Str)="wide")/\¬(("follow":Str)="many")/\¬(("follow":Str)="start")/\¬(("follow":Str)="step")/\¬(("follow":Str)="wide")/\¬(("let_by":Str)="many")/\¬(("let_by":Str)="start")/\¬(("let_by":Str)="step")/\¬(("let_by":Str)="wide")/\¬(("words":Str)="many"):=by decide+kernel
theorem rS:¬(("words":Str)="start")/\¬(("words":Str)="step")/\¬(("words":Str)="wide")/\¬(("twin":Str)="many")/\¬(("twin":Str)="start")/\¬(("twin":Str)="step")/\¬(("twin":Str)="wide")/\¬(("place_of":Str)="many")/\¬(("place_of":Str)="start")/\¬(("place_of":Str)="step")/\¬(("place_of":Str)="wide"):=by decide+kernel
set_option hygiene false in
local macro_rules|`(tactic|walk_at "lk")=>`(tactic|first|(rw [yT];((conv=>lhs;simp only [look,reduceIte,JE,wC,xc,nM,o7,lP,nH,rk,wc,sJ,m9,rn,v8,uy,nu,qS,pB,qY,qK,zj,u5,qO,kT,oT,tR,wI,rS]) <;>exact rfl))|fail)
set_option hygiene false in
local macro_rules|`(tactic|walk_at "lk")=>`(tactic|first|assumption|fail)
set_option hygiene false in
local macro_rules|`(tactic|walk_at "put")=>`(tactic|((conv=>lhs;simp only [lq,reduceIte,JE,wC,xc,nM,o7,lP,nH,rk,wc,sJ,m9,rn,v8,uy,nu,qS,pB,qY,qK,zj,u5,qO,kT,oT,tR,wI,rS]) <;>exact rfl))
structure wm (K:At) (x q:Str) (s:Stmt) (d:Value) (f:Addr):Prop where
 a:ID K Fk x=some (some (.ref f))
 l:∃fd,a0 K x q s f d fd
 k:ET K (.ref f)=true
structure bM (K:At) (C:Addr) (x q:Str) (s:Stmt) (d:Value) (f:Addr):Prop where
 a:AR K (.ref C) x=some (some (.ref f))
 l:∃fd,a0 K x q s f d fd
 k:ET K (.ref f)=true
 i:PySem.W.isFn K (.ref f)=true
structure Ic (K:At) (C:Addr):Prop where
 pg:Aai K C Str.empty=true
 hd:AaF K C=true
 po:Abw K C=true
 sa:AR K (.ref C) "__setattr__"=some (some (.builtin "object.__setattr__"))
 t1:AR K (.ref C) "__class__"=some (some (.builtin "object.__class__"))
 t2:PySem.W.mroIn K C (.type "object")=some true
 t3:PySem.W.typeIn K (.ref C)=some (.type "type")
theorem To {K:At} {t:Addr} {xs:Array Value} {n:Nat} {d:Option Addr} {z:Array (Option Value)} {c:Value} (l:K.lookup t=some ⟨c,d,.seq xs n,z⟩):ye K t xs:=⟨⟨_,_,l,rfl⟩⟩
set_option genSizeOf false in
set_option genInjectivity false in
structure Ad where
 cI:Addr
 pI:Cf
 fK:Addr
 wq:Cf
 dC:Addr
 qD:Cf
 bO:Addr
 mC:Cf
 ei:Addr
 rZ:Cf
 cR:Addr
 pj:Cf
 fR:Addr
 xg:Cf
 fS:Addr
 v5:Cf
 bL:Addr
 lJ:Cf
 aY:Addr
 jq:Cf
 cG:Addr
 eG:Tok
 dh:Addr
 wj:Cf
 cz:Addr
 uK:Cf
 cY:Addr
 xH:Cf
 bK:Addr
 tM:Cf
 bf:Addr
 pH:Cf
 aK:Addr
 j3:Cf
 f7:Addr
 xo:Cf
 fZ:Addr
 w5:Cf
 eh:Addr
 rM:Cf
 fg:Addr
 y7:Cf
 cE:Addr
 qX:Cf
 eR:Addr
 xn:Cf
 fV:Addr
 yP:Cf
 cp:Addr
 nh:Cf
 d9:Addr
 sY:Cf
 cP:Addr
 ph:Cf
 dB:Addr
 qU:Cf
 cm:Addr
 nI:Cf
 ez:Addr
 tY:Cf
 cN:Addr
 o6:Cf
 bQ:Addr
 mM:Cf
 cu:Addr
 dI:Tok
 bR:Addr
 mK:Cf
 dA:Addr
 qZ:Cf
 bP:Addr
 lX:Cf
 dz:Addr
 qE:Cf
 cq:Addr
 m8:Cf
 bH:Addr
 kU:Cf
 bY:Addr
 pe:Cf
 bI:Addr
 m3:Cf
 b8:Addr
 pq:Cf
 bZ:Addr
 o9:Cf
 eX:Addr
 xI:Cf
 fO:Addr
 yQ:Cf
 b9:Addr
 pz:Cf
 eV:Addr
 xt:Cf
 dc:Addr
 r9:Cf
 dg:Addr
 sH:Cf
 df:Addr
 tf:Cf
 cF:Addr
 qM:Cf
 fQ:Addr
 xh:Cf
 bV:Addr
 lM:Cf
 cn:Addr
 d3:Tok
 e8:Addr
 nY:Cf
 fw:Addr
 fj:Tok
 eU:Addr
 kZ:Cf
 gx:Addr
 fX:Tok
 bT:Addr
 mL:Cf
 bN:Addr
 mF:Cf
 d6:Addr
 rP:Cf
 cC:Addr
 ve:Cf
 d5:Addr
 uB:Cf
 bF:Addr
 oU:Cf
 bj:Addr
 pA:Cf
 cM:Addr
 jP:Cf
 dj:Addr
 fb:Tok
 aZ:Addr
 lY:Cf
 fc:Addr
 uU:Cf
 eA:Addr
 tF:Cf
 d8:Addr
 rF:Cf
 fP:Addr
 wB:Cf
 cD:Addr
 qJ:Cf
 dM:Addr
 uQ:Cf
 eY:Addr
 vY:Cf
 dZ:Addr
 uF:Cf
 eT:Addr
 xN:Cf
 dP:Addr
 uE:Cf
 uX:Addr
 EI:Cf
 ax:Addr
 bU:Addr
 eZ:Addr
 aT:Addr
 aj:Addr
 ai:Addr
 eN:Addr
 ak:Addr
 nR:Addr
 aD:Addr
 hX:Tok
 i3:Tok
 il:Tok
structure Txt (K:At) (mg:Str->Option Value) (a:Ad):Prop where
 kL:a0 K "__init__" "Bell.__init__" kP a.cI (.none) a.pI
 sx:a0 K "lead" "Bell.lead" tq a.fK (.none) a.wq
 mN:a0 K "is_over" "Bell.is_over" mh a.dC (.none) a.qD
 iT:a0 K "is_waiting" "Bell.is_waiting" ju a.bO (.none) a.mC
 oo:a0 K "settle" "Bell.settle" oK a.ei (.none) a.rZ
 kh:a0 K "catch_up" "Bell.catch_up" kD a.cR (.none) a.pj
 tX:a0 K "wait" "Bell.wait" rL a.fR (.none) a.xg
 sS:a0 K "rest" "Bell.rest" sW a.fS (.none) a.v5
 je:a0 K "__init__" "Groups.__init__" iZ a.bL (.none) a.lJ
 jG:a0 K "__init__" "Waits.__init__" jE a.aY (.ref a.cG) a.jq
 oX:ye K a.cG #[(.int 0 a.eG)]
 tW:a0 K "put" "Waits.put" tO a.dh (.none) a.wj
 qw:a0 K "take" "Waits.take" pV a.cz (.none) a.uK
 sj:a0 K "due" "Waits.due" nL a.cY (.none) a.xH
 nS:a0 K "least" "Waits.least" nV a.bK (.none) a.tM
 kq:a0 K "time_of" "Waits.time_of" kQ a.bf (.none) a.pH
 gI:a0 K "check_waits" "Waits.check_waits" gK a.aK (.none) a.j3
 rY:a0 K "enter" "Row.enter" rR a.f7 (.none) a.xo
 tu:a0 K "leave" "Row.leave" sL a.fZ (.none) a.w5
 oz:a0 K "pass_on" "Row.pass_on" jR a.eh (.none) a.rM
 vA:a0 K "is_whole" "is_whole" vD a.fg (.none) a.y7
 tZ:ET K (.ref a.fg)=true
 r6:mg "is_whole"=some (.ref a.fg)
 mG:a0 K "check_rounds" "check_rounds" lT a.cE (.none) a.qX
 qG:ET K (.ref a.cE)=true
 qR:mg "check_rounds"=some (.ref a.cE)
 sX:a0 K "wheels_of" "wheels_of" sk a.eR (.none) a.xn
 xj:ET K (.ref a.eR)=true
 wN:mg "wheels_of"=some (.ref a.eR)
 vS:a0 K "place_in" "place_in" vl a.fV (.none) a.yP
 rJ:ET K (.ref a.fV)=true
 sZ:mg "place_in"=some (.ref a.fV)
 jD:a0 K "__init__" "Wheel.__init__" jK a.cp (.none) a.nh
 oq:a0 K "holds" "Wheel.holds" oN a.d9 (.none) a.sY
 kE:a0 K "slot_of" "Wheel.slot_of" kn a.cP (.none) a.ph
 lO:a0 K "lay_in" "Wheel.lay_in" lK a.dB (.none) a.qU
 jI:a0 K "lift_out" "Wheel.lift_out" jO a.cm (.none) a.nI
 oe:a0 K "empty" "Wheel.empty" oP a.ez (.none) a.tY
 kN:a0 K "let_out" "Wheel.let_out" kK a.cN (.none) a.o6
 ji:a0 K "__init__" "Wheels.__init__" i5 a.bQ (.ref a.cu) a.mM
 nA:ye K a.cu #[(.int 0 a.dI)]
 jn:a0 K "wheel_at" "Wheels.wheel_at" jv a.bR (.none) a.mK
 lR:a0 K "enter" "Wheels.enter" lZ a.dA (.none) a.qZ
 iS:a0 K "lie_down" "Wheels.lie_down" jt a.bP (.none) a.lX
 lL:a0 K "leave" "Wheels.leave" mD a.dz (.none) a.qE
 jM:a0 K "pass_on" "Wheels.pass_on" jH a.cq (.none) a.m8
 iw:a0 K "come_near" "Wheels.come_near" iy a.bH (.none) a.kU
 kR:a0 K "__init__" "Yard.__init__" ki a.bY (.none) a.pe
 jJ:a0 K "all_bells" "Yard.all_bells" gm a.bI (.none) a.m3
 kF:a0 K "is_awake" "Yard.is_awake" kz a.b8 (.none) a.pq
 kM:a0 K "shown_to" "Yard.shown_to" kO a.bZ (.none) a.o9
 tD:a0 K "hang" "Yard.hang" rV a.eX (.none) a.xI
 vH:a0 K "lay" "Yard.lay" vx a.fO (.none) a.yQ
 km:a0 K "let_wait" "Yard.let_wait" kB a.b9 (.none) a.pz
 sV:a0 K "lift" "Yard.lift" sC a.eV (.none) a.xt
 oj:a0 K "settle" "Yard.settle" nX a.dc (.none) a.r9
 ou:a0 K "finish" "Yard.finish" oC a.dg (.none) a.sH
 oQ:a0 K "remove" "Yard.remove" nZ a.df (.none) a.tf
 lS:a0 K "pass_to" "Yard.pass_to" jh a.cF (.none) a.qM
 tH:a0 K "by_weight" "by_weight" sQ a.fQ (.none) a.xh
 wO:mg "by_weight"=some (.ref a.fQ)
 i6:a0 K "__init__" "Keeper.__init__" jb a.bV (.ref a.cn) a.lM
 mY:ye K a.cn #[.none,(.int 0 a.d3)]
 pL:a0 K "add" "Keeper.add" qg a.e8 (.ref a.fw) a.nY
 wL:ye K a.fw #[(.int 1 a.fj),.none,.bool false]
 nj:a0 K "go" "Keeper.go" tU a.eU (.ref a.gx) a.kZ
 ti:ye K a.gx #[(.int 60 a.fX),.none]
 jx:a0 K "wakes_by" "Keeper.wakes_by" jg a.bT (.none) a.mL
 jr:a0 K "ring_all" "Keeper.ring_all" fB a.bN (.none) a.mF
 om:a0 K "ring" "Keeper.ring" oB a.d6 (.none) a.rP
 pS:a0 K "check_from" "check_from" qy a.cC (.none) a.ve
 gT:ET K (.ref a.cC)=true
 gO:mg "check_from"=some (.ref a.cC)
 pZ:a0 K "spans_over" "spans_over" qu a.d5 (.none) a.uB
 uZ:ET K (.ref a.d5)=true
 uI:mg "spans_over"=some (.ref a.d5)
 kH:a0 K "__init__" "Rule.__init__" kJ a.bF (.none) a.oU
 kr:a0 K "place_of" "Rule.place_of" kl a.bj (.none) a.pA
 ko:a0 K "__init__" "Each.__init__" kC a.cM (.ref a.dj) a.jP
 qW:ye K a.dj #[(.int 0 a.fb),.none]
 ja:a0 K "stretch_of" "Each.stretch_of" iW a.aZ (.none) a.lY
 p5:a0 K "begin" "Each.begin" qx a.fc (.none) a.uU
 oh:a0 K "follow" "Each.follow" oA a.eA (.none) a.tF
 nT:a0 K "let_by" "Each.let_by" n9 a.d8 (.none) a.rF
 rO:a0 K "twin" "Each.twin" rT a.fP (.none) a.wB
 mI:a0 K "_law_cell_at" "_law_cell_at" lN a.cD (.none) a.qJ
 aH:ET K (.ref a.cD)=true
 aG:mg "_law_cell_at"=some (.ref a.cD)
 qj:a0 K "_law_whole" "_law_whole" pW a.dM (.none) a.uQ
 oi:ET K (.ref a.dM)=true
 oO:mg "_law_whole"=some (.ref a.dM)
 sT:a0 K "_law_name" "_law_name" tj a.eY (.none) a.vY
 xE:ET K (.ref a.eY)=true
 wx:mg "_law_name"=some (.ref a.eY)
 qh:a0 K "_law_kinds" "_law_kinds" qi a.dZ (.none) a.uF
 uT:ET K (.ref a.dZ)=true
 uP:mg "_law_kinds"=some (.ref a.dZ)
 sy:a0 K "_law_next" "_law_next" sF a.eT (.none) a.xN
 wy:ET K (.ref a.eT)=true
 xk:mg "_law_next"=some (.ref a.eT)
 pR:a0 K "_law_going" "_law_going" pT a.dP (.none) a.uE
 uR:ET K (.ref a.dP)=true
 uA:mg "_law_going"=some (.ref a.dP)
 Od:a0 K "law" "law" NA a.uX (.none) a.EI
 QU:mg "law"=some (.ref a.uX)
 JS:mg "Bell"=some (.ref a.ax)
 aW:tm K a.ax
 bG:aJ K a.ax "name"
 gy:aJ K a.ax "rule"
 fI:aJ K a.ax "weight"
 jl:aJ K a.ax "home"
 fJ:aJ K a.ax "by_day"
 dt:aJ K a.ax "number"
 b0:aJ K a.ax "stretch"
 cA:aJ K a.ax "since"
 cZ:aJ K a.ax "until"
 PZ:Mk K a.ax a.cI
 tL:Meth K a.ax "lead" a.fK
 mq:Meth K a.ax "is_over" a.dC
 nD:Meth K a.ax "is_waiting" a.bO
 uv:Meth K a.ax "settle" a.ei
 qT:Meth K a.ax "catch_up" a.cR
 zf:Meth K a.ax "wait" a.fR
 y4:Meth K a.ax "rest" a.fS
 Dm:mg "Groups"=some (.ref a.bU)
 jN:tm K a.bU
 e9:aJ K a.bU "above_of"
 g9:aJ K a.bU "marks"
 Gr:Mk K a.bU a.bL
 Gk:mg "Waits"=some (.ref a.eZ)
 QR:mg "Row"=some (.ref a.aT)
 eM:tm K a.aT
 jQ:aJ K a.aT "now"
 gb:aJ K a.aT "times"
 U2:Mk K a.aT a.aY
 yO:Meth K a.aT "enter" a.f7
 yY:Meth K a.aT "leave" a.fZ
 u9:Meth K a.aT "pass_on" a.eh
 DH:Meth K a.aT "put" a.dh
 Bf:Meth K a.aT "take" a.cz
 DF:Meth K a.aT "due" a.cY
 tE:Meth K a.aT "least" a.bK
 uH:Meth K a.aT "time_of" a.bf
 nJ:Meth K a.aT "check_waits" a.aK
 Gi:mg "Wheel"=some (.ref a.aj)
 bW:tm K a.aj
 gN:aJ K a.aj "unit"
 fU:aJ K a.aj "slots"
 fA:aJ K a.aj "span"
 cX:aJ K a.aj "mask"
 bS:aJ K a.aj "names_in"
 Jz:Mk K a.aj a.cp
 oJ:Meth K a.aj "holds" a.d9
 hZ:Meth K a.aj "slot_of" a.cP
 sD:Meth K a.aj "lay_in" a.dB
 oV:Meth K a.aj "lift_out" a.cm
 oE:Meth K a.aj "empty" a.ez
 q9:Meth K a.aj "let_out" a.cN
 Dg:mg "Wheels"=some (.ref a.ai)
 aQ:tm K a.ai
 cB:aJ K a.ai "now"
 cO:aJ K a.ai "times"
 bo:aJ K a.ai "wheels"
 d7:aJ K a.ai "far"
 cQ:aJ K a.ai "moves"
 FX:Mk K a.ai a.bQ
 jo:Meth K a.ai "wheel_at" a.bR
 sU:Meth K a.ai "enter" a.dA
 jf:Meth K a.ai "lie_down" a.bP
 sE:Meth K a.ai "leave" a.dz
 oW:Meth K a.ai "pass_on" a.cq
 md:Meth K a.ai "come_near" a.bH
 wM:Meth K a.ai "put" a.dh
 vg:Meth K a.ai "take" a.cz
 xx:Meth K a.ai "due" a.cY
 mj:Meth K a.ai "least" a.bK
 pC:Meth K a.ai "time_of" a.bf
 ke:Meth K a.ai "check_waits" a.aK
 Ko:mg "Yard"=some (.ref a.eN)
 DC:mg "Keeper"=some (.ref a.ak)
 aO:tm K a.ak
 bD:aJ K a.ak "waits"
 gD:aJ K a.ak "rounds"
 bB:aJ K a.ak "now"
 dG:aJ K a.ak "shift"
 gC:aJ K a.ak "groups"
 bu:aJ K a.ak "by_name"
 Gf:Mk K a.ak a.bV
 xq:Meth K a.ak "add" a.e8
 tV:Meth K a.ak "go" a.eU
 nN:Meth K a.ak "wakes_by" a.bT
 nO:Meth K a.ak "ring_all" a.bN
 uV:Meth K a.ak "ring" a.d6
 mE:Meth K a.ak "all_bells" a.bI
 nF:Meth K a.ak "is_awake" a.b8
 jc:Meth K a.ak "shown_to" a.bZ
 uw:Meth K a.ak "hang" a.eX
 qA:Meth K a.ak "lay" a.fO
 mV:Meth K a.ak "let_wait" a.b9
 oH:Meth K a.ak "lift" a.eV
 qV:Meth K a.ak "settle" a.dc
 ia:Meth K a.ak "finish" a.dg
 qI:Meth K a.ak "remove" a.df
 jL:Meth K a.ak "pass_to" a.cF
 Kj:mg "Rule"=some (.ref a.nR)
 DM:mg "Each"=some (.ref a.aD)
 cV:tm K a.aD
 e6:aJ K a.aD "many"
 fx:aJ K a.aD "start"
 e7:aJ K a.aD "step"
 gk:aJ K a.aD "wide"
 HA:Mk K a.aD a.cM
 fE:Meth K a.aD "stretch_of" a.aZ
 xQ:Meth K a.aD "begin" a.fc
 uz:Meth K a.aD "follow" a.eA
 uG:Meth K a.aD "let_by" a.d8
 zr:Meth K a.aD "twin" a.fP
 ky:Meth K a.aD "place_of" a.bj
 fM:a.ax≠a.ak
 mU:a.ax≠a.aT
 jV:a.ak≠a.aT
 k6:a.aD≠a.ax
 iY:a.aD≠a.ak
 mZ:a.aD≠a.aT
 jU:a.ax≠a.aj
 i7:a.ax≠a.ai
 ic:a.ak≠a.aj
 gB:a.ak≠a.ai
 jW:a.aD≠a.aj
 i9:a.aD≠a.ai
 qF:DL K a.nR "__init__" a.bF
 pF:DL K a.eZ "__init__" a.aY
 qL:DL K a.eN "__init__" a.bY
 si:mg "LEAST_ROUND"=some (.int 2 a.hX)
 uW:mg "MOST_ROUND"=some (.int 60 a.i3)
 sf:mg "MOST_WHEELS"=some (.int 6 a.il)
 xF:mg "bool"=none
 kY:mg "enumerate"=none
 AK:mg "int"=none
 bz:mg "isinstance"=none
 qB:mg "len"=none
 pU:mg "list"=none
 Ap:mg "max"=none
 D4:mg "min"=none
 wZ:mg "range"=none
 lC:mg "sorted"=none
 D9:mg "str"=none
 wY:mg "tuple"=none
theorem X5 {K:At} {h:Heap} {mg:Str->Option Value} {cI fK dC bO ei cR fR fS bL aY cG dh cz cY bK bf aK f7 fZ eh fg cE eR fV cp d9 cP dB cm ez cN bQ cu bR dA bP dz cq bH bY bI b8 bZ eX fO b9 eV dc dg df cF fQ bV cn e8 fw eU gx bT bN d6 cC d5 bF bj cM dj aZ fc eA d8 fP cD dM eY dZ eT dP uX ax bU eZ aT aj ai eN ak nR aD:Addr} {eG dI d3 fj fX fb hX i3 il:Tok}  (X:K.In h) (G:h.Ns Fk mg)
 (RV:ID K Fk "Bell"=some (some (.ref ax)))
 (Mu:ID K Fk "Groups"=some (some (.ref bU)))
 (QK:ID K Fk "Waits"=some (some (.ref eZ)))
 (VU:ID K Fk "Row"=some (some (.ref aT)))
 (PL:ID K Fk "Wheel"=some (some (.ref aj)))
 (LQ:ID K Fk "Wheels"=some (some (.ref ai)))
 (UJ:ID K Fk "Yard"=some (some (.ref eN)))
 (Lh:ID K Fk "Keeper"=some (some (.ref ak)))
 (Ta:ID K Fk "Rule"=some (some (.ref nR)))
 (Tt:ID K Fk "Each"=some (some (.ref aD)))
 (ik:bM K ax "__init__" "Bell.__init__" kP (.none) cI)
 (j4:bM K ax "lead" "Bell.lead" tq (.none) fK)
 (fN:bM K ax "is_over" "Bell.is_over" mh (.none) dC)
 (dY:bM K ax "is_waiting" "Bell.is_waiting" ju (.none) bO)
 (gQ:bM K ax "settle" "Bell.settle" oK (.none) ei)
 (fq:bM K ax "catch_up" "Bell.catch_up" kD (.none) cR)
 (j2:bM K ax "wait" "Bell.wait" rL (.none) fR)
 (j7:bM K ax "rest" "Bell.rest" sW (.none) fS)
 (fD:bM K bU "__init__" "Groups.__init__" iZ (.none) bL)
 (gg:bM K eZ "__init__" "Waits.__init__" jE (.ref cG) aY)
 (xY:ye K cG #[(.int 0 eG)])
 (iG:bM K eZ "put" "Waits.put" tO (.none) dh)
 (gA:bM K eZ "take" "Waits.take" pV (.none) cz)
 (iH:bM K eZ "due" "Waits.due" nL (.none) cY)
 (fz:bM K eZ "least" "Waits.least" nV (.none) bK)
 (dH:bM K eZ "time_of" "Waits.time_of" kQ (.none) bf)
 (bX:bM K eZ "check_waits" "Waits.check_waits" gK (.none) aK)
 (j6:bM K aT "enter" "Row.enter" rR (.none) f7)
 (j1:bM K aT "leave" "Row.leave" sL (.none) fZ)
 (gS:bM K aT "pass_on" "Row.pass_on" jR (.none) eh)
 (pN:wm K "is_whole" "is_whole" vD (.none) fg)
 (jw:wm K "check_rounds" "check_rounds" lT (.none) cE)
 (m5:wm K "wheels_of" "wheels_of" sk (.none) eR)
 (qp:wm K "place_in" "place_in" vl (.none) fV)
 (gf:bM K aj "__init__" "Wheel.__init__" jK (.none) cp)
 (gW:bM K aj "holds" "Wheel.holds" oN (.none) d9)
 (fv:bM K aj "slot_of" "Wheel.slot_of" kn (.none) cP)
 (fW:bM K aj "lay_in" "Wheel.lay_in" lK (.none) dB)
 (eK:bM K aj "lift_out" "Wheel.lift_out" jO (.none) cm)
 (gP:bM K aj "empty" "Wheel.empty" oP (.none) ez)
 (ft:bM K aj "let_out" "Wheel.let_out" kK (.none) cN)
 (fC:bM K ai "__init__" "Wheels.__init__" i5 (.ref cu) bQ)
 (wQ:ye K cu #[(.int 0 dI)])
 (dS:bM K ai "wheel_at" "Wheels.wheel_at" jv (.none) bR)
 (fY:bM K ai "enter" "Wheels.enter" lZ (.none) dA)
 (dR:bM K ai "lie_down" "Wheels.lie_down" jt (.none) bP)
 (fT:bM K ai "leave" "Wheels.leave" mD (.none) dz)
 (eL:bM K ai "pass_on" "Wheels.pass_on" jH (.none) cq)
 (dw:bM K ai "come_near" "Wheels.come_near" iy (.none) bH)
 (ku:bM K eN "__init__" "Yard.__init__" ki (.none) bY)
 (gE:bM K eN "all_bells" "Yard.all_bells" gm (.none) bI)
 (g8:bM K eN "is_awake" "Yard.is_awake" kz (.none) b8)
 (ib:bM K eN "shown_to" "Yard.shown_to" kO (.none) bZ)
 (nz:bM K eN "hang" "Yard.hang" rV (.none) eX)
 (qo:bM K eN "lay" "Yard.lay" vx (.none) fO)
 (hU:bM K eN "let_wait" "Yard.let_wait" kB (.none) b9)
 (nG:bM K eN "lift" "Yard.lift" sC (.none) eV)
 (jX:bM K eN "settle" "Yard.settle" nX (.none) dc)
 (jS:bM K eN "finish" "Yard.finish" oC (.none) dg)
 (jT:bM K eN "remove" "Yard.remove" nZ (.none) df)
 (iX:bM K eN "pass_to" "Yard.pass_to" jh (.none) cF)
 (rN:wm K "by_weight" "by_weight" sQ (.none) fQ)
 (fF:bM K ak "__init__" "Keeper.__init__" jb (.ref cn) bV)
 (wA:ye K cn #[.none,(.int 0 d3)])
 (jz:bM K ak "add" "Keeper.add" qg (.ref fw) e8)
 (E2:ye K fw #[(.int 1 fj),.none,.bool false])
 (jY:bM K ak "go" "Keeper.go" tU (.ref gx) eU)
 (Fz:ye K gx #[(.int 60 fX),.none])
 (dU:bM K ak "wakes_by" "Keeper.wakes_by" jg (.none) bT)
 (dJ:bM K ak "ring_all" "Keeper.ring_all" fB (.none) bN)
 (gZ:bM K ak "ring" "Keeper.ring" oB (.none) d6)
 (la:wm K "check_from" "check_from" qy (.none) cC)
 (ll:wm K "spans_over" "spans_over" qu (.none) d5)
 (kI:bM K nR "__init__" "Rule.__init__" kJ (.none) bF)
 (ig:bM K nR "place_of" "Rule.place_of" kl (.none) bj)
 (ie:bM K aD "__init__" "Each.__init__" kC (.ref dj) cM)
 (zH:ye K dj #[(.int 0 fb),.none])
 (dO:bM K aD "stretch_of" "Each.stretch_of" iW (.none) aZ)
 (iU:bM K aD "begin" "Each.begin" qx (.none) fc)
 (gM:bM K aD "follow" "Each.follow" oA (.none) eA)
 (gX:bM K aD "let_by" "Each.let_by" n9 (.none) d8)
 (j0:bM K aD "twin" "Each.twin" rT (.none) fP)
 (iQ:wm K "_law_cell_at" "_law_cell_at" lN (.none) cD)
 (kW:wm K "_law_whole" "_law_whole" pW (.none) dM)
 (nP:wm K "_law_name" "_law_name" tj (.none) eY)
 (kX:wm K "_law_kinds" "_law_kinds" qi (.none) dZ)
 (mW:wm K "_law_next" "_law_next" sF (.none) eT)
 (lz:wm K "_law_going" "_law_going" pT (.none) dP)
 (NQ:wm K "law" "law" NA (.none) uX)
 (aW:Ic K ax)
 (bG:AR K (.ref ax) "name"=some none)
 (gy:AR K (.ref ax) "rule"=some none)
 (fI:AR K (.ref ax) "weight"=some none)
 (jl:AR K (.ref ax) "home"=some none)
 (fJ:AR K (.ref ax) "by_day"=some none)
 (dt:AR K (.ref ax) "number"=some none)
 (b0:AR K (.ref ax) "stretch"=some none)
 (cA:AR K (.ref ax) "since"=some none)
 (cZ:AR K (.ref ax) "until"=some none)
 (Tf:Q1 K ax=true)
 (UI:ET K (.ref ax)=true)
 (jN:Ic K bU)
 (e9:AR K (.ref bU) "above_of"=some none)
 (g9:AR K (.ref bU) "marks"=some none)
 (LI:Q1 K bU=true)
 (LA:ET K (.ref bU)=true)
 (eM:Ic K aT)
 (jQ:AR K (.ref aT) "now"=some none)
 (gb:AR K (.ref aT) "times"=some none)
 (XI:Q1 K aT=true)
 (W5:ET K (.ref aT)=true)
 (YH:AR K (.ref aT) "__init__"=some (some (.ref aY)))
 (Iw:AR K (.ref aT) "put"=some (some (.ref dh)))
 (Gu:AR K (.ref aT) "take"=some (some (.ref cz)))
 (Ie:AR K (.ref aT) "due"=some (some (.ref cY)))
 (D6:AR K (.ref aT) "least"=some (some (.ref bK)))
 (A0:AR K (.ref aT) "time_of"=some (some (.ref bf)))
 (vu:AR K (.ref aT) "check_waits"=some (some (.ref aK)))
 (bW:Ic K aj)
 (gN:AR K (.ref aj) "unit"=some none)
 (fU:AR K (.ref aj) "slots"=some none)
 (fA:AR K (.ref aj) "span"=some none)
 (cX:AR K (.ref aj) "mask"=some none)
 (bS:AR K (.ref aj) "names_in"=some none)
 (O1:Q1 K aj=true)
 (NP:ET K (.ref aj)=true)
 (aQ:Ic K ai)
 (cB:AR K (.ref ai) "now"=some none)
 (cO:AR K (.ref ai) "times"=some none)
 (bo:AR K (.ref ai) "wheels"=some none)
 (d7:AR K (.ref ai) "far"=some none)
 (cQ:AR K (.ref ai) "moves"=some none)
 (MV:Q1 K ai=true)
 (MC:ET K (.ref ai)=true)
 (Cj:AR K (.ref ai) "put"=some (some (.ref dh)))
 (Bp:AR K (.ref ai) "take"=some (some (.ref cz)))
 (B9:AR K (.ref ai) "due"=some (some (.ref cY)))
 (zF:AR K (.ref ai) "least"=some (some (.ref bK)))
 (w9:AR K (.ref ai) "time_of"=some (some (.ref bf)))
 (rA:AR K (.ref ai) "check_waits"=some (some (.ref aK)))
 (aO:Ic K ak)
 (bD:AR K (.ref ak) "waits"=some none)
 (gD:AR K (.ref ak) "rounds"=some none)
 (bB:AR K (.ref ak) "now"=some none)
 (dG:AR K (.ref ak) "shift"=some none)
 (gC:AR K (.ref ak) "groups"=some none)
 (bu:AR K (.ref ak) "by_name"=some none)
 (L1:Q1 K ak=true)
 (Mq:ET K (.ref ak)=true)
 (ug:AR K (.ref ak) "all_bells"=some (some (.ref bI)))
 (vP:AR K (.ref ak) "is_awake"=some (some (.ref b8)))
 (vC:AR K (.ref ak) "shown_to"=some (some (.ref bZ)))
 (AH:AR K (.ref ak) "hang"=some (some (.ref eX)))
 (Cp:AR K (.ref ak) "lay"=some (some (.ref fO)))
 (vT:AR K (.ref ak) "let_wait"=some (some (.ref b9)))
 (Al:AR K (.ref ak) "lift"=some (some (.ref eV)))
 (x4:AR K (.ref ak) "settle"=some (some (.ref dc)))
 (x8:AR K (.ref ak) "finish"=some (some (.ref dg)))
 (yb:AR K (.ref ak) "remove"=some (some (.ref df)))
 (wU:AR K (.ref ak) "pass_to"=some (some (.ref cF)))
 (cV:Ic K aD)
 (e6:AR K (.ref aD) "many"=some none)
 (fx:AR K (.ref aD) "start"=some none)
 (e7:AR K (.ref aD) "step"=some none)
 (gk:AR K (.ref aD) "wide"=some none)
 (Uh:Q1 K aD=true)
 (Ry:ET K (.ref aD)=true)
 (yj:AR K (.ref aD) "place_of"=some (some (.ref bj)))
 (fM:(ax==ak)=false)
 (mU:(ax==aT)=false)
 (jV:(ak==aT)=false)
 (k6:(aD==ax)=false)
 (iY:(aD==ak)=false)
 (mZ:(aD==aT)=false)
 (jU:(ax==aj)=false)
 (i7:(ax==ai)=false)
 (ic:(ak==aj)=false)
 (gB:(ak==ai)=false)
 (jW:(aD==aj)=false)
 (i9:(aD==ai)=false)
 (yi:Tk K (.ref nR) "__getattribute__"=some (some (.builtin "type.__getattribute__")))
 (yM:Abe K nR (.type "type")=true)
 (xX:Abf K (.ref nR) (.type "type") "__init__"=some (.val (.ref bF)))
 (xm:Tk K (.ref eZ) "__getattribute__"=some (some (.builtin "type.__getattribute__")))
 (wg:Abe K eZ (.type "type")=true)
 (wK:Abf K (.ref eZ) (.type "type") "__init__"=some (.val (.ref aY)))
 (yN:Tk K (.ref eN) "__getattribute__"=some (some (.builtin "type.__getattribute__")))
 (yt:Abe K eN (.type "type")=true)
 (yB:Abf K (.ref eN) (.type "type") "__init__"=some (.val (.ref bY)))
 (Aj:ID K Fk "LEAST_ROUND"=some (some (.int 2 hX)))
 (Ca:ID K Fk "MOST_ROUND"=some (some (.int 60 i3)))
 (Aw:ID K Fk "MOST_WHEELS"=some (some (.int 6 il)))
 (xF:ID K Fk "bool"=some none)
 (kY:ID K Fk "enumerate"=some none)
 (AK:ID K Fk "int"=some none)
 (bz:ID K Fk "isinstance"=some none)
 (qB:ID K Fk "len"=some none)
 (pU:ID K Fk "list"=some none)
 (Ap:ID K Fk "max"=some none)
 (D4:ID K Fk "min"=some none)
 (wZ:ID K Fk "range"=some none)
 (lC:ID K Fk "sorted"=some none)
 (D9:ID K Fk "str"=some none)
 (wY:ID K Fk "tuple"=some none)
 :∃a:Ad,a.uX=a.uX/\Txt K mg a:=
 ⟨⟨cI,ik.l.choose,fK,j4.l.choose,dC,fN.l.choose,bO,dY.l.choose,ei,gQ.l.choose,cR,fq.l.choose,fR,j2.l.choose,fS,j7.l.choose,bL,fD.l.choose,aY,gg.l.choose,cG,eG,dh,iG.l.choose,cz,gA.l.choose,cY,iH.l.choose,bK,fz.l.choose,bf,dH.l.choose,aK,bX.l.choose,f7,j6.l.choose,fZ,j1.l.choose,eh,gS.l.choose,fg,pN.l.choose,cE,jw.l.choose,eR,m5.l.choose,fV,qp.l.choose,cp,gf.l.choose,d9,gW.l.choose,cP,fv.l.choose,dB,fW.l.choose,cm,eK.l.choose,ez,gP.l.choose,cN,ft.l.choose,bQ,fC.l.choose,cu,dI,bR,dS.l.choose,dA,fY.l.choose,bP,dR.l.choose,dz,fT.l.choose,cq,eL.l.choose,bH,dw.l.choose,bY,ku.l.choose,bI,gE.l.choose,b8,g8.l.choose,bZ,ib.l.choose,eX,nz.l.choose,fO,qo.l.choose,b9,hU.l.choose,eV,nG.l.choose,dc,jX.l.choose,dg,jS.l.choose,df,jT.l.choose,cF,iX.l.choose,fQ,rN.l.choose,bV,fF.l.choose,cn,d3,e8,jz.l.choose,fw,fj,eU,jY.l.choose,gx,fX,bT,dU.l.choose,bN,dJ.l.choose,d6,gZ.l.choose,cC,la.l.choose,d5,ll.l.choose,bF,kI.l.choose,bj,ig.l.choose,cM,ie.l.choose,dj,fb,aZ,dO.l.choose,fc,iU.l.choose,eA,gM.l.choose,d8,gX.l.choose,fP,j0.l.choose,cD,iQ.l.choose,dM,kW.l.choose,eY,nP.l.choose,dZ,kX.l.choose,eT,mW.l.choose,dP,lz.l.choose,uX,NQ.l.choose,ax,bU,eZ,aT,aj,ai,eN,ak,nR,aD,hX,i3,il⟩,rfl,{
   kL:=ik.l.choose_spec,
   sx:=j4.l.choose_spec,
   mN:=fN.l.choose_spec,
   iT:=dY.l.choose_spec,
   oo:=gQ.l.choose_spec,
   kh:=fq.l.choose_spec,
   tX:=j2.l.choose_spec,
   sS:=j7.l.choose_spec,
   je:=fD.l.choose_spec,
   jG:=gg.l.choose_spec,
   oX:=xY,
   tW:=iG.l.choose_spec,
   qw:=gA.l.choose_spec,
   sj:=iH.l.choose_spec,
   nS:=fz.l.choose_spec,
   kq:=dH.l.choose_spec,
   gI:=bX.l.choose_spec,
   rY:=j6.l.choose_spec,
   tu:=j1.l.choose_spec,
   oz:=gS.l.choose_spec,
   vA:=pN.l.choose_spec,
   tZ:=pN.k,
   r6:=FS X G pN.a,
   mG:=jw.l.choose_spec,
   qG:=jw.k,
   qR:=FS X G jw.a,
   sX:=m5.l.choose_spec,
   xj:=m5.k,
   wN:=FS X G m5.a,
   vS:=qp.l.choose_spec,
   rJ:=qp.k,
   sZ:=FS X G qp.a,
   jD:=gf.l.choose_spec,
   oq:=gW.l.choose_spec,
   kE:=fv.l.choose_spec,
   lO:=fW.l.choose_spec,
   jI:=eK.l.choose_spec,
   oe:=gP.l.choose_spec,
   kN:=ft.l.choose_spec,
   ji:=fC.l.choose_spec,
   nA:=wQ,
   jn:=dS.l.choose_spec,
   lR:=fY.l.choose_spec,
   iS:=dR.l.choose_spec,
   lL:=fT.l.choose_spec,
   jM:=eL.l.choose_spec,
   iw:=dw.l.choose_spec,
   kR:=ku.l.choose_spec,
   jJ:=gE.l.choose_spec,
   kF:=g8.l.choose_spec,
   kM:=ib.l.choose_spec,
   tD:=nz.l.choose_spec,
   vH:=qo.l.choose_spec,
   km:=hU.l.choose_spec,
   sV:=nG.l.choose_spec,
   oj:=jX.l.choose_spec,
   ou:=jS.l.choose_spec,
   oQ:=jT.l.choose_spec,
   lS:=iX.l.choose_spec,
   tH:=rN.l.choose_spec,
   wO:=FS X G rN.a,
   i6:=fF.l.choose_spec,
   mY:=wA,
   pL:=jz.l.choose_spec,
   wL:=E2,
   nj:=jY.l.choose_spec,
   ti:=Fz,
   jx:=dU.l.choose_spec,
   jr:=dJ.l.choose_spec,
   om:=gZ.l.choose_spec,
   pS:=la.l.choose_spec,
   gT:=la.k,
   gO:=FS X G la.a,
   pZ:=ll.l.choose_spec,
   uZ:=ll.k,
   uI:=FS X G ll.a,
   kH:=kI.l.choose_spec,
   kr:=ig.l.choose_spec,
   ko:=ie.l.choose_spec,
   qW:=zH,
   ja:=dO.l.choose_spec,
   p5:=iU.l.choose_spec,
   oh:=gM.l.choose_spec,
   nT:=gX.l.choose_spec,
   rO:=j0.l.choose_spec,
   mI:=iQ.l.choose_spec,
   aH:=iQ.k,
   aG:=FS X G iQ.a,
   qj:=kW.l.choose_spec,
   oi:=kW.k,
   oO:=FS X G kW.a,
   sT:=nP.l.choose_spec,
   xE:=nP.k,
   wx:=FS X G nP.a,
   qh:=kX.l.choose_spec,
   uT:=kX.k,
   uP:=FS X G kX.a,
   sy:=mW.l.choose_spec,
   wy:=mW.k,
   xk:=FS X G mW.a,
   pR:=lz.l.choose_spec,
   uR:=lz.k,
   uA:=FS X G lz.a,
   Od:=NQ.l.choose_spec,
   QU:=FS X G NQ.a,
   JS:=FS X G RV,
   aW:=⟨aW.pg,aW.hd,aW.po,aW.sa⟩,
   bG:=bG,
   gy:=gy,
   fI:=fI,
   jl:=jl,
   fJ:=fJ,
   dt:=dt,
   b0:=b0,
   cA:=cA,
   cZ:=cZ,
   PZ:=⟨Tf,ik.a,ik.i,UI⟩,
   tL:=⟨j4.a,j4.i,j4.k⟩,
   mq:=⟨fN.a,fN.i,fN.k⟩,
   nD:=⟨dY.a,dY.i,dY.k⟩,
   uv:=⟨gQ.a,gQ.i,gQ.k⟩,
   qT:=⟨fq.a,fq.i,fq.k⟩,
   zf:=⟨j2.a,j2.i,j2.k⟩,
   y4:=⟨j7.a,j7.i,j7.k⟩,
   Dm:=FS X G Mu,
   jN:=⟨jN.pg,jN.hd,jN.po,jN.sa⟩,
   e9:=e9,
   g9:=g9,
   Gr:=⟨LI,fD.a,fD.i,LA⟩,
   Gk:=FS X G QK,
   QR:=FS X G VU,
   eM:=⟨eM.pg,eM.hd,eM.po,eM.sa⟩,
   jQ:=jQ,
   gb:=gb,
   U2:=⟨XI,YH,gg.i,W5⟩,
   yO:=⟨j6.a,j6.i,j6.k⟩,
   yY:=⟨j1.a,j1.i,j1.k⟩,
   u9:=⟨gS.a,gS.i,gS.k⟩,
   DH:=⟨Iw,iG.i,iG.k⟩,
   Bf:=⟨Gu,gA.i,gA.k⟩,
   DF:=⟨Ie,iH.i,iH.k⟩,
   tE:=⟨D6,fz.i,fz.k⟩,
   uH:=⟨A0,dH.i,dH.k⟩,
   nJ:=⟨vu,bX.i,bX.k⟩,
   Gi:=FS X G PL,
   bW:=⟨bW.pg,bW.hd,bW.po,bW.sa⟩,
   gN:=gN,
   fU:=fU,
   fA:=fA,
   cX:=cX,
   bS:=bS,
   Jz:=⟨O1,gf.a,gf.i,NP⟩,
   oJ:=⟨gW.a,gW.i,gW.k⟩,
   hZ:=⟨fv.a,fv.i,fv.k⟩,
   sD:=⟨fW.a,fW.i,fW.k⟩,
   oV:=⟨eK.a,eK.i,eK.k⟩,
   oE:=⟨gP.a,gP.i,gP.k⟩,
   q9:=⟨ft.a,ft.i,ft.k⟩,
   Dg:=FS X G LQ,
   aQ:=⟨aQ.pg,aQ.hd,aQ.po,aQ.sa⟩,
   cB:=cB,
   cO:=cO,
   bo:=bo,
   d7:=d7,
   cQ:=cQ,
   FX:=⟨MV,fC.a,fC.i,MC⟩,
   jo:=⟨dS.a,dS.i,dS.k⟩,
   sU:=⟨fY.a,fY.i,fY.k⟩,
   jf:=⟨dR.a,dR.i,dR.k⟩,
   sE:=⟨fT.a,fT.i,fT.k⟩,
   oW:=⟨eL.a,eL.i,eL.k⟩,
   md:=⟨dw.a,dw.i,dw.k⟩,
   wM:=⟨Cj,iG.i,iG.k⟩,
   vg:=⟨Bp,gA.i,gA.k⟩,
   xx:=⟨B9,iH.i,iH.k⟩,
   mj:=⟨zF,fz.i,fz.k⟩,
   pC:=⟨w9,dH.i,dH.k⟩,
   ke:=⟨rA,bX.i,bX.k⟩,
   Ko:=FS X G UJ,
   DC:=FS X G Lh,
   aO:=⟨aO.pg,aO.hd,aO.po,aO.sa⟩,
   bD:=bD,
   gD:=gD,
   bB:=bB,
   dG:=dG,
   gC:=gC,
   bu:=bu,
   Gf:=⟨L1,fF.a,fF.i,Mq⟩,
   xq:=⟨jz.a,jz.i,jz.k⟩,
   tV:=⟨jY.a,jY.i,jY.k⟩,
   nN:=⟨dU.a,dU.i,dU.k⟩,
   nO:=⟨dJ.a,dJ.i,dJ.k⟩,
   uV:=⟨gZ.a,gZ.i,gZ.k⟩,
   mE:=⟨ug,gE.i,gE.k⟩,
   nF:=⟨vP,g8.i,g8.k⟩,
   jc:=⟨vC,ib.i,ib.k⟩,
   uw:=⟨AH,nz.i,nz.k⟩,
   qA:=⟨Cp,qo.i,qo.k⟩,
   mV:=⟨vT,hU.i,hU.k⟩,
   oH:=⟨Al,nG.i,nG.k⟩,
   qV:=⟨x4,jX.i,jX.k⟩,
   ia:=⟨x8,jS.i,jS.k⟩,
   qI:=⟨yb,jT.i,jT.k⟩,
   jL:=⟨wU,iX.i,iX.k⟩,
   Kj:=FS X G Ta,
   DM:=FS X G Tt,
   cV:=⟨cV.pg,cV.hd,cV.po,cV.sa⟩,
   e6:=e6,
   fx:=fx,
   e7:=e7,
   gk:=gk,
   HA:=⟨Uh,ie.a,ie.i,Ry⟩,
   fE:=⟨dO.a,dO.i,dO.k⟩,
   xQ:=⟨iU.a,iU.i,iU.k⟩,
   uz:=⟨gM.a,gM.i,gM.k⟩,
   uG:=⟨gX.a,gX.i,gX.k⟩,
   zr:=⟨j0.a,j0.i,j0.k⟩,
   ky:=⟨yj,ig.i,ig.k⟩,
   fM:=ne_of_beq_false fM,
   mU:=ne_of_beq_false mU,
   jV:=ne_of_beq_false jV,
   k6:=ne_of_beq_false k6,
   iY:=ne_of_beq_false iY,
   mZ:=ne_of_beq_false mZ,
   jU:=ne_of_beq_false jU,
   i7:=ne_of_beq_false i7,
   ic:=ne_of_beq_false ic,
   gB:=ne_of_beq_false gB,
   jW:=ne_of_beq_false jW,
   i9:=ne_of_beq_false i9,
   qF:=⟨yi,yM,xX,kI.k⟩,
   pF:=⟨xm,wg,wK,gg.k⟩,
   qL:=⟨yN,yt,yB,ku.k⟩,
   si:=FS X G Aj,
   uW:=FS X G Ca,
   sf:=FS X G Aw,
   xF:=LG X G xF,
   kY:=LG X G kY,
   AK:=LG X G AK,
   bz:=LG X G bz,
   qB:=LG X G qB,
   pU:=LG X G pU,
   Ap:=LG X G Ap,
   D4:=LG X G D4,
   wZ:=LG X G wZ,
   lC:=LG X G lC,
   D9:=LG X G D9,
   wY:=LG X G wY
 }⟩
def o4:Sp:=fun vs H Q _=>∃v d,vs=[v]/\Dv H v d/\Q (.bl (isInt d&&!isBool d)) H
theorem Ur {H:Hp} {Q:VK} {E:XK} {v:V} {d:BB} (h:Dv H v d) (q:Q (.bl (isInt d&&!isBool d)) H):o4 [v] H Q E:=⟨v,d,rfl,h,q⟩
def tI:Sp:=fun vs H Q _=>∃n l x,vs=[.int n,.int l,.str x]/\l<=n/\Q .a9 H
theorem Sb {H:Hp} {Q:VK} {E:XK} {n l:Int} {x:Str} (h:l<=n) (q:Q .a9 H):tI [.int n,.int l,.str x] H Q E:=⟨n,l,x,rfl,h,q⟩
def k7 (C:Addr):Sp:=fun vs H Q _=>∃p dx m,vs=[.ref p,m]/\J3 m/\H p=some (.ins C dx [])/\Q .a9 (upd H p (.ins C dx [("many",m)]))
theorem F3 {C p dx:Addr} {H:Hp} {Q:VK} {E:XK} {m:V} (hm:J3 m) (hp:H p=some (.ins C dx [])) (q:Q .a9 (upd H p (.ins C dx [("many",m)]))):k7 C [.ref p,m] H Q E:=⟨p,dx,m,rfl,hm,hp,q⟩
def ka (C:Addr):Sp:=fun vs H Q _=>∃v fs m n x d,vs=[v,.int n,x]/\J3 m/\iL H v C fs/\fs.lookup ("many":Str)=some m/\Dv H x d/\∀v' H',aA H H'->Dv H' v' (.tuple [.int (IE m n),Ct m n d])->Q v' H'
theorem Iq {C:Addr} {H:Hp} {Q:VK} {E:XK} {v x:V} {fs:List (Str × V)} {d:BB} {m:V} {n:Int} (ho:J3 m) (hp:iL H v C fs) (hm:fs.lookup ("many":Str)=some m) (hd:Dv H x d) (q:∀v' H',aA H H'->Dv H' v' (.tuple [.int (IE m n),Ct m n d])->Q v' H'):ka C [v,.int n,x] H Q E:=⟨v,fs,m,n,x,d,rfl,ho,hp,hm,hd,q⟩
def Ou (K:At):Sp:=fun vs H Q _=>∃(l:Addr) (ns:List Int),vs=[.ref l]/\iN K H l (ns.map V.int)/\ns.length<=63/\∀H',Q (.bl true) H'
set_option hygiene false in
local macro_rules|`(tactic|walk_at "bd")=>`(tactic|first|exact⟨by omega,by omega⟩|fail)
set_option hygiene false in
local macro_rules|`(tactic|walk_at "bd")=>`(tactic|first|assumption|fail)
set_option hygiene false in
local macro_rules|`(tactic|walk_at "mok")=>`(tactic|first|exact Or.inr ⟨_,rfl,by omega⟩|fail)
set_option hygiene false in
local macro_rules|`(tactic|walk_at "mok")=>`(tactic|first|exact FF rfl|fail)
set_option hygiene false in
local macro_rules|`(tactic|walk_at "mok")=>`(tactic|first|assumption|fail)
local macro_rules|`(tactic|walk_at "use")=>`(tactic|first|((with_reducible refine' Iq ?e0 ?e1 ?e2 ?e3 (fun _ _ _ _=>?_));(case e1=>walk_at "ins");(case e2=>walk_at "lk");(case e0=>walk_at "mok");(case e3=>walk_at "dat"))|fail)
local macro_rules|`(tactic|walk_at "use")=>`(tactic|first|((with_reducible refine' XW ?e1 ?e2 ?_);(case e1=>walk_at "sql");(case e2=>omega))|fail)
local macro_rules|`(tactic|walk_at "use")=>`(tactic|first|((with_reducible refine' F3 ?e1 ?e2 ?_);(case e1=>walk_at "mok");(case e2=>walk_at "at"))|fail)
local macro_rules|`(tactic|walk_at "use")=>`(tactic|first|((with_reducible refine' Sb ?e ?_);case e=>walk_at "side")|fail)
local macro_rules|`(tactic|walk_at "use")=>`(tactic|first|((with_reducible refine' Ur ?e ?_);case e=>walk_at "dat")|fail)
section
variable {P:Fa} {w:World} {K:At} {mg:Str->Option Value} {base:Heap} {a:Ad}
theorem Gj (T:Txt K mg a):aS P w K mg base eP 1 a.fg a.y7 ["thing"] o4:=by
 refine T.vA.ok F9 (fun vs H Q E h=>?_) (fun di A outer s H vs Q E hr h=>?_)
 . obtain⟨_,_,rfl,_⟩:=h;rfl
 . obtain⟨v,d,rfl,hd,k⟩:=h
   refine⟨_,(ah (aF (Hr (cg j9 rfl T.bz KM (ae (pv 0) (ae (nr (v:=.ty "int") rfl T.AK PyProof.Rows.boot_int rfl) ag))) (E8 (Qm (cg j9 rfl T.bz KM (ae (pv 0) (ae (nr (v:=.ty "bool") rfl T.xF PyProof.Rows.boot_bool rfl) ag)))))))),?_⟩
   repeat' (walk_at "rd1")
   . refine RJ ?_;cases d <;>simp_all [isInt,isBool]
   . refine RJ ?_;cases d <;>simp_all [isInt,isBool]
theorem wW (T:Txt K mg a):cT P w K mg base 1 a.fg ["thing"] [] o4:=
 ⟨⟨_,_,Gj T,T.vA.binds fun _ _ _ _ _ _=>m7 fun _=>rfl,.nil⟩⟩
theorem CA (T:Txt K mg a):aS P w K mg base eP 2 a.cC a.ve ["number","least","what"] tI:=by
 have vB:cT P w K mg base 1 a.fg ["thing"] [] o4:=wW T
 refine T.pS.ok Cd (fun vs H Q E h=>?_) (fun di A outer s H vs Q E hr h=>?_)
 . obtain⟨_,_,_,rfl,_⟩:=h;rfl
 . obtain⟨n,l,x,rfl,hl,k⟩:=h
   refine⟨_,(ah (bC (PW.pt (Am (iu (bx (aX vB (hr.mono (by decide)) rfl T.r6 T.tZ (ae (pv 0) ag)) (fun _=>rfl))) (BL (aL zp (pv 0) (pv 1) (aR _)))))
    (ah fu)
    aN)),?_⟩
   repeat' (walk_at "rd1")
   exact k
theorem sG (T:Txt K mg a):cT P w K mg base 2 a.cC ["number","least","what"] [] tI:=
 ⟨⟨_,_,CA T,T.pS.binds fun _ _ _ _ _ _=>iC fun _ _ _=>rfl,.nil⟩⟩
theorem Eg {C:Addr} (T:Txt K mg a) (cl:tm K C) (na:aJ K C "many"):aS P w K mg base eP 3 a.bF a.oU ["self","many"] (k7 C):=by
 have jy:cT P w K mg base 2 a.cC ["number","least","what"] [] tI:=sG T
 refine T.kH.ok xU (fun vs H Q E h=>?_) (fun di A outer s H vs Q E hr h=>?_)
 . obtain⟨_,_,_,rfl,_⟩:=h;rfl
 . obtain⟨p,dx,m,rfl,hm,hp,k⟩:=h
   refine⟨_,(af (bC (aL qt (pv 1) eO (aR _))
    (ah (aI (aX jy (hr.mono (by decide)) rfl T.gO T.gT (ae (pv 1) (ae au (ae jk ag))))))
    aN)
    (ah (aU (pv 0) (pv 1) rfl))),?_⟩
   rcases hm with rfl|⟨i,rfl,hi⟩
   . repeat' (walk_at "rd1")
     exact k
   . repeat' (walk_at "rd1")
     exact k
theorem Ce {C:Addr} (T:Txt K mg a) (cl:tm K C) (na:aJ K C "many"):cT P w K mg base 3 a.bF ["self","many"] [] (k7 C):=
 ⟨⟨_,_,Eg T cl na,T.kH.binds fun _ _ _ _ _ _=>eC fun _ _=>rfl,.nil⟩⟩
theorem BH (T:Txt K mg a):aS P w K mg base eP 1 a.cD a.qJ ["_law_script","_law_k"] (HX K):=by
 refine T.mI.ok zB (fun vs H Q E h=>?_) (fun di A outer s H vs Q E hr h=>?_)
 . obtain⟨_,_,_,rfl,_⟩:=h;rfl
 . obtain⟨l,ns,i,rfl,hl,h0,k⟩:=h
   refine⟨_,(af (bC (aL zp (pv 1) (cg lB rfl T.qB Aag (ae (pv 0) ag)) (aR _))
    (ah (aF (jZ sN (pv 0) (pv 1) (fun _ _=>rfl))))
    aN)
    (ah (aF au))),?_⟩
   repeat' (walk_at "rd1")
   . exact JB hl (R4 h0 (by assumption)) k
   . rw [RC h0 (by assumption)] at k;exact k
theorem zt (T:Txt K mg a):cT P w K mg base 1 a.cD ["_law_script","_law_k"] [] (HX K):=
 ⟨⟨_,_,BH T,T.mI.binds fun _ _ _ _ _ _=>eC fun _ _=>rfl,.nil⟩⟩
theorem K0 (T:Txt K mg a) (s:AM) (u:Value):BindsTo s a.EI ⟨[u],[]⟩ [("_law_script",u)]:=by
 obtain⟨oc,od,kV,doc,pm,an,di,ct,Tj,e,lk,M9⟩:=T.Od.ex
 rw [e]
 exact .of_eq rfl
theorem FA {C:Addr} (T:Txt K mg a) (cl:tm K C) (na:aJ K C "many"):aS P w K mg base eP 1 a.bj a.pA ["self","number","stretch"] (ka C):=by
 refine T.kr.ok yG (fun vs H Q E h=>?_) (fun di A outer s H vs Q E hr h=>?_)
 . obtain⟨_,_,_,_,_,_,rfl,_⟩:=h;rfl
 . obtain⟨v,fs,m,n,x,d,rfl,ho,hp,hm,hd,k⟩:=h
   refine⟨_,(af (bC (PW.pt (vm (aL qt (aq (pv 0) rfl) eO (aR _)) (p4 (aL Vf (pv 1) (aq (pv 0) rfl) (aR _)))))
    (ah (aF (dN (ae (aq (pv 0) rfl) (ae eO ag)))))
    aN)
    (ah (aF (dN (ae (pv 1) (ae (pv 2) ag)))))),?_⟩
   rcases ho with rfl|⟨i,rfl,hi⟩
   . repeat' (walk_at "rd1")
     (refine k _ _ ?_ ?_;walk_at "same";walk_at "dat")
   . repeat' (walk_at "rd1")
     . rename_i hb _ _ _ _
       rw [Kd hb,E9 hb] at k
       (refine k _ _ ?_ ?_;walk_at "same";walk_at "dat")
     . rename_i hb _ _ _ _
       rw [JO hb,EH hb] at k
       (refine k _ _ ?_ ?_;walk_at "same";walk_at "dat")
theorem wz {C:Addr} (T:Txt K mg a) (cl:tm K C) (na:aJ K C "many"):cT P w K mg base 1 a.bj ["self","number","stretch"] [] (ka C):=
 ⟨⟨_,_,FA T cl na,T.kr.binds fun _ _ _ _ _ _=>iC fun _ _ _=>rfl,.nil⟩⟩
def JX (args:List V):Prop:=∃st sp wd m,args=[.int st,.int sp,.int wd,m]/\0<=st/\1<=sp/\0<=wd/\wd<sp/\J3 m
theorem Fm (T:Txt K mg a):aS P w K mg base eP 4 a.cM a.jP ["self","start","step","wide","many"] (Fc a.aD JX JE):=by
 have jy:cT P w K mg base 2 a.cC ["number","least","what"] [] tI:=sG T
 have zK:cT P w K mg base 3 a.bF ["self","many"] [] (k7 a.aD):=Ce T T.cV T.e6
 have cl:=T.cV
 have n1:=T.fx;have n2:=T.e7;have n3:=T.gk
 refine T.ko.ok xT (fun vs H Q E h=>?_) (fun di A outer s H vs Q E hr h=>?_)
 . obtain⟨_,_,_,rfl,⟨_,_,_,_,rfl,_⟩,_⟩:=h;rfl
 . obtain⟨p,dx,args,rfl,⟨st,sp,wd,m,rfl,h0,h1,h2,h3,hm⟩,hp,k⟩:=h
   refine⟨_,(af (aI (aX jy (hr.mono (by decide)) rfl T.gO T.gT (ae (pv 1) (ae au (ae jk ag)))))
    (af (aI (aX jy (hr.mono (by decide)) rfl T.gO T.gT (ae (pv 2) (ae au (ae jk ag)))))
    (af (aI (aX jy (hr.mono (by decide)) rfl T.gO T.gT (ae (pv 3) (ae au (ae jk ag)))))
    (af (bC (aL Vf (pv 3) (pv 2) (aR _))
     (ah fu)
     aN)
    (af (aI (Eb rfl T.Kj T.qF zK (hr.mono (by decide)) (ae (pv 0) (ae (pv 4) ag))))
    (af (aU (pv 0) (pv 1) rfl)
    (af (aU (pv 0) (pv 2) rfl)
    (ah (aU (pv 0) (pv 3) rfl))))))))),?_⟩
   repeat' (walk_at "rd1")
   simp only [lj]
   exact k
theorem Oi (T:Txt K mg a):Binds K a.jP ["self","start","step","wide","many"] []:=T.ko.binds fun _ _ _ _ _ _ s us kx hl=>by
 obtain⟨o,n,h1,h2⟩:=T.qW.ex
 have hl:us.length=5:=by simp at hl;omega
 obtain⟨_,_,_,_,_,rfl⟩:=ln5 hl
 exact TD kx rfl h1 h2 rfl rfl
theorem BX (T:Txt K mg a):cT P w K mg base 4 a.cM ["self","start","step","wide","many"] [] (Fc a.aD JX JE):=⟨⟨_,_,Fm T,Oi T,.nil⟩⟩
def Ts (st sp wd n _s:Int):Int × Int:=(st+(n+1)*sp,st+(n+1)*sp+wd)
def fy (C:Addr):Sp:=fun vs H Q _=>∃v st sp wd m n,vs=[v,.int n]/\iL H v C [("many",m),("start",.int st),("step",.int sp),("wide",.int wd)]/\(-(10^200)<n/\n<10^200)/\(-(10^200)<sp/\sp<10^200)/\∀v' H',aA H H'->Dv H' v' (.tuple [.int (st+n*sp),.int (st+n*sp+wd)])->Q v' H'
theorem Fo {C:Addr} {H:Hp} {Q:VK} {E:XK} {v:V} {st sp wd n:Int} {m:V} (hp:iL H v C [("many",m),("start",.int st),("step",.int sp),("wide",.int wd)]) (h1:-(10^200)<n/\n<10^200) (h2:-(10^200)<sp/\sp<10^200)
 (q:∀v' H',aA H H'->Dv H' v' (.tuple [.int (st+n*sp),.int (st+n*sp+wd)])->Q v' H'):fy C [v,.int n] H Q E:=⟨v,st,sp,wd,m,n,rfl,hp,h1,h2,q⟩
def tS (C:Addr):Sp:=fun vs H Q _=>∃v st sp wd m n s,vs=[v,.int n,.int s]/\J3 m/\iL H v C [("many",m),("start",.int st),("step",.int sp),("wide",.int wd)]/\(-(10^200)<n+1/\n+1<10^200)/\(-(10^200)<sp/\sp<10^200)/\∀v' H',aA H H'->Dv H' v' (Ct m (n+1) (.tuple [.int (Ts st sp wd n s).1,.int (Ts st sp wd n s).2]))->Q v' H'
theorem IJ {C:Addr} {H:Hp} {Q:VK} {E:XK} {v:V} {st sp wd n s:Int} {m:V} (ho:J3 m) (hp:iL H v C [("many",m),("start",.int st),("step",.int sp),("wide",.int wd)]) (h1:-(10^200)<n+1/\n+1<10^200) (h2:-(10^200)<sp/\sp<10^200)
 (q:∀v' H',aA H H'->Dv H' v' (Ct m (n+1) (.tuple [.int (Ts st sp wd n s).1,.int (Ts st sp wd n s).2]))->Q v' H'):tS C [v,.int n,.int s] H Q E:=⟨v,st,sp,wd,m,n,s,rfl,ho,hp,h1,h2,q⟩
local macro_rules|`(tactic|walk_at "use")=>`(tactic|first|((with_reducible refine' IJ ?e0 ?e1 ?e2 ?e3 (fun _ _ _ _=>?_));(case e1=>walk_at "ins");(case e0=>walk_at "mok");(case e2=>walk_at "bd");(case e3=>walk_at "bd"))|fail)
local macro_rules|`(tactic|walk_at "use")=>`(tactic|first|((with_reducible refine' Fo ?e1 ?e2 ?e3 (fun _ _ _ _=>?_));(case e1=>walk_at "ins");(case e2=>walk_at "bd");(case e3=>walk_at "bd"))|fail)
theorem Cm (T:Txt K mg a):aS P w K mg base eP 1 a.aZ a.lY ["self","number"] (fy a.aD):=by
 have cl:=T.cV
 have n1:=T.fx;have n2:=T.e7;have n3:=T.gk
 refine T.ja.ok my (fun vs H Q E h=>?_) (fun di A outer s H vs Q E hr h=>?_)
 . obtain⟨_,_,_,_,_,_,rfl,_⟩:=h;rfl
 . obtain⟨v,st,sp,wd,m,n,rfl,hp,b1,b2,k⟩:=h
   refine⟨_,(af (aE (i:=2) my.nd rfl (FF rfl) (aB bq (aq (pv 0) rfl) (aB t5 (pv 1) (aq (pv 0) rfl))))
    (ah (aF (dN (ae (pv 2) (ae (aB bq (pv 2) (aq (pv 0) rfl)) ag)))))),?_⟩
   repeat' (walk_at "rd1")
   (refine k _ _ ?_ ?_;walk_at "same";walk_at "dat")
theorem mn (T:Txt K mg a):cT P w K mg base 1 a.aZ ["self","number"] [] (fy a.aD):=
 ⟨⟨_,_,Cm T,T.ja.binds fun _ _ _ _ _ _=>eC fun _ _=>rfl,.nil⟩⟩
theorem G8 (T:Txt K mg a):aS P w K mg base eP 2 a.eA a.tF ["self","number","settled"] (tS a.aD):=by
 have gw:cT P w K mg base 1 a.aZ ["self","number"] [] (fy a.aD):=mn T
 have vv:cT P w K mg base 1 a.bj ["self","number","stretch"] [] (ka a.aD):=wz T T.cV T.e6
 have cl:=T.cV
 have gq:=T.fE
 have vn:=T.ky
 refine T.oh.ok AU (fun vs H Q E h=>?_) (fun di A outer s H vs Q E hr h=>?_)
 . obtain⟨_,_,_,_,_,_,_,rfl,_⟩:=h;rfl
 . obtain⟨v,st,sp,wd,m,n,sd,rfl,ho,hp,b1,b2,k⟩:=h
   refine⟨_,(ah (aF (jZ sN (az (pv 0) cl vn vv (hr.mono (by decide)) (ae (aB bq (pv 1) au) (ae (az (pv 0) cl gq gw (hr.mono (by decide)) (ae (aB bq (pv 1) au) ag)) ag))) au (fun _ _=>rfl)))),?_⟩
   repeat' (walk_at "rd1")
   (refine k _ _ ?_ ?_;walk_at "same";walk_at "dat")
theorem E5 (T:Txt K mg a):cT P w K mg base 2 a.eA ["self","number","settled"] [] (tS a.aD):=
 ⟨⟨_,_,G8 T,T.oh.binds fun _ _ _ _ _ _=>iC fun _ _ _=>rfl,.nil⟩⟩
def Ai:Sp:=fun vs H Q _=>∃e s t,vs=[.int e,.int s,.int t]/\0<s/\s<10^200/\Q (.int (steps e s t)) H
theorem TN {H:Hp} {Q:VK} {E:XK} {e s t:Int} (h1:0<s) (h2:s<10^200) (q:Q (.int (steps e s t)) H):Ai [.int e,.int s,.int t] H Q E:=⟨e,s,t,rfl,h1,h2,q⟩
theorem Oq (T:Txt K mg a):aS P w K mg base eP 1 a.d5 a.uB ["end","span","now"] Ai:=by
 refine T.pZ.ok CB (fun vs H Q E h=>?_) (fun di A outer s H vs Q E hr h=>?_)
 . obtain⟨_,_,_,rfl,_⟩:=h;rfl
 . obtain⟨e,s,t,rfl,h1,h2,k⟩:=h
   refine⟨_,(ah (aF (cg (CQ rfl) rfl T.Ap PyProof.Rows.boot_max (ae au (ae (aB bq (aB ck (aB x3 (pv 2) (pv 0)) (pv 1)) au) ag))))),?_⟩
   repeat' (walk_at "rd1")
   rename_i x hx hx1 MX
   have e0:x=steps e s t:=by unfold steps;omega
   subst e0
   exact k
theorem LN (T:Txt K mg a):cT P w K mg base 1 a.d5 ["end","span","now"] [] Ai:=
 ⟨⟨_,_,Oq T,T.pZ.binds fun _ _ _ _ _ _=>iC fun _ _ _=>rfl,.nil⟩⟩
local macro_rules|`(tactic|walk_at "use")=>`(tactic|first|((with_reducible refine' TN ?e1 ?e2 ?_);(case e1=>omega);(case e2=>omega))|fail)
theorem Np {e span now:Int} (hs:0<span):now<e+steps e span now*span:=by
 unfold steps
 have h1:=Int.emod_add_mul_ediv (now - e) span
 have h2:=WJ (now - e) hs
 have h0:=Abg (now - e) (show span≠0 by omega)
 rcases Int.le_total 0 ((now - e) / span+1) with h|h
 . rw [Int.max_eq_right h,Int.add_mul,AaK,Int.mul_comm]
   omega
 . rw [Int.max_eq_left h,Int.zero_mul]
   have h3:(now - e) / span<=-1:=by omega
   have h4:=US h3 (show(0:Int)<=span by omega)
   omega
def Q5 (st sp wd n t:Int):Int:=n+1+steps (st+(n+1)*sp+wd) sp t
def HM (C:Addr):Sp:=fun vs H Q _=>∃v st sp wd m n s t,vs=[v,.int n,.int s,.int t]/\J3 m/\iL H v C [("many",m),("start",.int st),("step",.int sp),("wide",.int wd)]/\0<=st/\1<=sp/\sp<10^100/\0<=wd/\0<=n/\n<10^100/\t<10^100
 /\∀v' H',aA H H'->Dv H' v' (.tuple [.int (IE m (Q5 st sp wd n t)),Ct m (Q5 st sp wd n t) (.tuple [.int (st+Q5 st sp wd n t*sp),.int (st+Q5 st sp wd n t*sp+wd)])])->Q v' H'
theorem YD (T:Txt K mg a):aS P w K mg base eP 2 a.d8 a.rF ["self","number","last","now"] (HM a.aD):=by
 have gw:cT P w K mg base 1 a.aZ ["self","number"] [] (fy a.aD):=mn T
 have vv:cT P w K mg base 1 a.bj ["self","number","stretch"] [] (ka a.aD):=wz T T.cV T.e6
 have Ez:=LN (P:=P) (w:=w) (base:=base) T
 have cl:=T.cV
 have n2:=T.e7
 have gq:=T.fE
 have vn:=T.ky
 refine T.nT.ok lF (fun vs H Q E h=>?_) (fun di A outer s H vs Q E hr h=>?_)
 . obtain⟨_,_,_,_,_,_,_,_,rfl,_⟩:=h;rfl
 . obtain⟨v,st,sp,wd,m,n,sd,t,rfl,ho,hp,h0,h1,h2,h3,h4,h5,h6,k⟩:=h
   have hm:0<=(n+1)*sp:=Int.mul_nonneg (by omega) (by omega)
   have Y4:=GY (e:=st+(n+1)*sp+wd) (span:=sp) (now:=t)
   have Rj:steps (st+(n+1)*sp+wd) sp t<=10^100+1:=NB (by omega) (by omega) (by decide)
   refine⟨_,(af (aE (i:=4) lF.nd rfl (FF rfl) (jZ sN (az (pv 0) cl gq gw (hr.mono (by decide)) (ae (aB bq (pv 1) au) ag)) au (fun _ _=>rfl)))
    (af (aE (i:=5) lF.nd rfl (FF rfl) (aB bq (aB bq (pv 1) au) (aX Ez (hr.mono (by decide)) rfl T.uI T.uZ (ae (pv 4) (ae (aq (pv 0) rfl) (ae (pv 3) ag))))))
    (ah (aF (az (pv 0) cl vn vv (hr.mono (by decide)) (ae (pv 5) (ae (az (pv 0) cl gq gw (hr.mono (by decide)) (ae (pv 5) ag)) ag))))))),?_⟩
   repeat' (walk_at "rd1")
   (refine k _ _ ?_ ?_;walk_at "same";walk_at "dat")
theorem RE (T:Txt K mg a):cT P w K mg base 2 a.d8 ["self","number","last","now"] [] (HM a.aD):=
 ⟨⟨_,_,YD T,T.nT.binds fun _ _ _ _ _ _=>Vw fun _ _ _ _=>rfl,.nil⟩⟩
def vN (C:Addr):Sp:=fun vs H Q _=>∃v st sp wd m,vs=[v]/\iL H v C [("many",m),("start",.int st),("step",.int sp),("wide",.int wd)]/\(-(10^200)<sp/\sp<10^200)/\∀v' H',aA H H'->Dv H' v' (.tuple [.int st,.int (st+wd)])->Q v' H'
theorem HN (T:Txt K mg a):aS P w K mg base eP 2 a.fc a.uU ["self"] (vN a.aD):=by
 have gw:cT P w K mg base 1 a.aZ ["self","number"] [] (fy a.aD):=mn T
 have cl:=T.cV
 have gq:=T.fE
 refine T.p5.ok CD (fun vs H Q E h=>?_) (fun di A outer s H vs Q E hr h=>?_)
 . obtain⟨_,_,_,_,_,rfl,_⟩:=h;rfl
 . obtain⟨v,st,sp,wd,m,rfl,hp,b2,k⟩:=h
   refine⟨_,(ah (aF (az (pv 0) cl gq gw (hr.mono (by decide)) (ae au ag)))),?_⟩
   repeat' (walk_at "rd1")
   rename_i hx
   rw [Int.zero_mul,Int.add_zero] at hx
   (refine k _ _ ?_ ?_;walk_at "same";walk_at "dat")
theorem GK (T:Txt K mg a):cT P w K mg base 2 a.fc ["self"] [] (vN a.aD):=
 ⟨⟨_,_,HN T,T.p5.binds fun _ _ _ _ _ _=>m7 fun _=>rfl,.nil⟩⟩
def A3 (C:Addr):Sp:=fun vs H Q _=>∃v st sp wd m,vs=[v]/\iL H v C [("many",m),("start",.int st),("step",.int sp),("wide",.int wd)]/\J3 m/\0<=st/\1<=sp/\0<=wd/\wd<sp/\∀v' H',aA H H'->iL H' v' C [("many",m),("start",.int st),("step",.int sp),("wide",.int wd)]->Q v' H'
theorem Oa (T:Txt K mg a):aS P w K mg base eP 6 a.fP a.wB ["self"] (A3 a.aD):=by
 have BA:=BX (P:=P) (w:=w) (base:=base) T
 have cl:=T.cV
 have n0:=T.e6;have n1:=T.fx;have n2:=T.e7;have n3:=T.gk
 refine T.rO.ok EL (fun vs H Q E h=>?_) (fun di A outer s H vs Q E hr h=>?_)
 . obtain⟨_,_,_,_,_,rfl,_⟩:=h;rfl
 . obtain⟨v,st,sp,wd,m,rfl,hp,ho,h0,h1,h2,h3,k⟩:=h
   refine⟨_,(ah (aF (qc T.HA BA (hr.mono (by decide)) rfl T.DM (ae (aq (pv 0) rfl) (ae (aq (pv 0) rfl) (ae (aq (pv 0) rfl) (ae (aq (pv 0) rfl) ag))))))),?_⟩
   repeat' (walk_at "rd1")
   . exact⟨_,_,_,_,rfl,by omega,by omega,by omega,by omega,ho⟩
   . rename_i hi
     exact k _ _ (by walk_at "same") hi
theorem K7 (T:Txt K mg a):cT P w K mg base 6 a.fP ["self"] [] (A3 a.aD):=
 ⟨⟨_,_,Oa T,T.rO.binds fun _ _ _ _ _ _=>m7 fun _=>rfl,.nil⟩⟩
inductive RU where
 |each (st sp wd:Int) (m:V)
def pQ (a:Ad) (H:Hp) (v:V):RU->Prop
 | .each st sp wd m=>iL H v a.aD [("many",m),("start",.int st),("step",.int sp),("wide",.int wd)]/\J3 m/\0<=st/\st<10^50/\1<=sp/\sp<10^50/\0<=wd/\wd<sp
theorem pQ.keeps {H H':Hp} {v:V} {r:RU} (s:aA H H') (h:pQ a H v r):pQ a H' v r:=by
 cases r <;>exact⟨iL.keeps s h.1,h.2⟩
theorem pQ.fr {cs S:List Addr} {H H':Hp} {v:V} {r:RU} (f:Fr cs S H H')
 (nE:a.aD∉cs)
 (h:pQ a H v r):pQ a H' v r:=by
 cases r with
 |each=>exact⟨f.ins nE h.1,h.2⟩
local macro_rules|`(tactic|walk_at "ris")=>`(tactic|first|(refine' pQ.keeps ?s ?m;(case s=>assumption);(case m=>walk_at "ris"))|fail)
set_option hygiene false in
local macro_rules|`(tactic|walk_at "ris")=>`(tactic|first|assumption|fail)
def pD (p:Int × Int):BB:=.tuple [.int p.1,.int p.2]
def II:Option (Int × Int)->BB
 |none=>.none
 |some p=>pD p
def qz (m:V) (k:Int) (p:Int × Int):Int × Option (Int × Int):=match m with
 | .int i=>if i<=k then (i,none) else (k,some p)
 |_=>(k,some p)
theorem Wl {m:V} {k x y:Int}:BB.tuple [.int (IE m k),Ct m k (.tuple [.int x,.int y])]=.tuple [.int (qz m k (x,y)).1,II (qz m k (x,y)).2]:=by
 cases m with
 |int i=>
  by_cases h:i<=k
  . rw [Kd h,E9 h];simp [qz,h,II]
  . rw [JO h,EH h];simp [qz,h,II,pD]
 |_=>rfl
def Lg:RU->Int × Int
 | .each st _ wd _=>(st,st+wd)
def Q7:RU->Int->Int->Int->Int × Option (Int × Int)
 | .each st sp wd m,n,_,t=>qz m (Q5 st sp wd n t) (st+Q5 st sp wd n t*sp,st+Q5 st sp wd n t*sp+wd)
theorem YC {r:RU} {n s t x y:Int} {H:Hp} {v:V} (h:pQ a H v r) (e:(Q7 r n s t).2=some (x,y)):t<y/\x<=y/\n<(Q7 r n s t).1:=by
 have key:∀{m:V} {k:Int} {p:Int × Int},(qz m k p).2=some (x,y)->p=(x,y)/\(qz m k p).1=k:=by
  intro m k p e
  cases m with
  |int i=>
   by_cases h:i<=k
   . simp [qz,h] at e
   . simp only [qz,if_neg h] at e ⊢
     exact⟨CC e,trivial⟩
  |_=>exact⟨CC e,rfl⟩
 cases r with
 |each st sp wd m=>
  obtain⟨_,_,_,_,h1,_,h2,_⟩:=h
  obtain⟨e1,e2⟩:=key e
  have g:=Np (e:=st+(n+1)*sp+wd) (span:=sp) (now:=t) (by omega)
  have hn:=GY (e:=st+(n+1)*sp+wd) (span:=sp) (now:=t)
  have e3:Q5 st sp wd n t*sp=(n+1)*sp+steps (st+(n+1)*sp+wd) sp t*sp:=Int.add_mul _ _ _
  cases e1
  refine⟨by omega,by omega,?_⟩
  show n<(qz m (Q5 st sp wd n t) _).1
  rw [e2]
  unfold Q5
  omega
section
variable {H:Hp} {Q:VK} {E:XK} {v:V} {st sp gp mo wd f l n s t:Int} {m:V}
theorem abw (h:pQ a H v (.each st sp wd m)) (q:∀v' H',aA H H'->Dv H' v' (pD (Lg (.each st sp wd m)))->Q v' H'):vN a.aD [v] H Q E:=by
 obtain⟨hp,ho,r0,r1,r2,r3,r4,r5⟩:=h
 exact⟨v,st,sp,wd,m,rfl,hp,⟨by omega,by omega⟩,q⟩
theorem acv (h:pQ a H v (.each st sp wd m)) (q:∀v' H',aA H H'->pQ a H' v' (.each st sp wd m)->Q v' H'):A3 a.aD [v] H Q E:=by
 obtain⟨hp,ho,r0,r1,r2,r3,r4,r5⟩:=h
 exact⟨v,st,sp,wd,m,rfl,hp,ho,r0,r2,r4,r5,fun v' H' s' i=>q v' H' s' ⟨i,ho,r0,r1,r2,r3,r4,r5⟩⟩
theorem ab2 (h:pQ a H v (.each st sp wd m)) (h1:0<=n) (h2:n<10^99) (h3:t<10^80) (q:∀v' H',aA H H'->Dv H' v' (.tuple [.int (Q7 (.each st sp wd m) n s t).1,II (Q7 (.each st sp wd m) n s t).2])->Q v' H'):HM a.aD [v,.int n,.int s,.int t] H Q E:=by
 obtain⟨hp,ho,r0,r1,r2,r3,r4,r5⟩:=h
 exact⟨v,st,sp,wd,m,n,s,t,rfl,ho,hp,r0,r2,by omega,r4,h1,by omega,by omega,fun v' H' s' d=>q v' H' s' (by rw [Wl] at d;exact d)⟩
end
local macro_rules|`(tactic|walk_at "use")=>`(tactic|first|((with_reducible refine' ab2 ?e ?e1 ?e2 ?e3 (fun _ _ _ _=>?_));(case e=>walk_at "ris");(case e1=>omega);(case e2=>omega);(case e3=>omega))|fail)
local macro_rules|`(tactic|walk_at "use")=>`(tactic|first|((with_reducible refine' acv ?e (fun _ _ _ _=>?_));case e=>walk_at "ris")|fail)
local macro_rules|`(tactic|walk_at "use")=>`(tactic|first|((with_reducible refine' abw ?e (fun _ _ _ _=>?_));case e=>walk_at "ris")|fail)
theorem sM {α:Type} [DecidableEq α]:∀{l l':List α},l.Nodup->(∀x∈l,x∈l')->l.length<=l'.length
 |[],_,_,_=>IR _
 |a::l,l',h,hs=>by
  rw [EN] at h
  have ha:=hs a BN
  have:=sM (l:=l) (l':=l'.erase a) h.2 fun x hx=>(List.mem_erase_of_ne (fun z:x=a=>h.1 (z▸hx))).mpr (hs x (AD _ hx))
  rw [List.length_erase_of_mem ha] at this
  have:=List.length_pos_of_mem ha
  simp only [GG]
  omega
theorem T9 {α:Type} {A B X Y:List α} (h:(A++(X++B)).Nodup) (hy:Y.Nodup) (hs:∀b∈Y,b∈X\/(b∉A/\b∉B)):(A++(Y++B)).Nodup:=by
 simp only [Gc,Cn] at h ⊢
 obtain⟨h1,⟨h2,h3,h4⟩,h5⟩:=h
 refine⟨h1,⟨hy,h3,fun a ha b hb e=>?_⟩,fun a ha b hb e=>?_⟩
 . rcases hs a ha with q|⟨_,q⟩
   . exact h4 a q b hb e
   . exact q (e▸hb)
 . rcases hb with hb|hb
   . rcases hs b hb with q|⟨q,_⟩
     . exact h5 a ha b (.inl q) e
     . exact q (e▸ha)
   . exact h5 a ha b (.inr hb) e
theorem cW {S S':List Addr} {H H':Hp} (m:Mv S H H') (h:∀b∈S,b∈S'):Mv S' H H':=⟨fun a o n e=>m.kp a o (fun z=>n (h a z)) e,m.tp,m.dm⟩
def iz (us:List (Int × Int)) (t n:Int):Nat:=us.findIdx fun q=>decide (t / (q.1*q.2)=n / (q.1*q.2))
theorem vp (us:List (Int × Int)) (t n:Int):iz us t n<=us.length:=List.findIdx_le_length
theorem EY {us:List (Int × Int)} {t n:Int} {k:Nat} {q:Int × Int} (h:k<iz us t n) (hq:us[k]? =some q):¬t / (q.1*q.2)=n / (q.1*q.2):=by
 obtain⟨hk,rfl⟩:=AS.mp hq
 have:=List.not_of_lt_findIdx h
 simpa using this
theorem z0 {us:List (Int × Int)} {t n:Int} {q:Int × Int} (hq:us[iz us t n]? =some q):t / (q.1*q.2)=n / (q.1*q.2):=by
 obtain⟨hk,rfl⟩:=AS.mp hq
 have:=List.findIdx_getElem (w:=hk)
 unfold iz
 simpa using this
theorem EW {us:List (Int × Int)} {t n:Int} {k:Nat} (h1:∀j q,j<k->us[j]? =some q->¬t / (q.1*q.2)=n / (q.1*q.2)) (h2:k=us.length\/∃q,us[k]? =some q/\t / (q.1*q.2)=n / (q.1*q.2)):iz us t n=k:=by
 have hle:=vp us t n
 have hk:k<=us.length:=by
  rcases h2 with h|⟨q,h,_⟩
  . omega
  . exact AaO (AS.mp h).1
 by_cases c:iz us t n<k
 . have hl:iz us t n<us.length:=by omega
   exact absurd (z0 (AC hl)) (h1 _ _ c (AC hl))
 . by_cases c2:k<iz us t n
   . rcases h2 with h|⟨q,h,e⟩
     . omega
     . exact absurd e (EY c2 h)
   . omega
structure Sl where
 k:Int
 p:Addr
 ns:List Str
structure Wh where
 x:Addr
 dn:Addr
 u:Int
 s:Int
 m:Int
 cs:List Sl
structure fG where
 q:Addr
 f:Addr
 ws:List Wh
 eI:List (Int × Str)
def iB (w:Wh):Prop:=0<=w.m/\∀i:Nat,w.m.toNat.testBit i=w.cs.any fun c=>decide (c.k=(i:Int))
structure Rf (w:Wh) (B:Str->Int->Prop):Prop where
 mk':iB w
 nd:(w.cs.map (·.k)).Nodup
 ne:∀c∈w.cs,c.ns≠[]/\c.ns.Nodup/\0<=c.k/\c.k<w.s
 mem:∀n j,(∃c∈w.cs,c.k=j/\n∈c.ns)↔B n j
theorem Rf.congr {w:Wh} {B B':Str->Int->Prop} (h:Rf w B) (e:∀n j,B n j↔B' n j):Rf w B':=⟨h.mk',h.nd,h.ne,fun n j=>(h.mem n j).trans (e n j)⟩
def qv (slot:Int) (x:Str) (c:Sl):Sl:=if c.k=slot then ⟨c.k,c.p,c.ns++[x]⟩ else c
def rp (cs:List Sl) (slot:Int) (pd:Addr) (x:Str):List Sl:=if (cs.any fun c=>decide (c.k=slot))=true then cs.map (qv slot x) else cs++[⟨slot,pd,[x]⟩]
def eB (slot:Int) (x:Str) (c:Sl):Sl:=if c.k=slot then ⟨c.k,c.p,c.ns.filter fun y=>!decide (y=x)⟩ else c
def mJ (cs:List Sl) (slot:Int):List Sl:=cs.filter fun c=>!decide (c.k=slot)
def zJ (cs:List Sl) (slot:Int) (x:Str):List Sl:=(cs.map (eB slot x)).filter fun c=>!c.ns.isEmpty
theorem p8 (slot:Int) (x:Str) (c:Sl):(qv slot x c).k=c.k:=by unfold qv;split <;>rfl
theorem Hv (slot:Int) (x:Str) (c:Sl):(qv slot x c).p=c.p:=by unfold qv;split <;>rfl
theorem gn (slot:Int) (x:Str) (c:Sl):(eB slot x c).k=c.k:=by unfold eB;split <;>rfl
theorem ER (slot:Int) (x:Str) (c:Sl):(eB slot x c).p=c.p:=by unfold eB;split <;>rfl
theorem j8 {cs:List Sl} {slot:Int}:(cs.any fun c=>decide (c.k=slot))=true↔∃c∈cs,c.k=slot:=by
 rw [Mn]
 exact⟨fun⟨c,h1,h2⟩=>⟨c,h1,of_decide_eq_true h2⟩,fun⟨c,h1,h2⟩=>⟨c,h1,decide_eq_true h2⟩⟩
theorem Rf.lay {w:Wh} {B:Str->Int->Prop} {x:Str} {slot m:Int} {pd:Addr} (h:Rf w B) (hx:∀j,¬B x j) (h0:0<=slot) (h1:slot<w.s) (hm:iB ⟨w.x,w.dn,w.u,w.s,m,rp w.cs slot pd x⟩):
 Rf ⟨w.x,w.dn,w.u,w.s,m,rp w.cs slot pd x⟩ (fun y j=>B y j\/(y=x/\j=slot)):=by
 have hnx:∀c∈w.cs,x∉c.ns:=fun c hc hm=>hx c.k ((h.mem x c.k).mp ⟨c,hc,rfl,hm⟩)
 by_cases e:(w.cs.any fun c=>decide (c.k=slot))=true
 . have el:rp w.cs slot pd x=w.cs.map (qv slot x):=if_pos e
   refine⟨hm,?_,fun c hc=>?_,fun n j=>?_⟩
   . show((rp w.cs slot pd x).map _).Nodup
     rw [el,KB,show(Sl.k ∘ qv slot x)=Sl.k from funext (p8 slot x)];exact h.nd
   . have hc:c∈rp w.cs slot pd x:=hc
     rw [el] at hc
     obtain⟨c0,zU,rfl⟩:=AT.mp hc
     obtain⟨a1,a2,a3,a4⟩:=h.ne c0 zU
     rw [p8]
     unfold qv
     split
     . refine⟨by simp,?_,a3,a4⟩
       show(c0.ns++[x]).Nodup
       rw [Gc]
       refine⟨a2,by simp,fun a ha b hb=>?_⟩
       have hb:b=x:=by simpa using hb
       exact fun z=>hnx c0 zU (hb▸z▸ha)
     . exact⟨a1,a2,a3,a4⟩
   . show(∃c∈rp w.cs slot pd x,_)↔_
     rw [el]
     constructor
     . rintro⟨c,hc,hk,hn⟩
       obtain⟨c0,zU,rfl⟩:=AT.mp hc
       rw [p8] at hk
       unfold qv at hn
       split at hn
       . rename_i hs
         rcases Cn.mp hn with hn|hn
         . exact .inl ((h.mem n j).mp ⟨c0,zU,hk,hn⟩)
         . exact .inr ⟨by simpa using hn,by rw [<-hk,hs]⟩
       . exact .inl ((h.mem n j).mp ⟨c0,zU,hk,hn⟩)
     . rintro(hb|⟨rfl,rfl⟩)
       . obtain⟨c0,zU,hk,hn⟩:=(h.mem n j).mpr hb
         refine⟨_,Cs zU,by rw [p8];exact hk,?_⟩
         unfold qv
         split
         . exact EQ _ hn
         . exact hn
       . obtain⟨c0,zU,hk⟩:=j8.mp e
         refine⟨_,Cs zU,by rw [p8];exact hk,?_⟩
         unfold qv
         rw [if_pos hk]
         simp
 . have el:rp w.cs slot pd x=w.cs++[⟨slot,pd,[x]⟩]:=if_neg e
   have tQ:∀c∈w.cs,c.k≠slot:=fun c hc z=>e (j8.mpr ⟨c,hc,z⟩)
   refine⟨hm,?_,fun c hc=>?_,fun n j=>?_⟩
   . show((rp w.cs slot pd x).map _).Nodup
     rw [el,Da,Gc]
     refine⟨h.nd,by simp,fun a ha b hb=>?_⟩
     obtain⟨c,hc,rfl⟩:=AT.mp ha
     have hb:b=slot:=by simpa using hb
     rw [hb];exact tQ c hc
   . have hc:c∈rp w.cs slot pd x:=hc
     rw [el] at hc
     rcases Cn.mp hc with hc|hc
     . exact h.ne c hc
     . have hc:c=⟨slot,pd,[x]⟩:=by simpa using hc
       subst hc
       exact⟨by simp,by simp,h0,h1⟩
   . show(∃c∈rp w.cs slot pd x,_)↔_
     rw [el]
     constructor
     . rintro⟨c,hc,hk,hn⟩
       rcases Cn.mp hc with hc|hc
       . exact .inl ((h.mem n j).mp ⟨c,hc,hk,hn⟩)
       . have hc:c=⟨slot,pd,[x]⟩:=by simpa using hc
         subst hc
         exact .inr ⟨by simpa using hn,hk.symm⟩
     . rintro(hb|⟨rfl,rfl⟩)
       . obtain⟨c,hc,hk,hn⟩:=(h.mem n j).mpr hb
         exact⟨c,EQ _ hc,hk,hn⟩
       . exact⟨⟨j,pd,[n]⟩,Co _ (by simp),rfl,by simp⟩
theorem Rf.lift {w:Wh} {B:Str->Int->Prop} {x:Str} {slot m:Int} (h:Rf w B) (hu:∀j,B x j->j=slot) (hm:iB ⟨w.x,w.dn,w.u,w.s,m,zJ w.cs slot x⟩):
 Rf ⟨w.x,w.dn,w.u,w.s,m,zJ w.cs slot x⟩ (fun y j=>B y j/\y≠x):=by
 refine⟨hm,?_,fun c hc=>?_,fun n j=>?_⟩
 . show((zJ w.cs slot x).map _).Nodup
   refine SI.sublist ((JJ).map _) ?_
   rw [KB,show(Sl.k ∘ eB slot x)=Sl.k from funext (gn slot x)];exact h.nd
 . have hc:c∈zJ w.cs slot x:=hc
   obtain⟨WR,QY⟩:=CS.mp hc
   obtain⟨c0,zU,rfl⟩:=AT.mp WR
   obtain⟨a1,a2,a3,a4⟩:=h.ne c0 zU
   rw [gn]
   refine⟨by simpa using QY,?_,a3,a4⟩
   unfold eB
   split
   . exact a2.sublist JJ
   . exact a2
 . show(∃c∈zJ w.cs slot x,_)↔_
   constructor
   . rintro⟨c,hc,hk,hn⟩
     obtain⟨WR,QY⟩:=CS.mp hc
     obtain⟨c0,zU,rfl⟩:=AT.mp WR
     rw [gn] at hk
     unfold eB at hn
     split at hn
     . obtain⟨mQ,px⟩:=CS.mp hn
       exact⟨(h.mem n j).mp ⟨c0,zU,hk,mQ⟩,by simpa using px⟩
     . rename_i hs
       have hb:=(h.mem n j).mp ⟨c0,zU,hk,hn⟩
       refine⟨hb,fun z=>hs ?_⟩
       rw [hk]
       exact hu j (z▸hb)
   . rintro⟨hb,pk⟩
     obtain⟨c0,zU,hk,hn⟩:=(h.mem n j).mpr hb
     have Q6:n∈(eB slot x c0).ns:=by
      unfold eB
      split
      . exact CS.mpr ⟨hn,by simpa using pk⟩
      . exact hn
     refine⟨_,CS.mpr ⟨Cs zU,?_⟩,by rw [gn];exact hk,Q6⟩
     cases e:(eB slot x c0).ns with
     |nil=>rw [e] at Q6;cases Q6
     |cons=>rfl
theorem F7 {cs Rc:List Sl} {i:Nat} (h:(∃c∈cs,c.k=(i:Int))↔∃c∈Rc,c.k=(i:Int)):(cs.any fun c=>decide (c.k=(i:Int)))=Rc.any fun c=>decide (c.k=(i:Int)):=by
 rw [Nd,j8,j8];exact h
def Wh.wa (w:Wh) (slot m:Int) (pd:Addr) (x:Str):Wh:=⟨w.x,w.dn,w.u,w.s,m,rp w.cs slot pd x⟩
def Wh.lH (w:Wh) (slot m:Int) (x:Str):Wh:=⟨w.x,w.dn,w.u,w.s,m,zJ w.cs slot x⟩
def Wh.emptied (w:Wh) (slot m:Int):Wh:=⟨w.x,w.dn,w.u,w.s,m,mJ w.cs slot⟩
theorem Mw {cs:List Sl} {slot:Int} {pd:Addr} {x:Str} {j:Int}:(∃c∈rp cs slot pd x,c.k=j)↔(∃c∈cs,c.k=j)\/j=slot:=by
 unfold rp
 split
 . rename_i h
   constructor
   . rintro⟨c,hc,e⟩
     obtain⟨c0,zU,rfl⟩:=AT.mp hc
     rw [p8] at e
     exact .inl ⟨c0,zU,e⟩
   . rintro(⟨c,hc,e⟩|rfl)
     . exact⟨_,Cs hc,by rw [p8];exact e⟩
     . obtain⟨c,hc,e⟩:=j8.mp h
       exact⟨_,Cs hc,by rw [p8];exact e⟩
 . constructor
   . rintro⟨c,hc,e⟩
     rcases Cn.mp hc with hc|hc
     . exact .inl ⟨c,hc,e⟩
     . have:c=⟨slot,pd,[x]⟩:=by simpa using hc
       subst this
       exact .inr e.symm
   . rintro(⟨c,hc,e⟩|rfl)
     . exact⟨c,EQ _ hc,e⟩
     . exact⟨_,Co _ (AN.mpr rfl),rfl⟩
theorem OS {w:Wh} {slot:Int} {pd:Addr} {x:Str} (h:iB w) (h0:0<=slot):iB (w.wa slot (P3 w.m (1*2^slot.toNat)) pd x):=by
 have hy:(0:Int)<=1*2^slot.toNat:=by rw [AaK];exact NL (Int.pow_pos (by decide))
 have e:=Dd h.1 hy
 refine⟨by show 0<=P3 w.m (1*2^slot.toNat);rw [e];omega,fun i=>?_⟩
 show(P3 w.m (1*2^slot.toNat)).toNat.testBit i=(rp w.cs slot pd x).any _
 rw [e,NG,L0,Nat.testBit_or,Abj,h.2 i,Nd,Bool.or_eq_true,j8,j8,Mw,decide_eq_true_eq]
 refine or_congr Iff.rfl ⟨fun z=>by omega,fun z=>by omega⟩
theorem An {w:Wh} {slot:Int} {c:Sl} (h:iB w) (h0:0<=slot) (hc:c∈w.cs) (hk:c.k=slot):iB (w.emptied slot (Na w.m (1*2^slot.toNat))):=by
 have hb:w.m.toNat.testBit slot.toNat=true:=by rw [h.2];exact j8.mpr ⟨c,hc,by omega⟩
 have e:=Ae h.1 hb
 refine⟨by show 0<=Na w.m (1*2^slot.toNat);rw [e];omega,fun i=>?_⟩
 show(Na w.m (1*2^slot.toNat)).toNat.testBit i=(mJ w.cs slot).any _
 rw [e,NG,yR hb,h.2 i,Nd,RI,j8,j8,decide_eq_true_eq]
 unfold mJ
 constructor
 . rintro⟨⟨d,hd,e1⟩,e2⟩
   exact⟨d,CS.mpr ⟨hd,by simp;omega⟩,e1⟩
 . rintro⟨d,hd,e1⟩
   obtain⟨Ay,hd2⟩:=CS.mp hd
   have hd2:¬d.k=slot:=by simpa using hd2
   exact⟨⟨d,Ay,e1⟩,by omega⟩
structure GI (us:List (Int × Int)) (n:Int) (ts:List (Str × Int)) (G:fG):Prop where
 eu:G.ws.map (fun w=>(w.u,w.s))=us
 wh:∀k w,G.ws[k]? =some w->Rf w fun x j=>∃t,(x,t)∈ts/\iz us t n=k/\t / w.u % w.s=j
 eI:∀c,c∈G.eI↔(c.2,c.1)∈ts/\iz us c.1 n=us.length
 MG:G.eI.Pairwise fun c d=>bw d c=true
theorem GI.at {us:List (Int × Int)} {n:Int} {ts:List (Str × Int)} {G:fG} (h:GI us n ts G) {k:Nat} {w:Wh} (hw:G.ws[k]? =some w):us[k]? =some (w.u,w.s):=by
 rw [<-h.eu,EU,hw];rfl
theorem GI.len {us:List (Int × Int)} {n:Int} {ts:List (Str × Int)} {G:fG} (h:GI us n ts G):G.ws.length=us.length:=by
 rw [<-h.eu,AL]
theorem OH {ws:List Wh} {k:Nat} {w w':Wh} (hw:ws[k]? =some w) (e:(w'.u,w'.s)=(w.u,w.s)):(ws.set k w').map (fun w=>(w.u,w.s))=ws.map fun w=>(w.u,w.s):=by
 rw [List.map_set,e]
 refine AaJ fun i=>?_
 rw [AaL]
 split
 . rename_i hi
   subst hi
   obtain⟨hk,rfl⟩:=AS.mp hw
   rw [if_pos (by simpa using hk)]
   simp [hk]
 . rfl
theorem GI.lay {us:List (Int × Int)} {n t m:Int} {ts:List (Str × Int)} {G:fG} {x:Str} {w:Wh} {pd:Addr} (h:GI us n ts G) (hx:x∉ts.map (·.1)) (hw:G.ws[iz us t n]? =some w) (hs:0<w.s) (hm:iB (w.wa (t / w.u % w.s) m pd x)):
 GI us n (ts++[(x,t)]) ⟨G.q,G.f,G.ws.set (iz us t n) (w.wa (t / w.u % w.s) m pd x),G.eI⟩:=by
 have hnx:∀t',(x,t')∉ts:=fun t' hm=>hx (AT.mpr ⟨_,hm,rfl⟩)
 have hk:iz us t n<G.ws.length:=(AS.mp hw).1
 refine⟨(OH (w':=w.wa (t / w.u % w.s) m pd x) hw rfl).trans h.eu,fun k w1 jA=>?_,fun c=>?_,h.MG⟩
 . replace jA:(G.ws.set (iz us t n) _)[k]? =some w1:=jA
   rw [AaL] at jA
   split at jA
   . rename_i e
     subst e
     obtain rfl:=CC jA
     refine((h.wh _ w hw).lay (m:=m) (pd:=pd) (fun j ⟨t',h1,_⟩=>hnx t' h1) (Abg _ (by omega)) (WJ _ hs) hm).congr fun y j=>?_
     constructor
     . rintro(⟨t',h1,h2,h3⟩|⟨rfl,rfl⟩)
       . exact⟨t',EQ _ h1,h2,h3⟩
       . exact⟨t,Co _ (by simp),rfl,rfl⟩
     . rintro⟨t',h1,h2,h3⟩
       rcases Cn.mp h1 with h1|h1
       . exact .inl ⟨t',h1,h2,h3⟩
       . have:y=x/\t'=t:=by simpa using h1
         obtain⟨rfl,rfl⟩:=this
         exact .inr ⟨rfl,h3.symm⟩
   . rename_i e
     refine(h.wh k w1 jA).congr fun y j=>⟨fun⟨t',h1,h2,h3⟩=>⟨t',EQ _ h1,h2,h3⟩,fun⟨t',h1,h2,h3⟩=>?_⟩
     rcases Cn.mp h1 with h1|h1
     . exact⟨t',h1,h2,h3⟩
     . have:y=x/\t'=t:=by simpa using h1
       obtain⟨rfl,rfl⟩:=this
       exact absurd h2 e
 . refine(h.eI c).trans ⟨fun⟨h1,h2⟩=>⟨EQ _ h1,h2⟩,fun⟨h1,h2⟩=>?_⟩
   rcases Cn.mp h1 with h1|h1
   . exact⟨h1,h2⟩
   . have:c.2=x/\c.1=t:=by simpa using h1
     rw [this.2] at h2
     have:=h.len
     omega
theorem P4 {α:Type} {xs:List α} {k:Nat} {y c:α}:c∈ui xs k y↔c∈xs\/c=y:=by
 unfold ui
 rw [Cn,AE]
 constructor
 . rintro(h|h|h)
   . exact .inl (Aa0 h)
   . exact .inr h
   . exact .inl (List.mem_of_mem_drop h)
 . rintro(h|h)
   . rw [<-SO k xs,Cn] at h
     rcases h with h|h
     . exact .inl h
     . exact .inr (.inr h)
   . exact .inr (.inl h)
def Plc (eI:List (Int × Str)) (c:Int × Str) (i:Nat):Prop:=i<=eI.length/\(∀j d,j<i->eI[j]? =some d->bw c d=true)/\∀j d,i<=j->eI[j]? =some d->bw c d=false
theorem vk {a b c:Int × Str} (h:bw a b=true) (h2:bw b c=true):bw a c=true:=by
 cases e:bw a c with
 |true=>rfl
 |false=>
  have h3:=Bj e (AX h2)
  rw [h3] at h;cases h
theorem VZ {eI:List (Int × Str)} {c:Int × Str} {i:Nat} (h:eI.Pairwise fun c d=>bw d c=true) (hp:Plc eI c i) (hc:c∉eI):(ui eI i c).Pairwise fun c d=>bw d c=true:=by
 obtain⟨hi,h1,h2⟩:=hp
 have h':=h
 rw [<-SO i eI,Sa] at h'
 obtain⟨a1,a2,a3⟩:=h'
 unfold ui
 rw [Sa,Aau]
 have hb:∀d∈eI.drop i,bw d c=true:=fun d hd=>by
  obtain⟨j,hj,rfl⟩:=PM hd
  have:=h2 (i+j) ((eI.drop i)[j]) (by omega) (by rw [<-List.getElem?_drop];exact AC hj)
  cases e:bw (eI.drop i)[j] c with
  |true=>rfl
  |false=>
   have:=Ow this e
   exact absurd (List.mem_of_mem_drop (this▸hd)) hc
 have ha:∀d∈eI.take i,bw c d=true:=fun d hd=>by
  obtain⟨j,hj,rfl⟩:=PM hd
  rw [Ll] at hj
  have hj1:j<i:=by omega
  have M7:j<eI.length:=by omega
  have:=h1 j eI[j] hj1 (AC M7)
  rw [AbC];exact this
 refine⟨a1,⟨hb,a2⟩,fun x hx y hy=>?_⟩
 rcases AE.mp hy with rfl|hy
 . exact ha x hx
 . exact vk (hb y hy) (ha x hx)
theorem GI.XO {us:List (Int × Int)} {n t:Int} {ts:List (Str × Int)} {G:fG} {x:Str} {i:Nat} (h:GI us n ts G) (hx:x∉ts.map (·.1)) (hw:iz us t n=us.length) (hi:Plc G.eI (t,x) i):
 GI us n (ts++[(x,t)]) ⟨G.q,G.f,G.ws,ui G.eI i (t,x)⟩:=by
 have hnx:∀t',(x,t')∉ts:=fun t' hm=>hx (AT.mpr ⟨_,hm,rfl⟩)
 refine⟨h.eu,fun k w1 jA=>?_,fun c=>?_,VZ h.MG hi fun z=>hnx t ((h.eI _).mp z).1⟩
 . refine(h.wh k w1 jA).congr fun y j=>⟨fun⟨t',h1,h2,h3⟩=>⟨t',EQ _ h1,h2,h3⟩,fun⟨t',h1,h2,h3⟩=>?_⟩
   rcases Cn.mp h1 with h1|h1
   . exact⟨t',h1,h2,h3⟩
   . have:y=x/\t'=t:=by simpa using h1
     obtain⟨rfl,rfl⟩:=this
     have h4:k<G.ws.length:=(AS.mp jA).1
     have:=h.len
     omega
 . rw [P4,h.eI c]
   constructor
   . rintro(⟨h1,h2⟩|rfl)
     . exact⟨EQ _ h1,h2⟩
     . exact⟨Co _ (by simp),hw⟩
   . rintro⟨h1,h2⟩
     rcases Cn.mp h1 with h1|h1
     . exact .inl ⟨h1,h2⟩
     . have:c.2=x/\c.1=t:=by simpa using h1
       exact .inr (Prod.ext this.2 this.1)
def jj (ts:List (Str × Int)) (x:Str):List (Str × Int):=ts.filter fun y=>!decide (y.1=x)
theorem dr {ts:List (Str × Int)} {x:Str} {y:Str × Int}:y∈jj ts x↔y∈ts/\y.1≠x:=by
 unfold jj
 rw [CS]
 simp
theorem lI {ts:List (Str × Int)} (h:(ts.map (·.1)).Nodup) {x:Str} {t t':Int} (h1:(x,t)∈ts) (h2:(x,t')∈ts):t=t':=by
 induction ts with
 |nil=>cases h1
 |cons y r ih=>
  rw [EO,EN] at h
  rcases AE.mp h1 with e1|e1
  . rcases AE.mp h2 with e2|e2
    . rw [<-e1] at e2;exact(Prod.mk.inj e2).2.symm
    . exact absurd (AT.mpr ⟨_,e2,rfl⟩) (by rw [<-e1] at h;exact h.1)
  . rcases AE.mp h2 with e2|e2
    . exact absurd (AT.mpr ⟨_,e1,rfl⟩) (by rw [<-e2] at h;exact h.1)
    . exact ih h.2 e1 e2
theorem GI.lift {us:List (Int × Int)} {n t m:Int} {ts:List (Str × Int)} {G:fG} {x:Str} {w:Wh} (h:GI us n ts G) (oF:(ts.map (·.1)).Nodup) (hx:(x,t)∈ts) (hw:G.ws[iz us t n]? =some w) (hm:iB (w.lH (t / w.u % w.s) m x)):
 GI us n (jj ts x) ⟨G.q,G.f,G.ws.set (iz us t n) (w.lH (t / w.u % w.s) m x),G.eI⟩:=by
 have hk:iz us t n<G.ws.length:=(AS.mp hw).1
 refine⟨(OH (w':=w.lH (t / w.u % w.s) m x) hw rfl).trans h.eu,fun k w1 jA=>?_,fun c=>?_,h.MG⟩
 . replace jA:(G.ws.set (iz us t n) _)[k]? =some w1:=jA
   rw [AaL] at jA
   split at jA
   . rename_i e
     subst e
     obtain rfl:=CC jA
     refine((h.wh _ w hw).lift (m:=m) (x:=x) (slot:=t / w.u % w.s) (fun j ⟨t',h1,h2,h3⟩=>?_) hm).congr fun y j=>⟨fun⟨⟨t',h1,h2,h3⟩,pk⟩=>⟨t',dr.mpr ⟨h1,pk⟩,h2,h3⟩,fun⟨t',h1,h2,h3⟩=>?_⟩
     . rw [lI oF hx h1];exact h3.symm
     . obtain⟨h1,pk⟩:=dr.mp h1
       exact⟨⟨t',h1,h2,h3⟩,pk⟩
   . rename_i e
     refine(h.wh k w1 jA).congr fun y j=>⟨fun⟨t',h1,h2,h3⟩=>⟨t',dr.mpr ⟨h1,fun z=>e ?_⟩,h2,h3⟩,fun⟨t',h1,h2,h3⟩=>⟨t',(dr.mp h1).1,h2,h3⟩⟩
     have z:y=x:=z
     subst z
     rw [lI oF hx h1];exact h2
 . refine(h.eI c).trans ⟨fun⟨h1,h2⟩=>⟨dr.mpr ⟨h1,fun z=>?_⟩,h2⟩,fun⟨h1,h2⟩=>⟨(dr.mp h1).1,h2⟩⟩
   have z:c.2=x:=z
   rw [z] at h1
   rw [lI oF h1 hx] at h2
   have:=h.len
   omega
theorem V2 {eI:List (Int × Str)} {c:Int × Str} {i:Nat} (h:eI.Pairwise fun c d=>bw d c=true) (hp:Plc eI c i) (hc:c∈eI):eI[i]? =some c:=by
 obtain⟨j,hj,rfl⟩:=PM hc
 obtain⟨_,h1,h2⟩:=hp
 have e:i=j:=by
  by_cases c1:j<i
  . have:=h1 j _ c1 (AC hj)
    rw [iR] at this;cases this
  . by_cases c2:i<j
    . have:=h2 i eI[i] (BY _) (AC (by omega))
      rw [On.mp h i j (by omega) hj c2] at this
      cases this
    . omega
 rw [e];exact AC hj
theorem mem_erase {eI:List (Int × Str)} {c:Int × Str} {i:Nat} (h:eI.Pairwise fun c d=>bw d c=true) (hc:eI[i]? =some c) {d:Int × Str}:d∈eI.eraseIdx i↔d∈eI/\d≠c:=by
 obtain⟨hi,rfl⟩:=AS.mp hc
 have pw:=On.mp h
 constructor
 . intro hd
   obtain⟨j,hj,pk⟩:=List.mem_eraseIdx_iff_getElem?.mp hd
   obtain⟨hj',rfl⟩:=AS.mp pk
   refine⟨List.getElem_mem _,fun z=>?_⟩
   by_cases c1:j<i
   . have:=pw j i hj' hi c1
     rw [z,iR] at this;cases this
   . have:=pw i j hi hj' (by omega)
     rw [z,iR] at this;cases this
 . rintro⟨hd,pk⟩
   obtain⟨j,hj,rfl⟩:=PM hd
   exact List.mem_eraseIdx_iff_getElem?.mpr ⟨j,fun z=>pk (by subst z;rfl),AC hj⟩
theorem GI.S6 {us:List (Int × Int)} {n t:Int} {ts:List (Str × Int)} {G:fG} {x:Str} {i:Nat} (h:GI us n ts G) (oF:(ts.map (·.1)).Nodup) (hx:(x,t)∈ts) (hw:iz us t n=us.length) (hi:G.eI[i]? =some (t,x)):
 GI us n (jj ts x) ⟨G.q,G.f,G.ws,G.eI.eraseIdx i⟩:=by
 refine⟨h.eu,fun k w1 jA=>?_,fun c=>?_,h.MG.sublist (List.eraseIdx_sublist _ _)⟩
 . refine(h.wh k w1 jA).congr fun y j=>⟨fun⟨t',h1,h2,h3⟩=>⟨t',dr.mpr ⟨h1,fun z=>?_⟩,h2,h3⟩,fun⟨t',h1,h2,h3⟩=>⟨t',(dr.mp h1).1,h2,h3⟩⟩
   have z:y=x:=z
   subst z
   rw [lI oF h1 hx] at h2
   have h4:k<G.ws.length:=(AS.mp jA).1
   have:=h.len
   omega
 . show c∈G.eI.eraseIdx i↔_
   rw [mem_erase h.MG hi,h.eI c]
   constructor
   . rintro⟨⟨h1,h2⟩,h3⟩
     refine⟨dr.mpr ⟨h1,fun z=>h3 ?_⟩,h2⟩
     have z:c.2=x:=z
     rw [z] at h1
     exact Prod.ext (lI oF h1 hx) z
   . rintro⟨h1,h2⟩
     obtain⟨h1,h3⟩:=dr.mp h1
     exact⟨⟨h1,h2⟩,fun z=>h3 (by rw [z])⟩
def Rg (u s m:Int) (dn:Addr):List (Str × V):=[("unit",.int u),("slots",.int s),("span",.int (u*s)),("mask",.int m),("names_in",.ref dn)]
def yp (cs:List Sl):List (Key × V):=cs.map fun c=>(AaW c.k,V.ref c.p)
def Fq (ns:List Str):List (Str × BB):=ns.map fun x=>(x,.bool true)
structure jB (C:Addr) (H:Hp) (w:Wh):Prop where
 i:∃dx,H w.x=some (.ins C dx (Rg w.u w.s w.m w.dn))
 d:H w.dn=some (.dK (yp w.cs))
 c:∀c∈w.cs,nW H c.p (Fq c.ns)
def Wh.foot (w:Wh):List Addr:=w.x::w.dn::w.cs.map (·.p)
def fG.foot (G:fG):List Addr:=G.q::G.f::G.ws.flatMap Wh.foot
theorem jB.keeps {C:Addr} {H H':Hp} {w:Wh} (sm:aA H H') (h:jB C H w):jB C H' w:=⟨let ⟨dx,e⟩:=h.i;⟨dx,sm _ _ e⟩,sm _ _ h.d,fun c hc=>(h.c c hc).keeps sm⟩
theorem jB.mv {C:Addr} {S:List Addr} {H H':Hp} {w:Wh} (mv:Mv S H H') (n:∀b∈w.foot,b∉S) (h:jB C H w):jB C H' w:=by
 refine⟨?_,mv.at (n _ (by simp [Wh.foot])) h.d,fun c hc=>(h.c c hc).mv mv (n _ ?_)⟩
 . obtain⟨dx,e⟩:=h.i
   exact⟨dx,mv.at (n _ (by simp [Wh.foot])) e⟩
 . unfold Wh.foot
   exact AD _ (AD _ (Cs hc))
theorem jB.alive {C:Addr} {H:Hp} {w:Wh} (h:jB C H w):∀b∈w.foot,H b≠none:=by
 intro b hb
 unfold Wh.foot at hb
 rcases AE.mp hb with rfl|hb
 . obtain⟨dx,e⟩:=h.i
   rw [e];simp
 . rcases AE.mp hb with rfl|hb
   . rw [h.d];simp
   . obtain⟨c,hc,rfl⟩:=AT.mp hb
     obtain⟨kvs,e,_⟩:=h.c c hc
     rw [e];simp
theorem PN {cs:List Sl} {k:Int} (h:∀c∈cs,c.k≠k):lu (yp cs) (.inl k)=none:=by
 unfold lu yp
 rw [Wp,WP]
 intro kv Zg
 obtain⟨c,hc,rfl⟩:=AT.mp Zg
 simp [h c hc]
theorem su {cs:List Sl} {c:Sl} (hn:(cs.map (·.k)).Nodup) (hc:c∈cs):lu (yp cs) (.inl c.k)=some (.ref c.p):=by
 induction cs with
 |nil=>cases hc
 |cons y r ih=>
  rw [EO,EN] at hn
  rcases AE.mp hc with rfl|hc
  . exact oR rfl
  . have pk:y.k≠c.k:=fun z=>hn.1 (z▸Cs (f:=(·.k)) hc)
    exact(lE (fun z=>pk (AaW.inj z))).trans (ih hn.2 hc)
theorem Fb {cs:List Sl} {k:Int} {p:Addr} {ns:List Str} (h:∀c∈cs,c.k≠k):putK (yp cs) (.inl k) (.ref p)=yp (cs++[⟨k,p,ns⟩]):=by
 have e:((yp cs).any fun kv=>decide (kv.1=AaW k))=false:=by
  rw [<-AaY,Mn]
  rintro⟨kv,h1,h2⟩
  unfold yp at h1
  obtain⟨c,hc,rfl⟩:=AT.mp h1
  exact h c hc (AaW.inj (of_decide_eq_true h2))
 unfold putK
 rw [e,if_neg (by decide)]
 unfold yp
 rw [Da];rfl
theorem Qt (cs:List Sl) (k:Int):lD (yp cs) (.inl k)=yp (mJ cs k):=by
 unfold lD yp mJ
 rw [Aaw]
 congr 1
 refine TM fun c _=>?_
 simp [Aa4]
theorem JZ {cs:List Sl} {f:Sl->Sl} (h1:∀c,(f c).k=c.k) (h2:∀c,(f c).p=c.p):yp (cs.map f)=yp cs:=by
 unfold yp
 rw [KB]
 refine Su fun c _=>?_
 show(AaW (f c).k,V.ref (f c).p)=_
 rw [h1,h2]
theorem SN (cs:List Sl):(yp cs).length=cs.length:=AL ..
theorem R9 (ns:List Str):(Fq ns).length=ns.length:=AL ..
theorem Oo {ns:List Str} {x:Str} (h:x∈ns):uq (Fq ns) x=some (.bool true):=by
 unfold uq Fq
 induction ns with
 |nil=>cases h
 |cons y r ih=>
  rw [EO,Q2]
  by_cases e:y=x
  . simp [e]
  . simp only [e,decide_false]
    exact ih ((AE.mp h).resolve_left fun z=>e z.symm)
theorem Sh {ns:List Str} {x:Str} (h:x∉ns):putD (Fq ns) x (.bool true)=Fq (ns++[x]):=by
 unfold putD
 have e:((Fq ns).any fun kv=>decide (kv.1=x))=false:=by
  rw [<-AaY,Mn]
  rintro⟨kv,h1,h2⟩
  unfold Fq at h1
  obtain⟨y,hy,rfl⟩:=AT.mp h1
  exact h (of_decide_eq_true h2▸hy)
 rw [e,if_neg (by decide)]
 unfold Fq
 rw [Da];rfl
theorem Qj (ns:List Str) (x:Str):tK (Fq ns) x=Fq (ns.filter fun y=>!decide (y=x)):=by
 unfold tK Fq
 rw [Aaw]
 congr 1
 refine TM fun y _=>?_
 simp [Aa4]
theorem zW {w:Wh} (h:w.foot.Nodup):w.x≠w.dn/\(∀c∈w.cs,c.p≠w.x/\c.p≠w.dn)/\(w.cs.map (·.p)).Nodup:=by
 unfold Wh.foot at h
 rw [EN,EN] at h
 refine⟨fun z=>h.1 (by simp [z]),fun c hc=>⟨fun z=>h.1 ?_,fun z=>h.2.1 (z▸Cs hc)⟩,h.2.2⟩
 exact AD _ (z▸Cs (f:=(·.p)) hc)
theorem VA {cs:List Sl} (h:(cs.map (·.p)).Nodup) {c d:Sl} (hc:c∈cs) (hd:d∈cs) (e:c.p=d.p):c=d:=by
 induction cs with
 |nil=>cases hc
 |cons y r ih=>
  rw [EO,EN] at h
  rcases AE.mp hc with rfl|wF
  . rcases AE.mp hd with rfl|rE
    . rfl
    . exact absurd (Cs (f:=(·.p)) rE) (e▸h.1)
  . rcases AE.mp hd with rfl|rE
    . exact absurd (Cs (f:=(·.p)) wF) (e▸h.1)
    . exact ih h.2 wF rE
theorem Ka {cs:List Sl} (h:(cs.map (·.k)).Nodup) {c d:Sl} (hc:c∈cs) (hd:d∈cs) (e:c.k=d.k):c=d:=by
 induction cs with
 |nil=>cases hc
 |cons y r ih=>
  rw [EO,EN] at h
  rcases AE.mp hc with rfl|wF
  . rcases AE.mp hd with rfl|rE
    . rfl
    . exact absurd (Cs (f:=(·.k)) rE) (e▸h.1)
  . rcases AE.mp hd with rfl|rE
    . exact absurd (Cs (f:=(·.k)) wF) (e▸h.1)
    . exact ih h.2 wF rE
def E4 (us:List (Int × Int)):Prop:=∀q∈us,0<q.1/\q.1<=10^12/\2<=q.2/\q.2<=60
def MR (w:Wh):Prop:=0<w.u/\w.u<=10^12/\2<=w.s/\w.s<=60
theorem Ya {K:At} {σ:St} {H:Hp} {t:Addr} {v1 v2:V} {i j:Nat} {R:St->Hp->Prop} (ha:H t=some (.tup [v1,v2])) (h:R ((σ.set i (some v1)).set j (some v2)) H):Jp K 2 (u6 (ml i) (u6 (ml j) LJ)) (.ref t) σ H R:=
 ⟨_,_,rfl,.of ha,rfl,_,_,rfl,_,_,rfl,rfl,h⟩
structure zG (CW:Addr) (H:Hp) (G:fG):Prop where
 q:H G.q=some (.lst (G.ws.map fun w=>V.ref w.x))
 f:eF H G.f (G.eI.map pairD)
 w:∀w∈G.ws,jB CW H w
 nd:G.foot.Nodup
theorem zG.keeps {C:Addr} {H H':Hp} {G:fG} (sm:aA H H') (h:zG C H G):zG C H' G:=⟨sm _ _ h.q,h.f.keeps sm,fun w hw=>(h.w w hw).keeps sm,h.nd⟩
theorem oG {G:fG} {w:Wh} (hw:w∈G.ws):∀b∈w.foot,b∈G.foot:=fun b hb=>AD _ (AD _ (Lm.mpr ⟨w,hw,hb⟩))
theorem zG.mv {C:Addr} {S:List Addr} {H H':Hp} {G:fG} (mv:Mv S H H') (n:∀b∈G.foot,b∉S) (h:zG C H G):zG C H' G:=
 ⟨mv.at (n _ (by simp [fG.foot])) h.q,h.f.mv mv (n _ (by simp [fG.foot])),fun w hw=>(h.w w hw).mv mv fun b hb=>n b (oG hw b hb),h.nd⟩
theorem zG.alive {C:Addr} {H:Hp} {G:fG} (h:zG C H G):∀b∈G.foot,H b≠none:=by
 intro b hb
 unfold fG.foot at hb
 rcases AE.mp hb with rfl|hb
 . rw [h.q];simp
 . rcases AE.mp hb with rfl|hb
   . obtain⟨xs,e,_⟩:=h.f
     rw [e];simp
   . obtain⟨w,hw,hb⟩:=Lm.mp hb
     exact(h.w w hw).alive b hb
theorem zG.CT {C:Addr} {H:Hp} {G:fG} (h:zG C H G):G.q≠G.f/\(∀w∈G.ws,∀b∈w.foot,b≠G.q/\b≠G.f)/\(G.ws.flatMap Wh.foot).Nodup:=by
 have hn:=h.nd
 unfold fG.foot at hn
 rw [EN,EN] at hn
 refine⟨fun z=>hn.1 (by simp [z]),fun w hw b hb=>⟨fun z=>hn.1 ?_,fun z=>hn.2.1 (z▸Lm.mpr ⟨w,hw,hb⟩)⟩,hn.2.2⟩
 exact AD _ (z▸Lm.mpr ⟨w,hw,hb⟩)
theorem xr {α:Type} {l:List α} {k:Nat} {w:α} (h:l[k]? =some w) (w':α):l=l.take k++w::l.drop (k+1)/\l.set k w'=l.take k++w'::l.drop (k+1):=by
 obtain⟨hk,rfl⟩:=AS.mp h
 constructor
 . rw [List.getElem_cons_drop];exact(SO k l).symm
 . rw [List.set_eq_take_append_cons_drop,if_pos hk]
theorem zG.set {C:Addr} {H H':Hp} {G:fG} {k:Nat} {w w':Wh} (h:zG C H G) (hw:G.ws[k]? =some w) (mv:Mv w.foot H H') (KC:jB C H' w') (ex:w'.x=w.x) (hn:w'.foot.Nodup) (hs:∀b∈w'.foot,b∈w.foot\/H b=none):
 zG C H' ⟨G.q,G.f,G.ws.set k w',G.eI⟩/\∀b∈fG.foot ⟨G.q,G.f,G.ws.set k w',G.eI⟩,b∈G.foot\/H b=none:=by
 obtain⟨f1,f2,f3⟩:=h.CT
 obtain⟨e1,e2⟩:=xr hw w'
 have hwm:w∈G.ws:=B0 hw
 have Y9:∀b∈fG.foot ⟨G.q,G.f,G.ws.set k w',G.eI⟩,b∈G.foot\/H b=none:=fun b hb=>by
  unfold fG.foot at hb
  rcases AE.mp hb with rfl|hb
  . exact .inl (by simp [fG.foot])
  . rcases AE.mp hb with rfl|hb
    . exact .inl (by simp [fG.foot])
    . obtain⟨y,hy,Hm⟩:=Lm.mp hb
      have hy:y∈G.ws.set k w':=hy
      rcases List.mem_or_eq_of_mem_set hy with hy|hy
      . exact .inl (oG hy b Hm)
      . rcases hs b (hy▸Hm) with q|q
        . exact .inl (oG hwm b q)
        . exact .inr q
 refine⟨⟨?_,h.f.mv mv fun z=>(f2 w hwm _ z).2 rfl,fun y hy=>?_,?_⟩,Y9⟩
 . show H' G.q=some (.lst ((G.ws.set k w').map _))
   rw [show(G.ws.set k w').map (fun w=>V.ref w.x)=G.ws.map fun w=>V.ref w.x from ?_]
   . exact mv.at (fun z=>(f2 w hwm _ z).1 rfl) h.q
   . rw [e2,Da,EO,ex]
     conv=>rhs;rw [e1,Da,EO]
 . have hy:y∈G.ws.set k w':=hy
   obtain⟨j,hj⟩:=AaZ hy
   rw [AaL] at hj
   split at hj
   . split at hj
     . cases hj;exact KC
     . cases hj
   . rename_i UL
     refine(h.w y (B0 hj)).mv mv fun b hb Pj=>?_
     have key:∀(l:List Wh) (i j:Nat) (x y:Wh),(l.flatMap Wh.foot).Nodup->l[i]? =some x->l[j]? =some y->i≠j->∀b∈x.foot,b∉y.foot:=by
      intro l
      induction l with
      |nil=>intro i j x y _ hx;simp at hx
      |cons z r ih=>
       intro i j x y hn hx hy x5 b hb Hm
       rw [PP,Gc] at hn
       obtain⟨_,px,um⟩:=hn
       cases i with
       |zero=>
        cases j with
        |zero=>exact x5 rfl
        |succ j=>
         have hx:z=x:=by simpa using hx
         have hy:r[j]? =some y:=by simpa using hy
         exact um b (hx▸hb) b (Lm.mpr ⟨y,B0 hy,Hm⟩) rfl
       |succ i=>
        have hx:r[i]? =some x:=by simpa using hx
        cases j with
        |zero=>
         have hy:z=y:=by simpa using hy
         exact um b (hy▸Hm) b (Lm.mpr ⟨x,B0 hx,hb⟩) rfl
        |succ j=>
         have hy:r[j]? =some y:=by simpa using hy
         exact ih i j x y px hx hy (fun z=>x5 (by rw [z])) b hb Hm
     exact key G.ws k j w y f3 hw hj UL b Pj hb
 . have CO:=h.nd
   unfold fG.foot at CO ⊢
   show(G.q::G.f::(G.ws.set k w').flatMap Wh.foot).Nodup
   rw [e1] at CO
   rw [e2]
   rw [LS,PP] at CO ⊢
   have c1:G.q::G.f::((G.ws.take k).flatMap Wh.foot++(w.foot++(G.ws.drop (k+1)).flatMap Wh.foot))=(G.q::G.f::(G.ws.take k).flatMap Wh.foot)++(w.foot++(G.ws.drop (k+1)).flatMap Wh.foot):=by simp
   have c2:G.q::G.f::((G.ws.take k).flatMap Wh.foot++(w'.foot++(G.ws.drop (k+1)).flatMap Wh.foot))=(G.q::G.f::(G.ws.take k).flatMap Wh.foot)++(w'.foot++(G.ws.drop (k+1)).flatMap Wh.foot):=by simp
   rw [c1] at CO
   rw [c2]
   refine T9 CO hn fun b hb=>?_
   rcases hs b hb with q|q
   . exact .inl q
   . have Jm:=h.alive
     refine .inr ⟨fun z=>Jm b ?_ q,fun z=>Jm b ?_ q⟩
     . unfold fG.foot
       rw [e1,LS]
       rcases AE.mp z with rfl|z
       . simp
       . rcases AE.mp z with rfl|z
         . simp
         . exact AD _ (AD _ (EQ _ z))
     . unfold fG.foot
       rw [e1,LS,PP]
       exact AD _ (AD _ (Co _ (Co _ z)))
theorem zG.aa1 {C:Addr} {H H':Hp} {G:fG} {eI:List (Int × Str)} (h:zG C H G) (mv:Mv [G.f] H H') (hf:eF H' G.f (eI.map pairD)):zG C H' ⟨G.q,G.f,G.ws,eI⟩:=by
 obtain⟨f1,f2,f3⟩:=h.CT
 exact⟨mv.at (by simpa using f1) h.q,hf,fun w hw=>(h.w w hw).mv mv fun b hb=>by simpa using (f2 w hw b hb).2,h.nd⟩
theorem GI.bnd {us:List (Int × Int)} {n:Int} {ts:List (Str × Int)} {G:fG} (h:GI us n ts G) (hu:E4 us) {k:Nat} {w:Wh} (hw:G.ws[k]? =some w):MR w:=by
 have:=hu _ (B0 (h.at hw))
 exact this
theorem GI.small {us:List (Int × Int)} {n:Int} {ts:List (Str × Int)} {G:fG} (h:GI us n ts G) (hu:E4 us) {k:Nat} {w:Wh} (hw:G.ws[k]? =some w):w.cs.length<=60/\∀c∈w.cs,c.ns.length<=ts.length:=by
 have hi:=h.wh k w hw
 have hb:=h.bnd hu hw
 constructor
 . have:=sM (l':=(AbO 60).map fun i:Nat=>(i:Int)) hi.nd fun x hx=>by
    obtain⟨c,hc,rfl⟩:=AT.mp hx
    obtain⟨_,_,h0,h1⟩:=hi.ne c hc
    refine AT.mpr ⟨c.k.toNat,List.mem_range.mpr ?_,by omega⟩
    have:=hb.2.2.2
    omega
   simpa using this
 . intro c hc
   have:=sM (l':=ts.map (·.1)) (hi.ne c hc).2.1 fun x hx=>by
    obtain⟨t,ht,_⟩:=(hi.mem x c.k).mp ⟨c,hc,rfl,hx⟩
    exact AT.mpr ⟨_,ht,rfl⟩
   simpa using this
theorem GI.Ji {us:List (Int × Int)} {n:Int} {ts:List (Str × Int)} {G:fG} (h:GI us n ts G):G.eI.length<=ts.length:=by
 have oF:G.eI.Nodup:=h.MG.imp fun {a b} ZA e=>by subst e;rw [iR] at ZA;cases ZA
 have:=sM (l':=ts.map fun x=>(x.2,x.1)) oF fun x hx=>AT.mpr ⟨_,((h.eI x).mp hx).1,rfl⟩
 simpa using this
def Kk:Sp:=fun vs H Q _=>∃(l:Addr) (rs:List Int),vs=[.ref l]/\eF H l (rs.map Sm)/\1<=rs.length/\rs.length<=6/\(∀r∈rs,2<=r/\r<=60)/\Q .a9 H
theorem TJ (T:Txt K mg a):aS P w K mg base eP 2 a.cE a.qX ["rounds"] Kk:=by
 have vB:=wW (P:=P) (w:=w) (base:=base) T
 refine T.mG.ok qN (fun vs H Q E h=>?_) (fun di A outer s H vs Q E hr h=>?_)
 . obtain⟨_,_,rfl,_⟩:=h;rfl
 . obtain⟨l,rs,rfl,hl,h1,h6,M6,q⟩:=h
   have hln:(rs.map Sm).length=rs.length:=AL ..
   refine⟨_,(af (bC (PW.pt (Am (iu (bx (cg j9 rfl T.bz KM (ae (pv 0) (ae (nr (v:=.ty "list") rfl T.pU WA rfl) ag))) (fun _=>rfl))) (BL (iu (Gv rQ rQ au (cg lB rfl T.qB Aag (ae (pv 0) ag)) (z8 (v:=.int 6) rfl T.sf ⟨_,rfl⟩))))))
    (ah fu)
    aN)
    (ah (mx Lo rfl (hV (pv 0)) (cf (i:=1) qN.nd rfl (FF rfl))
     (ah (bC (PW.pt (Am (iu (bx (aX vB (hr.mono (by decide)) rfl T.r6 T.tZ (ae (pv 1) ag)) (fun _=>rfl))) (BL (iu (Gv rQ rQ (z8 (v:=.int 2) rfl T.si ⟨_,rfl⟩) (pv 1) (z8 (v:=.int 60) rfl T.uW ⟨_,rfl⟩))))))
      (ah fu)
      aN))))),?_⟩
   repeat' (walk_at "rd1")
   refine Ku (Hb:=H) (cs:=rs) (gd:=Sm) hl.dv (fun j σ' H'=>H=H'/\∃z,σ'=[some (.ref l),z]) ⟨rfl,_,rfl⟩ (fun i σ' H' _ ⟨e,_⟩ a' xs _ hx=>e▸hx) ?_ ?_
   . rintro j i x σ' H' hj ⟨rfl,z,rfl⟩ _ Ay
     have hx:Dv H x (.int i):=Ay (aA.refl _)
     obtain⟨Ho,ai5⟩:=M6 i (B0 hj)
     obtain rfl:=hx.int_inv
     repeat' (walk_at "rd1")
     exact⟨rfl,_,rfl⟩
   . rintro σ' H' ⟨rfl,z,rfl⟩
     repeat' (walk_at "rd1")
     exact q
theorem OI (T:Txt K mg a):cT P w K mg base 2 a.cE ["rounds"] [] Kk:=
 ⟨⟨_,_,TJ T,T.mG.binds fun _ _ _ _ _ _=>m7 fun _=>rfl,.nil⟩⟩
def yJ (C:Addr):Sp:=fun vs H Q _=>∃p dx u s,vs=[.ref p,.int u,.int s]/\H p=some (.ins C dx [])/\0<u/\u<=10^12/\0<s/\s<=60/\∀H' dn,Mv [p] H H'->H dn=none->jB C H' ⟨p,dn,u,s,0,[]⟩->Q .a9 H'
theorem LO (T:Txt K mg a):aS P w K mg base eP 1 a.cp a.nh ["self","unit","slots"] (yJ a.aj):=by
 have n1:=T.gN;have n2:=T.fU;have n3:=T.fA;have n4:=T.cX;have n5:=T.bS;have cl:=T.bW
 refine T.jD.ok wo (fun vs H Q E h=>?_) (fun di A outer s H vs Q E hr h=>?_)
 . obtain⟨_,_,_,_,rfl,_⟩:=h;rfl
 . obtain⟨p,dx,u,sl,rfl,hp,T3,U1,Y4,Rj,q⟩:=h
   refine⟨_,(af (aU (pv 0) (pv 1) rfl)
    (af (aU (pv 0) (pv 2) rfl)
    (af (aU (pv 0) (aB t5 (pv 1) (pv 2)) rfl)
    (af (aU (pv 0) au rfl)
    (ah (aU (pv 0) lQ rfl)))))),?_⟩
   repeat' (walk_at "rd1")
   rename_i dn H2 mP px hd2
   rw [lj,lj,lj] at mP px
   have iM:Mv [p] H (upd H p (.ins a.aj dx [("unit",.int u),("slots",.int sl),("span",.int (u*sl)),("mask",.int 0)])):=.aV hp (by intro _ z;cases z)
   have e2:=mP p _ av
   have gL:Mv [p] H2 (upd H2 p (.ins a.aj dx (Rg u sl 0 dn))):=.aV e2 (by intro _ z;cases z)
   have oF:H dn=none:=iM.none px
   have ZR:dn≠p:=LH (aC hp oF)
   refine q _ dn (iM.trans ((mP.mv (S:=[p])).trans gL)) oF ⟨⟨dx,av⟩,?_,fun c hc=>by cases hc⟩
   obtain⟨kvs,e3,dk⟩:=hd2
   cases dk
   exact gL.at (by simpa using ZR) e3
theorem FD (T:Txt K mg a):cT P w K mg base 1 a.cp ["self","unit","slots"] [] (yJ a.aj):=
 ⟨⟨_,_,LO T,T.jD.binds fun _ _ _ _ _ _=>iC fun _ _ _=>rfl,.nil⟩⟩
theorem D5 {C x dx:Addr} {H H':Hp} (hx:H x=none) (hd:H dx=none) (mv:Mv [x] (upd (upd H dx (.own x)) x (.ins C dx [])) H'):aA H H':=fun b u e=>by
 have hb:b≠x:=aC e hx
 refine mv.kp b u (by simpa using hb) ?_
 rw [ay hb,ay (aC e hd)]
 exact e
theorem xM {C x dx d:Addr} {H:Hp} (h:upd (upd H dx (.own x)) x (.ins C dx []) d=none):H d=none:=by
 unfold upd at h
 split at h
 . cases h
 . split at h
   . cases h
   . exact h
theorem QW {C:Addr} {H:Hp} {Q:VK} {E:XK} {u s:Int} (T3:0<u) (U1:u<=10^12) (Y4:0<s) (Rj:s<=60) (k:∀x dn H2,aA H H2->H x=none->H dn=none->jB C H2 ⟨x,dn,u,s,0,[]⟩->Q (.ref x) H2):uL C (yJ C) [.int u,.int s] H Q E:=
 ⟨_,rfl,fun x dx hx hd ne=>⟨x,dx,u,s,rfl,av,T3,U1,Y4,Rj,fun H' dn mv hdn hw=>⟨rfl,k x dn H' (D5 hx hd mv) hx (xM hdn) hw⟩⟩⟩
def Bl (CW:Addr):Sp:=fun vs H Q _=>∃(x:Addr) (y:Wh) (t n:Int),vs=[.ref x,.int t,.int n]/\x=y.x/\jB CW H y/\MR y/\Q (.bl (decide (t / (y.u*y.s)=n / (y.u*y.s)))) H
theorem JQ {CW x:Addr} {H:Hp} {Q:VK} {E:XK} {y:Wh} {t n:Int} (e:x=y.x) (h:jB CW H y) (hb:MR y) (q:Q (.bl (decide (t / (y.u*y.s)=n / (y.u*y.s)))) H):Bl CW [.ref x,.int t,.int n] H Q E:=⟨x,y,t,n,rfl,e,h,hb,q⟩
theorem O9 (T:Txt K mg a):aS P w K mg base eP 1 a.d9 a.sY ["self","time","now"] (Bl a.aj):=by
 have n3:=T.fA;have cl:=T.bW
 refine T.oq.ok Bi (fun vs H Q E h=>?_) (fun di A outer s H vs Q E hr h=>?_)
 . obtain⟨_,_,_,_,rfl,_⟩:=h;rfl
 . obtain⟨_,y,t,n,rfl,rfl,hw,⟨T3,U1,Y4,Rj⟩,q⟩:=h
   obtain⟨dx,hx⟩:=hw.i
   have hi:iL H (.ref y.x) a.aj [("unit",.int y.u),("slots",.int y.s),("span",.int (y.u*y.s)),("mask",.int y.m),("names_in",.ref y.dn)]:=⟨y.x,dx,rfl,hx⟩
   have ad2:0<y.u*y.s:=Int.mul_pos T3 (by omega)
   have hle:y.u*y.s<=10^12*60:=Int.mul_le_mul U1 Rj (by omega) (by decide)
   generalize y.u*y.s=sp at*
   refine⟨_,(ah (aF (t8 (oM hr.LX) (aB ck (pv 1) (aq (pv 0) rfl)) (aB ck (pv 2) (aq (pv 0) rfl)) (aR _)))),?_⟩
   repeat' (walk_at "rd1")
   have e:decide (V.int (t / sp)=V.int (n / sp))=decide (t / sp=n / sp):=by simp
   show Q (.bl (decide (V.int (t / sp)=V.int (n / sp)))) H
   rw [e];exact q
theorem Dy (T:Txt K mg a):cT P w K mg base 1 a.d9 ["self","time","now"] [] (Bl a.aj):=
 ⟨⟨_,_,O9 T,T.oq.binds fun _ _ _ _ _ _=>iC fun _ _ _=>rfl,.nil⟩⟩
def f9 (y:Wh) (t:Int):Int:=t / y.u % y.s
theorem wJ {y:Wh} (h:MR y) (t:Int):0<=f9 y t:=Abg _ (by have:=h.2.2.1;omega)
theorem Bh {y:Wh} (h:MR y) (t:Int):f9 y t<y.s:=WJ _ (by have:=h.2.2.1;omega)
def yf (CW:Addr):Sp:=fun vs H Q _=>∃(x:Addr) (y:Wh) (t:Int),vs=[.ref x,.int t]/\x=y.x/\jB CW H y/\MR y/\Q (.int (f9 y t)) H
theorem Bo {CW x:Addr} {H:Hp} {Q:VK} {E:XK} {y:Wh} {t:Int} (e:x=y.x) (h:jB CW H y) (hb:MR y) (q:Q (.int (f9 y t)) H):yf CW [.ref x,.int t] H Q E:=⟨x,y,t,rfl,e,h,hb,q⟩
theorem Ml (T:Txt K mg a):aS P w K mg base eP 1 a.cP a.ph ["self","time"] (yf a.aj):=by
 have n1:=T.gN;have n2:=T.fU;have cl:=T.bW
 refine T.kE.ok yu (fun vs H Q E h=>?_) (fun di A outer s H vs Q E hr h=>?_)
 . obtain⟨_,_,_,rfl,_⟩:=h;rfl
 . obtain⟨_,y,t,rfl,rfl,hw,⟨T3,U1,Y4,Rj⟩,q⟩:=h
   obtain⟨dx,hx⟩:=hw.i
   have hi:iL H (.ref y.x) a.aj [("unit",.int y.u),("slots",.int y.s),("span",.int (y.u*y.s)),("mask",.int y.m),("names_in",.ref y.dn)]:=⟨y.x,dx,rfl,hx⟩
   refine⟨_,(ah (aF (aB cH (aB ck (pv 1) (aq (pv 0) rfl)) (aq (pv 0) rfl)))),?_⟩
   repeat' (walk_at "rd1")
   exact q
theorem vQ (T:Txt K mg a):cT P w K mg base 1 a.cP ["self","time"] [] (yf a.aj):=
 ⟨⟨_,_,Ml T,T.kE.binds fun _ _ _ _ _ _=>eC fun _ _=>rfl,.nil⟩⟩
def uj (cs:List Sl) (slot:Int) (pd:Addr):List Sl:=if (cs.any fun c=>decide (c.k=slot))=true then cs else cs++[⟨slot,pd,[]⟩]
theorem AV (cs:List Sl) (slot:Int) (pd:Addr) (x:Str):(uj cs slot pd).map (qv slot x)=rp cs slot pd x:=by
 unfold uj rp
 split
 . rfl
 . rename_i h
   rw [Da]
   have e1:cs.map (qv slot x)=cs:=by
    conv=>rhs;rw [<-List.map_id cs]
    refine Su fun c hc=>?_
    unfold qv
    rw [if_neg fun z=>h (j8.mpr ⟨c,hc,z⟩)];rfl
   rw [e1]
   simp [qv]
theorem N9 (cs:List Sl) (slot:Int) (pd:Addr):∃c∈uj cs slot pd,c.k=slot:=by
 unfold uj
 split
 . rename_i h;exact j8.mp h
 . exact⟨_,Co _ (AN.mpr rfl),rfl⟩
theorem Ky {cs:List Sl} {slot:Int} {pd:Addr} (h:(cs.map (·.k)).Nodup):((uj cs slot pd).map (·.k)).Nodup:=by
 unfold uj
 split
 . exact h
 . rename_i hn
   rw [Da,Gc]
   refine⟨h,by simp,fun a ha b hb=>?_⟩
   obtain⟨c,hc,rfl⟩:=AT.mp ha
   have hb:b=slot:=by simpa using hb
   rw [hb];exact fun z=>hn (j8.mpr ⟨c,hc,z⟩)
def Fv (CW:Addr):Sp:=fun vs H Q _=>∃(z:Addr) (y:Wh) (x:Str) (t:Int),vs=[.ref z,.str x,.int t]/\z=y.x/\jB CW H y/\MR y/\y.foot.Nodup/\(y.cs.map (·.k)).Nodup/\y.cs.length<=100/\(∀c∈y.cs,c.ns.length<=3000/\(c.k=f9 y t->x∉c.ns))/\
 ∀H' pd,Mv y.foot H H'->jB CW H' (y.wa (f9 y t) (P3 y.m (1*2^(f9 y t).toNat)) pd x)->(y.wa (f9 y t) (P3 y.m (1*2^(f9 y t).toNat)) pd x).foot.Nodup->(∀b∈(y.wa (f9 y t) (P3 y.m (1*2^(f9 y t).toNat)) pd x).foot,b∈y.foot\/H b=none)->Q .a9 H'
theorem NF (T:Txt K mg a):aS P w K mg base eP 2 a.dB a.qU ["self","name","time"] (Fv a.aj):=by
 have n1:=T.bS;have n2:=T.cX;have cl:=T.bW
 have o8:=T.hZ
 have oZ:=vQ (P:=P) (w:=w) (base:=base) T
 refine T.lO.ok rh (fun vs H Q E h=>?_) (fun di A outer s H vs Q E hr h=>?_)
 . obtain⟨_,_,_,_,rfl,_⟩:=h;rfl
 . obtain⟨_,y,x,t,rfl,rfl,hw,hb,Ek,D0,ZC,HG,q⟩:=h
   obtain⟨dx,hx⟩:=hw.i
   have hi:iL H (.ref y.x) a.aj [("unit",.int y.u),("slots",.int y.s),("span",.int (y.u*y.s)),("mask",.int y.m),("names_in",.ref y.dn)]:=⟨y.x,dx,rfl,hx⟩
   have s0:=wJ hb t
   have s1:=Bh hb t
   have s2:=hb.2.2.2
   refine⟨_,(af (aE (i:=3) rh.nd rfl (FF rfl) (az (pv 0) cl o8 oZ (hr.mono (by decide)) (ae (pv 2) ag)))
    (du (bC (El (C7 (iK hr) (pv 3) (aq (pv 0) rfl)) rfl)
     (ah (t9 (iK hr) (aq (pv 0) rfl) (pv 3) lQ rfl))
     aN)
    (af (t9 (iK hr) (ng (iK hr) (aq (pv 0) rfl) (pv 3) (fun _ _=>rfl)) (pv 1) yV rfl)
    (ah (aU (pv 0) (aB acf (aq (pv 0) rfl) (aB Ff au (pv 3))) rfl))))),?_⟩
   repeat' (walk_at "rd1")
   refine Bo rfl hw hb ?_
   generalize U6:f9 y t=slot at*
   refine iq (fun σ' H'=>∃pd,σ'=[some (.ref y.x),some (.str x),some (.int t),some (.int slot)]/\Mv y.foot H H'/\jB a.aj H' ⟨y.x,y.dn,y.u,y.s,y.m,uj y.cs slot pd⟩/\(∀b∈Wh.foot ⟨y.x,y.dn,y.u,y.s,y.m,uj y.cs slot pd⟩,b∈y.foot\/H b=none)/\(Wh.foot ⟨y.x,y.dn,y.u,y.s,y.m,uj y.cs slot pd⟩).Nodup) ?_ ?_
   . repeat' (walk_at "rd1")
     by_cases hp:(y.cs.any fun c=>decide (c.k=slot))=true
     . obtain⟨c,hc,hk⟩:=j8.mp hp
       refine⟨y.dn,some (.ref c.p),rfl,by rw [<-su D0 hc,hk];exact ip.k (k:=.inl slot) hw.d,false,rfl,?_⟩
       repeat' (walk_at "rd1")
       have e:uj y.cs slot y.dn=y.cs:=if_pos hp
       exact⟨y.dn,rfl,Mv.refl,by rw [e];exact hw,fun b hb=>.inl (by rw [e] at hb;exact hb),by rw [e];exact Ek⟩
     . have tQ:∀c∈y.cs,c.k≠slot:=fun c hc z=>hp (j8.mpr ⟨c,hc,z⟩)
       refine⟨y.dn,none,rfl,by rw [<-PN tQ];exact ip.k (k:=.inl slot) hw.d,true,rfl,?_⟩
       repeat' (walk_at "rd1")
       rename_i pd H2 mP px hd2
       have zc:=hw.keeps mP
       have e:uj y.cs slot pd=y.cs++[⟨slot,pd,[]⟩]:=if_neg hp
       refine⟨y.dn,_,rfl,Cz.k (k:=.inl slot) zc.d (by rw [SN];exact iP (by omega)),?_⟩
       have pJ:Mv [y.dn] H2 (upd H2 y.dn (.dK (putK (yp y.cs) (.inl slot) (.ref pd)))):=.aV zc.d (by intro _ z;cases z)
       have Jm:=hw.alive
       have Zw:∀b∈y.foot,b≠pd:=fun b hb z=>Jm b hb (z▸px)
       have hpd:pd≠y.dn:=fun z=>Zw y.dn (by simp [Wh.foot]) z.symm
       obtain⟨f1,f2,f3⟩:=zW Ek
       have hpf:(Wh.foot ⟨y.x,y.dn,y.u,y.s,y.m,uj y.cs slot pd⟩)=y.foot++[pd]:=by
        unfold Wh.foot
        rw [e];simp
       refine⟨pd,rfl,(mP.mv).trans (cW pJ fun b hb=>?_),⟨?_,?_,?_⟩,fun b hb=>?_,?_⟩
       . have:b=y.dn:=by simpa using hb
         rw [this];simp [Wh.foot]
       . obtain⟨dx2,MX⟩:=zc.i
         exact⟨dx2,pJ.at (by simpa using f1) MX⟩
       . show upd H2 y.dn _ y.dn=some (.dK (yp (uj y.cs slot pd)))
         rw [av,e,Fb tQ (ns:=[])]
       . intro c hc
         have hc:c∈uj y.cs slot pd:=hc
         rw [e] at hc
         rcases Cn.mp hc with hc|hc
         . exact(zc.c c hc).mv pJ (by simpa using (f2 c hc).2)
         . have hc:c=⟨slot,pd,[]⟩:=by simpa using hc
           subst hc
           exact hd2.mv pJ (by simpa using hpd)
       . rw [hpf] at hb
         rcases Cn.mp hb with hb|hb
         . exact .inl hb
         . have:b=pd:=by simpa using hb
           exact .inr (this▸px)
       . rw [hpf,Gc]
         refine⟨Ek,by simp,fun b hb b' Pj=>?_⟩
         have:b'=pd:=by simpa using Pj
         rw [this];exact Zw b hb
   . rintro σ' H' ⟨pd,rfl,mv,KC,Y9,ZX⟩
     obtain⟨dx',u3⟩:=KC.i
     have MF:iL H' (.ref y.x) a.aj [("unit",.int y.u),("slots",.int y.s),("span",.int (y.u*y.s)),("mask",.int y.m),("names_in",.ref y.dn)]:=⟨y.x,dx',rfl,u3⟩
     repeat' (walk_at "rd1")
     obtain⟨c,hc,hk⟩:=N9 y.cs slot pd
     have hcx:x∉c.ns/\c.ns.length<=3000:=by
      have wF:=hc
      unfold uj at wF
      split at wF
      . exact⟨(HG c wF).2 hk,(HG c wF).1⟩
      . rcases Cn.mp wF with wF|wF
        . exact⟨(HG c wF).2 hk,(HG c wF).1⟩
        . have wF:c=⟨slot,pd,[]⟩:=by simpa using wF
          subst wF
          exact⟨by simp,by simp⟩
     refine⟨y.dn,.ref c.p,rfl,by rw [<-su (Ky D0) hc,hk];exact ip.k (k:=.inl slot) KC.d,?_⟩
     repeat' (walk_at "rd1")
     refine OY (KC.c c hc) (by rw [R9];omega) (.bl true) rfl (fun H2 gL hd2=>?_)
     rw [Sh hcx.1] at hd2
     obtain⟨f1,f2,f3⟩:=zW ZX
     have MX:=gL.at (by simpa using LH (f2 c hc).1) u3
     have Ho:iL H2 (.ref y.x) a.aj [("unit",.int y.u),("slots",.int y.s),("span",.int (y.u*y.s)),("mask",.int y.m),("names_in",.ref y.dn)]:=⟨y.x,dx',rfl,MX⟩
     repeat' (walk_at "rd1")
     refine r_i ⟨s0,by omega,by decide⟩ ?_
     repeat' (walk_at "rd1")
     have pJ:Mv [y.x] H2 (upd H2 y.x (.ins a.aj dx' (Rg y.u y.s (P3 y.m (1*2^slot.toNat)) y.dn))):=.aV MX (by intro _ z;cases z)
     have ef:(y.wa slot (P3 y.m (1*2^slot.toNat)) pd x).foot=Wh.foot ⟨y.x,y.dn,y.u,y.s,y.m,uj y.cs slot pd⟩:=by
      unfold Wh.foot Wh.wa
      rw [<-AV,KB,show(Sl.p ∘ qv slot x)=Sl.p from funext (Hv slot x)]
     have Zi:y.x∈y.foot:=by simp [Wh.foot]
     have hcp:c.p∈y.foot\/H c.p=none:=Y9 c.p (AD _ (AD _ (Cs (f:=(·.p)) hc)))
     refine q _ pd (Mv.step (Mv.step mv gL fun b hb=>(AN.mp hb)▸hcp) pJ fun b hb=>.inl ((AN.mp hb)▸Zi)) ⟨⟨dx',av⟩,?_,?_⟩ (by rw [ef];exact ZX) (by rw [ef];exact Y9)
     . show upd H2 y.x _ y.dn=some (.dK (yp (rp y.cs slot pd x)))
       rw [<-AV,JZ (p8 slot x) (Hv slot x)]
       exact pJ.at (by simpa using LH f1) (gL.at (by simpa using LH (f2 c hc).2) KC.d)
     . intro d hd
       have hd:d∈rp y.cs slot pd x:=hd
       rw [<-AV] at hd
       obtain⟨d0,FY,rfl⟩:=AT.mp hd
       have hpx:(qv slot x d0).p≠y.x:=by rw [Hv];exact(f2 d0 FY).1
       by_cases e:d0=c
       . subst e
         have:qv slot x d0=⟨d0.k,d0.p,d0.ns++[x]⟩:=if_pos hk
         rw [this]
         exact hd2.mv pJ (by simpa using (f2 d0 FY).1)
       . have hk0:d0.k≠slot:=fun z=>e (Ka (Ky D0) FY hc (z.trans hk.symm))
         have:qv slot x d0=d0:=if_neg hk0
         rw [this]
         exact((KC.c d0 FY).mv gL (by simpa using fun z=>e (VA f3 FY hc z))).mv pJ (by simpa using (f2 d0 FY).1)
theorem Lv (T:Txt K mg a):cT P w K mg base 2 a.dB ["self","name","time"] [] (Fv a.aj):=
 ⟨⟨_,_,NF T,T.lO.binds fun _ _ _ _ _ _=>iC fun _ _ _=>rfl,.nil⟩⟩
theorem IX (cs:List Sl) (slot:Int) (x:Str) (pk:∀c∈cs,c.ns≠[]) (he:∀c∈cs,c.k=slot->(c.ns.filter fun y=>!decide (y=x))=[]):mJ (cs.map (eB slot x)) slot=zJ cs slot x:=by
 unfold mJ zJ
 refine TM fun c hc=>?_
 obtain⟨c0,zU,rfl⟩:=AT.mp hc
 rw [gn]
 unfold eB
 split
 . rename_i h
   simp only [h,he c0 zU h]
   rfl
 . rename_i h
   have:=pk c0 zU
   cases e:c0.ns with
   |nil=>exact absurd e this
   |cons=>simp [h]
theorem K9 (cs:List Sl) (slot:Int) (x:Str) (pk:∀c∈cs,c.ns≠[]) (he:∀c∈cs,c.k=slot->(c.ns.filter fun y=>!decide (y=x))≠[]):cs.map (eB slot x)=zJ cs slot x:=by
 unfold zJ
 rw [eq_comm,Aal]
 intro c hc
 obtain⟨c0,zU,rfl⟩:=AT.mp hc
 unfold eB
 split
 . rename_i h
   have:=he c0 zU h
   cases e:c0.ns.filter fun y=>!decide (y=x) with
   |nil=>exact absurd e this
   |cons=>simp
 . rename_i h
   have:=pk c0 zU
   cases e:c0.ns with
   |nil=>exact absurd e this
   |cons=>simp
theorem LY (cs:List Sl) (slot:Int):((mJ cs slot).map (·.p)).Sublist (cs.map (·.p)):=(JJ).map _
theorem ED (w:Wh) (slot m:Int):(w.emptied slot m).foot.Sublist w.foot:=by
 unfold Wh.foot Wh.emptied
 exact((LY w.cs slot).cons₂ _).cons₂ _
def GU (CW:Addr):Sp:=fun vs H Q _=>∃(z:Addr) (y:Wh) (slot:Int) (c:Sl),vs=[.ref z,.int slot]/\z=y.x/\jB CW H y/\MR y/\y.foot.Nodup/\(y.cs.map (·.k)).Nodup/\c∈y.cs/\c.k=slot/\0<=slot/\slot<60/\
 ∀l H',Mv y.foot H H'->jB CW H' (y.emptied slot (Na y.m (1*2^slot.toNat)))->H l=none->eF H' l (c.ns.map GM)->Q (.ref l) H'
theorem Ny (T:Txt K mg a):aS P w K mg base eP 1 a.ez a.tY ["self","slot"] (GU a.aj):=by
 have n1:=T.bS;have n2:=T.cX;have cl:=T.bW
 refine T.oe.ok Bw (fun vs H Q E h=>?_) (fun di A outer s H vs Q E hr h=>?_)
 . obtain⟨_,_,_,_,rfl,_⟩:=h;rfl
 . obtain⟨_,y,slot,c,rfl,rfl,hw,hb,Ek,D0,hc,hk,s0,s1,q⟩:=h
   obtain⟨dx,hx⟩:=hw.i
   have hi:iL H (.ref y.x) a.aj [("unit",.int y.u),("slots",.int y.s),("span",.int (y.u*y.s)),("mask",.int y.m),("names_in",.ref y.dn)]:=⟨y.x,dx,rfl,hx⟩
   obtain⟨f1,f2,f3⟩:=zW Ek
   refine⟨_,(af (aU (pv 0) (aB P5 (aq (pv 0) rfl) (aB Ff au (pv 1))) rfl)
    (ah (aF (De (Iy rfl) rfl T.pU WA (ae (jC KF No OE qk (aq (pv 0) rfl) (ae (pv 1) ag)) ag))))),?_⟩
   repeat' (walk_at "rd1")
   refine r_i ⟨s0,by omega,by decide⟩ ?_
   repeat' (walk_at "rd1")
   have iM:Mv [y.x] H (upd H y.x (.ins a.aj dx (Rg y.u y.s (Na y.m (1*2^slot.toNat)) y.dn))):=.aV hx (by intro _ z;cases z)
   have hx1:upd H y.x (.ins a.aj dx (Rg y.u y.s (Na y.m (1*2^slot.toNat)) y.dn)) y.x=some (.ins a.aj dx (Rg y.u y.s (Na y.m (1*2^slot.toNat)) y.dn)):=av
   have ep:lq "mask" (.int (Na y.m (1*2^slot.toNat))) (Rg y.u y.s y.m y.dn)=Rg y.u y.s (Na y.m (1*2^slot.toNat)) y.dn:=by unfold Rg;walk_at "put"
   rw [ep]
   have Ay:=iM.at (by simpa using LH f1) hw.d
   have WR:∀d∈y.cs,nW _ d.p (Fq d.ns):=fun d hd=>(hw.c d hd).mv iM (by simpa using (f2 d hd).1)
   generalize upd H y.x (.ins a.aj dx (Rg y.u y.s (Na y.m (1*2^slot.toNat)) y.dn))=H1 at*
   refine⟨.inr (.inr (.inl ⟨rfl,.inl ⟨_,Ay⟩⟩)),?_⟩
   repeat' (walk_at "rd1")
   refine⟨y.dn,yp y.cs,.inl slot,.ref c.p,rfl,rfl,Ay,by rw [<-hk];exact su D0 hc,?_⟩
   rw [Qt]
   have gL:Mv [y.dn] H1 (upd H1 y.dn (.dK (yp (mJ y.cs slot)))):=.aV Ay (by intro _ z;cases z)
   have hd2:upd H1 y.dn (.dK (yp (mJ y.cs slot))) y.dn=some (.dK (yp (mJ y.cs slot))):=av
   have MX:=gL.at (by simpa using f1) hx1
   have QY:∀d∈y.cs,nW _ d.p (Fq d.ns):=fun d hd=>(WR d hd).mv gL (by simpa using (f2 d hd).2)
   generalize upd H1 y.dn (.dK (yp (mJ y.cs slot)))=H2 at*
   repeat' (walk_at "rd1")
   refine R7 (QY c hc).rd (fun l H3 sm3 um Tw=>?_)
   repeat' (walk_at "rd1")
   have Zi:y.x∈y.foot:=by simp [Wh.foot]
   have hfd:y.dn∈y.foot:=by simp [Wh.foot]
   have mv:Mv y.foot H H2:=(cW iM fun b hb=>(AN.mp hb)▸Zi).trans (cW gL fun b hb=>(AN.mp hb)▸hfd)
   refine q l H3 (mv.zb sm3) ⟨⟨dx,sm3 _ _ MX⟩,sm3 _ _ hd2,fun d hd=>(QY d (CS.mp hd).1).keeps sm3⟩ (mv.none um) ?_
   have e:(Fq c.ns).map (·.1)=c.ns:=by unfold Fq;rw [KB];exact List.map_id _
   rw [e] at Tw;exact Tw
theorem Dp (T:Txt K mg a):cT P w K mg base 1 a.ez ["self","slot"] [] (GU a.aj):=
 ⟨⟨_,_,Ny T,T.oe.binds fun _ _ _ _ _ _=>eC fun _ _=>rfl,.nil⟩⟩
theorem QQ (cs:List Sl) (slot:Int) (x:Str):((zJ cs slot x).map (·.p)).Sublist (cs.map (·.p)):=by
 unfold zJ
 have h:=(JJ (p:=fun c:Sl=>!c.ns.isEmpty) (l:=cs.map (eB slot x))).map (·.p)
 rwa [KB,show(Sl.p ∘ eB slot x)=Sl.p from funext (ER slot x)] at h
theorem GF (w:Wh) (slot m:Int) (x:Str):(w.lH slot m x).foot.Sublist w.foot:=by
 unfold Wh.foot Wh.lH
 exact((QQ w.cs slot x).cons₂ _).cons₂ _
def Kv (CW:Addr):Sp:=fun vs H Q _=>∃(z:Addr) (y:Wh) (x:Str) (t:Int) (c:Sl),vs=[.ref z,.str x,.int t]/\z=y.x/\jB CW H y/\MR y/\y.foot.Nodup/\(y.cs.map (·.k)).Nodup/\(∀d∈y.cs,d.ns≠[])/\c∈y.cs/\c.k=f9 y t/\x∈c.ns/\
 ∀H' m,Mv y.foot H H'->jB CW H' (y.lH (f9 y t) m x)->(iB y->iB (y.lH (f9 y t) m x))->Q .a9 H'
theorem SA (T:Txt K mg a):aS P w K mg base eP 2 a.cm a.nI ["self","name","time"] (Kv a.aj):=by
 have n1:=T.bS;have n2:=T.cX;have cl:=T.bW
 have o8:=T.hZ;have Eu:=T.oE
 have oZ:=vQ (P:=P) (w:=w) (base:=base) T
 have EG:=Dp (P:=P) (w:=w) (base:=base) T
 refine T.jI.ok mX (fun vs H Q E h=>?_) (fun di A outer s H vs Q E hr h=>?_)
 . obtain⟨_,_,_,_,_,rfl,_⟩:=h;rfl
 . obtain⟨_,y,x,t,c,rfl,rfl,hw,hb,Ek,D0,pk,hc,hk,Pr,q⟩:=h
   obtain⟨dx,hx⟩:=hw.i
   have hi:iL H (.ref y.x) a.aj [("unit",.int y.u),("slots",.int y.s),("span",.int (y.u*y.s)),("mask",.int y.m),("names_in",.ref y.dn)]:=⟨y.x,dx,rfl,hx⟩
   obtain⟨f1,f2,f3⟩:=zW Ek
   have s0:=wJ hb t
   have s1:=Bh hb t
   have s2:=hb.2.2.2
   refine⟨_,(af (aE (i:=3) mX.nd rfl (FF rfl) (az (pv 0) cl o8 oZ (hr.mono (by decide)) (ae (pv 2) ag)))
    (af (aI (jC KF No OE qk (ng (iK hr) (aq (pv 0) rfl) (pv 3) (fun _ _=>rfl)) (ae (pv 1) ag)))
    (ah (bC (iu (bx (ng (iK hr) (aq (pv 0) rfl) (pv 3) (fun _ _=>rfl)) (fun _=>rfl)))
     (ah (aI (az (pv 0) cl Eu EG (hr.mono (by decide)) (ae (pv 3) ag))))
     aN)))),?_⟩
   repeat' (walk_at "rd1")
   refine Bo rfl hw hb ?_
   generalize U6:f9 y t=slot at*
   repeat' (walk_at "rd1")
   refine⟨y.dn,.ref c.p,rfl,by rw [<-su D0 hc,hk];exact ip.k (k:=.inl slot) hw.d,?_⟩
   have hdc:=hw.c c hc
   refine Hl hdc ?_
   repeat' (walk_at "rd1")
   refine Eo hdc (Oo Pr) (fun v1 H1 iM Ay=>?_)
   rw [Qj] at Ay
   have hx1:=iM.at (by simpa using LH (f2 c hc).1) hx
   have uY:iL H1 (.ref y.x) a.aj [("unit",.int y.u),("slots",.int y.s),("span",.int (y.u*y.s)),("mask",.int y.m),("names_in",.ref y.dn)]:=⟨y.x,dx,rfl,hx1⟩
   have aaf:=iM.at (by simpa using LH (f2 c hc).2) hw.d
   have kvt:yp (y.cs.map (eB slot x))=yp y.cs:=JZ (gn slot x) (ER slot x)
   have jA:jB a.aj H1 ⟨y.x,y.dn,y.u,y.s,y.m,y.cs.map (eB slot x)⟩:=by
    refine⟨⟨dx,hx1⟩,?_,fun d hd=>?_⟩
    . show H1 y.dn=some (.dK (yp (y.cs.map (eB slot x))))
      rw [kvt];exact aaf
    . obtain⟨d0,FY,rfl⟩:=AT.mp hd
      by_cases e:d0=c
      . subst e
        have:eB slot x d0=⟨d0.k,d0.p,d0.ns.filter fun y=>!decide (y=x)⟩:=if_pos hk
        rw [this];exact Ay
      . have hk0:d0.k≠slot:=fun z=>e (Ka D0 FY hc (z.trans hk.symm))
        have:eB slot x d0=d0:=if_neg hk0
        rw [this]
        exact(hw.c d0 FY).mv iM (by simpa using fun z=>e (VA f3 FY hc z))
   have hcp:c.p∈y.foot:=AD _ (AD _ (Cs (f:=(·.p)) hc))
   have NS:Mv y.foot H H1:=cW iM fun b hb=>(AN.mp hb)▸hcp
   have huq:∀d∈y.cs,d.k=slot->d=c:=fun d hd z=>Ka D0 hd hc (z.trans hk.symm)
   repeat' (walk_at "rd1")
   refine⟨y.dn,.ref c.p,rfl,by rw [<-su D0 hc,hk];exact ip.k (k:=.inl slot) aaf,?_⟩
   refine JV Ay ?_
   repeat' (walk_at "rd1")
   . rename_i YN
     have he:(c.ns.filter fun y=>!decide (y=x))=[]:=by
      cases e:c.ns.filter fun y=>!decide (y=x) with
      |nil=>rfl
      |cons=>rw [e] at YN;simp [Fq] at YN
     have ef:Wh.foot ⟨y.x,y.dn,y.u,y.s,y.m,y.cs.map (eB slot x)⟩=y.foot:=by
      unfold Wh.foot
      rw [KB,show(Sl.p ∘ eB slot x)=Sl.p from funext (ER slot x)]
     refine⟨y.x,⟨y.x,y.dn,y.u,y.s,y.m,y.cs.map (eB slot x)⟩,slot,eB slot x c,rfl,rfl,jA,hb,by rw [ef];exact Ek,?_,Cs hc,by rw [gn];exact hk,s0,by omega,fun l H2 gL zc _ _=>?_⟩
     . rw [KB,show(Sl.k ∘ eB slot x)=Sl.k from funext (gn slot x)];exact D0
     . repeat' (walk_at "rd1")
       rw [ef] at gL
       have edr:=IX y.cs slot x pk fun d hd z=>by rw [huq d hd z];exact he
       refine q H2 (Na y.m (1*2^slot.toNat)) (NS.trans gL) ?_ fun hm=>?_
       . have:=zc
         unfold Wh.emptied at this
         rw [edr] at this
         exact this
       . have:=An (w:=⟨y.x,y.dn,y.u,y.s,y.m,y.cs.map (eB slot x)⟩) (slot:=slot) ⟨hm.1,fun i=>(hm.2 i).trans (F7 ⟨fun⟨d,hd,e⟩=>⟨_,Cs hd,by rw [gn];exact e⟩,fun⟨d,hd,e⟩=>by obtain⟨d0,FY,rfl⟩:=AT.mp hd;rw [gn] at e;exact⟨d0,FY,e⟩⟩)⟩ s0 (Cs hc) (by rw [gn];exact hk)
         unfold Wh.emptied at this
         rw [edr] at this
         exact this
   . rename_i YN
     have he:(c.ns.filter fun y=>!decide (y=x))≠[]:=fun e=>by rw [e] at YN;simp [Fq] at YN
     have ekp:=K9 y.cs slot x pk fun d hd z=>by rw [huq d hd z];exact he
     refine q H1 y.m NS ?_ fun hm=>?_
     . unfold Wh.lH
       rw [<-ekp]
       exact jA
     . unfold Wh.lH
       rw [<-ekp]
       exact⟨hm.1,fun i=>(hm.2 i).trans (F7 ⟨fun⟨d,hd,e⟩=>⟨_,Cs hd,by rw [gn];exact e⟩,fun⟨d,hd,e⟩=>by obtain⟨d0,FY,rfl⟩:=AT.mp hd;rw [gn] at e;exact⟨d0,FY,e⟩⟩)⟩
theorem Og (T:Txt K mg a):cT P w K mg base 2 a.cm ["self","name","time"] [] (Kv a.aj):=
 ⟨⟨_,_,SA T,T.jI.binds fun _ _ _ _ _ _=>iC fun _ _ _=>rfl,.nil⟩⟩
def GQ:Sp:=fun vs H Q _=>∃(f:Addr) (eI:List (Int × Str)) (v:V) (c:Int × Str),vs=[.ref f,v]/\eF H f (eI.map pairD)/\Dv H v (pairD c)/\eI.length<=3000/\(eI.Pairwise fun c d=>bw d c=true)/\∀i:Nat,Plc eI c i->Q (.int i) H
theorem Pb (T:Txt K mg a):aS P w K mg base eP 1 a.fV a.yP ["row","pair"] GQ:=by
 refine T.vS.ok iE (fun vs H Q E h=>?_) (fun di A outer s H vs Q E hr h=>?_)
 . obtain⟨_,_,_,_,rfl,_⟩:=h;rfl
 . obtain⟨f,eI,v,c,rfl,hf,hv,hlen,Rh,q⟩:=h
   have hfl:(eI.map pairD).length=eI.length:=AL ..
   refine⟨_,(af (aE (i:=2) iE.nd rfl (FF rfl) au)
    (af (aE (i:=3) iE.nd rfl (FF rfl) (cg lB rfl T.qB Aag (ae (pv 0) ag)))
    (af (sg Lo (aL zp (pv 2) (pv 3) (aR _))
     (af (aE (i:=4) iE.nd rfl (FF rfl) (aB ck (aB bq (pv 2) (pv 3)) au))
     (ah (bC (aL (Yw (Nat.lt_of_succ_lt (iK hr))) (jZ sN (pv 0) (pv 4) (fun _ _=>rfl)) (pv 1) (aR _))
      (ah (aE (i:=2) iE.nd rfl (FF rfl) (aB bq (pv 4) au)))
      (ah (aE (i:=3) iE.nd rfl (FF rfl) (pv 4)))))))
    (ah (aF (pv 2)))))),?_⟩
   repeat' (walk_at "rd1")
   refine wV (fun m σ' H'=>∃(lo hi:Nat) (z:Option V),σ'=[some (.ref f),some v,some (.int lo),some (.int hi),z]/\H'=H/\m=hi - lo/\lo<=hi/\hi<=eI.length/\(∀j d,j<lo->eI[j]? =some d->bw c d=true)/\∀j d,hi<=j->eI[j]? =some d->bw c d=false) ⟨eI.length,0,eI.length,none,rfl,rfl,rfl,IR _,BY _,fun j d h=>by omega,fun j d h hd=>by have:=(AS.mp hd).1;omega⟩ ?_
   rintro m σ' H' ⟨lo,hi,z,rfl,rfl,rfl,h1,h2,h3,h4⟩
   repeat' (walk_at "rd1")
   . rename_i hb x hx
     have acn:((lo:Int)+hi) / 2=(((lo+hi) / 2:Nat):Int):=by omega
     have Zj:(lo+hi) / 2<eI.length:=by omega
     have RL:lo<=(lo+hi) / 2:=by omega
     have hm2:(lo+hi) / 2<hi:=by omega
     rw [acn,NG,NJ,AC Zj,Option.getD_some] at hx
     rw [acn]
     have Vt:eI[(lo+hi) / 2]? =some eI[(lo+hi) / 2]:=AC Zj
     generalize eI[(lo+hi) / 2]=e at hx Vt
     generalize (lo+hi) / 2=mid at*
     refine aaT hx hv ?_
     have pw:=On.mp Rh
     have pw2:∀i j d1 d2,i<j->eI[i]? =some d1->eI[j]? =some d2->bw d2 d1=true:=fun i j d1 d2 x5 e1 e2=>by
      obtain⟨a1,rfl⟩:=AS.mp e1
      obtain⟨a2,rfl⟩:=AS.mp e2
      exact pw i j a1 a2 x5
     repeat' (walk_at "rd1")
     . rename_i iF
       refine⟨hi - (mid+1),by omega,mid+1,hi,some (.int mid),rfl,rfl,rfl,by omega,h2,fun j d hj hd=>?_,h4⟩
       by_cases e1:j=mid
       . subst e1
         rw [Vt] at hd;cases hd;exact iF
       . exact vk iF (pw2 j mid d e (by omega) hd Vt)
     . rename_i iF
       refine⟨mid - lo,by omega,lo,mid,some (.int mid),rfl,rfl,rfl,RL,by omega,h3,fun j d hj hd=>?_⟩
       by_cases e1:j=mid
       . subst e1
         rw [Vt] at hd;cases hd
         exact iF
       . cases e2:bw c d with
         |false=>rfl
         |true=>rw [vk e2 (pw2 mid j e d (by omega) Vt hd)] at iF;cases iF
   . rename_i hb
     have e:lo=hi:=by omega
     subst e
     exact q lo ⟨h2,h3,h4⟩
theorem Dz (T:Txt K mg a):cT P w K mg base 1 a.fV ["row","pair"] [] GQ:=
 ⟨⟨_,_,Pb T,T.vS.binds fun _ _ _ _ _ _=>eC fun _ _=>rfl,.nil⟩⟩
def Vc (n:Int) (d q f m:Addr):List (Str × V):=[("now",.int n),("times",.ref d),("wheels",.ref q),("far",.ref f),("moves",.ref m)]
def AQ (C CW:Addr):Sp:=fun vs H Q _=>∃(p dx d m:Addr) (n:Int) (G:fG) (us:List (Int × Int)) (t nw:Int),vs=[.ref p,.int t,.int nw]/\H p=some (.ins C dx (Vc n d G.q G.f m))/\zG CW H G/\G.ws.map (fun w=>(w.u,w.s))=us/\E4 us/\∀H',aA H H'->Q (.int (iz us t nw:Nat)) H'
theorem HW (T:Txt K mg a):aS P w K mg base eP 2 a.bR a.mK ["self","time","now"] (AQ a.ai a.aj):=by
 have n1:=T.bo;have cl:=T.aQ
 have Cg:=Dy (P:=P) (w:=w) (base:=base) T
 refine T.jn.ok iA (fun vs H Q E h=>?_) (fun di A outer s H vs Q E hr h=>?_)
 . obtain⟨_,_,_,_,_,_,_,_,_,rfl,_⟩:=h;rfl
 . obtain⟨p,dx,d,m,n,G,us,t,nw,rfl,hp,hg,Et,bE,q⟩:=h
   have hi:iL H (.ref p) a.ai [("now",.int n),("times",.ref d),("wheels",.ref G.q),("far",.ref G.f),("moves",.ref m)]:=⟨p,dx,rfl,hp⟩
   have UN:us.length=G.ws.length:=by rw [<-Et,AL]
   refine⟨_,(af (mx Lo rfl (RT rfl T.kY (ae (aq (pv 0) rfl) ag)) (EJ (n:=2) rfl (gY (cf (i:=3) iA.nd rfl (FF rfl)) (gY (cf (i:=4) iA.nd rfl (FF rfl)) xK)))
    (ah (bC (bx (az (pv 4) T.bW T.oJ Cg (hr.mono (by decide)) (ae (pv 1) (ae (pv 2) ag))) (fun _=>rfl))
     (ah (aF (pv 3)))
     aN)))
    (ah (aF (cg lB rfl T.qB Aag (ae (aq (pv 0) rfl) ag))))),?_⟩
   repeat' (walk_at "rd1")
   refine aaI (xs:=G.ws.map fun w=>V.ref w.x) (fun i σ' H'=>∃z1 z2,σ'=[some (.ref p),some (.int t),some (.int nw),z1,z2]/\aA H H'/\∀j q,j<i->us[j]? =some q->¬t / (q.1*q.2)=nw / (q.1*q.2)) ⟨_,_,rfl,aA.refl _,fun j q h=>by omega⟩ (fun i σ' H' _ ⟨_,_,_,sm,_⟩=>sm _ _ hg.q) ?_ ?_
   . rintro i x tt σ' H' hx ⟨z1,z2,rfl,sm,tQ⟩ htt
     obtain⟨y,hy,rfl⟩:∃y,G.ws[i]? =some y/\V.ref y.x=x:=by
      rw [EU] at hx
      cases e:G.ws[i]? with
      |none=>rw [e] at hx;cases hx
      |some y=>rw [e] at hx;exact⟨y,rfl,CC hx⟩
     have hui:us[i]? =some (y.u,y.s):=by rw [<-Et,EU,hy];rfl
     have mP:aA H (upd H' tt (.tup [.int (i:Int),.ref y.x])):=sm.trans (dX htt)
     refine Ya av ?_
     generalize upd H' tt (.tup [.int (i:Int),.ref y.x])=H2 at*
     have GN:=(hg.w y (B0 hy)).keeps mP
     obtain⟨RY,Hq⟩:=GN.i
     have hiy:iL H2 (.ref y.x) a.aj [("unit",.int y.u),("slots",.int y.s),("span",.int (y.u*y.s)),("mask",.int y.m),("names_in",.ref y.dn)]:=⟨y.x,RY,rfl,Hq⟩
     repeat' (walk_at "rd1")
     refine JQ rfl GN (bE _ (B0 hui)) ?_
     repeat' (walk_at "rd1")
     . rename_i hb
       have e:iz us t nw=i:=EW tQ (.inr ⟨_,hui,hb⟩)
       have:=q H2 mP
       rw [e] at this
       exact this
     . rename_i hb
       refine⟨_,_,rfl,mP,fun j q hj hq=>?_⟩
       by_cases e:j=i
       . subst e
         rw [hui] at hq;cases hq;exact hb
       . exact tQ j q (by omega) hq
   . rintro σ' H' ⟨z1,z2,rfl,sm,tQ⟩
     have uY:=hi.keeps sm
     have zx:=sm _ _ hg.q
     repeat' (walk_at "rd1")
     refine EF (.of zx) ?_
     rw [AL] at tQ ⊢
     have e:iz us t nw=G.ws.length:=EW tQ (.inl UN.symm)
     have:=q H' sm
     rw [e] at this
     exact this
theorem zo (T:Txt K mg a):cT P w K mg base 2 a.bR ["self","time","now"] [] (AQ a.ai a.aj):=
 ⟨⟨_,_,HW T,T.jn.binds fun _ _ _ _ _ _=>iC fun _ _ _=>rfl,.nil⟩⟩
def Px (C CW:Addr):Sp:=fun vs H Q _=>∃(p dx d m:Addr) (n:Int) (G:fG) (us:List (Int × Int)) (ts:List (Str × Int)) (x:Str) (t nw:Int),vs=[.ref p,.str x,.int t,.int nw]/\H p=some (.ins C dx (Vc n d G.q G.f m))/\zG CW H G/\GI us nw ts G/\E4 us/\p∉G.foot/\x∉ts.map (·.1)/\ts.length<=2000/\
 ∀H' G',Mv G.foot H H'->zG CW H' G'->GI us nw (ts++[(x,t)]) G'->G'.q=G.q->G'.f=G.f->(∀b∈G'.foot,b∈G.foot\/H b=none)->Q .a9 H'
theorem Nw {ws:List Wh} {k:Nat} {y:Wh} (h:ws[k]? =some y):zg (ws.map fun w=>V.ref w.x) (k:Int)=some (.ref y.x):=by
 obtain⟨hk,rfl⟩:=AS.mp h
 unfold zg M0
 rw [if_pos (by omega),AL,if_pos (by omega)]
 simp [hk]
theorem Yu (T:Txt K mg a):aS P w K mg base eP 3 a.bP a.lX ["self","name","time","now"] (Px a.ai a.aj):=by
 have n1:=T.bo;have n2:=T.d7;have cl:=T.aQ
 have vo:=T.jo
 have vG:=zo (P:=P) (w:=w) (base:=base) T
 have BP:=Lv (P:=P) (w:=w) (base:=base) T
 have vU:=Dz (P:=P) (w:=w) (base:=base) T
 refine T.iS.ok mr (fun vs H Q E h=>?_) (fun di A outer s H vs Q E hr h=>?_)
 . obtain⟨_,_,_,_,_,_,_,_,_,_,_,rfl,_⟩:=h;rfl
 . obtain⟨p,dx,d,m,n,G,us,ts,x,t,nw,rfl,hp,hg,rC,bE,hpf,hx,hlen,q⟩:=h
   have hi:iL H (.ref p) a.ai [("now",.int n),("times",.ref d),("wheels",.ref G.q),("far",.ref G.f),("moves",.ref m)]:=⟨p,dx,rfl,hp⟩
   have UN:=rC.len
   refine⟨_,(af (aE (i:=4) mr.nd rfl (FF rfl) (az (pv 0) cl vo vG (hr.mono (by decide)) (ae (pv 2) (ae (pv 3) ag))))
    (ah (bC (aL zp (pv 4) (cg lB rfl T.qB Aag (ae (aq (pv 0) rfl) ag)) (aR _))
     (ah (aI (az (jZ sN (aq (pv 0) rfl) (pv 4) (fun _ _=>rfl)) T.bW T.sD BP (hr.mono (by decide)) (ae (pv 1) (ae (pv 2) ag)))))
     (ah (aI (jC GS PySem.F.slot_list_insert PySem.F.type_list_insert Mz (aq (pv 0) rfl) (ae (aX vU (hr.mono (by decide)) rfl T.sZ T.rJ (ae (aq (pv 0) rfl) (ae (dN (ae (pv 2) (ae (pv 1) ag))) ag))) (ae (dN (ae (pv 2) (ae (pv 1) ag))) ag)))))))),?_⟩
   repeat' (walk_at "rd1")
   refine⟨p,dx,d,m,n,G,us,t,nw,rfl,hp,hg,rC.eu,bE,fun H1 E6=>?_⟩
   have uY:=hi.keeps E6
   have Kh:=hg.keeps E6
   repeat' (walk_at "rd1")
   refine EF (.of Kh.q) ?_
   rw [AL]
   repeat' (walk_at "rd1")
   . rename_i hb
     have iF:iz us t nw<G.ws.length:=by omega
     have hy:G.ws[iz us t nw]? =some G.ws[iz us t nw]:=AC iF
     generalize G.ws[iz us t nw]=y at hy
     refine JB (.of Kh.q) (Nw hy) ?_
     have Zy:=B0 hy
     have GN:=Kh.w y Zy
     have Rb:=rC.bnd bE hy
     obtain⟨aiU,agk⟩:=rC.small bE hy
     have FG:=rC.wh _ y hy
     obtain⟨RY,Hq⟩:=GN.i
     have hiy:iL H1 (.ref y.x) a.aj [("unit",.int y.u),("slots",.int y.s),("span",.int (y.u*y.s)),("mask",.int y.m),("names_in",.ref y.dn)]:=⟨y.x,RY,rfl,Hq⟩
     repeat' (walk_at "rd1")
     have Nt:y.foot.Nodup:=by
      have:=hg.CT.2.2
      obtain⟨e1,_⟩:=xr hy y
      rw [e1,LS,PP,Gc,Gc] at this
      exact this.2.1.1
     refine⟨y.x,y,x,t,rfl,rfl,GN,Rb,Nt,FG.nd,by omega,fun c hc=>⟨by have:=agk c hc;omega,fun _ Pr=>?_⟩,fun H2 pd gL zc Rq z9=>?_⟩
     . obtain⟨t',WN,_⟩:=(FG.mem x c.k).mp ⟨c,hc,rfl,Pr⟩
       exact hx (AT.mpr ⟨_,WN,rfl⟩)
     . repeat' (walk_at "rd1")
       obtain⟨Nc,Y9⟩:=Kh.set hy gL zc rfl Rq z9
       refine q H2 _ ((E6.mv).trans (cW gL (oG Zy))) Nc (rC.lay hx hy (by have:=Rb.2.2.1;omega) (OS FG.mk' (wJ Rb t))) rfl rfl fun b hb=>?_
       rcases Y9 b hb with r|r
       . exact .inl r
       . exact .inr (E6.none r)
   . rename_i hb
     have Rx:iz us t nw=us.length:=by have:=vp us t nw;omega
     have hfl:=rC.Ji
     have hf1:=Kh.f
     refine PX hf1 ?_
     repeat' (walk_at "rd1")
     rename_i v2 H2 mP Yc
     have Rq:=hf1.keeps mP
     refine⟨G.f,G.eI,v2,(t,x),rfl,Rq,Yc,by omega,rC.MG,fun i MF=>?_⟩
     repeat' (walk_at "rd1")
     rename_i v3 H3 sm3 hv3
     have Zk:=Rq.keeps sm3
     refine WL Zk (k:=(t,x)) hv3 (by omega) (by have:=MF.1;omega) (by omega) (fun H4 ud Rn=>?_)
     repeat' (walk_at "rd1")
     rw [NG] at Rn
     have sm:=(E6.trans mP).trans sm3
     have hgf:G.f∈G.foot:=by simp [fG.foot]
     exact q H4 _ ((sm.mv).trans (cW ud fun b hb=>(AN.mp hb)▸hgf)) ((hg.keeps sm).aa1 ud Rn) (rC.XO hx Rx MF) rfl rfl fun b hb=>.inl hb
theorem Kn (T:Txt K mg a):cT P w K mg base 3 a.bP ["self","name","time","now"] [] (Px a.ai a.aj):=
 ⟨⟨_,_,Yu T,T.iS.binds fun _ _ _ _ _ _=>Vw fun _ _ _ _=>rfl,.nil⟩⟩
def sA (ts:List (Str × Int)):List (Str × BB):=ts.map fun x=>(x.1,.int x.2)
theorem zX (ts:List (Str × Int)):(sA ts).length=ts.length:=AL ..
theorem Jy (ts:List (Str × Int)) (x:Str) (t:Int):sA (ts++[(x,t)])=sA ts++[(x,.int t)]:=by unfold sA;rw [Da];rfl
theorem Gn {m:List (Str × BB)} {k:Str} {d:BB} (h:uq m k=none):putD m k d=m++[(k,d)]:=by
 unfold putD
 rw [if_neg]
 unfold uq at h
 rw [Wp,WP] at h
 simp only [Mn,not_exists,not_and]
 exact h
theorem AW (ts:List (Str × Int)) (x:Str):tK (sA ts) x=sA (jj ts x):=by
 unfold tK sA jj
 rw [Aaw]
 congr 1
 refine TM fun y _=>?_
 simp
theorem Ee {ts:List (Str × Int)} {x:Str} (h:x∉ts.map (·.1)):uq (sA ts) x=none:=by
 unfold uq sA
 rw [Wp,WP]
 intro kv Zg
 obtain⟨y,hy,rfl⟩:=AT.mp Zg
 have:y.1≠x:=fun z=>h (z▸Cs (f:=(·.1)) hy)
 simpa using this
theorem Ax {ts:List (Str × Int)} (h:(ts.map (·.1)).Nodup) {x:Str} {t:Int} (hx:(x,t)∈ts):uq (sA ts) x=some (.int t):=by
 unfold uq sA
 rw [List.find?_map]
 induction ts with
 |nil=>cases hx
 |cons y r ih=>
  rw [EO,EN] at h
  rw [Q2]
  by_cases e:y.1=x
  . simp only [Aa4,e,decide_true]
    rcases AE.mp hx with rfl|u3
    . rfl
    . exact absurd (Cs (f:=(·.1)) u3) (e▸h.1)
  . simp only [Aa4,e,decide_false]
    rcases AE.mp hx with rfl|u3
    . exact absurd rfl e
    . exact ih h.2 u3
theorem OA {ts:List (Str × Int)} {x:Str} {t:Int} (h:uq (sA ts) x=some (.int t)):(x,t)∈ts:=by
 unfold uq at h
 obtain⟨kv,h1,h2⟩:=Pe.mp h
 have h3:=List.find?_some h1
 obtain⟨y,hy,rfl⟩:=AT.mp (Aah h1)
 have e1:y.1=x:=by simpa using h3
 have e2:y.2=t:=by
  have:Sm y.2=.int t:=h2
  injection this
 rw [<-e1,<-e2];exact hy
theorem Kl {ts:List (Str × Int)} {x:Str} {e:BB} (h:uq (sA ts) x=some e):∃t,e=.int t:=by
 unfold uq at h
 obtain⟨kv,h1,rfl⟩:=Pe.mp h
 obtain⟨y,_,rfl⟩:=AT.mp (Aah h1)
 exact⟨_,rfl⟩
theorem ym {ts:List (Str × Int)} {x:Str}:(uq (sA ts) x).isSome=true↔x∈ts.map (·.1):=by
 constructor
 . intro h
   obtain⟨e,he⟩:=Tl.mp h
   obtain⟨t,rfl⟩:=Kl he
   exact AT.mpr ⟨_,OA he,rfl⟩
 . intro h
   cases e:uq (sA ts) x with
   |some _=>rfl
   |none=>
    exfalso
    obtain⟨y,hy,rfl⟩:=AT.mp h
    unfold uq at e
    rw [Wp,WP] at e
    exact e (y.1,.int y.2) (AT.mpr ⟨y,hy,rfl⟩) (by simp)
structure gH (C CW:Addr) (H:Hp) (p d m:Addr) (n:Int) (G:fG) (tt eD:List (Str × Int)):Prop where
 ex:∃dx,H p=some (.ins C dx (Vc n d G.q G.f m))
 dd:nW H d (sA tt)
 mm:nW H m (sA eD)
 g:zG CW H G
 nd:(p::d::m::G.foot).Nodup
theorem gH.keeps {C CW p d m:Addr} {H H':Hp} {n:Int} {G:fG} {tt eD:List (Str × Int)} (sm:aA H H') (h:gH C CW H p d m n G tt eD):gH C CW H' p d m n G tt eD:=
 ⟨let ⟨dx,e⟩:=h.ex;⟨dx,sm _ _ e⟩,h.dd.keeps sm,h.mm.keeps sm,h.g.keeps sm,h.nd⟩
theorem gH.mv {C CW p d m:Addr} {S:List Addr} {H H':Hp} {n:Int} {G:fG} {tt eD:List (Str × Int)} (mv:Mv S H H') (hn:∀b∈p::d::m::G.foot,b∉S) (h:gH C CW H p d m n G tt eD):gH C CW H' p d m n G tt eD:=
 ⟨let ⟨dx,e⟩:=h.ex;⟨dx,mv.at (hn _ (by simp)) e⟩,h.dd.mv mv (hn _ (by simp)),h.mm.mv mv (hn _ (by simp)),h.g.mv mv (fun b hb=>hn b (by simp [hb])),h.nd⟩
theorem gH.alive {C CW p d m:Addr} {H:Hp} {n:Int} {G:fG} {tt eD:List (Str × Int)} (h:gH C CW H p d m n G tt eD):∀b∈p::d::m::G.foot,H b≠none:=by
 intro b hb
 rcases AE.mp hb with rfl|hb
 . obtain⟨dx,e⟩:=h.ex
   rw [e];simp
 . rcases AE.mp hb with rfl|hb
   . obtain⟨kvs,e,_⟩:=h.dd
     rw [e];simp
   . rcases AE.mp hb with rfl|hb
     . obtain⟨kvs,e,_⟩:=h.mm
       rw [e];simp
     . exact h.g.alive b hb
theorem gH.yZ {C CW p d m:Addr} {H:Hp} {n:Int} {G:fG} {tt eD:List (Str × Int)} (h:gH C CW H p d m n G tt eD):p≠d/\p≠m/\d≠m/\p∉G.foot/\d∉G.foot/\m∉G.foot:=by
 have hn:=h.nd
 rw [EN,EN,EN] at hn
 obtain⟨h1,h2,h3,_⟩:=hn
 refine⟨fun z=>h1 (by simp [z]),fun z=>h1 (by simp [z]),fun z=>h2 (by simp [z]),fun z=>h1 (by simp [z]),fun z=>h2 (by simp [z]),h3⟩
theorem gH.geo {C CW p d m:Addr} {H H':Hp} {n:Int} {G G':fG} {tt eD:List (Str × Int)} (h:gH C CW H p d m n G tt eD) (mv:Mv G.foot H H') (hg:zG CW H' G') (e1:G'.q=G.q) (e2:G'.f=G.f) (hs:∀b∈G'.foot,b∈G.foot\/H b=none):gH C CW H' p d m n G' tt eD:=by
 obtain⟨f1,f2,f3,f4,f5,f6⟩:=h.yZ
 have Jm:=h.alive
 have key:∀b∈[p,d,m],b∉G'.foot:=fun b hb z=>by
  rcases hs b z with r|r
  . have:b=p\/b=d\/b=m:=by simpa using hb
    rcases this with rfl|rfl|rfl
    . exact f4 r
    . exact f5 r
    . exact f6 r
  . exact Jm b (by have:b=p\/b=d\/b=m:=by simpa using hb
                   rcases this with rfl|rfl|rfl <;>simp) r
 refine⟨?_,h.dd.mv mv f5,h.mm.mv mv f6,hg,?_⟩
 . obtain⟨dx,e⟩:=h.ex
   exact⟨dx,by rw [e1,e2];exact mv.at f4 e⟩
 . rw [EN,EN,EN]
   refine⟨fun z=>?_,fun z=>?_,key m (by simp),hg.nd⟩
   . rcases AE.mp z with z|z
     . exact f1 z
     . rcases AE.mp z with z|z
       . exact f2 z
       . exact key p (by simp) z
   . rcases AE.mp z with z|z
     . exact f3 z
     . exact key d (by simp) z
theorem gH.setM {C CW p d m:Addr} {H H':Hp} {n:Int} {G:fG} {tt eD mz:List (Str × Int)} (h:gH C CW H p d m n G tt eD) (mv:Mv [m] H H') (hm:nW H' m (sA mz)):gH C CW H' p d m n G tt mz:=by
 obtain⟨f1,f2,f3,f4,f5,f6⟩:=h.yZ
 exact⟨let ⟨dx,e⟩:=h.ex;⟨dx,mv.at (by simpa using f2) e⟩,h.dd.mv mv (by simpa using f3),hm,h.g.mv mv (fun b hb=>by simpa using fun z:b=m=>f6 (z▸hb)),h.nd⟩
theorem gH.Jg {C CW p d m:Addr} {H H':Hp} {n:Int} {G:fG} {tt tt' eD:List (Str × Int)} (h:gH C CW H p d m n G tt eD) (mv:Mv [d] H H') (hm:nW H' d (sA tt')):gH C CW H' p d m n G tt' eD:=by
 obtain⟨f1,f2,f3,f4,f5,f6⟩:=h.yZ
 exact⟨let ⟨dx,e⟩:=h.ex;⟨dx,mv.at (by simpa using f1) e⟩,hm,h.mm.mv mv (by simpa using LH f3),h.g.mv mv (fun b hb=>by simpa using fun z:b=d=>f5 (z▸hb)),h.nd⟩
theorem gH.ins {C CW p d m:Addr} {H:Hp} {n:Int} {G:fG} {tt eD:List (Str × Int)} (h:gH C CW H p d m n G tt eD):iL H (.ref p) C [("now",.int n),("times",.ref d),("wheels",.ref G.q),("far",.ref G.f),("moves",.ref m)]:=let ⟨dx,e⟩:=h.ex;⟨p,dx,rfl,e⟩
def Ag (C CW:Addr):Sp:=fun vs H Q _=>∃(p d m:Addr) (n:Int) (G:fG) (us:List (Int × Int)) (tt ts eD:List (Str × Int)) (x:Str) (t:Int),vs=[.ref p,.str x,.int t]/\gH C CW H p d m n G tt eD/\GI us n ts G/\E4 us/\x∉ts.map (·.1)/\x∉eD.map (·.1)/\ts.length<=2000/\eD.length<=2000/\
 ∀H' G',Mv (m::G.foot) H H'->gH C CW H' p d m n G' tt (eD++[(x,0)])->GI us n (ts++[(x,t)]) G'->(∀b∈G'.foot,b∈G.foot\/H b=none)->Q .a9 H'
theorem Oc (T:Txt K mg a):aS P w K mg base eP 4 a.dA a.qZ ["self","name","time"] (Ag a.ai a.aj):=by
 have n1:=T.cQ;have n2:=T.cB;have cl:=T.aQ
 have vO:=T.jf
 have vJ:=Kn (P:=P) (w:=w) (base:=base) T
 refine T.lR.ok zL (fun vs H Q E h=>?_) (fun di A outer s H vs Q E hr h=>?_)
 . obtain⟨_,_,_,_,_,_,_,_,_,_,_,rfl,_⟩:=h;rfl
 . obtain⟨p,d,m,n,G,us,tt,ts,eD,x,t,rfl,hw,rC,bE,hx,VD,K6,Mi,q⟩:=h
   have hi:=hw.ins;have hm:=hw.mm
   have Zj:=zX eD
   refine⟨_,(af (t9 (iK hr) (aq (pv 0) rfl) (pv 1) au rfl)
    (ah (aI (az (pv 0) cl vO vJ (hr.mono (by decide)) (ae (pv 1) (ae (pv 2) (ae (aq (pv 0) rfl) ag))))))),?_⟩
   repeat' (walk_at "rd1")
   rename_i H1 iM RL
   rw [Gn (Ee VD),<-Jy] at RL
   have jA:=hw.setM iM RL
   have uY:=jA.ins
   repeat' (walk_at "rd1")
   obtain⟨dx,Fh⟩:=jA.ex
   refine⟨p,dx,d,m,n,G,us,ts,x,t,n,rfl,Fh,jA.g,rC,bE,jA.yZ.2.2.2.1,hx,K6,fun H2 G' gL Nc aeh e1 e2 hs=>?_⟩
   repeat' (walk_at "rd1")
   refine q H2 G' ((cW iM fun b hb=>by simp [AN.mp hb]).trans (cW gL fun b hb=>AD _ hb)) (jA.geo gL Nc e1 e2 hs) aeh fun b hb=>?_
   rcases hs b hb with r|r
   . exact .inl r
   . exact .inr (iM.none r)
theorem MS (T:Txt K mg a):cT P w K mg base 4 a.dA ["self","name","time"] [] (Ag a.ai a.aj):=
 ⟨⟨_,_,Oc T,T.lR.binds fun _ _ _ _ _ _=>iC fun _ _ _=>rfl,.nil⟩⟩
def AA (C CW:Addr):Sp:=fun vs H Q _=>∃(p d m:Addr) (n:Int) (G:fG) (us:List (Int × Int)) (tt ts eD:List (Str × Int)) (x:Str) (t:Int),vs=[.ref p,.str x,.int t]/\gH C CW H p d m n G tt eD/\GI us n ts G/\E4 us/\(x,t)∈ts/\(ts.map (·.1)).Nodup/\x∈eD.map (·.1)/\ts.length<=2000/\
 ∀H' G',Mv (m::G.foot) H H'->gH C CW H' p d m n G' tt (jj eD x)->GI us n (jj ts x) G'->(∀b∈G'.foot,b∈G.foot)->Q .a9 H'
theorem Gx {G:fG} {k:Nat} {w w':Wh} (hw:G.ws[k]? =some w) (hs:∀b∈w'.foot,b∈w.foot):∀b∈fG.foot ⟨G.q,G.f,G.ws.set k w',G.eI⟩,b∈G.foot:=fun b hb=>by
 unfold fG.foot at hb
 rcases AE.mp hb with rfl|hb
 . simp [fG.foot]
 . rcases AE.mp hb with rfl|hb
   . simp [fG.foot]
   . obtain⟨y,hy,Hm⟩:=Lm.mp hb
     have hy:y∈G.ws.set k w':=hy
     rcases List.mem_or_eq_of_mem_set hy with hy|hy
     . exact oG hy b Hm
     . exact oG (B0 hw) b (hs b (hy▸Hm))
theorem Nr (T:Txt K mg a):aS P w K mg base eP 3 a.dz a.qE ["self","name","time"] (AA a.ai a.aj):=by
 have n1:=T.cQ;have n2:=T.cB;have n3:=T.bo;have n4:=T.d7;have cl:=T.aQ
 have vo:=T.jo
 have vG:=zo (P:=P) (w:=w) (base:=base) T
 have yn:=Og (P:=P) (w:=w) (base:=base) T
 have vU:=Dz (P:=P) (w:=w) (base:=base) T
 refine T.lL.ok rl (fun vs H Q E h=>?_) (fun di A outer s H vs Q E hr h=>?_)
 . obtain⟨_,_,_,_,_,_,_,_,_,_,_,rfl,_⟩:=h;rfl
 . obtain⟨p,d,m,n,G,us,tt,ts,eD,x,t,rfl,hw,rC,bE,hx,oF,VD,K6,q⟩:=h
   have hi:=hw.ins;have hm:=hw.mm
   have UN:=rC.len
   refine⟨_,(af (aI (jC KF No OE qk (aq (pv 0) rfl) (ae (pv 1) ag)))
    (af (aE (i:=3) rl.nd rfl (FF rfl) (az (pv 0) cl vo vG (hr.mono (by decide)) (ae (pv 2) (ae (aq (pv 0) rfl) ag))))
    (ah (bC (aL zp (pv 3) (cg lB rfl T.qB Aag (ae (aq (pv 0) rfl) ag)) (aR _))
     (ah (aI (az (jZ sN (aq (pv 0) rfl) (pv 3) (fun _ _=>rfl)) T.bW T.oV yn (hr.mono (by decide)) (ae (pv 1) (ae (pv 2) ag)))))
     (ah (aI (jC GS PySem.F.slot_list_pop PySem.F.type_list_pop QV (aq (pv 0) rfl) (ae (aX vU (hr.mono (by decide)) rfl T.sZ T.rJ (ae (aq (pv 0) rfl) (ae (dN (ae (pv 2) (ae (pv 1) ag))) ag))) ag)))))))),?_⟩
   repeat' (walk_at "rd1")
   refine Hl hm ?_
   repeat' (walk_at "rd1")
   obtain⟨u,hu⟩:=Tl.mp (ym.mpr VD)
   refine Eo hm hu (fun v1 H1 iM RL=>?_)
   rw [AW] at RL
   have jA:=hw.setM iM RL
   have uY:=jA.ins
   repeat' (walk_at "rd1")
   obtain⟨dx,Fh⟩:=jA.ex
   refine⟨p,dx,d,m,n,G,us,t,n,rfl,Fh,jA.g,rC.eu,bE,fun H2 mP=>?_⟩
   have zc:=jA.keeps mP
   have Ho:=zc.ins
   have Nc:=zc.g
   have GR:Mv (m::G.foot) H H2:=(cW iM fun b hb=>by simp [AN.mp hb]).zb mP
   repeat' (walk_at "rd1")
   refine EF (.of Nc.q) ?_
   rw [AL]
   repeat' (walk_at "rd1")
   . rename_i hb
     have iF:iz us t n<G.ws.length:=by omega
     have hy:G.ws[iz us t n]? =some G.ws[iz us t n]:=AC iF
     generalize G.ws[iz us t n]=y at hy
     refine JB (.of Nc.q) (Nw hy) ?_
     have Zy:=B0 hy
     have GN:=Nc.w y Zy
     have Rb:=rC.bnd bE hy
     have FG:=rC.wh _ y hy
     obtain⟨RY,Hq⟩:=GN.i
     have hiy:iL H2 (.ref y.x) a.aj [("unit",.int y.u),("slots",.int y.s),("span",.int (y.u*y.s)),("mask",.int y.m),("names_in",.ref y.dn)]:=⟨y.x,RY,rfl,Hq⟩
     repeat' (walk_at "rd1")
     have Nt:y.foot.Nodup:=by
      have:=Nc.CT.2.2
      obtain⟨e1,_⟩:=xr hy y
      rw [e1,LS,PP,Gc,Gc] at this
      exact this.2.1.1
     obtain⟨c,hc,hk,Pr⟩:=(FG.mem x (f9 y t)).mpr ⟨t,hx,rfl,rfl⟩
     refine⟨y.x,y,x,t,c,rfl,rfl,GN,Rb,Nt,FG.nd,fun d hd=>(FG.ne d hd).1,hc,hk,Pr,fun H3 mk pJ vW Zt=>?_⟩
     repeat' (walk_at "rd1")
     have pY:=GF y (f9 y t) mk x
     obtain⟨hg3,Y9⟩:=Nc.set (w':=y.lH (f9 y t) mk x) hy pJ vW rfl (Nt.sublist pY) fun b hb=>.inl (pY.subset hb)
     have hsb:=Gx (w':=y.lH (f9 y t) mk x) hy fun b hb=>pY.subset hb
     exact q H3 _ (GR.trans (cW pJ fun b hb=>AD _ (oG Zy b hb))) (zc.geo (cW pJ (oG Zy)) hg3 rfl rfl fun b hb=>.inl (hsb b hb)) (rC.lift oF hx hy (Zt FG.mk')) hsb
   . rename_i hb
     have Rx:iz us t n=us.length:=by have:=vp us t n;omega
     have hfl:=rC.Ji
     have Rq:=Nc.f
     refine PX Rq ?_
     repeat' (walk_at "rd1")
     rename_i v3 H3 sm3 hv3
     have Zk:=Rq.keeps sm3
     refine⟨G.f,G.eI,v3,(t,x),rfl,Zk,hv3,by omega,rC.MG,fun i MF=>?_⟩
     have Vt:=V2 rC.MG MF ((rC.eI (t,x)).mpr ⟨hx,Rx⟩)
     have NZ:=(AS.mp Vt).1
     repeat' (walk_at "rd1")
     refine XH Zk (by omega) (by omega) (by omega) (fun v4 H4 ud Rn=>?_)
     repeat' (walk_at "rd1")
     rw [NG] at Rn
     have vW:=zc.keeps sm3
     have hgf:G.f∈G.foot:=by simp [fG.foot]
     have aav:Mv G.foot H3 H4:=cW ud fun b hb=>(AN.mp hb)▸hgf
     exact q H4 _ ((GR.zb sm3).trans (cW aav fun b hb=>AD _ hb)) (vW.geo aav (vW.g.aa1 ud Rn) rfl rfl fun b hb=>.inl hb) (rC.S6 oF hx Rx Vt) fun b hb=>hb
theorem Mj (T:Txt K mg a):cT P w K mg base 3 a.dz ["self","name","time"] [] (AA a.ai a.aj):=
 ⟨⟨_,_,Nr T,T.lL.binds fun _ _ _ _ _ _=>iC fun _ _ _=>rfl,.nil⟩⟩
structure GP (C CW:Addr) (H:Hp) (p d m:Addr) (n:Int) (us:List (Int × Int)) (G:fG) (ts eD:List (Str × Int)):Prop where
 ws:gH C CW H p d m n G ts eD
 gi:GI us n ts G
 uo:E4 us
 nd:(ts.map (·.1)).Nodup
 YX:(eD.map (·.1)).Nodup
 mem:∀x,x∈eD.map (·.1)↔x∈ts.map (·.1)
theorem GP.keeps {C CW p d m:Addr} {H H':Hp} {n:Int} {us:List (Int × Int)} {G:fG} {ts eD:List (Str × Int)} (sm:aA H H') (h:GP C CW H p d m n us G ts eD):GP C CW H' p d m n us G ts eD:=⟨h.ws.keeps sm,h.gi,h.uo,h.nd,h.YX,h.mem⟩
theorem GP.mv {C CW p d m:Addr} {S:List Addr} {H H':Hp} {n:Int} {us:List (Int × Int)} {G:fG} {ts eD:List (Str × Int)} (mv:Mv S H H') (hn:∀b∈p::d::m::G.foot,b∉S) (h:GP C CW H p d m n us G ts eD):GP C CW H' p d m n us G ts eD:=⟨h.ws.mv mv hn,h.gi,h.uo,h.nd,h.YX,h.mem⟩
theorem GP.af9 {C CW p d m:Addr} {H:Hp} {n:Int} {us:List (Int × Int)} {G:fG} {ts eD:List (Str × Int)} (h:GP C CW H p d m n us G ts eD):eD.length<=ts.length:=by
 have:=sM (l':=ts.map (·.1)) h.YX fun x hx=>(h.mem x).mp hx
 simpa using this
theorem zS {ts:List (Str × Int)} {x:Str} {t:Int} (h:(ts.map (·.1)).Nodup) (hx:x∉ts.map (·.1)):((ts++[(x,t)]).map (·.1)).Nodup:=by
 rw [Da,Gc]
 refine⟨h,by simp,fun a ha b hb=>?_⟩
 have hb:b=x:=by simpa using hb
 rw [hb];exact fun z=>hx (z▸ha)
theorem RZ {H:Hp} {Q:VK} {p:Addr} {m:List (Str × BB)} {k:Str} {d:BB} (hp:nW H p m) (hk:uq m k=some d) (h:∀v H2,Dv H v d->Mv [p] H H2->nW H2 p (tK m k)->Q v H2):Kg (.ref p) [.str k] H Q:=by
 obtain⟨kvs,e,dk⟩:=hp
 obtain⟨v,hv,hd⟩:=(dk.val (k:=k)).1 d hk
 have mv:Mv [p] H (upd H p (.dK (lD kvs (.inr k)))):=.aV e (by intro _ z;cases z)
 refine⟨p,kvs,.inr k,v,rfl,rfl,e,hv,h v _ hd mv ⟨_,av,dk.drop.zq mv.tp⟩⟩
theorem sI {ts:List (Str × Int)} {x:Str} (h:(ts.map (·.1)).Nodup):((jj ts x).map (·.1)).Nodup:=h.sublist (JJ.map _)
theorem Di {ts:List (Str × Int)} {x y:Str}:y∈(jj ts x).map (·.1)↔y∈ts.map (·.1)/\y≠x:=by
 simp only [AT,dr]
 constructor
 . rintro⟨z,⟨h1,h2⟩,rfl⟩;exact⟨⟨z,h1,rfl⟩,h2⟩
 . rintro⟨⟨z,h1,rfl⟩,h2⟩;exact⟨z,⟨h1,h2⟩,rfl⟩
def WE:Int->List Int->List (Int × Int)
 |_,[]=>[]
 |u,r::rs=>(u,r)::WE (u*r) rs
def mO (u:Int) (rs:List Int):Int:=rs.foldl (·*·) u
theorem vZ (r:Int):∀(u:Int) (rs:List Int),WE u (rs++[r])=WE u rs++[(mO u rs,r)]
 |u,[]=>rfl
 |u,q::rs=>by rw [List.cons_append,WE,WE,vZ r (u*q) rs];rfl
theorem zk (u r:Int) (rs:List Int):mO u (rs++[r])=mO u rs*r:=by unfold mO;rw [List.foldl_append];rfl
theorem tG:∀(u:Int) (rs:List Int),(WE u rs).length=rs.length
 |_,[]=>rfl
 |u,r::rs=>by rw [WE,GG,GG,tG]
theorem AI:∀(rs:List Int) (u:Int),0<u->(∀r∈rs,2<=r/\r<=60)->0<mO u rs/\mO u rs<=u*60^rs.length
 |[],u,h,_=>⟨h,by simp [mO]⟩
 |r::rs,u,h,hr=>by
  have KL:=hr r BN
  have hp:0<u*r:=Int.mul_pos h (by omega)
  obtain⟨h1,h2⟩:=AI rs (u*r) hp fun x hx=>hr x (AD _ hx)
  refine⟨h1,Int.le_trans h2 ?_⟩
  rw [GG,Int.pow_succ]
  have:(0:Int)<60^rs.length:=Int.pow_pos (by decide)
  have e:u*(60^rs.length*60)=u*60*60^rs.length:=by rw [Int.mul_assoc,Int.mul_comm (60^rs.length) 60]
  rw [e]
  exact Int.mul_le_mul_of_nonneg_right (US KL.2 (NL h)) (NL this)
theorem Vi {j:Nat} (h:j<=6):(60:Int)^j<=10^12:=by
 match j,h with
 |0,_=>exact(by decide)
 |1,_=>exact(by decide)
 |2,_=>exact(by decide)
 |3,_=>exact(by decide)
 |4,_=>exact(by decide)
 |5,_=>exact(by decide)
 |6,_=>exact(by decide)
theorem lV:∀(rs:List Int) (u:Int) (k:Nat) (q:Int × Int),(WE u rs)[k]? =some q->q.1=mO u (rs.take k)/\rs[k]? =some q.2
 |[],_,k,q,h=>by simp [WE] at h
 |r::rs,u,0,q,h=>by
  have:(u,r)=q:=by simpa [WE] using h
  subst this
  exact⟨rfl,rfl⟩
 |r::rs,u,k+1,q,h=>by
  have h:(WE (u*r) rs)[k]? =some q:=by simpa [WE] using h
  obtain⟨h1,h2⟩:=lV rs (u*r) k q h
  exact⟨h1,by simpa using h2⟩
theorem Bv {rs:List Int} (hl:rs.length<=6) (hr:∀r∈rs,2<=r/\r<=60):E4 (WE 1 rs):=by
 intro q hq
 obtain⟨k,hk⟩:=AaZ hq
 obtain⟨h1,h2⟩:=lV rs 1 k q hk
 obtain⟨p1,p2⟩:=AI (rs.take k) 1 (by decide) fun r hr'=>hr r (Aa0 hr')
 have Zx:=hr q.2 (B0 h2)
 have iF:(rs.take k).length<=6:=by rw [Ll];omega
 have:=Vi iF
 rw [h1]
 exact⟨p1,by omega,Zx.1,Zx.2⟩
theorem Yn {H:Hp} {p:Addr} {xs:List V} {R:Prop} (e:H p=some (.lst xs)) (h:R):UE K "list" (.ref p) H/\R:=⟨.inl ⟨rfl,xs,.of e⟩,h⟩
def Yp (CW:Addr) (H:Hp) (ws:List Wh):Prop:=∀y∈ws,jB CW H y/\y.cs=[]/\y.m=0
def zh (CW:Addr):Sp:=fun vs H Q _=>∃(l:Addr) (rs:List Int),vs=[.ref l]/\eF H l (rs.map Sm)/\rs.length<=6/\(∀r∈rs,2<=r/\r<=60)/\
 ∀q H' (ws:List Wh),aA H H'->H q=none->H' q=some (.lst (ws.map fun y=>V.ref y.x))->ws.map (fun y=>(y.u,y.s))=WE 1 rs->Yp CW H' ws->(q::ws.flatMap Wh.foot).Nodup->(∀b∈ws.flatMap Wh.foot,H b=none)->Q (.ref q) H'
theorem Gm (T:Txt K mg a):aS P w K mg base eP 3 a.eR a.xn ["rounds"] (zh a.aj):=by
 have MO:=FD (P:=P) (w:=w) (base:=base) T
 refine T.sX.ok iV (fun vs H Q E h=>?_) (fun di A outer s H vs Q E hr h=>?_)
 . obtain⟨_,_,rfl,_⟩:=h;rfl
 . obtain⟨l,rs,rfl,hl,hlen,M6,q⟩:=h
   refine⟨_,(af (aE (i:=1) iV.nd rfl (FF rfl) (dW ag))
    (af (aE (i:=2) iV.nd rfl (FF rfl) au)
    (af (mx Lo rfl (hV (pv 0)) (cf (i:=3) iV.nd rfl (FF rfl))
     (af (aI (jC GS TW TZ t6 (pv 1) (ae (qc T.Jz MO (hr.mono (by decide)) rfl T.Gi (ae (pv 2) (ae (pv 3) ag))) ag)))
     (ah (aE (i:=2) iV.nd rfl (FF rfl) (aB t5 (pv 2) (pv 3))))))
    (ah (aF (pv 1)))))),?_⟩
   repeat' (walk_at "rd1")
   rename_i ql H1 E6 mQ zx
   have K6:=hl.keeps E6
   have hlq:l≠ql:=hl.ne mQ
   refine Ku (Hb:=H1) (cs:=rs) (gd:=Sm) K6.dv (fun j σ' H'=>Mv [ql] H1 H'/\∃(ws:List Wh) (z:Option V),σ'=[some (.ref l),some (.ref ql),some (.int (mO 1 (rs.take j))),z]/\H' ql=some (.lst (ws.map fun y=>V.ref y.x))/\ws.map (fun y=>(y.u,y.s))=WE 1 (rs.take j)/\Yp a.aj H' ws/\(ql::ws.flatMap Wh.foot).Nodup/\∀b∈ws.flatMap Wh.foot,H1 b=none) ⟨Mv.refl,[],_,rfl,(by obtain⟨xs,e,dv,_⟩:=zx;cases dv;exact e),rfl,(fun x hx=>nomatch hx),(by simp),(fun b hb=>nomatch hb)⟩ (fun i σ' H' _ ⟨mv,_⟩ a' xs e hx=>by cases e;exact mv.sq (by simpa using hlq) hx) ?_ ?_
   . rintro j r x σ' H' hj ⟨mv,ws,z,rfl,hq,Et,bE,oF,M4⟩ hdx _
     obtain rfl:=(hdx rfl mv.tp).int_inv
     have Zx:=M6 r (B0 hj)
     have hj6:j<6:=by have:=(AS.mp hj).1;omega
     have htl:(rs.take j).length<=6:=by rw [Ll];omega
     obtain⟨T3,U1⟩:=AI (rs.take j) 1 (by decide) fun r hr'=>M6 r (Aa0 hr')
     have hu2:mO 1 (rs.take j)<=10^12:=by have:=Vi htl;omega
     have FU:rs.take (j+1)=rs.take j++[r]:=by rw [Tu,hj];rfl
     have hwl:ws.length<=6:=by
      have:=congrArg Abc Et
      rw [AL,tG] at this
      omega
     rw [FU,zk,vZ]
     generalize mO 1 (rs.take j)=u at*
     repeat' (walk_at "rd1")
     refine Yn hq ?_
     repeat' (walk_at "rd1")
     refine QW T3 hu2 (by omega) Zx.2 (fun x dn H3 sm3 hx3 hd3 vW=>?_)
     have ua:=sm3 _ _ hq
     repeat' (walk_at "rd1")
     refine XF ua (by rw [AL];omega) ?_
     have ud:Mv [ql] H3 (upd H3 ql (.lst (ws.map (fun y=>V.ref y.x)++[.ref x]))):=.aV ua (by intro _ z;cases z)
     have hxq:x≠ql:=fun z=>by rw [z,hq] at hx3;cases hx3
     have hdq:dn≠ql:=fun z=>by rw [z,hq] at hd3;cases hd3
     have Im:upd H3 ql (.lst (ws.map (fun y=>V.ref y.x)++[.ref x])) ql=some (.lst ((ws++[(⟨x,dn,u,r,0,[]⟩:Wh)]).map fun y=>V.ref y.x)):=by rw [av,Da];rfl
     generalize upd H3 ql (.lst (ws.map (fun y=>V.ref y.x)++[.ref x]))=H4 at*
     repeat' (walk_at "rd1")
     have hwf:Wh.foot ⟨x,dn,u,r,0,[]⟩=[x,dn]:=rfl
     have hxd:x≠dn:=fun z=>by
      obtain⟨dx,e⟩:=vW.i
      have e2:=vW.d
      have e:H3 x=some _:=e
      have e2:H3 dn=some _:=e2
      rw [z,e2] at e
      cases e
     have Jm:∀b∈ql::ws.flatMap Wh.foot,H' b≠none:=fun b hb=>by
      rcases AE.mp hb with rfl|hb
      . rw [hq];simp
      . obtain⟨y,hy,hb⟩:=Lm.mp hb
        exact(bE y hy).1.alive b hb
     refine⟨(mv.zb sm3).trans ud,ws++[⟨x,dn,u,r,0,[]⟩],_,rfl,Im,by rw [Da,Et];rfl,fun y hy=>?_,?_,fun b hb=>?_⟩
     . rcases Cn.mp hy with hy|hy
       . obtain⟨h1,h2⟩:=bE y hy
         refine⟨(h1.keeps sm3).mv ud fun b hb=>?_,h2⟩
         have:=(EN.mp oF).1
         simpa using fun z:b=ql=>this (z▸Lm.mpr ⟨y,hy,hb⟩)
       . have hy:y=⟨x,dn,u,r,0,[]⟩:=by simpa using hy
         subst hy
         refine⟨vW.mv ud fun b hb=>?_,rfl,rfl⟩
         rw [hwf] at hb
         have:b=x\/b=dn:=by simpa using hb
         rcases this with rfl|rfl
         . simpa using hxq
         . simpa using hdq
     . rw [LS,<-List.cons_append,Gc]
       refine⟨oF,by simp [hwf,hxd],fun b hb b' Pj=>?_⟩
       have:b'=x\/b'=dn:=by simpa [hwf] using Pj
       rcases this with rfl|rfl
       . exact fun z=>Jm b hb (z▸hx3)
       . exact fun z=>Jm b hb (z▸hd3)
     . rw [LS] at hb
       rcases Cn.mp hb with hb|hb
       . exact M4 b hb
       . have:b=x\/b=dn:=by simpa [hwf] using hb
         rcases this with rfl|rfl
         . exact mv.none hx3
         . exact mv.none hd3
   . rintro σ' H' ⟨mv,ws,z,rfl,hq,Et,bE,oF,M4⟩
     rw [SC] at Et
     repeat' (walk_at "rd1")
     exact q ql H' ws (Mv.J4 E6 mv mQ) mQ hq Et bE oF fun b hb=>E6.none (M4 b hb)
theorem DS (T:Txt K mg a):cT P w K mg base 3 a.eR ["rounds"] [] (zh a.aj):=
 ⟨⟨_,_,Gm T,T.sX.binds fun _ _ _ _ _ _=>m7 fun _=>rfl,.nil⟩⟩
def xf (C:Addr):Sp:=fun vs H Q _=>∃p dx n,vs=[.ref p,.int n]/\H p=some (.ins C dx [])/\∀H' d,Mv [p] H H'->H d=none->nW H' d []->H' p=some (.ins C dx [("now",.int n),("times",.ref d)])->Q .a9 H'
theorem Gq (T:Txt K mg a) {C:Addr} (cl:tm K C) (n1:aJ K C "now") (n2:aJ K C "times"):aS P w K mg base eP 1 a.aY a.jq ["self","now"] (xf C):=by
 refine T.jG.ok we (fun vs H Q E h=>?_) (fun di A outer s H vs Q E hr h=>?_)
 . obtain⟨_,_,_,rfl,_⟩:=h;rfl
 . obtain⟨p,dx,n,rfl,hp,q⟩:=h
   refine⟨_,(af (aU (pv 0) (pv 1) rfl)
    (ah (aU (pv 0) lQ rfl))),?_⟩
   repeat' (walk_at "rd1")
   rename_i d H2 mP px hd2
   have iM:Mv [p] H (upd H p (.ins C dx [("now",.int n)])):=.aV hp (by intro _ z;cases z)
   have e2:=mP p _ av
   have gL:Mv [p] H2 (upd H2 p (.ins C dx [("now",.int n),("times",.ref d)])):=.aV e2 (by intro _ z;cases z)
   have hn:H d=none:=iM.none px
   have hpd:d≠p:=LH (aC hp hn)
   exact q _ d (iM.trans ((mP.mv (S:=[p])).trans gL)) hn (hd2.mv gL (by simpa using hpd)) av
theorem JT (T:Txt K mg a):Binds K a.jq ["self","now"] []:=T.jG.binds fun _ _ _ _ _ _ s us kx hl=>by
 obtain⟨o,n,h1,h2⟩:=T.oX.ex
 have hl:us.length=2:=by simp at hl;omega
 obtain⟨_,_,rfl⟩:=ln2 hl
 exact TD kx rfl h1 h2 rfl rfl
theorem K3 (T:Txt K mg a):cT P w K mg base 1 a.aY ["self","now"] [] (xf a.ai):=
 ⟨⟨_,_,Gq T T.aQ T.cB T.cO,JT T,.nil⟩⟩
theorem YS {us:List (Int × Int)} {n:Int} {q f:Addr} {ws:List Wh} {CW:Addr} {H:Hp} (Et:ws.map (fun y=>(y.u,y.s))=us) (he:Yp CW H ws):GI us n [] ⟨q,f,ws,[]⟩:=by
 refine⟨Et,fun k y hy=>?_,fun c=>⟨(fun h=>nomatch h),(fun h=>nomatch h.1)⟩,.nil⟩
 have hc:=(he y (B0 hy)).2.1
 have hm:=(he y (B0 hy)).2.2
 refine⟨⟨by rw [hm];decide,fun i=>by rw [hm,hc];simp⟩,by rw [hc];exact .nil,(fun c h=>by rw [hc] at h;exact nomatch h),fun x j=>⟨(fun⟨c,h,_⟩=>by rw [hc] at h;exact nomatch h),(fun⟨t,h,_⟩=>nomatch h)⟩⟩
def yh (C CW:Addr):Sp:=fun vs H Q _=>∃(p dx l:Addr) (rs:List Int) (n:Int),vs=[.ref p,.ref l,.int n]/\H p=some (.ins C dx [])/\eF H l (rs.map Sm)/\rs.length<=6/\1<=rs.length/\(∀r∈rs,2<=r/\r<=60)/\
 ∀H' d m G,Mv [p] H H'->(∀b∈d::m::G.foot,H b=none)->GP C CW H' p d m n (WE 1 rs) G [] []->Q .a9 H'
theorem KP (T:Txt K mg a):aS P w K mg base eP 5 a.bQ a.mM ["self","rounds","now"] (yh a.ai a.aj):=by
 have n1:=T.cB;have n2:=T.cO;have n3:=T.bo;have n4:=T.d7;have n5:=T.cQ;have cl:=T.aQ
 have Ac:=OI (P:=P) (w:=w) (base:=base) T
 have yx:=K3 (P:=P) (w:=w) (base:=base) T
 have Ge:=DS (P:=P) (w:=w) (base:=base) T
 refine T.ji.ok vM (fun vs H Q E h=>?_) (fun di A outer s H vs Q E hr h=>?_)
 . obtain⟨_,_,_,_,_,rfl,_⟩:=h;rfl
 . obtain⟨p,dx,l,rs,n,rfl,hp,hl,VH,KL,M6,q⟩:=h
   refine⟨_,(af (aI (aX Ac (hr.mono (by decide)) rfl T.qR T.qG (ae (pv 1) ag)))
    (af (aI (Eb rfl T.Gk T.pF yx (hr.mono (by decide)) (ae (pv 0) (ae (pv 2) ag))))
    (af (aU (pv 0) (aX Ge (hr.mono (by decide)) rfl T.wN T.xj (ae (pv 1) ag)) rfl)
    (af (aU (pv 0) (dW ag) rfl)
    (ah (aU (pv 0) lQ rfl)))))),?_⟩
   repeat' (walk_at "rd1")
   refine⟨l,rs,rfl,hl,KL,VH,M6,?_⟩
   repeat' (walk_at "rd1")
   refine⟨p,dx,n,rfl,hp,fun H1 d iM Ay YF Fh=>?_⟩
   have hlp:l≠p:=by obtain⟨xs,e,_⟩:=hl;exact oY e hp (by intro y;cases y)
   have K6:eF H1 l (rs.map Sm):=hl.mv iM (by simpa using hlp)
   repeat' (walk_at "rd1")
   refine⟨l,rs,rfl,K6,VH,M6,fun q3 H3 ws sm3 um ua Et bE oF M4=>?_⟩
   have hp3:=sm3 _ _ Fh
   repeat' (walk_at "rd1")
   rename_i f H4 sm4 Ro Rn m H5 sm5 hn5 hm5
   have GR:Mv [p] H3 (upd H3 p (.ins a.ai dx [("now",.int n),("times",.ref d),("wheels",.ref q3)])):=.aV hp3 (by intro _ z;cases z)
   have e4:=sm4 p _ av
   have mvB:Mv [p] H4 (upd H4 p (.ins a.ai dx [("now",.int n),("times",.ref d),("wheels",.ref q3),("far",.ref f)])):=.aV e4 (by intro _ z;cases z)
   have e5:=sm5 p _ av
   have mvC:Mv [p] H5 (upd H5 p (.ins a.ai dx [("now",.int n),("times",.ref d),("wheels",.ref q3),("far",.ref f),("moves",.ref m)])):=.aV e5 (by intro _ z;cases z)
   have mvR:=GR.trans ((sm4.mv (S:=[p])).trans (mvB.trans ((sm5.mv (S:=[p])).trans mvC)))
   have W7:Mv [p] H H3:=iM.zb sm3
   have ae8:Mv [p] H H4:=W7.trans (GR.zb sm4)
   have Ek:H3 f=none:=GR.none Ro
   have Jx:H4 m=none:=mvB.none hn5
   have fH:H f=none:=W7.none Ek
   have mH:H m=none:=ae8.none Jx
   have qH:H q3=none:=iM.none um
   have dH1:H1 d≠none:=by obtain⟨kvs,e,_⟩:=YF;rw [e];simp
   have dH3:H3 d≠none:=by obtain⟨kvs,e,_⟩:=YF.keeps sm3;rw [e];simp
   have wH1:∀b∈ws.flatMap Wh.foot,H1 b=none:=M4
   have wH:∀b∈ws.flatMap Wh.foot,H b=none:=fun b hb=>iM.none (M4 b hb)
   have wH3:∀b∈ws.flatMap Wh.foot,H3 b≠none:=fun b hb=>by
    obtain⟨y,hy,hb⟩:=Lm.mp hb
    exact(bE y hy).1.alive b hb
   have qH3:H3 q3≠none:=by rw [ua];simp
   have up4:∀b,H3 b≠none->H4 b≠none:=fun b hb z=>hb ((GR.zb sm4).none z)
   have f4:H4 f≠none:=by obtain⟨xs,e,_⟩:=Rn;rw [e];simp
   have Ob:∀b,H b=none->b≠p:=fun b hb z=>by rw [z,hp] at hb;cases hb
   have abk:(p::d::m::fG.foot ⟨q3,f,ws,[]⟩).Nodup:=by
    show(p::d::m::q3::f::ws.flatMap Wh.foot).Nodup
    simp only [EN,AE,not_or] at oF ⊢
    refine⟨⟨(Ob d Ay).symm,(Ob m mH).symm,(Ob q3 qH).symm,(Ob f fH).symm,fun z=>Ob p (wH p z) rfl⟩,⟨fun z=>up4 d dH3 (z▸Jx),fun z=>dH1 (z▸um),fun z=>dH3 (z▸Ek),fun z=>dH1 (wH1 d z)⟩,⟨fun z=>up4 q3 qH3 (z▸Jx),fun z=>f4 (z▸Jx),fun z=>up4 m (wH3 m z) Jx⟩,⟨fun z=>qH3 (z▸Ek),oF.1⟩,fun z=>wH3 f z Ek,oF.2⟩
   have ZR:=Ob d Ay
   refine q _ d m ⟨q3,f,ws,[]⟩ (W7.trans mvR) (fun b hb=>?_) ⟨⟨⟨dx,av⟩,(YF.keeps sm3).mv mvR (by simpa using ZR),hm5.mv mvC (by simpa using Ob m mH),⟨mvR.at (by simpa using Ob q3 qH) ua,((Rn.mv mvB (by simpa using Ob f fH)).keeps sm5).mv mvC (by simpa using Ob f fH),fun y hy=>(bE y hy).1.mv mvR fun b hb=>by simpa using Ob b (wH b (Lm.mpr ⟨y,hy,hb⟩)),?_⟩,abk⟩,YS Et bE,Bv VH M6,.nil,.nil,fun x=>Iff.rfl⟩
   . rcases AE.mp hb with rfl|hb
     . exact Ay
     . rcases AE.mp hb with rfl|hb
       . exact mH
       . rcases AE.mp hb with rfl|hb
         . exact qH
         . rcases AE.mp hb with rfl|hb
           . exact fH
           . exact wH b hb
   . have:=abk
     rw [EN,EN,EN] at this
     exact this.2.2.2
theorem EB (T:Txt K mg a):cT P w K mg base 5 a.bQ ["self","rounds","now"] [] (yh a.ai a.aj):=
 ⟨⟨_,_,KP T,T.ji.binds fun _ _ _ _ _ _ s us kx hl=>by
   obtain⟨o,n,h1,h2⟩:=T.nA.ex
   have hl:us.length=3:=by simp at hl;omega
   obtain⟨_,_,_,rfl⟩:=Zc hl
   exact TD kx rfl h1 h2 rfl rfl,.nil⟩⟩
theorem Nk {C CW:Addr} {H:Hp} {Q:VK} {E:XK} {n:Int} {l:Addr} {rs:List Int} {us:List V} (eu:us=[.ref l,.int n]) (hl:eF H l (rs.map Sm)) (h1:1<=rs.length) (h6:rs.length<=6) (hr:∀r∈rs,2<=r/\r<=60)
 (k:∀x d m G H2,aA H H2->(∀b∈x::d::m::G.foot,H b=none)->GP C CW H2 x d m n (WE 1 rs) G [] []->Q (.ref x) H2):uL C (yh C CW) us H Q E:=by
 refine⟨_,eu,fun x dx hx hd ne=>?_⟩
 have sm:aA H (upd (upd H dx (.own x)) x (.ins C dx [])):=fun b u e=>by rw [ay (aC e hx),ay (aC e hd)];exact e
 refine⟨x,dx,l,_,n,rfl,av,hl.keeps sm,h6,h1,hr,fun H' d m G mv M4 hw=>⟨rfl,?_⟩⟩
 refine k x d m G H' (D5 hx hd mv) (fun b hb=>?_) hw
 rcases AE.mp hb with rfl|hb
 . exact hx
 . exact xM (M4 b hb)
structure Ch (us:List (Int × Int)):Prop where
 ok:E4 us
 one:∀q,us[0]? =some q->q.1=1
 nxt:∀(k:Nat) q q',us[k]? =some q->us[k+1]? =some q'->q'.1=q.1*q.2
 pos:0<us.length
theorem Ch.mul {us:List (Int × Int)} (h:Ch us):∀(k j:Nat) (q q':Int × Int),j<k->us[j]? =some q->us[k]? =some q'->∃r,0<r/\q'.1=q.1*q.2*r
 |0,j,q,q',hj,_,_=>by omega
 |k+1,j,q,q',hj,h1,h2=>by
  have hk:k<us.length:=by have:=(AS.mp h2).1;omega
  have mw:=AC hk
  have e:=h.nxt k _ q' mw h2
  by_cases c:j=k
  . subst c
    rw [h1] at mw
    cases mw
    exact⟨1,by decide,by rw [e,Int.mul_one]⟩
  . obtain⟨r,r0,er⟩:=h.mul k j q _ (by omega) h1 mw
    have hs:=(h.ok _ (B0 mw)).2.2.1
    refine⟨r*us[k].2,Int.mul_pos r0 (by omega),?_⟩
    rw [e,er,Int.mul_assoc]
theorem A7 {a r t n:Int} (ha:0<a) (h:t / a=n / a):t / (a*r)=n / (a*r):=by
 rw [<-Aax (NL ha),<-Aax (NL ha),h]
theorem pX {us:List (Int × Int)} (h:Ch us) {k:Nat} {q:Int × Int} (hq:us[k]? =some q):0<q.1*q.2/\0<q.1/\0<q.2:=by
 obtain⟨a1,a2,a3,a4⟩:=h.ok q (B0 hq)
 exact⟨Int.mul_pos a1 (by omega),a1,by omega⟩
theorem G9 {us:List (Int × Int)} (h:Ch us) {j k:Nat} {q q':Int × Int} (hj:j<k) (h1:us[j]? =some q) (h2:us[k]? =some q') {t n:Int} (pk:¬t / q'.1=n / q'.1):¬t / (q.1*q.2)=n / (q.1*q.2):=fun e=>by
 obtain⟨r,_,er⟩:=h.mul k j q q' hj h1 h2
 rw [er] at pk
 exact pk (A7 (pX h h1).1 e)
def ZG (q:Int × Int) (now to t:Int):Prop:=to / (q.1*q.2)=now / (q.1*q.2)->t / q.1 % q.2<=to / q.1 % q.2
def Out (us:List (Int × Int)) (now to t:Int):Prop:=(∀q,us[iz us t now]? =some q->ZG q now to t)/\(iz us t now=us.length->∀q,us[us.length - 1]? =some q->t / (q.1*q.2)<=to / (q.1*q.2))
theorem p6 {u s t:Int} (hu:0<=u):t / u=s*(t / (u*s))+t / u % s:=by
 rw [<-Aax hu]
 exact(Int.mul_ediv_add_emod (t / u) s).symm
theorem IM {us:List (Int × Int)} (h:Ch us) {now to t:Int} (hle:t<=to):Out us now to t:=by
 refine⟨fun q hq ho=>?_,fun _ q hq=>SL (pX h hq).1 hle⟩
 obtain⟨p1,p2,p3⟩:=pX h hq
 have hy:=z0 hq
 have a1:=p6 (s:=q.2) (t:=t) (NL p2)
 have a2:=p6 (s:=q.2) (t:=to) (NL p2)
 rw [hy] at a1
 rw [ho] at a2
 have:=SL p2 hle
 omega
theorem Bk {us:List (Int × Int)} (h:Ch us):∃q,us[us.length - 1]? =some q:=⟨_,AC (by have:=h.pos;omega)⟩
theorem rB {us:List (Int × Int)} (h:Ch us) {now to t:Int} (ho:¬Out us now to t):to<t/\iz us t to=iz us t now:=by
 have QM:to<t:=by
  by_cases c:t<=to
  . exact absurd (IM h c) ho
  . omega
 refine⟨QM,?_⟩
 by_cases c:iz us t now=us.length
 . obtain⟨q,hq⟩:=Bk h
   have tQ:¬t / (q.1*q.2)<=to / (q.1*q.2):=fun z=>ho ⟨(fun q' vV=>by rw [c,Os (BY _)] at vV;cases vV),(fun _ q' vV=>by rw [hq] at vV;cases vV;exact z)⟩
   rw [c]
   refine EW (fun j q' hj vV e=>?_) (.inl rfl)
   by_cases cj:j=us.length - 1
   . subst cj
     rw [hq] at vV;cases vV
     omega
   . obtain⟨r,_,er⟩:=h.mul (us.length - 1) j q' q (by omega) vV hq
     have e2:t / (q.1*q.2)=to / (q.1*q.2):=by
      rw [er,Int.mul_assoc]
      exact A7 (pX h vV).1 e
     omega
 . have iF:iz us t now<us.length:=by have:=vp us t now;omega
   have hq:=AC iF
   generalize us[iz us t now]=q at hq
   have hnw:¬ZG q now to t:=fun z=>ho ⟨(fun q' vV=>by rw [hq] at vV;cases vV;exact z),(fun e=>absurd e c)⟩
   have hh:to / (q.1*q.2)=now / (q.1*q.2):=by
    by_cases e:to / (q.1*q.2)=now / (q.1*q.2)
    . exact e
    . exact absurd (fun z=>absurd z e) hnw
   have hs:¬t / q.1 % q.2<=to / q.1 % q.2:=fun z=>hnw fun _=>z
   have hy:=z0 hq
   refine EW (fun j q' hj vV=>G9 h hj vV hq fun e=>hs (by rw [e];exact Zs _)) (.inr ⟨q,hq,by rw [hy,hh]⟩)
theorem down {us:List (Int × Int)} (h:Ch us) {now to t:Int} (Q0:now<=to) (ho:Out us now to t) (QM:to<t):iz us t to<iz us t now:=by
 by_cases c:iz us t now=us.length
 . obtain⟨q,hq⟩:=Bk h
   have h1:=ho.2 c q hq
   have h2:=SL (pX h hq).1 (NL QM)
   rw [c]
   by_cases d:iz us t to<us.length
   . exact d
   . have hp:=h.pos
     exact absurd (by omega:t / (q.1*q.2)=to / (q.1*q.2)) (EY (k:=us.length - 1) (by have:=vp us t to;omega) hq)
 . have iF:iz us t now<us.length:=by have:=vp us t now;omega
   have hq:=AC iF
   generalize us[iz us t now]=q at hq
   obtain⟨p1,p2,p3⟩:=pX h hq
   have hy:=z0 hq
   have hw:=ho.1 q hq
   have b1:=SL p1 Q0
   have b2:=SL p1 (NL QM)
   have hh:to / (q.1*q.2)=now / (q.1*q.2):=by omega
   have hs:=hw hh
   have a1:=p6 (s:=q.2) (t:=t) (NL p2)
   have a2:=p6 (s:=q.2) (t:=to) (NL p2)
   rw [hy] at a1
   rw [hh] at a2
   have b3:=SL p2 (NL QM)
   have e:t / q.1=to / q.1:=by omega
   cases hk:iz us t now with
   |zero=>
    rw [hk] at hq
    rw [h.one q hq] at e
    rw [Int.ediv_one,Int.ediv_one] at e
    omega
   |succ k=>
    rw [hk] at hq
    have hkl:k<us.length:=by omega
    have zi:=AC hkl
    have en:=h.nxt k _ q zi hq
    by_cases d:iz us t to<=k
    . omega
    . rw [en] at e
      exact absurd e (EY (k:=k) (by omega) zi)
theorem Il {rs:List Int} (h1:1<=rs.length) (hl:rs.length<=6) (hr:∀r∈rs,2<=r/\r<=60):Ch (WE 1 rs):=by
 refine⟨Bv hl hr,fun q hq=>(lV rs 1 0 q hq).1,fun k q q' hq vV=>?_,by rw [tG];omega⟩
 obtain⟨a1,a2⟩:=lV rs 1 k q hq
 obtain⟨b1,_⟩:=lV rs 1 (k+1) q' vV
 rw [b1,Tu,a2,a1]
 exact zk 1 q.2 (rs.take k)
theorem Bg {H:Hp} {Q:VK} {p b:Addr} {ds es:List BB} (hp:eF H p ds) (hb:eF H b es) (hl:ds.length+es.length<=4000) (h:∀H2,Mv [p] H H2->eF H2 p (ds++es)->Q .a9 H2):JK (.ref p) [.ref b] H Q:=by
 obtain⟨xs,e,dv,i⟩:=hp
 obtain⟨zs,e2,ZF,i2⟩:=hb
 have m:Mv [p] H (upd H p (.lst (xs++zs))):=.aV e (by intro _ z;cases z)
 exact⟨p,b,xs,zs,rfl,rfl,e,e2,by rw [dv.length,ZF.length];exact AaO (iP hl),h _ m ⟨_,av,m.HL (gR i i2) (dv.append ZF),gR i i2⟩⟩
def xD (y:Wh) (now to:Int):Int:=if to / (y.u*y.s)=now / (y.u*y.s) then f9 y to else 59
def Aac (cs:List Sl):List Str:=cs.flatMap (·.ns)
theorem FP {cs:List Sl} {L:Nat} (h:(Aac cs).length<=L) {c:Sl} (hc:c∈cs):c.ns.length<=L:=by
 obtain⟨a,b,e⟩:=List.append_of_mem hc
 unfold Aac at h
 rw [e,LS,PP,Do,Do] at h
 omega
theorem OM {m s:Int} (hm:0<=m) (hs:0<=s):AaM m (2*2^s.toNat - 1)=((m.toNat % 2^(s.toNat+1):Nat):Int):=by
 have e:(2*2^s.toNat - 1:Int)=((2^(s.toNat+1) - 1:Nat):Int):=by
  have h1:(2:Int)^s.toNat=((2^s.toNat:Nat):Int):=by norm_cast
  have h2:0<2^s.toNat:=Nat.two_pow_pos _
  rw [h1,Abr]
  omega
 rw [e,Ar hm (by omega),NG,Nat.and_two_pow_sub_one_eq_mod]
def Dh (CW:Addr):Sp:=fun vs H Q _=>∃(z:Addr) (y:Wh) (nw to:Int),vs=[.ref z,.int nw,.int to]/\z=y.x/\jB CW H y/\MR y/\y.foot.Nodup/\(y.cs.map (·.k)).Nodup/\iB y/\(∀c∈y.cs,0<=c.k/\c.k<60)/\(Aac y.cs).length<=3000/\
 ∀l H' y' A5,Mv y.foot H H'->jB CW H' y'->y'.x=y.x->y'.dn=y.dn->y'.u=y.u->y'.s=y.s->iB y'->y'.cs.Sublist y.cs->(∀c,c∈y'.cs↔c∈y.cs/\¬c.k<=xD y nw to)->(A5++y'.cs).Perm y.cs->(∀c∈A5,c.k<=xD y nw to)->H l=none->eF H' l ((Aac A5).map GM)->Q (.ref l) H'
theorem Lp (T:Txt K mg a):aS P w K mg base eP 2 a.cN a.o6 ["self","now","to"] (Dh a.aj):=by
 have n4:=T.cX;have cl:=T.bW
 have Sv:=T.oJ;have o8:=T.hZ;have Eu:=T.oE
 have SR:=Dy (P:=P) (w:=w) (base:=base) T
 have oZ:=vQ (P:=P) (w:=w) (base:=base) T
 have EG:=Dp (P:=P) (w:=w) (base:=base) T
 refine T.kN.ok dq (fun vs H Q E h=>?_) (fun di A outer s H vs Q E hr h=>?_)
 . obtain⟨_,_,_,_,rfl,_⟩:=h;rfl
 . obtain⟨_,y,nw,to,rfl,rfl,hw,hb,Ek,D0,Zt,VM,hlen,q⟩:=h
   obtain⟨dx,hx⟩:=hw.i
   have hi:iL H (.ref y.x) a.aj [("unit",.int y.u),("slots",.int y.s),("span",.int (y.u*y.s)),("mask",.int y.m),("names_in",.ref y.dn)]:=⟨y.x,dx,rfl,hx⟩
   have s0:=wJ hb to
   have s1:=Bh hb to
   have s2:=hb.2.2.2
   have R0:=Zt.1
   refine⟨_,(af (aE (i:=3) dq.nd rfl (FF rfl) (aq (pv 0) rfl))
    (du (bC (bx (az (pv 0) cl Sv SR (hr.mono (by decide)) (ae (pv 2) (ae (pv 1) ag))) (fun _=>rfl))
     (ah (aE (i:=3) dq.nd rfl (FF rfl) (aB VJ (pv 3) (aB x3 (aB Ff au (az (pv 0) cl o8 oZ (hr.mono (by decide)) (ae (pv 2) ag))) au))))
     aN)
    (af (aE (i:=4) dq.nd rfl (FF rfl) (dW ag))
    (af (sg Lo (aL Qp (pv 3) au (aR _))
     (af (aE (i:=5) dq.nd rfl (FF rfl) (aB x3 (O8 PySem.F.plainAttrs_int PySem.F.slot_int_bit_length PySem.F.type_int_bit_length Ms (pv 3)) au))
     (af (aI (jC GS Q4 Re oS (pv 4) (ae (az (pv 0) cl Eu EG (hr.mono (by decide)) (ae (pv 5) ag)) ag)))
     (ah (aE (i:=3) dq.nd rfl (FF rfl) (aB P5 (pv 3) (aB Ff au (pv 5))))))))
    (ah (aF (pv 4))))))),?_⟩
   repeat' (walk_at "rd1")
   refine iq (fun σ' H'=>H'=H/\∃P:Nat,σ'=[some (.ref y.x),some (.int nw),some (.int to),some (.int P),none,none]/\∀i:Nat,P.testBit i=y.cs.any fun c=>decide (c.k=(i:Int)/\c.k<=xD y nw to)) ?_ ?_
   . repeat' (walk_at "rd1")
     refine JQ rfl hw hb ?_
     repeat' (walk_at "rd1")
     . rename_i hh
       refine Bo rfl hw hb ?_
       refine r_i ⟨s0,by omega,by decide⟩ ?_
       repeat' (walk_at "rd1")
       refine⟨rfl,y.m.toNat % 2^((f9 y to).toNat+1),by rw [OM R0 s0];rfl,fun i=>?_⟩
       have DW:xD y nw to=f9 y to:=if_pos hh
       rw [Nat.testBit_mod_two_pow,Zt.2 i,DW,Nd,RI,j8,Mn,decide_eq_true_eq]
       constructor
       . rintro⟨h1,c,hc,e⟩
         exact⟨c,hc,decide_eq_true ⟨e,by omega⟩⟩
       . rintro⟨c,hc,e⟩
         obtain⟨e1,e2⟩:=of_decide_eq_true e
         exact⟨by omega,c,hc,e1⟩
     . rename_i hh
       refine⟨rfl,y.m.toNat,by rw [Int.toNat_of_nonneg R0];rfl,fun i=>?_⟩
       have DW:xD y nw to=59:=if_neg hh
       rw [Zt.2 i,DW,Nd,j8,Mn]
       constructor
       . rintro⟨c,hc,e⟩
         have:=VM c hc
         exact⟨c,hc,decide_eq_true ⟨e,by omega⟩⟩
       . rintro⟨c,hc,e⟩
         exact⟨c,hc,(of_decide_eq_true e).1⟩
   . rintro σ' H' ⟨rfl,P0,rfl,hP0⟩
     generalize DW:xD y nw to=lim at*
     repeat' (walk_at "rd1")
     rename_i l H1 E6 mQ K6
     have jA:=hw.keeps E6
     have hlf:l∉y.foot:=fun z=>hw.alive l z mQ
     refine wV (fun M σ' H'=>∃(P:Nat) (A5:List Sl) (y1:Wh) (z:Option V),σ'=[some (.ref y.x),some (.int nw),some (.int to),some (.int P),some (.ref l),z]/\M=P/\Mv (l::y.foot) H1 H'/\jB a.aj H' y1/\y1.x=y.x/\y1.dn=y.dn/\y1.u=y.u/\y1.s=y.s/\iB y1/\y1.cs.Sublist y.cs/\(A5++y1.cs).Perm y.cs/\(∀c∈A5,c.k<=lim)/\(∀i:Nat,P.testBit i=y1.cs.any fun c=>decide (c.k=(i:Int)/\c.k<=lim))/\eF H' l ((Aac A5).map GM)) ⟨P0,P0,[],y,none,rfl,rfl,Mv.refl,jA,rfl,rfl,rfl,rfl,Zt,List.Sublist.refl _,Abt _,(fun c h=>nomatch h),hP0,K6⟩ ?_
     rintro M σ' H2 ⟨P,A5,y1,z,rfl,rfl,mv,GN,ex,ed,eu,es,abW,pY,y3,hvl,hP,Mi⟩
     have Q6:∀c,c∈y1.cs->c∈y.cs:=fun c hc=>pY.subset hc
     have Nt:y1.foot.Sublist y.foot:=by
      unfold Wh.foot
      rw [ex,ed]
      exact((pY.map _).cons₂ _).cons₂ _
     obtain⟨dx2,MX⟩:=GN.i
     have Ho:iL H2 (.ref y.x) a.aj [("unit",.int y1.u),("slots",.int y1.s),("span",.int (y1.u*y1.s)),("mask",.int y1.m),("names_in",.ref y1.dn)]:=⟨y.x,dx2,rfl,by rw [<-ex];exact MX⟩
     repeat' (walk_at "rd1")
     . rename_i hM
       have hM0:0<M:=by omega
       refine⟨rfl,(M:Int),rfl,rfl,?_⟩
       have eS:((IS (M:Int):Nat):Int) - 1=(M.log2:Int):=by
        unfold IS
        have:¬((M:Int)==0)=true:=by simp;omega
        rw [if_neg this,Int.natAbs_natCast]
        omega
       repeat' (walk_at "rd1")
       rw [eS]
       have htb:M.testBit M.log2=true:=FH hM0
       have hbk:=hP M.log2
       rw [htb] at hbk
       obtain⟨c,hc,hck⟩:=Mn.mp hbk.symm
       obtain⟨hk,ZC⟩:=of_decide_eq_true hck
       have hcy:=Q6 c hc
       have mS:=VM c hcy
       have WD:(y1.cs.map (·.k)).Nodup:=D0.sublist (pY.map _)
       repeat' (walk_at "rd1")
       refine⟨y.x,y1,(M.log2:Int),c,rfl,ex.symm,GN,by unfold MR;rw [eu,es];exact hb,Ek.sublist Nt,WD,hc,hk,by omega,by omega,fun q2 H3 pJ vW ajo zi=>?_⟩
       have hly:l∉y1.foot:=fun z=>hlf (Nt.subset z)
       have Tw:=Mi.mv pJ hly
       have hln:((Aac A5).map GM).length+(c.ns.map GM).length<=3000:=by
        have h1:=(y3.flatMap_right (·.ns)).length_eq
        rw [LS,Do] at h1
        have h2:=FP (cs:=y1.cs) (BY _) hc
        unfold Aac at hlen h2 ⊢
        rw [AL,AL]
        omega
       repeat' (walk_at "rd1")
       refine Bg Tw zi (by omega) (fun H4 ud hl4=>?_)
       repeat' (walk_at "rd1")
       refine r_i ⟨by omega,by omega,by decide⟩ ?_
       repeat' (walk_at "rd1")
       rw [NG] at vW ⊢
       rw [Ae (by omega) (by rw [NG];exact htb),NG]
       have Rh:0<2^M.log2:=Nat.two_pow_pos _
       have aiZ:2^M.log2<=M:=Nat.ge_two_pow_of_testBit htb
       have pk:∀d∈y1.cs,d.k=(M.log2:Int)->d=c:=fun d hd e=>Ka WD hd hc (e.trans hk.symm)
       have ZR:(c::mJ y1.cs (M.log2:Int)).Perm y1.cs:=by
        obtain⟨A1,B1,e⟩:=List.append_of_mem hc
        have oF:=WD
        rw [e,Da,EO,Gc,EN] at oF
        have f1:A1.filter (fun c=>!decide (c.k=(M.log2:Int)))=A1:=Aal.mpr fun d hd=>by
         have:=oF.2.2 d.k (Cs hd) c.k BN
         simpa [<-hk] using this
        have f2:B1.filter (fun c=>!decide (c.k=(M.log2:Int)))=B1:=Aal.mpr fun d hd=>by
         have:d.k≠c.k:=fun z=>oF.2.1.1 (z▸Cs hd)
         simpa [<-hk] using this
        have f3:mJ y1.cs (M.log2:Int)=A1++B1:=by
         unfold mJ
         rw [e,ON,NE,if_neg (by simp [hk]),f1,f2]
        rw [f3,e]
        exact(List.perm_middle).symm
       refine⟨M - 2^M.log2,by omega,M - 2^M.log2,A5++[c],y1.emptied (M.log2:Int) (Na y1.m (1*2^M.log2)),_,rfl,rfl,Mv.step (Mv.step mv pJ fun b hb=>.inl (AD _ (Nt.subset hb))) ud fun b hb=>.inl (by rw [AN.mp hb];exact BN),vW.mv ud fun b hb=>?_,ex,ed,eu,es,?_,(JJ).trans pY,?_,fun d hd=>?_,fun i=>?_,?_⟩
       . have:b∈y1.foot:=(ED y1 _ _).subset hb
         simpa using fun z:b=l=>hly (z▸this)
       . have:=An (slot:=(M.log2:Int)) abW (by omega) hc hk
         rwa [NG] at this
       . rw [Ps]
         exact((Abt A5).append (by rw [List.singleton_append];exact ZR)).trans y3
       . rcases Cn.mp hd with hd|hd
         . exact hvl d hd
         . rw [AN.mp hd];exact ZC
       . rw [yR htb,hP i,Nd,RI,decide_eq_true_eq,Mn,Mn]
         constructor
         . rintro⟨⟨d,hd,e⟩,Yb⟩
           obtain⟨e1,e2⟩:=of_decide_eq_true e
           exact⟨d,CS.mpr ⟨hd,by simp;omega⟩,e⟩
         . rintro⟨d,hd,e⟩
           obtain⟨Ay,hd2⟩:=CS.mp hd
           obtain⟨e1,e2⟩:=of_decide_eq_true e
           have hd2:¬d.k=(M.log2:Int):=by simpa using hd2
           exact⟨⟨d,Ay,e⟩,by omega⟩
       . have e:(Aac (A5++[c])).map GM=(Aac A5).map GM++c.ns.map GM:=by
          unfold Aac
          rw [LS,Da]
          simp
         rw [e];exact hl4
     . rename_i hM
       have hM0:M=0:=by omega
       subst hM0
       have tQ:∀c∈y1.cs,¬c.k<=lim:=fun c hc hl=>by
        have h1:=VM c (Q6 c hc)
        have h2:=hP c.k.toNat
        rw [Nat.zero_testBit] at h2
        have h3:(y1.cs.any fun d=>decide (d.k=(c.k.toNat:Int)/\d.k<=lim))=true:=Mn.mpr ⟨c,hc,decide_eq_true ⟨by omega,hl⟩⟩
        rw [h3] at h2;cases h2
       refine q l H2 y1 A5 ?_ GN ex ed eu es abW pY (fun c=>⟨fun hc=>⟨Q6 c hc,tQ c hc⟩,fun⟨h1,h2⟩=>?_⟩) y3 hvl mQ Mi
       . exact Mv.step (E6.mv) mv fun b hb=>by
          rcases AE.mp hb with rfl|hb
          . exact .inr mQ
          . exact .inl hb
       . rcases Cn.mp (y3.mem_iff.mpr h1) with h3|h3
         . exact absurd (hvl c h3) h2
         . exact h3
theorem IQ (T:Txt K mg a):cT P w K mg base 2 a.cN ["self","now","to"] [] (Dh a.aj):=
 ⟨⟨_,_,Lp T,T.kN.binds fun _ _ _ _ _ _=>iC fun _ _ _=>rfl,.nil⟩⟩
def JH (C CW:Addr):Sp:=fun vs H Q _=>∃(p dx d m:Addr) (n:Int) (G:fG) (us:List (Int × Int)) (ql:Int × Int) (to:Int),vs=[.ref p,.int to]/\H p=some (.ins C dx (Vc n d G.q G.f m))/\zG CW H G/\G.ws.map (fun w=>(w.u,w.s))=us/\Ch us/\us[us.length - 1]? =some ql/\p∉G.foot/\G.eI.length<=3000/\(G.eI.Pairwise fun c d=>bw d c=true)/\
 ∀l H' keep gone,Mv [G.f] H H'->zG CW H' ⟨G.q,G.f,G.ws,keep⟩->G.eI=keep++gone->H l=none->eF H' l ((gone.reverse.map (·.2)).map GM)->(∀c∈gone,c.1 / (ql.1*ql.2)<=to / (ql.1*ql.2))->(∀c∈keep,¬c.1 / (ql.1*ql.2)<=to / (ql.1*ql.2))->Q (.ref l) H'
theorem PJ {ws:List Wh} {y:Wh} (h:ws[ws.length - 1]? =some y):zg (ws.map fun w=>V.ref w.x) (-1)=some (.ref y.x):=by
 obtain⟨hk,rfl⟩:=AS.mp h
 have e:M0 (ws.map fun w=>V.ref w.x).length (-1)=some (ws.length - 1):=by
  unfold M0
  rw [AL]
  simp
  omega
 unfold zg
 rw [e]
 simp [hk]
theorem N0 {xs:List BB} {x:BB}:zg (xs++[x]) (-1)=some x:=by
 unfold zg
 have e:M0 (xs++[x]).length (-1)=some xs.length:=by
  unfold M0
  rw [Do]
  simp
  omega
 rw [e]
 simp
theorem WM {H:Hp} {Q:VK} {p:Addr} {ks:List (Int × Str)} {c:Int × Str} (hp:eF H p (ks.map pairD++[pairD c])) (h:∀v H2,Dv H2 v (.tuple [.int c.1,.str c.2])->Mv [p] H H2->eF H2 p (ks.map pairD)->Q v H2):ab6 (.ref p) [] H Q:=by
 obtain⟨xs,e,dv,im⟩:=hp
 have MY:xs.length=ks.length+1:=by rw [dv.length,Do,AL];rfl
 have iF:xs.length - 1<xs.length:=by omega
 have m:Mv [p] H (upd H p (.lst xs.dropLast)):=.aV e (by intro _ z;cases z)
 obtain⟨v,hv,hd⟩:=dv.get (i:=xs.length - 1) (d:=pairD c) (by rw [MY,Nat.add_sub_cancel,Pd (by rw [AL];omega)];simp)
 refine⟨p,xs,v,rfl,rfl,e,hv,h v _ (m.dat rfl hd) m ⟨_,av,m.HL (cL (fun _=>rfl) _) ?_,cL (fun _=>rfl) _⟩⟩
 have:=dv.take ks.length
 rw [List.take_left' (by rw [AL])] at this
 rw [List.dropLast_eq_take,MY,Nat.add_sub_cancel]
 exact this
theorem Sq (T:Txt K mg a):aS P w K mg base eP 1 a.bH a.kU ["self","to"] (JH a.ai a.aj):=by
 have n1:=T.bo;have n2:=T.d7;have cl:=T.aQ
 have n3:=T.fA;have clw:=T.bW
 refine T.iw.ok gJ (fun vs H Q E h=>?_) (fun di A outer s H vs Q E hr h=>?_)
 . obtain⟨_,_,_,_,_,_,_,_,_,rfl,_⟩:=h;rfl
 . obtain⟨p,dx,d,m,n,G,us,ql,to,rfl,hp,hg,Et,vf,IC,hpf,hfl,afJ,q⟩:=h
   have hi:iL H (.ref p) a.ai [("now",.int n),("times",.ref d),("wheels",.ref G.q),("far",.ref G.f),("moves",.ref m)]:=⟨p,dx,rfl,hp⟩
   have UN:us.length=G.ws.length:=by rw [<-Et,AL]
   obtain⟨y,hy,eq⟩:∃y,G.ws[G.ws.length - 1]? =some y/\(y.u,y.s)=ql:=by
    rw [UN,<-Et,EU] at IC
    cases e:G.ws[G.ws.length - 1]? with
    |none=>rw [e] at IC;cases IC
    |some y=>rw [e] at IC;exact⟨y,rfl,CC IC⟩
   have Nf:=pX vf IC
   obtain⟨zx,zi,ua,Im⟩:=vf.ok _ (B0 IC)
   have GN:=hg.w y (B0 hy)
   obtain⟨RY,Hq⟩:=GN.i
   have hiy:iL H (.ref y.x) a.aj [("unit",.int y.u),("slots",.int y.s),("span",.int (y.u*y.s)),("mask",.int y.m),("names_in",.ref y.dn)]:=⟨y.x,RY,rfl,Hq⟩
   have esp:y.u*y.s=ql.1*ql.2:=by rw [<-eq]
   have hle:ql.1*ql.2<=10^12*60:=Int.mul_le_mul zi Im (by omega) (by decide)
   rw [esp] at hiy
   have hp0:=Nf.1
   generalize hSP:ql.1*ql.2=sp at*
   refine⟨_,(af (aE (i:=2) gJ.nd rfl (FF rfl) (aq (jZ sN (aq (pv 0) rfl) (Oz Ij au) (fun _ _=>rfl)) rfl))
    (af (aE (i:=3) gJ.nd rfl (FF rfl) (dW ag))
    (af (sg Lo (PW.pt (vm (bx (aq (pv 0) rfl) (fun _=>rfl)) (p4 (aL rQ (aB ck (jZ sN (jZ sN (aq (pv 0) rfl) (Oz Ij au) (fun _ _=>rfl)) au (fun _ _=>rfl)) (pv 2)) (aB ck (pv 1) (pv 2)) (aR _)))))
     (ah (aI (jC GS TW TZ t6 (pv 3) (ae (jZ sN (O8 GS PySem.F.slot_list_pop PySem.F.type_list_pop Xj (aq (pv 0) rfl)) au (fun _ _=>rfl)) ag)))))
    (ah (aF (pv 3)))))),?_⟩
   repeat' (walk_at "rd1")
   refine JB (.of hg.q) (PJ hy) ?_
   repeat' (walk_at "rd1")
   rename_i nl H1 E6 mQ K6
   have Kh:=hg.keeps E6
   have uY:=hi.keeps E6
   have hff:G.f≠nl:=fun z=>by
    obtain⟨xs,e,_⟩:=hg.f
    rw [z,mQ] at e;cases e
   have hpg:p≠G.f:=fun z=>hpf (by simp [fG.foot,z])
   have Zw:p≠nl:=aC hp mQ
   refine wV (fun M σ' H'=>∃keep gone,σ'=[some (.ref p),some (.int to),some (.int sp),some (.ref nl)]/\M=keep.length/\G.eI=keep++gone/\Mv [nl,G.f] H1 H'/\eF H' G.f (keep.map pairD)/\eF H' nl ((gone.reverse.map (·.2)).map GM)/\∀c∈gone,c.1 / sp<=to / sp) ⟨_,G.eI,[],rfl,rfl,(Mo _).symm,Mv.refl,Kh.f,K6,(fun c h=>nomatch h)⟩ ?_
   rintro M σ' H2 ⟨keep,gone,rfl,rfl,Fw,mv,Rq,Mi,Gg⟩
   have Ho:iL H2 (.ref p) a.ai [("now",.int n),("times",.ref d),("wheels",.ref G.q),("far",.ref G.f),("moves",.ref m)]:=⟨p,dx,rfl,mv.at (by simp [Zw,hpg]) (E6 _ _ hp)⟩
   have fin:(∀c∈keep,¬c.1 / sp<=to / sp)->Q (.ref nl) H2:=fun hk=>by
    have hgk:zG a.aj H2 ⟨G.q,G.f,G.ws,keep⟩:=by
     obtain⟨f1,f2,f3⟩:=Kh.CT
     have nq:∀b∈G.foot,b≠nl:=fun b hb z=>hg.alive b hb (z▸mQ)
     have hqf:G.q∈G.foot:=by simp [fG.foot]
     refine⟨mv.at ?_ Kh.q,Rq,fun w hw=>(Kh.w w hw).mv mv fun b hb=>?_,Kh.nd⟩
     . simp [nq G.q hqf,f1]
     . have:=nq b (oG hw b hb)
       simp [this,(f2 w hw b hb).2]
    refine q nl H2 keep gone ?_ hgk Fw mQ Mi Gg hk
    exact Mv.step (E6.mv) mv fun b hb=>by
     have:b=nl\/b=G.f:=by simpa using hb
     rcases this with rfl|rfl
     . exact .inr mQ
     . exact .inl (by simp)
   rcases List.eq_nil_or_concat keep with rfl|⟨k0,c,rfl⟩
   . repeat' (walk_at "rd1")
     exact fin (fun c h=>nomatch h)
   . have Xz:=Rq
     rw [SS,Da] at Xz
     have Rh:=afJ
     rw [Fw,SS,Ps,Sa,Sa] at Rh
     repeat' (walk_at "rd1")
     refine P1 (.inr Xz.dv) N0 ?_
     show AB H2 (.tuple [.int c.1,.str c.2]) _
     repeat' (walk_at "rd1")
     . rename_i v0 ZV hb
       refine WM Xz (fun v3 H3 hv3 pJ Zk=>?_)
       have Tw:=Mi.mv pJ (by simpa using LH hff)
       have hgl:gone.length<=3000:=by
        have:=congrArg Abc Fw
        rw [Do] at this
        omega
       have hdl:((gone.reverse.map (·.2)).map GM).length=gone.length:=by rw [AL,AL,List.length_reverse]
       repeat' (walk_at "rd1")
       rename_i H4 ud hl4
       have Rn:=Zk.mv ud (by simpa using hff)
       refine⟨k0.length,by rw [SS,Do];simp,k0,c::gone,rfl,rfl,by rw [Fw,SS,Ps];rfl,?_,Rn,?_,fun e he=>?_⟩
       . exact Mv.step (Mv.step mv pJ fun b hb=>.inl (by rw [AN.mp hb];simp)) ud fun b hb=>.inl (by rw [AN.mp hb];simp)
       . rw [List.reverse_cons,Da,Da];exact hl4
       . rcases AE.mp he with rfl|he
         . exact hb
         . exact Gg e he
     . rename_i v0 ZV hb
       refine fin fun e he=>?_
       rw [SS] at he
       rcases Cn.mp he with he|he
       . have h1:=Rh.2.2 e he c (by simp)
         have h2:c.1<=e.1:=by
          rcases Gw.mp h1 with h|h
          . omega
          . omega
         have h3:=SL hp0 h2
         omega
       . rw [AN.mp he];exact hb
theorem NY (T:Txt K mg a):cT P w K mg base 1 a.bH ["self","to"] [] (JH a.ai a.aj):=
 ⟨⟨_,_,Sq T,T.iw.binds fun _ _ _ _ _ _=>eC fun _ _=>rfl,.nil⟩⟩
theorem GI.ext {us:List (Int × Int)} {n:Int} {ts Xb:List (Str × Int)} {G:fG} (h:GI us n ts G) (e:∀y,y∈ts↔y∈Xb):GI us n Xb G:=
 ⟨h.eu,fun k w hw=>(h.wh k w hw).congr fun x j=>⟨fun⟨t,h1,h2⟩=>⟨t,(e _).mp h1,h2⟩,fun⟨t,h1,h2⟩=>⟨t,(e _).mpr h1,h2⟩⟩,fun c=>(h.eI c).trans ⟨fun⟨h1,h2⟩=>⟨(e _).mp h1,h2⟩,fun⟨h1,h2⟩=>⟨(e _).mpr h1,h2⟩⟩,h.MG⟩
theorem TR {cs:List Sl} (hk:(cs.map (·.k)).Nodup) (hn:∀c∈cs,c.ns.Nodup) (hd:∀c∈cs,∀d∈cs,∀x,x∈c.ns->x∈d.ns->c.k=d.k):(Aac cs).Nodup:=by
 unfold Aac
 induction cs with
 |nil=>exact .nil
 |cons c r ih=>
  rw [EO,EN] at hk
  rw [PP,Gc]
  refine⟨hn c BN,ih hk.2 (fun d rE=>hn d (AD _ rE)) fun d rE e he=>hd d (AD _ rE) e (AD _ he),fun x hx y hy e=>?_⟩
  obtain⟨d,rE,JI⟩:=Lm.mp hy
  have:=hd c BN d (AD _ rE) x hx (e▸JI)
  exact hk.1 (this▸Cs rE)
theorem GI.Hk {us:List (Int × Int)} {n:Int} {ts:List (Str × Int)} {G:fG} (h:GI us n ts G) (oF:(ts.map (·.1)).Nodup) {k:Nat} {w:Wh} (hw:G.ws[k]? =some w) {cs:List Sl} (hs:∀c∈cs,c∈w.cs) (hk:(cs.map (·.k)).Nodup):(Aac cs).Nodup:=by
 have hi:=h.wh k w hw
 refine TR hk (fun c hc=>(hi.ne c (hs c hc)).2.1) fun c hc d hd x hx u3=>?_
 obtain⟨t,ht,_,e⟩:=(hi.mem x c.k).mp ⟨c,hs c hc,rfl,hx⟩
 obtain⟨t',WN,_,e'⟩:=(hi.mem x d.k).mp ⟨d,hs d hd,rfl,u3⟩
 rw [lI oF ht WN] at e
 exact e.symm.trans e'
theorem Dl {cs:List Sl} {x:Str}:x∈Aac cs↔∃c∈cs,x∈c.ns:=Lm
theorem xG {us:List (Int × Int)} {n to t:Int} {w:Wh} (hq:us[iz us t n]? =some (w.u,w.s)) (hb:MR w) (hl:iz us t n<us.length):Out us n to t↔t / w.u % w.s<=xD w n to:=by
 have U6:t / w.u % w.s<w.s:=WJ _ (by have:=hb.2.2.1;omega)
 have hs6:=hb.2.2.2
 unfold xD
 constructor
 . intro ho
   have:=ho.1 _ hq
   split
   . rename_i e;exact this e
   . omega
 . intro DW
   refine⟨fun q vV e=>?_,fun e=>absurd e (by omega)⟩
   rw [hq] at vV
   cases vV
   rw [if_pos e] at DW
   exact DW
def OT (us:List (Int × Int)) (n to:Int) (ws y6:List Wh) (i:Nat):Prop:=y6.length=ws.length/\(∀j,i<=j->y6[j]? =ws[j]?)/\∀(j:Nat) w,j<i->ws[j]? =some w->∃w',y6[j]? =some w'/\w'.x=w.x/\w'.dn=w.dn/\w'.u=w.u/\w'.s=w.s/\iB w'/\w'.cs.Sublist w.cs/\∀c,c∈w'.cs↔c∈w.cs/\¬c.k<=xD w n to
theorem Si {us:List (Int × Int)} {n to:Int} {ts st:List (Str × Int)} {G:fG} {y6:List Wh} {keep gone:List (Int × Str)} {ql:Int × Int} (h:GI us n ts G) (vf:Ch us) (se:∀y,y∈st↔y∈ts/\¬Out us n to y.2) (hr:OT us n to G.ws y6 G.ws.length) (hf:G.eI=keep++gone) (IC:us[us.length - 1]? =some ql) (hg:∀c∈gone,c.1 / (ql.1*ql.2)<=to / (ql.1*ql.2)) (hk:∀c∈keep,¬c.1 / (ql.1*ql.2)<=to / (ql.1*ql.2)):GI us to st ⟨G.q,G.f,y6,keep⟩:=by
 have UN:=h.len
 obtain⟨r1,r2,r3⟩:=hr
 refine⟨?_,fun k w' KC=>?_,fun c=>?_,?_⟩
 . refine AaJ fun j=>?_
   rw [<-h.eu]
   show(y6.map fun w=>(w.u,w.s))[j]? =(G.ws.map fun w=>(w.u,w.s))[j]?
   rw [EU,EU]
   by_cases c:j<G.ws.length
   . obtain⟨w',e1,_,_,e4,e5,_⟩:=r3 j _ c (AC c)
     rw [e1,AC c]
     simp [e4,e5]
   . rw [r2 j (by omega)]
 . have KC:y6[k]? =some w':=KC
   have hkl:k<G.ws.length:=by have:=(AS.mp KC).1;omega
   have hw:=AC hkl
   generalize G.ws[k]=w at hw
   obtain⟨w2,e1,e2,e3,e4,e5,hm,pY,wR⟩:=r3 k w hkl hw
   rw [KC] at e1
   cases e1
   have hi:=h.wh k w hw
   have hq:=h.at hw
   have hb:=h.bnd vf.ok hw
   refine⟨hm,hi.nd.sublist (pY.map _),fun c hc=>?_,fun x j=>?_⟩
   . obtain⟨a1,a2,a3,a4⟩:=hi.ne c (pY.subset hc)
     exact⟨a1,a2,a3,by rw [e5];exact a4⟩
   . rw [e4,e5]
     constructor
     . rintro⟨c,hc,QL,hx⟩
       obtain⟨WR,QY⟩:=(wR c).mp hc
       obtain⟨t,ht,Ra,Wb⟩:=(hi.mem x j).mp ⟨c,WR,QL,hx⟩
       have tQ:¬Out us n to t:=fun ho=>by
        have:=(xG (to:=to) (by rw [Ra];exact hq) hb (by omega)).mp ho
        rw [Wb,<-QL] at this
        exact QY this
       exact⟨t,(se _).mpr ⟨ht,tQ⟩,(rB vf tQ).2.trans Ra,Wb⟩
     . rintro⟨t,ht,Ra,Wb⟩
       obtain⟨ht1,tQ⟩:=(se _).mp ht
       have tQ:¬Out us n to t:=tQ
       have aad:iz us t n=k:=(rB vf tQ).2.symm.trans Ra
       obtain⟨c,hc,QL,hx⟩:=(hi.mem x j).mpr ⟨t,ht1,aad,Wb⟩
       refine⟨c,(wR c).mpr ⟨hc,fun hl=>tQ ?_⟩,QL,hx⟩
       refine(xG (to:=to) (by rw [aad];exact hq) hb (by omega)).mpr ?_
       rw [Wb,<-QL];exact hl
 . show c∈keep↔_
   have Xu:=h.eI c
   rw [hf,Cn] at Xu
   constructor
   . intro hc
     obtain⟨h1,h2⟩:=Xu.mp (.inl hc)
     have tQ:¬Out us n to c.1:=fun ho=>hk c hc (ho.2 h2 ql IC)
     exact⟨(se _).mpr ⟨h1,tQ⟩,(rB vf tQ).2.trans h2⟩
   . rintro⟨h1,h2⟩
     obtain⟨h3,tQ⟩:=(se _).mp h1
     have tQ:¬Out us n to c.1:=tQ
     have h4:iz us c.1 n=us.length:=(rB vf tQ).2.symm.trans h2
     rcases Xu.mpr ⟨h3,h4⟩ with hc|hc
     . exact hc
     . refine absurd ⟨fun q hq=>?_,fun _ q hq=>?_⟩ tQ
       . rw [h4,Os (BY _)] at hq;cases hq
       . rw [IC] at hq;cases hq;exact hg c hc
 . have:=h.MG
   rw [hf] at this
   exact(Sa.mp this).1
def xR (ts:List (Str × Int)) (x:Str):Int:=((ts.find? fun y=>decide (y.1=x)).map (·.2)).getD 0
theorem sO {ts:List (Str × Int)} (hn:(ts.map (·.1)).Nodup) {x:Str} {t:Int} (h:(x,t)∈ts):xR ts x=t:=by
 unfold xR
 cases e:ts.find? fun y=>decide (y.1=x) with
 |none=>
  rw [WP] at e
  exact absurd (by simp) (e _ h)
 |some y=>
  have h1:=Aah e
  have h2:y.1=x:=by simpa using List.find?_some e
  have h3:(x,y.2)∈ts:=by rw [<-h2];exact h1
  exact lI hn h3 h
def B6 (mv:List (Str × Int)) (x:Str) (v:Int):List (Str × Int):=mv.map fun y=>if y.1=x then (y.1,v) else y
theorem IU (mv:List (Str × Int)) (x:Str) (v:Int):(B6 mv x v).map (·.1)=mv.map (·.1):=by
 unfold B6
 rw [KB]
 refine Su fun y _=>?_
 show(if y.1=x then (y.1,v) else y).1=y.1
 split <;>rfl
theorem ND {mv:List (Str × Int)} {x:Str} {v:Int} (h:x∈mv.map (·.1)):putD (sA mv) x (.int v)=sA (B6 mv x v):=by
 unfold putD
 have e:((sA mv).any fun kv=>decide (kv.1=x))=true:=by
  obtain⟨y,hy,rfl⟩:=AT.mp h
  exact Mn.mpr ⟨(y.1,.int y.2),AT.mpr ⟨y,hy,rfl⟩,by simp⟩
 rw [if_pos e]
 unfold sA B6
 rw [KB,KB]
 refine Su fun y _=>?_
 simp only [Aa4]
 split <;>rfl
theorem PH {mv:List (Str × Int)} {x:Str} {v:Int} {y:Str × Int} (hx:x∈mv.map (·.1)):y∈B6 mv x v↔(y.1=x/\y.2=v)\/(y.1≠x/\y∈mv):=by
 unfold B6
 constructor
 . intro h
   obtain⟨z,hz,rfl⟩:=AT.mp h
   by_cases e:z.1=x
   . rw [if_pos e];exact .inl ⟨e,rfl⟩
   . rw [if_neg e];exact .inr ⟨e,hz⟩
 . rintro(⟨h1,h2⟩|⟨h1,h2⟩)
   . obtain⟨z,hz,e⟩:=AT.mp hx
     exact AT.mpr ⟨z,hz,by rw [if_pos e];exact Prod.ext (e.trans h1.symm) h2.symm⟩
   . exact AT.mpr ⟨y,h2,if_neg h1⟩
open Classical in
noncomputable def AZ (us:List (Int × Int)) (n to:Int) (ts:List (Str × Int)):List (Str × Int):=ts.filter fun y=>decide (¬Out us n to y.2)
open Classical in
theorem x6 {us:List (Int × Int)} {n to:Int} {ts:List (Str × Int)} {y:Str × Int}:y∈AZ us n to ts↔y∈ts/\¬Out us n to y.2:=by
 unfold AZ
 rw [CS,decide_eq_true_eq]
theorem Lb (us:List (Int × Int)) (n to:Int) (ts:List (Str × Int)):(AZ us n to ts).length<=ts.length:=Nl _ _
def tP (ts:List (Str × Int)) (to:Int) (ln:List Str):List (Str × Int):=(ln.filter fun x=>decide (to<xR ts x)).map fun x=>(x,xR ts x)
theorem A8 (ts:List (Str × Int)) (to:Int) (l:List Str) (x:Str):tP ts to (l++[x])=tP ts to l++(if to<xR ts x then [(x,xR ts x)] else []):=by
 unfold tP
 rw [ON,Da]
 congr 1
 by_cases h:to<xR ts x <;>simp [h]
def overs (ts:List (Str × Int)) (to:Int) (ln:List Str):List Str:=ln.filter fun x=>decide (xR ts x<=to)
theorem Bz (ts:List (Str × Int)) (to:Int) (l:List Str) (x:Str):overs ts to (l++[x])=overs ts to l++(if xR ts x<=to then [x] else []):=by
 unfold overs
 rw [ON]
 congr 1
 by_cases h:xR ts x<=to <;>simp [h]
theorem C9 {ts:List (Str × Int)} {to:Int} {l:List Str} {y:Str × Int}:y∈tP ts to l↔y.1∈l/\y.2=xR ts y.1/\to<xR ts y.1:=by
 unfold tP
 rw [AT]
 constructor
 . rintro⟨x,hx,rfl⟩
   obtain⟨h1,h2⟩:=CS.mp hx
   exact⟨h1,rfl,of_decide_eq_true h2⟩
 . rintro⟨h1,h2,h3⟩
   exact⟨y.1,CS.mpr ⟨h1,decide_eq_true h3⟩,Prod.ext rfl h2.symm⟩
theorem KU {ts:List (Str × Int)} {to:Int} {l:List Str} {x:Str}:x∈overs ts to l↔x∈l/\xR ts x<=to:=by
 unfold overs
 rw [CS,decide_eq_true_eq]
def yF (C CW:Addr):Sp:=fun vs H Q _=>∃(p d m:Addr) (n:Int) (us:List (Int × Int)) (G:fG) (ts eD:List (Str × Int)) (to:Int),vs=[.ref p,.int to]/\GP C CW H p d m n us G ts eD/\Ch us/\n<=to/\ts.length<=900/\
 ∀(l:Addr) (H':Hp) (G':fG) (mz:List (Str × Int)) (ov:List Str),Mv (m::G.foot) H H'->gH C CW H' p d m n G' ts mz->GI us to (ts.filter fun y=>decide (to<y.2)) G'->ov.Nodup->(∀x,x∈ov↔∃t,(x,t)∈ts/\t<=to)->(mz.map (·.1)).Nodup->(∀x v',(x,v')∈mz↔∃t v,(x,t)∈ts/\to<t/\(x,v)∈eD/\v'=v+(if iz us t to<iz us t n then 1 else 0))->(∀b∈G'.foot,b∈G.foot\/H b=none)->H l=none->eF H' l (ov.map GM)->Q (.ref l) H'
theorem MI (T:Txt K mg a):aS P w K mg base eP 4 a.cq a.m8 ["self","to"] (yF a.ai a.aj):=by
 have n1:=T.bo;have n2:=T.cB;have n3:=T.cO;have n4:=T.cQ;have cl:=T.aQ;have clw:=T.bW
 have FL:=T.md;have vO:=T.jf
 have F1:=NY (P:=P) (w:=w) (base:=base) T
 have vJ:=Kn (P:=P) (w:=w) (base:=base) T
 have zv:=IQ (P:=P) (w:=w) (base:=base) T
 refine T.jM.ok dQ (fun vs H Q E h=>?_) (fun di A outer s H vs Q E hr h=>?_)
 . obtain⟨_,_,_,_,_,_,_,_,_,rfl,_⟩:=h;rfl
 . obtain⟨p,d,m,n,us,G,ts,eD,to,rfl,hw,vf,Q0,hlen,q⟩:=h
   have hi:=hw.ws.ins
   obtain⟨dx,hp⟩:=hw.ws.ex
   obtain⟨ff1,ff2,ff3,ff4,ff5,ff6⟩:=hw.ws.yZ
   obtain⟨ql,IC⟩:=Bk vf
   have rC:=hw.gi
   have UN:=rC.len
   have ahz:=rC.Ji
   refine⟨_,(af (aE (i:=2) dQ.nd rfl (FF rfl) (az (pv 0) cl FL F1 (hr.mono (by decide)) (ae (pv 1) ag)))
    (af (mx Lo rfl (hV (aq (pv 0) rfl)) (cf (i:=3) dQ.nd rfl (FF rfl))
     (ah (aI (jC GS Q4 Re oS (pv 2) (ae (az (pv 3) T.bW T.q9 zv (hr.mono (by decide)) (ae (aq (pv 0) rfl) (ae (pv 1) ag))) ag)))))
    (af (aE (i:=4) dQ.nd rfl (FF rfl) (dW ag))
    (af (mx Lo rfl (hV (pv 2)) (cf (i:=5) dQ.nd rfl (FF rfl))
     (ah (bC (aL rQ (ng (iK hr) (aq (pv 0) rfl) (pv 5) (fun _ _=>rfl)) (pv 1) (aR _))
      (af (aI (jC KF No OE qk (aq (pv 0) rfl) (ae (pv 5) ag)))
      (ah (aI (jC GS TW TZ t6 (pv 4) (ae (pv 5) ag)))))
      (af (t9 (iK hr) (aq (pv 0) rfl) (pv 5) (aB bq (ng (iK hr) (aq (pv 0) rfl) (pv 5) (fun _ _=>rfl)) au) rfl)
      (ah (aI (az (pv 0) cl vO vJ (hr.mono (by decide)) (ae (pv 5) (ae (ng (iK hr) (aq (pv 0) rfl) (pv 5) (fun _ _=>rfl)) (ae (pv 1) ag))))))))))
    (ah (aF (pv 4))))))),?_⟩
   repeat' (walk_at "rd1")
   refine⟨p,dx,d,m,n,G,us,ql,to,rfl,hp,hw.ws.g,rC.eu,vf,IC,ff4,by omega,rC.MG,fun nl H1 keep gone iM Kh Fw mQ K6 Gg Vk=>?_⟩
   have hgf:G.f∈G.foot:=by simp [fG.foot]
   have NS:Mv G.foot H H1:=cW iM fun b hb=>(AN.mp hb)▸hgf
   have Fh:=NS.at ff4 hp
   have uY:iL H1 (.ref p) a.ai [("now",.int n),("times",.ref d),("wheels",.ref G.q),("far",.ref G.f),("moves",.ref m)]:=⟨p,dx,rfl,Fh⟩
   have nlf:∀b∈p::d::m::G.foot,b≠nl:=fun b hb z=>hw.ws.alive b hb (z▸mQ)
   have nlG:nl∉G.foot:=fun z=>nlf nl (by simp [z]) rfl
   have Zw:p≠nl:=nlf p (by simp)
   have hqn:G.q≠nl:=nlf G.q (by simp [fG.foot])
   repeat' (walk_at "rd1")
   have aal:(gone.reverse.map (·.2)).Nodup/\∀x,x∈gone.reverse.map (·.2)↔∃t,(x,t)∈ts/\Out us n to t/\(iz us t n<0\/iz us t n=us.length):=by
    have wR:∀c,c∈gone↔(c.2,c.1)∈ts/\iz us c.1 n=us.length/\Out us n to c.1:=fun c=>by
     have Xu:=rC.eI c
     rw [Fw,Cn] at Xu
     constructor
     . intro hc
       obtain⟨h1,h2⟩:=Xu.mp (.inr hc)
       refine⟨h1,h2,fun q hq=>?_,fun _ q hq=>?_⟩
       . rw [h2,Os (BY _)] at hq;cases hq
       . rw [IC] at hq;cases hq;exact Gg c hc
     . rintro⟨h1,h2,h3⟩
       rcases Xu.mpr ⟨h1,h2⟩ with hc|hc
       . exact absurd (h3.2 h2 ql IC) (Vk c hc)
       . exact hc
    constructor
    . rw [List.map_reverse]
      refine(List.reverse_perm _).nodup_iff.mpr ?_
      have Rh:=rC.MG
      rw [Fw] at Rh
      have hpg:=(Sa.mp Rh).2.1
      rw [SI,Sk]
      refine hpg.imp_of_mem fun {c d} hc hd iF e=>?_
      have h1:=((wR c).mp hc).1
      have h2:=((wR d).mp hd).1
      rw [e] at h1
      have e1:=lI hw.nd h1 h2
      have:c=d:=Prod.ext e1 e
      rw [this,iR] at iF;cases iF
    . intro x
      rw [AT]
      constructor
      . rintro⟨c,hc,rfl⟩
        obtain⟨h1,h2,h3⟩:=(wR c).mp (List.mem_reverse.mp hc)
        exact⟨c.1,h1,h3,.inr h2⟩
      . rintro⟨t,h1,h2,h3⟩
        exact⟨(t,x),List.mem_reverse.mpr ((wR (t,x)).mpr ⟨h1,h3.resolve_left (by omega),h2⟩),rfl⟩
   have acd:OT us n to G.ws G.ws 0:=⟨rfl,fun j _=>rfl,fun j w h=>absurd h (by omega)⟩
   have JL:∀(ln:List Str),ln.Nodup->(∀x∈ln,∃t,(x,t)∈ts)->ln.length<=900:=fun ln h1 h2=>by
    have:=sM (l':=ts.map (·.1)) h1 fun x hx=>let ⟨t,ht⟩:=h2 x hx;AT.mpr ⟨_,ht,rfl⟩
    rw [AL] at this
    omega
   refine forL (xs:=G.ws.map fun w=>V.ref w.x) (.of (by have:=Kh.q;exact this)) (fun i σ' H'=>∃z,σ'=[some (.ref p),some (.int to),some (.ref nl),z,none,none]/\Mv (nl::G.foot) H1 H'/\∃y6 ln,zG a.aj H' ⟨G.q,G.f,y6,keep⟩/\OT us n to G.ws y6 i/\(∀b∈fG.foot ⟨G.q,G.f,y6,keep⟩,b∈G.foot)/\eF H' nl (ln.map GM)/\ln.Nodup/\∀x,x∈ln↔∃t,(x,t)∈ts/\Out us n to t/\(iz us t n<i\/iz us t n=us.length)) ⟨_,rfl,Mv.refl,G.ws,_,Kh,acd,fun b hb=>hb,K6,aal.1,aal.2⟩ ?_ ?_ ?_
   . rintro i σ' H' - ⟨z,-,mv,y6,ln,Ys,Ak,-⟩
     have e:y6.map (fun w=>V.ref w.x)=G.ws.map fun w=>V.ref w.x:=by
      refine AaJ fun j=>?_
      rw [EU,EU]
      by_cases c:j<i
      . by_cases c2:j<G.ws.length
        . obtain⟨w',e1,e2,_⟩:=Ak.2.2 j _ c (AC c2)
          rw [e1,AC c2];simp [e2]
        . rw [Os (by rw [Ak.1];omega),Os (by omega)]
      . rw [Ak.2.1 j (by omega)]
     rw [<-e]
     exact .of Ys.q
   . rintro i x σ' H' hx ⟨z,rfl,mv,y6,ln,Ys,Ak,hfs,Dw,LD,Zf⟩
     obtain⟨y,hy,rfl⟩:∃y,G.ws[i]? =some y/\V.ref y.x=x:=by
      rw [EU] at hx
      cases e:G.ws[i]? with
      |none=>rw [e] at hx;cases hx
      |some y=>rw [e] at hx;exact⟨y,rfl,CC hx⟩
     have JI:y6[i]? =some y:=by rw [Ak.2.1 i (BY _)];exact hy
     have GN:=Ys.w y (B0 JI)
     have FG:=rC.wh i y hy
     have Rb:=rC.bnd vf.ok hy
     obtain⟨RY,Hq⟩:=GN.i
     have hiy:iL H' (.ref y.x) a.aj [("unit",.int y.u),("slots",.int y.s),("span",.int (y.u*y.s)),("mask",.int y.m),("names_in",.ref y.dn)]:=⟨y.x,RY,rfl,Hq⟩
     have hpG:p∉nl::G.foot:=by simp [Zw,ff4]
     have MF:iL H' (.ref p) a.ai [("now",.int n),("times",.ref d),("wheels",.ref G.q),("far",.ref G.f),("moves",.ref m)]:=⟨p,dx,rfl,mv.at hpG Fh⟩
     repeat' (walk_at "rd1")
     have afp:=B0 JI
     have Nt:y.foot.Nodup:=by
      have:=Ys.CT.2.2
      obtain⟨e1,_⟩:=xr JI y
      rw [show(fG.ws ⟨G.q,G.f,y6,keep⟩)=y6 from rfl,e1,LS,PP,Gc,Gc] at this
      exact this.2.1.1
     have hyG:∀b∈y.foot,b∈G.foot:=fun b hb=>hfs b (oG (G:=⟨G.q,G.f,y6,keep⟩) afp b hb)
     have hny:nl∉y.foot:=fun z=>nlG (hyG nl z)
     have adZ:=rC.Hk hw.nd hy (fun c hc=>hc) FG.nd
     have aja:=JL _ adZ fun x hx=>by
      obtain⟨c,hc,Pr⟩:=Dl.mp hx
      obtain⟨t,ht,_⟩:=(FG.mem x c.k).mp ⟨c,hc,rfl,Pr⟩
      exact⟨t,ht⟩
     have aff:=JL ln LD fun x hx=>let ⟨t,ht,_⟩:=(Zf x).mp hx;⟨t,ht⟩
     refine⟨y.x,y,n,to,rfl,rfl,GN,Rb,Nt,FG.nd,FG.mk',fun c hc=>?_,by omega,fun l2 H2 y' A5 gL zc ex ed eu es hm2 pY wR y3 hvl px Mi=>?_⟩
     . obtain⟨_,_,a3,a4⟩:=FG.ne c hc
       have:=Rb.2.2.2
       exact⟨a3,by omega⟩
     have hvs:∀c∈A5,c∈y.cs:=fun c hc=>y3.mem_iff.mp (EQ _ hc)
     have hvk:(A5.map (·.k)).Nodup:=by
      have:=((y3.map (·.k)).nodup_iff).mpr FG.nd
      rw [Da,Gc] at this
      exact this.1
     have abx:=rC.Hk hw.nd hy hvs hvk
     have hvm:∀x,x∈Aac A5↔∃t,(x,t)∈ts/\Out us n to t/\iz us t n=i:=fun x=>by
      have NZ:i<us.length:=by have:=(AS.mp hy).1;omega
      rw [Dl]
      constructor
      . rintro⟨c,hc,Pr⟩
        obtain⟨t,ht,Ra,Wb⟩:=(FG.mem x c.k).mp ⟨c,hvs c hc,rfl,Pr⟩
        refine⟨t,ht,(xG (to:=to) (by rw [Ra];exact rC.at hy) Rb (by omega)).mpr ?_,Ra⟩
        rw [Wb];exact hvl c hc
      . rintro⟨t,ht,ho,Ra⟩
        obtain⟨c,hc,hk,Pr⟩:=(FG.mem x (t / y.u % y.s)).mpr ⟨t,ht,Ra,rfl⟩
        have hle:=(xG (to:=to) (by rw [Ra];exact rC.at hy) Rb (by omega)).mp ho
        rw [<-hk] at hle
        rcases Cn.mp (y3.mem_iff.mpr hc) with h|h
        . exact⟨c,h,Pr⟩
        . exact absurd hle ((wR c).mp h).2
     have Yk:y'.foot.Sublist y.foot:=by
      unfold Wh.foot
      rw [ex,ed]
      exact((pY.map _).cons₂ _).cons₂ _
     have adD:=Dw.mv gL hny
     have hlv:=JL _ abx fun x hx=>let ⟨t,ht,_⟩:=(hvm x).mp hx;⟨t,ht⟩
     repeat' (walk_at "rd1")
     refine Bg adD Mi (by rw [AL,AL];omega) (fun H3 pJ Tw=>?_)
     obtain⟨Nc,aj5⟩:=Ys.set (w':=y') JI gL zc ex (Nt.sublist Yk) fun b hb=>.inl (Yk.subset hb)
     have acu:∀b∈fG.foot ⟨G.q,G.f,y6.set i y',keep⟩,b∈G.foot:=fun b hb=>hfs b (Gx (G:=⟨G.q,G.f,y6,keep⟩) (w':=y') JI (fun b hb=>Yk.subset hb) b hb)
     have hg3:=Nc.mv pJ fun b hb=>by
      have:b≠nl:=fun z=>nlG (z▸acu b hb)
      simpa using this
     refine⟨_,rfl,Mv.step (Mv.step mv gL fun b hb=>.inl (AD _ (hyG b hb))) pJ fun b hb=>.inl (by rw [AN.mp hb];exact BN),y6.set i y',ln++Aac A5,hg3,⟨by rw [List.length_set];exact Ak.1,fun j hj=>?_,fun j w0 hj hw0=>?_⟩,acu,by rw [Da];exact Tw,?_,fun x=>?_⟩
     . rw [Aab (by omega)];exact Ak.2.1 j (by omega)
     . by_cases e:j=i
       . subst e
         rw [hy] at hw0
         cases hw0
         exact⟨y',by rw [AaA (AS.mp JI).1],ex,ed,eu,es,hm2,pY,wR⟩
       . rw [Aab (fun z=>e z.symm)]
         exact Ak.2.2 j w0 (by omega) hw0
     . rw [Gc]
       refine⟨LD,abx,fun x hx y0 hy0 e=>?_⟩
       subst e
       obtain⟨t,ht,_,h1⟩:=(Zf x).mp hx
       obtain⟨t',WN,_,h2⟩:=(hvm x).mp hy0
       rw [lI hw.nd ht WN] at h1
       have NZ:i<us.length:=by have:=(AS.mp hy).1;omega
       omega
     . rw [Cn,Zf x,hvm x]
       constructor
       . rintro(⟨t,h1,h2,h3⟩|⟨t,h1,h2,h3⟩)
         . exact⟨t,h1,h2,by omega⟩
         . exact⟨t,h1,h2,by omega⟩
       . rintro⟨t,h1,h2,h3⟩
         by_cases e:iz us t n=i
         . exact .inr ⟨t,h1,h2,e⟩
         . exact .inl ⟨t,h1,h2,by omega⟩
   . rintro σ' H' ⟨z,rfl,mv,y6,ln,Ys,Ak,hfs,Dw,LD,Zf⟩
     rw [AL] at Ak Zf
     have Hz:∀x,x∈ln↔∃t,(x,t)∈ts/\Out us n to t:=fun x=>(Zf x).trans ⟨fun⟨t,h1,h2,_⟩=>⟨t,h1,h2⟩,fun⟨t,h1,h2⟩=>⟨t,h1,h2,by have:=vp us t n;omega⟩⟩
     have agm:GI us to (AZ us n to ts) ⟨G.q,G.f,y6,keep⟩:=Si rC vf (fun y=>x6) Ak Fw IC Gg Vk
     have aff:=JL ln LD fun x hx=>let ⟨t,ht,_⟩:=(Hz x).mp hx;⟨t,ht⟩
     have GR:Mv G.foot H H':=Mv.step NS mv fun b hb=>by
      rcases AE.mp hb with rfl|hb
      . exact .inr mQ
      . exact .inl hb
     have hwA:gH a.ai a.aj H' p d m n ⟨G.q,G.f,y6,keep⟩ ts eD:=hw.ws.geo GR Ys rfl rfl fun b hb=>.inl (hfs b hb)
     have M8:∀x∈ln,(x,xR ts x)∈ts/\Out us n to (xR ts x):=fun x hx=>by
      obtain⟨t,h1,h2⟩:=(Hz x).mp hx
      rw [sO hw.nd h1];exact⟨h1,h2⟩
     repeat' (walk_at "rd1")
     rename_i ov H2 mP px aag
     have hwB:=hwA.keeps mP
     have adR:=Dw.keeps mP
     have SJ:∀b∈p::d::m::G.foot,b≠ov:=fun b hb z=>by
      have:H b≠none:=hw.ws.alive b hb
      exact this (GR.none (z▸px))
     have acF:nl≠ov:=Dw.ne px
     have aeD:nl∉ov::m::G.foot:=by
      simp only [AE,not_or]
      exact⟨acF,LH (nlf m (by simp)),nlG⟩
     have e0:∀x v',(x,v')∈eD↔∃v,(x,v)∈eD/\¬(x∈ln.take 0/\xR ts x<=to)/\v'=v+(if x∈ln.take 0 then 1 else 0):=fun x v'=>by simp
     have FU:∀{i:Nat} {x:Str},ln[i]? =some x->ln.take (i+1)=ln.take i++[x]:=fun {i x} h=>by rw [Tu,h];rfl
     refine Ku (Hb:=H2) (cs:=ln) (gd:=GM) adR.dv (fun i σ' H''=>∃z5,σ'=[some (.ref p),some (.int to),some (.ref nl),z,some (.ref ov),z5]/\Mv (ov::m::G.foot) H2 H''/\∃(G':fG) (mz:List (Str × Int)),gH a.ai a.aj H'' p d m n G' ts mz/\GI us to (AZ us n to ts++tP ts to (ln.take i)) G'/\(∀b∈G'.foot,b∈G.foot\/H2 b=none)/\eF H'' ov ((overs ts to (ln.take i)).map GM)/\(mz.map (·.1)).Nodup/\∀x v',(x,v')∈mz↔∃v,(x,v)∈eD/\¬(x∈ln.take i/\xR ts x<=to)/\v'=v+(if x∈ln.take i then 1 else 0)) ⟨_,rfl,Mv.refl,⟨G.q,G.f,y6,keep⟩,eD,hwB,agm.ext (fun y=>by simp [tP]),fun b hb=>.inl (hfs b hb),aag,hw.YX,e0⟩ (fun i σ' H'' _ ⟨_,_,afF,_⟩ a' xs e hx=>by cases e;exact afF.sq aeD hx) ?_ ?_
     . rintro i x v σ' H3 hx ⟨z5,rfl,pJ,G',mz,vW,yc,Ls,QF,Lr,GD⟩ hdx _
       obtain rfl:=(hdx rfl pJ.tp).str_inv
       have MY:=B0 hx
       obtain⟨ZM,hxo⟩:=M8 x MY
       have WG:=Ax hw.nd ZM
       have hi3:=vW.ins
       have hd3:=vW.dd
       have hm3:=vW.mm
       have Yj:x∉ln.take i:=fun z=>by
        obtain⟨j,hj,e⟩:=PM z
        have M7:j<i:=by rw [Ll] at hj;omega
        have NZ:=(AS.mp hx).1
        rw [AbC] at e
        have:=On.mp LD j i (by omega) NZ M7
        exact this (e.trans (AS.mp hx).2.symm)
       have VD:x∈eD.map (·.1):=(hw.mem x).mpr (AT.mpr ⟨_,ZM,rfl⟩)
       obtain⟨v0,ZV⟩:∃v0,(x,v0)∈eD:=by obtain⟨y,hy,e⟩:=AT.mp VD;exact⟨y.2,by rw [<-e];exact hy⟩
       have abf:(x,v0)∈mz:=(GD x v0).mpr ⟨v0,ZV,fun z=>Yj z.1,by rw [if_neg Yj];omega⟩
       have aeU:=Ax Lr abf
       have Zj:mz.length<=900:=by
        have:=sM (l':=ts.map (·.1)) Lr fun y hy=>by
         obtain⟨⟨_,v1⟩,hv1,rfl⟩:=AT.mp hy
         obtain⟨v2,h2,_⟩:=(GD _ v1).mp hv1
         exact(hw.mem _).mp (AT.mpr ⟨_,h2,rfl⟩)
        rw [AL,AL] at this
        omega
       have aha:=zX mz
       have YZ:m≠ov:=SJ m (by simp)
       have abL:∀b∈p::d::m::G'.foot,b≠ov:=fun b hb z=>by
        have agd:H2 ov≠none:=by obtain⟨xs,e,_⟩:=aag;rw [e];simp
        rcases AE.mp hb with h|hb
        . exact SJ p (by simp) (h▸z)
        . rcases AE.mp hb with h|hb
          . exact SJ d (by simp) (h▸z)
          . rcases AE.mp hb with h|hb
            . exact YZ (h▸z)
            . rcases Ls b hb with r|r
              . exact SJ b (by simp [r]) z
              . exact agd (z▸r)
       have adF:((overs ts to (ln.take i)).map GM).length<=900:=by
        rw [AL]
        have h1:(overs ts to (ln.take i)).length<=(ln.take i).length:=Nl _ _
        rw [Ll] at h1
        omega
       repeat' (walk_at "rd1")
       . rename_i hle
         refine Hl hm3 ?_
         repeat' (walk_at "rd1")
         refine Eo hm3 aeU (fun v4 H4 ud hm4=>?_)
         rw [AW] at hm4
         have MZ:=vW.setM ud hm4
         have aio:=QF.mv ud (by simpa using LH YZ)
         repeat' (walk_at "rd1")
         rename_i H5 Fi Wc
         have hw5:=MZ.mv Fi fun b hb=>by simpa using abL b hb
         have af1:¬to<xR ts x:=by omega
         refine⟨_,rfl,Mv.step (Mv.step pJ ud fun b hb=>.inl (by rw [AN.mp hb];simp)) Fi fun b hb=>.inl (by rw [AN.mp hb];simp),G',jj mz x,hw5,?_,Ls,?_,sI Lr,fun y v'=>?_⟩
         . rw [FU hx,A8,if_neg af1,Mo];exact yc
         . rw [FU hx,Bz,if_pos hle,Da];exact Wc
         . rw [dr,GD y v',FU hx]
           constructor
           . rintro⟨⟨v,h1,h2,h3⟩,h4⟩
             have h4:y≠x:=h4
             refine⟨v,h1,fun z=>h2 ⟨?_,z.2⟩,?_⟩
             . rcases Cn.mp z.1 with h|h
               . exact h
               . exact absurd (AN.mp h) h4
             . rw [h3]
               congr 1
               by_cases c:y∈ln.take i
               . rw [if_pos c,if_pos (EQ _ c)]
               . rw [if_neg c,if_neg (fun z=>by rcases Cn.mp z with h|h;exact c h;exact h4 (AN.mp h))]
           . rintro⟨v,h1,h2,h3⟩
             have h4:y≠x:=fun z=>h2 ⟨by rw [z];simp,by rw [z];exact hle⟩
             refine⟨⟨v,h1,fun z=>h2 ⟨EQ _ z.1,z.2⟩,?_⟩,h4⟩
             rw [h3]
             congr 1
             by_cases c:y∈ln.take i
             . rw [if_pos c,if_pos (EQ _ c)]
             . rw [if_neg c,if_neg (fun z=>by rcases Cn.mp z with h|h;exact c h;exact h4 (AN.mp h))]
       . rename_i hle H4 ud hm4
         have iF:to<xR ts x:=by omega
         have aao:x∈mz.map (·.1):=AT.mpr ⟨_,abf,rfl⟩
         rw [ND aao] at hm4
         have MZ:=vW.setM ud hm4
         have hi4:=MZ.ins
         have hd4:=MZ.dd
         repeat' (walk_at "rd1")
         obtain⟨dx4,hp4⟩:=MZ.ex
         have U7:x∉(AZ us n to ts++tP ts to (ln.take i)).map (·.1):=fun z=>by
          rw [Da] at z
          rcases Cn.mp z with z|z
          . obtain⟨y,hy,e⟩:=AT.mp z
            obtain⟨h1,h2⟩:=x6.mp hy
            have e:y.1=x:=e
            rw [<-sO hw.nd (show(y.1,y.2)∈ts from h1),e] at h2
            exact h2 hxo
          . obtain⟨y,hy,e⟩:=AT.mp z
            have e:y.1=x:=e
            exact Yj (e▸(C9.mp hy).1)
         have U6:(AZ us n to ts++tP ts to (ln.take i)).length<=2000:=by
          rw [Do]
          have h1:=Lb us n to ts
          have h2:(tP ts to (ln.take i)).length<=(ln.take i).length:=by
           unfold tP
           rw [AL]
           exact Nl _ _
          rw [Ll] at h2
          omega
         refine⟨p,dx4,d,m,n,G',us,_,x,_,to,rfl,hp4,MZ.g,yc,vf.ok,MZ.yZ.2.2.2.1,U7,U6,fun H5 G5 Fi hg5 ad5 e1 e2 hs5=>?_⟩
         have hw5:=MZ.geo Fi hg5 e1 e2 hs5
         have abr:ov∉G'.foot:=fun z=>abL ov (by simp [z]) rfl
         have Wc:=(QF.mv ud (by simpa using LH YZ)).mv Fi abr
         have aaH:¬xR ts x<=to:=by omega
         refine⟨_,rfl,Mv.step (Mv.step pJ ud fun b hb=>.inl (by rw [AN.mp hb];simp)) Fi fun b hb=>?_,G5,B6 mz x (v0+1),hw5,?_,fun b hb=>?_,?_,by rw [IU];exact Lr,fun y v'=>?_⟩
         . rcases Ls b hb with r|r
           . exact .inl (by simp [r])
           . exact .inr r
         . rw [FU hx,A8,if_pos iF,<-Ps];exact ad5
         . rcases hs5 b hb with r|r
           . exact Ls b r
           . exact .inr (pJ.none (ud.none r))
         . rw [FU hx,Bz,if_neg aaH,Mo];exact Wc
         . rw [PH aao,FU hx]
           by_cases c0:y=x
           . subst c0
             constructor
             . rintro(⟨_,h⟩|⟨h,_⟩)
               . have h:v'=v0+1:=h
                 exact⟨v0,ZV,fun z=>aaH z.2,by rw [h,if_pos (by simp)]⟩
               . exact absurd rfl h
             . rintro⟨v,h1,_,h3⟩
               rw [if_pos (by simp)] at h3
               have:v=v0:=lI hw.YX h1 ZV
               exact .inl ⟨rfl,by show v'=v0+1;omega⟩
           . have MK:y∈ln.take i++[x]↔y∈ln.take i:=⟨fun z=>by rcases Cn.mp z with h|h;exact h;exact absurd (AN.mp h) c0,fun z=>EQ _ z⟩
             constructor
             . rintro(⟨h,_⟩|⟨_,h⟩)
               . exact absurd h c0
               . obtain⟨v,h1,h2,h3⟩:=(GD y v').mp h
                 refine⟨v,h1,fun z=>h2 ⟨MK.mp z.1,z.2⟩,?_⟩
                 rw [h3]
                 congr 1
                 by_cases c:y∈ln.take i
                 . rw [if_pos c,if_pos (MK.mpr c)]
                 . rw [if_neg c,if_neg (fun z=>c (MK.mp z))]
             . rintro⟨v,h1,h2,h3⟩
               refine .inr ⟨c0,(GD y v').mpr ⟨v,h1,fun z=>h2 ⟨MK.mpr z.1,z.2⟩,?_⟩⟩
               rw [h3]
               congr 1
               by_cases c:y∈ln.take i
               . rw [if_pos c,if_pos (MK.mpr c)]
               . rw [if_neg c,if_neg (fun z=>c (MK.mp z))]
     . rintro σ' H3 ⟨z5,rfl,pJ,G',mz,vW,yc,Ls,QF,Lr,GD⟩
       rw [SC] at yc QF GD
       repeat' (walk_at "rd1")
       refine q ov H3 G' mz (overs ts to ln) ?_ vW (yc.ext fun y=>?_) (LD.sublist JJ) (fun x=>?_) Lr (fun x v'=>?_) (fun b hb=>?_) (GR.none px) QF
       . exact Mv.step (Mv.step (cW GR fun b hb=>AD _ hb) (mP.mv (S:=[])) fun b hb=>nomatch hb) pJ fun b hb=>by
          rcases AE.mp hb with rfl|hb
          . exact .inr (GR.none px)
          . exact .inl hb
       . rw [Cn,x6,C9,CS,decide_eq_true_eq]
         constructor
         . rintro(⟨h1,h2⟩|⟨h1,h2,h3⟩)
           . exact⟨h1,(rB vf h2).1⟩
           . obtain⟨h4,_⟩:=M8 y.1 h1
             rw [<-h2] at h4 h3
             exact⟨h4,h3⟩
         . rintro⟨h1,h2⟩
           by_cases ho:Out us n to y.2
           . have h3:y.1∈ln:=(Hz y.1).mpr ⟨y.2,h1,ho⟩
             have h4:=sO hw.nd (show(y.1,y.2)∈ts from h1)
             exact .inr ⟨h3,h4.symm,by rw [h4];exact h2⟩
           . exact .inl ⟨h1,ho⟩
       . rw [KU]
         constructor
         . rintro⟨h1,h2⟩
           exact⟨_,(M8 x h1).1,h2⟩
         . rintro⟨t,h1,h2⟩
           rw [sO hw.nd h1]
           exact⟨(Hz x).mpr ⟨t,h1,IM vf h2⟩,h2⟩
       . rw [GD x v']
         constructor
         . rintro⟨v,h1,h2,h3⟩
           obtain⟨⟨_,t⟩,ht,e⟩:=AT.mp ((hw.mem x).mp (AT.mpr ⟨_,h1,rfl⟩))
           have e:_=x:=e
           subst e
           have QM:=sO hw.nd ht
           have iF:to<t:=by
            by_cases c:t<=to
            . exact absurd ⟨(Hz _).mpr ⟨t,ht,IM vf c⟩,by rw [QM];exact c⟩ h2
            . omega
           refine⟨t,v,ht,iF,h1,?_⟩
           rw [h3]
           congr 1
           by_cases ho:Out us n to t
           . rw [if_pos ((Hz _).mpr ⟨t,ht,ho⟩),if_pos (down vf Q0 ho iF)]
           . have:=(rB vf ho).2
             rw [if_neg (fun z=>ho (by have:=(M8 _ z).2;rwa [QM] at this)),if_neg (by omega)]
         . rintro⟨t,v,ht,iF,h1,h3⟩
           have QM:=sO hw.nd ht
           refine⟨v,h1,fun z=>by have:=z.2;omega,?_⟩
           rw [h3]
           congr 1
           by_cases ho:Out us n to t
           . rw [if_pos ((Hz _).mpr ⟨t,ht,ho⟩),if_pos (down vf Q0 ho iF)]
           . have:=(rB vf ho).2
             rw [if_neg (by omega:¬iz us t to<iz us t n),if_neg (fun z=>ho (by have:=(M8 _ z).2;rwa [QM] at this))]
       . rcases Ls b hb with r|r
         . exact .inl r
         . exact .inr (GR.none (mP.none r))
theorem HU (T:Txt K mg a):cT P w K mg base 4 a.cq ["self","to"] [] (yF a.ai a.aj):=
 ⟨⟨_,_,MI T,T.jM.binds fun _ _ _ _ _ _=>eC fun _ _=>rfl,.nil⟩⟩
def Rp (x:Str × Int):Int × Str:=(x.2,x.1)
def VY (ks:List (Int × Str)):Prop:=ks.Pairwise fun c d=>bw d c=false
theorem zN {α:Type} (l:List α):l.filter (fun _=>true)=l:=Aal.mpr fun _ _=>rfl
theorem JY {α β:Type} {f:α->β} {l:List α} {j:Nat} {c:α} (h:(l.map f).Nodup) (hc:l[j]? =some c):f c∉(l.take j).map f:=by
 intro hm
 obtain⟨d,hd,e⟩:=AT.mp hm
 obtain⟨i,hi,rfl⟩:=PM hd
 have x5:i<j:=by rw [Ll] at hi;omega
 have hjl:j<l.length:=(AS.mp hc).1
 rw [SI,Sk] at h
 have:=On.mp h i j (by omega) hjl x5
 rw [AbC] at e
 have wF:l[j]=c:=CC ((AC hjl).symm.trans hc)
 rw [wF] at this
 exact this e
theorem take_snoc {α:Type} {l:List α} {j:Nat} {c:α} (h:l[j]? =some c):l.take (j+1)=l.take j++[c]:=by
 rw [Tu,h];rfl
structure uh (C:Addr) (H:Hp) (p d:Addr) (n:Int) (ts:List (Str × Int)) (fr:List (Str × V)):Prop where
 ex:∃dx,H p=some (.ins C dx (("now",.int n)::("times",.ref d)::fr))
 dd:nW H d (sA ts)
 nf:fr.lookup (OR "enter")=none/\fr.lookup (OR "leave")=none/\fr.lookup (OR "pass_on")=none/\fr.lookup (OR "check_waits")=none
 fl:fr.length<900
theorem Kr {m:Str} {x y:V} {fr:List (Str × V)} (h1:(m==OR "now")=false) (h2:(m==OR "times")=false) (h:fr.lookup m=none):YA m (("now",x)::("times",y)::fr)=none:=by
 rw [LB,LB]
 show(match m==OR "now" with|true=>_|false=>match m==OR "times" with|true=>_|false=>_)=_
 rw [h1,h2];exact h
section
variable {C:Addr} {H H':Hp} {p d:Addr} {n:Int} {ts Xb:List (Str × Int)} {fr:List (Str × V)} {S:List Addr}
theorem uh.ins (h:uh C H p d n ts fr):iL H (.ref p) C (("now",.int n)::("times",.ref d)::fr):=let ⟨dx,e⟩:=h.ex;⟨p,dx,rfl,e⟩
theorem uh.keeps (sm:aA H H') (h:uh C H p d n ts fr):uh C H' p d n ts fr:=⟨let ⟨dx,e⟩:=h.ex;⟨dx,sm _ _ e⟩,h.dd.keeps sm,h.nf,h.fl⟩
theorem uh.ne (h:uh C H p d n ts fr):p≠d:=by
 obtain⟨dx,e⟩:=h.ex
 obtain⟨kvs,e2,_⟩:=h.dd
 exact oY e e2 (by intro y;cases y)
theorem uh.mv (m:Mv S H H') (hp:p∉S) (hd:d∉S) (h:uh C H p d n ts fr):uh C H' p d n ts fr:=⟨let ⟨dx,e⟩:=h.ex;⟨dx,m.at hp e⟩,h.dd.mv m hd,h.nf,h.fl⟩
theorem uh.Jg (m:Mv [d] H H') (hd:nW H' d (sA Xb)) (h:uh C H p d n ts fr):uh C H' p d n Xb fr:=⟨let ⟨dx,e⟩:=h.ex;⟨dx,m.at (by simpa using h.ne) e⟩,hd,h.nf,h.fl⟩
end
structure JG (K:At) (C:Addr):Prop where
 cl:tm K C
 n1:aJ K C "now"
 n2:aJ K C "times"
theorem Txt.K1 (T:Txt K mg a):JG K a.aT:=⟨T.eM,T.jQ,T.gb⟩
theorem Txt.t7 (T:Txt K mg a):JG K a.ai:=⟨T.aQ,T.cB,T.cO⟩
def z7 (C:Addr) (Wq:Sp):Sp:=fun vs H Q _=>∃(p d:Addr) (n:Int) (ts:List (Str × Int)) (fr:List (Str × V)) (x:Str) (t:Int),vs=[.ref p,.str x,.int t]/\uh C H p d n ts fr/\ts.length<=1000/\x∉ts.map (·.1)/\n<t/\
 ∀H1,Mv [d] H H1->uh C H1 p d n (ts++[(x,t)]) fr->∃B:Hp->Prop,(∀Q':VK,(∀H2,B H2->Q' .a9 H2)->Wq [.ref p,.str x,.int t] H1 Q' E0)/\∀H2,B H2->Q .a9 H2
theorem Ss (T:Txt K mg a) {C f:Addr} {Wq:Sp} (k:JG K C) (Ud:Meth K C "enter" f) (Rv:cT P w K mg base 4 f ["self","name","time"] [] Wq):aS P w K mg base eP 5 a.dh a.wj ["self","name","time"] (z7 C Wq):=by
 have n1:=k.n1;have n2:=k.n2;have cl:=k.cl
 refine T.tW.ok DR (fun vs H Q E h=>?_) (fun di A outer s H vs Q E hr h=>?_)
 . obtain⟨_,_,_,_,_,_,_,rfl,_⟩:=h;rfl
 . obtain⟨p,d,n,ts,fr,x,t,rfl,hw,hl,hxn,ht,q⟩:=h
   have hi:=hw.ins;have hd:=hw.dd
   have Zj:=zX ts
   refine⟨_,(af (bC (El (OJ (iK hr) (pv 1) (aq (pv 0) rfl)) rfl)
    (ah fu)
    aN)
    (af (bC (aL rQ (pv 2) (aq (pv 0) rfl) (aR _))
     (ah fu)
     aN)
    (af (t9 (iK hr) (aq (pv 0) rfl) (pv 1) (pv 2) rfl)
    (ah (aI (az (pv 0) cl Ud Rv (hr.mono (by decide)) (ae (pv 1) (ae (pv 2) ag)))))))),?_⟩
   repeat' (walk_at "rd1")
   . rename_i o e hb
     rw [e,Ee hxn] at hb
     cases hb
   . rename_i o e Vx Hm H2 gL hd2
     rw [Gn (Ee hxn),<-Jy] at hd2
     have zc:=hw.Jg gL hd2
     have Ho:=zc.ins
     obtain⟨B,h1,h2⟩:=q H2 gL zc
     repeat' (walk_at "rd1")
     refine xA Ho (Kr (by decide+kernel) (by decide+kernel) hw.nf.1) ?_
     repeat' (walk_at "rd1")
     refine h1 _ fun H3 hB=>?_
     repeat' (walk_at "rd1")
     exact h2 H3 hB
theorem GJ (T:Txt K mg a) {C f:Addr} {Wq:Sp} (k:JG K C) (m:Meth K C "enter" f) (c:cT P w K mg base 4 f ["self","name","time"] [] Wq):cT P w K mg base 5 a.dh ["self","name","time"] [] (z7 C Wq):=
 ⟨⟨_,_,Ss T k m c,T.tW.binds fun _ _ _ _ _ _=>iC fun _ _ _=>rfl,.nil⟩⟩
def CJ (C:Addr):Sp:=fun vs H Q _=>∃(p d:Addr) (n:Int) (ts:List (Str × Int)) (fr:List (Str × V)) (x:Str),vs=[.ref p,.str x]/\uh C H p d n ts fr/\x∈ts.map (·.1)/\Q .a9 H
theorem ML (T:Txt K mg a) {C:Addr} (k:JG K C):aS P w K mg base eP 1 a.aK a.j3 ["self","name"] (CJ C):=by
 have n1:=k.n1;have n2:=k.n2;have cl:=k.cl
 refine T.gI.ok rH (fun vs H Q E h=>?_) (fun di A outer s H vs Q E hr h=>?_)
 . obtain⟨_,_,_,_,_,_,rfl,_⟩:=h;rfl
 . obtain⟨p,d,n,ts,fr,x,rfl,hw,hx,q⟩:=h
   have hi:=hw.ins;have hd:=hw.dd
   refine⟨_,(ah (bC (El (C7 (iK hr) (pv 1) (aq (pv 0) rfl)) rfl)
    (ah fu)
    aN)),?_⟩
   repeat' (walk_at "rd1")
   . rename_i o e hb
     rw [e,ym.mpr hx] at hb
     cases hb
   . exact q
theorem IA (T:Txt K mg a) {C:Addr} (k:JG K C):cT P w K mg base 1 a.aK ["self","name"] [] (CJ C):=
 ⟨⟨_,_,ML T k,T.gI.binds fun _ _ _ _ _ _=>eC fun _ _=>rfl,.nil⟩⟩
def wD (C:Addr) (Wf:Sp):Sp:=fun vs H Q _=>∃(p d:Addr) (n:Int) (ts:List (Str × Int)) (fr:List (Str × V)) (x:Str) (t:Int),vs=[.ref p,.str x]/\uh C H p d n ts fr/\(ts.map (·.1)).Nodup/\(x,t)∈ts/\
 ∀H1,Mv [d] H H1->uh C H1 p d n (jj ts x) fr->∃B:Hp->Prop,(∀Q':VK,(∀H2,B H2->Q' .a9 H2)->Wf [.ref p,.str x,.int t] H1 Q' E0)/\∀H2,B H2->Q (.int t) H2
theorem Oe (T:Txt K mg a) {C f:Addr} {Wf:Sp} (k:JG K C) (Ci:Meth K C "check_waits" a.aK) (TY:Meth K C "leave" f) (Rz:cT P w K mg base 3 f ["self","name","time"] [] Wf):aS P w K mg base eP 4 a.cz a.uK ["self","name"] (wD C Wf):=by
 have n1:=k.n1;have n2:=k.n2;have cl:=k.cl
 have B7:=IA (P:=P) (w:=w) (base:=base) T k
 refine T.qw.ok uD (fun vs H Q E h=>?_) (fun di A outer s H vs Q E hr h=>?_)
 . obtain⟨_,_,_,_,_,_,_,rfl,_⟩:=h;rfl
 . obtain⟨p,d,n,ts,fr,x,t,rfl,hw,oF,M8,q⟩:=h
   have hi:=hw.ins;have hd:=hw.dd
   refine⟨_,(af (aI (az (pv 0) cl Ci B7 (hr.mono (by decide)) (ae (pv 1) ag)))
    (af (aE (i:=2) uD.nd rfl (FF rfl) (jC KF No OE qk (aq (pv 0) rfl) (ae (pv 1) ag)))
    (af (aI (az (pv 0) cl TY Rz (hr.mono (by decide)) (ae (pv 1) (ae (pv 2) ag))))
    (ah (aF (pv 2)))))),?_⟩
   repeat' (walk_at "rd1")
   refine xA hi (Kr (by decide+kernel) (by decide+kernel) hw.nf.2.2.2) ?_
   repeat' (walk_at "rd1")
   refine⟨p,d,n,ts,fr,x,rfl,hw,Cs (f:=(·.1)) M8,?_⟩
   have WG:=Ax oF M8
   repeat' (walk_at "rd1")
   refine Hl hd ?_
   repeat' (walk_at "rd1")
   refine RZ hd WG (fun v6 H6 hv6 Zh hd6=>?_)
   obtain rfl:=hv6.int_inv
   rw [AW] at hd6
   have hw6:=hw.Jg Zh hd6
   have hi6:=hw6.ins
   obtain⟨B,h1,h2⟩:=q H6 Zh hw6
   repeat' (walk_at "rd1")
   refine xA hi6 (Kr (by decide+kernel) (by decide+kernel) hw.nf.2.1) ?_
   repeat' (walk_at "rd1")
   refine h1 _ fun H3 hB=>?_
   repeat' (walk_at "rd1")
   exact h2 H3 hB
theorem C5 (T:Txt K mg a) {C f:Addr} {Wf:Sp} (k:JG K C) (m1:Meth K C "check_waits" a.aK) (m2:Meth K C "leave" f) (c:cT P w K mg base 3 f ["self","name","time"] [] Wf):cT P w K mg base 4 a.cz ["self","name"] [] (wD C Wf):=
 ⟨⟨_,_,Oe T k m1 m2 c,T.qw.binds fun _ _ _ _ _ _=>eC fun _ _=>rfl,.nil⟩⟩
def zZ (C:Addr) (Y8:Sp):Sp:=fun vs H Q _=>∃(p d:Addr) (n:Int) (ts:List (Str × Int)) (fr:List (Str × V)) (t:Int),vs=[.ref p,.int t]/\uh C H p d n ts fr/\ts.length<60/\(ts.map (·.1)).Nodup/\n<=t/\
 ∃B:Hp->Prop,
  (∀Q':VK,(∀(q0:Addr) (H1:Hp) (ov:List Str),uh C H1 p d n ts fr->ov.Nodup->(∀x,x∈ov↔∃u,(x,u)∈ts/\u<=t)->H q0=none->eF H1 q0 (ov.map GM)->(∀b,H1 b=none->H b=none)->B H1->Q' (.ref q0) H1)->Y8 [.ref p,.int t] H Q' E0)/\
  ∀(l:Addr) (H':Hp) (ks:List (Int × Str)),H l=none->ks.Perm ((ts.filter fun y=>decide (y.2<=t)).map Rp)->VY ks->eF H' l (ks.map pairD)->uh C H' p d t (ts.filter fun y=>decide (t<y.2)) fr->(∃H1,H1 l=none/\B H1/\Mv [p,d] H1 H')->Q (.ref l) H'
theorem Ub (T:Txt K mg a) {C f:Addr} {Y8:Sp} (k:JG K C) (Mr:Meth K C "pass_on" f) (MD:cT P w K mg base 4 f ["self","to"] [] Y8):aS P w K mg base eP 5 a.cY a.xH ["self","to"] (zZ C Y8):=by
 have n1:=k.n1;have n2:=k.n2;have cl:=k.cl
 refine T.sj.ok lh (fun vs H Q E h=>?_) (fun di A outer s H vs Q E hr h=>?_)
 . obtain⟨_,_,_,_,_,_,rfl,_⟩:=h;rfl
 . obtain⟨p,d,n,ts,fr,t,rfl,hw,hl,oF,Q0,B,hP,q⟩:=h
   have hi:=hw.ins;have hd:=hw.dd
   refine⟨_,(af (bC (aL zp (pv 1) (aq (pv 0) rfl) (aR _))
    (ah fu)
    aN)
    (af (aE (i:=2) lh.nd rfl (FF rfl) (cg Ir rfl T.lC PyProof.Rows.boot_sorted (ae (J0 (T:=["name"]) (M:=["self","to","told","time","04"]) (lcn (ao nL) ["self","to","told","time","name"] rfl rfl (by decide+kernel)) rfl (hV (az (pv 0) cl Mr MD (hr.mono (by decide)) (ae (pv 1) ag))) (fun _ _ _ _ _=>(cf (i:=0) (show SI (["name","self","to","told","time","04"]:List Str) by decide+kernel) rfl (FF rfl))) (yH (by decide)) (fun _ _ _ _ _=>EC) (fun _ _ _ _ _=>(dN (ae (ng (iK hr) (z6 (K:=K) rfl (pv 1) rfl) (pv 0) (fun _ _=>rfl)) (ae (pv 0) ag))))) ag)))
    (af (aU (pv 0) (pv 1) rfl)
    (af (mx Lo rfl (hV (pv 2)) (EJ (n:=2) rfl (gY (cf (i:=3) lh.nd rfl (FF rfl)) (gY (cf (i:=4) lh.nd rfl (FF rfl)) xK)))
     (ah (aI (jC KF No OE qk (aq (pv 0) rfl) (ae (pv 4) ag)))))
    (ah (aF (pv 2))))))),?_⟩
   repeat' (walk_at "rd1")
   refine xA hi (Kr (by decide+kernel) (by decide+kernel) hw.nf.2.2.1) ?_
   repeat' (walk_at "rd1")
   refine hP _ fun q0 H1 ov jA T4 RO mQ hq0 hold JU=>?_
   have Ay:=jA.dd
   have uY:=jA.ins
   have M8:∀x∈ov,(x,xR ts x)∈ts/\xR ts x<=t:=fun x hx=>by
    obtain⟨u,h1,h2⟩:=(RO x).mp hx
    rw [sO oF h1];exact⟨h1,h2⟩
   have adF:ov.length<=ts.length:=by
    have:=sM (l':=ts.map (·.1)) T4 fun x hx=>AT.mpr ⟨_,(M8 x hx).1,rfl⟩
    rwa [AL] at this
   refine Xv (cs:=ov) (gd:=fun x=>.str x) (fun _=>true) (fun x=>pairD (xR ts x,x)) hq0.dv (by omega) (fun _=>rfl) (fun y x H2 N hx mP hy yes no=>?_) (fun q1 H2 mP px zx=>?_)
   . have WG:=Ax oF (M8 x hx).1
     obtain rfl:=hy.str_inv
     have Ho:=uY.keeps mP
     have hd2:=Ay.keeps mP
     repeat' (walk_at "rd1")
     refine BW (fun hb=>?_) (fun hb=>by cases hb)
     repeat' (walk_at "rd1")
     exact yes rfl _ _ (by walk_at "same") (by walk_at "dat")
   rw [zN] at zx
   have VO:Dv H2 (.ref q1) (.list ((ov.map fun x=>(xR ts x,x)).map pairD)):=by
    have:=zx.dv
    rw [KB];exact this
   have hpm:(ov.map fun x=>(xR ts x,x)).Perm ((ts.filter fun y=>decide (y.2<=t)).map Rp):=by
    have h1:(ov.map fun x=>(xR ts x,x)).Nodup:=by
     rw [SI,Sk]
     exact T4.imp fun {x y} Hq e=>Hq (Prod.mk.inj e).2
    have h2:((ts.filter fun y=>decide (y.2<=t)).map Rp).Nodup:=by
     rw [SI,Sk]
     have h3:(ts.filter fun y=>decide (y.2<=t)).Pairwise fun a b=>a.1≠b.1:=by
      rw [SI,Sk] at oF
      exact oF.sublist JJ
     exact h3.imp fun {x y} Hq e=>Hq (Prod.mk.inj e).2
    refine(List.perm_ext_iff_of_nodup h1 h2).mpr fun c=>?_
    rw [AT,AT]
    constructor
    . rintro⟨x,hx,rfl⟩
      obtain⟨a1,a2⟩:=M8 x hx
      exact⟨(x,xR ts x),CS.mpr ⟨a1,decide_eq_true a2⟩,rfl⟩
    . rintro⟨y,hy,rfl⟩
      obtain⟨a1,a2⟩:=CS.mp hy
      have a2:=of_decide_eq_true a2
      refine⟨y.1,(RO y.1).mpr ⟨y.2,a1,a2⟩,?_⟩
      show(xR ts y.1,y.1)=(y.2,y.1)
      rw [sO oF (show(y.1,y.2)∈ts from a1)]
   repeat' (walk_at "rd1")
   refine RA VO (by rw [AL];omega) (fun q2 H3 ks sm3 um hp hs zi=>?_)
   repeat' (walk_at "rd1")
   have ZU:aA H1 H3:=mP.trans sm3
   have vW:=jA.keeps ZU
   obtain⟨dx,abV⟩:=vW.ex
   have hqp:q2≠p:=fun z=>by
    obtain⟨dx,e⟩:=jA.ex
    rw [<-z,mP.none um] at e;cases e
   have Vg:q2≠d:=fun z=>by
    obtain⟨kvs,e,_⟩:=jA.dd
    rw [<-z,mP.none um] at e;cases e
   have hpd:=jA.ne
   repeat' (walk_at "rd1")
   refine⟨p,C,dx,_,rfl,abV,cl,n1,by have:=hw.fl;simp only [GG];omega,?_⟩
   have ud:Mv [p] H3 (upd H3 p (.ins C dx (lq (OR "now") (.int t) (("now",.int n)::("times",.ref d)::fr)))):=.aV abV (by intro _ z;cases z)
   have hp4:upd H3 p (.ins C dx (lq (OR "now") (.int t) (("now",.int n)::("times",.ref d)::fr))) p=some (.ins C dx (("now",.int t)::("times",.ref d)::fr)):=by
    rw [av]
    exact congrArg (fun z=>some (HO.ins C dx z)) (if_pos rfl)
   generalize upd H3 p (.ins C dx (lq (OR "now") (.int t) (("now",.int n)::("times",.ref d)::fr)))=H4 at*
   have MZ:uh C H4 p d t ts fr:=⟨⟨dx,hp4⟩,vW.dd.mv ud (by simpa using LH hpd),hw.nf,hw.fl⟩
   have Im:eF H4 q2 (ks.map pairD):=zi.mv ud (by simpa using hqp)
   have Q8:ks.Perm ((ts.filter fun y=>decide (y.2<=t)).map Rp):=hp.trans hpm
   have D0:(ks.map (·.2)).Nodup:=by
    have h1:(ks.map (·.2)).Perm (((ts.filter fun x=>decide (x.2<=t)).map Rp).map (·.2)):=Q8.map _
    refine h1.nodup_iff.mpr ?_
    rw [KB]
    exact oF.sublist (JJ.map _)
   have Zq:∀k∈ks,∃x∈ts,x.2<=t/\k=Rp x:=fun k hk=>by
    obtain⟨x,hx,rfl⟩:=AT.mp (Q8.mem_iff.mp hk)
    exact⟨x,(CS.mp hx).1,of_decide_eq_true (CS.mp hx).2,rfl⟩
   repeat' (walk_at "rd1")
   refine Ku (Hb:=H4) (cs:=ks) (gd:=pairD) Im.dv (fun j σ' H'=>∃z3 z4,σ'=[some (.ref p),some (.int t),some (.ref q2),z3,z4]/\Mv [d] H4 H'/\nW H' d (sA (ts.filter fun x=>!((ks.take j).map (·.2)).contains x.1))) ⟨_,_,rfl,Mv.refl,by show nW H4 d (sA (ts.filter fun _=>true));rw [zN];exact MZ.dd⟩ (fun i σ' H' _ ⟨_,_,_,mv,_⟩ a' xs e hx=>by cases e;exact mv.sq (by simpa using Vg) hx) ?_ ?_
   . rintro j k x σ' H' hk ⟨z3,z4,rfl,Fi,SD⟩ hdx _
     have hx:Dv H' x (.tuple [.int k.1,.str k.2]):=hdx rfl Fi.tp
     refine Bn hx (fun w1 w2 f1 f2=>?_)
     obtain rfl:=f1.int_inv
     obtain rfl:=f2.str_inv
     have hi5:=(MZ.Jg Fi SD).ins
     obtain⟨y,hy,hyt,rfl⟩:=Zq k (B0 hk)
     have WG:uq (sA (ts.filter fun x=>!((ks.take j).map (·.2)).contains x.1)) (Rp y).2=some (.int y.2):=by
      refine Ax (x:=y.1) (t:=y.2) (oF.sublist (JJ.map _)) (CS.mpr ⟨hy,?_⟩)
      have:=JY D0 hk
      rw [AbB,<-AaY,List.contains_iff_mem]
      exact this
     repeat' (walk_at "rd1")
     refine Hl SD ?_
     repeat' (walk_at "rd1")
     refine Eo SD WG (fun v6 H6 Zh hd6=>?_)
     repeat' (walk_at "rd1")
     refine⟨_,_,rfl,Fi.trans Zh,?_⟩
     have e:sA (ts.filter fun x=>!((ks.take (j+1)).map (·.2)).contains x.1)=tK (sA (ts.filter fun x=>!((ks.take j).map (·.2)).contains x.1)) (Rp y).2:=by
      unfold tK sA
      rw [Aaw,List.filter_filter]
      congr 1
      refine TM fun x hx=>?_
      rw [take_snoc hk,Da,Nd]
      simp
      exact and_comm
     rw [e];exact hd6
   . rintro σ' H' ⟨z3,z4,rfl,Fi,SD⟩
     rw [SC] at SD
     have e:(ts.filter fun x=>!(ks.map (·.2)).contains x.1)=ts.filter fun x=>decide (t<x.2):=by
      refine TM fun x hx=>?_
      rw [Nd,AbB,<-AaY,List.contains_iff_mem,decide_eq_true_eq]
      constructor
      . intro hm
        by_cases c:x.2<=t
        . exact absurd (AT.mpr ⟨Rp x,Q8.mem_iff.mpr (Cs (CS.mpr ⟨hx,decide_eq_true c⟩)),rfl⟩) hm
        . omega
      . intro ht hm
        obtain⟨k,hk,e⟩:=AT.mp hm
        obtain⟨y,hy,hyt,rfl⟩:=Zq k hk
        have e':y.1=x.1:=e
        have h1:(x.1,y.2)∈ts:=by rw [<-e'];exact hy
        have:=lI oF h1 (show(x.1,x.2)∈ts from hx)
        omega
     rw [e] at SD
     have hw5:=MZ.Jg Fi SD
     repeat' (walk_at "rd1")
     have afL:Mv [p,d] H3 H':=(cW ud (by simp)).trans (cW Fi (by simp))
     exact q q2 H' ks (hold _ (mP.none um)) Q8 hs (Im.mv Fi (by simpa using Vg)) hw5 ⟨H1,mP.none um,JU,ZU.mv.trans afL⟩
theorem GB (T:Txt K mg a) {C f:Addr} {Y8:Sp} (k:JG K C) (m:Meth K C "pass_on" f) (c:cT P w K mg base 4 f ["self","to"] [] Y8):cT P w K mg base 5 a.cY ["self","to"] [] (zZ C Y8):=
 ⟨⟨_,_,Ub T k m c,T.sj.binds fun _ _ _ _ _ _=>eC fun _ _=>rfl,.nil⟩⟩
def Aa (C:Addr):Sp:=fun vs H Q _=>∃(p d:Addr) (n:Int) (ts:List (Str × Int)) (fr:List (Str × V)) (x:Str),vs=[.ref p,.str x]/\uh C H p d n ts fr/\(∀t,(x,t)∈ts->Q (.int t) H)/\(x∉ts.map (·.1)->Q .a9 H)
theorem HK (T:Txt K mg a) {C:Addr} (k:JG K C):aS P w K mg base eP 1 a.bf a.pH ["self","name"] (Aa C):=by
 have n1:=k.n1;have n2:=k.n2;have cl:=k.cl
 refine T.kq.ok yd (fun vs H Q E h=>?_) (fun di A outer s H vs Q E hr h=>?_)
 . obtain⟨_,_,_,_,_,_,rfl,_⟩:=h;rfl
 . obtain⟨p,d,n,ts,fr,x,rfl,hw,q1,q2⟩:=h
   have hi:=hw.ins;have hd:=hw.dd
   refine⟨_,(ah (aF (NV (iK hr) (aq (pv 0) rfl) (pv 1) ⟨rfl,rfl,rfl,rfl⟩))),?_⟩
   repeat' (walk_at "rd1")
   refine O0 hd (fun e he v' hv'=>?_) (fun he=>?_)
   . obtain⟨t,rfl⟩:=Kl he
     obtain rfl:=hv'.int_inv
     exact q1 t (OA he)
   . exact q2 fun z=>by have:=ym.mpr z;rw [he] at this;cases this
theorem yW (T:Txt K mg a) {C:Addr} (k:JG K C):cT P w K mg base 1 a.bf ["self","name"] [] (Aa C):=
 ⟨⟨_,_,HK T k,T.kq.binds fun _ _ _ _ _ _=>eC fun _ _=>rfl,.nil⟩⟩
def C3 (C:Addr):Sp:=fun vs H Q _=>∃(p d:Addr) (n:Int) (ts:List (Str × Int)) (fr:List (Str × V)),vs=[.ref p]/\uh C H p d n ts fr/\(ts=[]->Q .a9 H)/\(∀t∈ts.map (·.2),(∀u∈ts.map (·.2),t<=u)->Q (.int t) H)
theorem Mh (T:Txt K mg a) {C:Addr} (k:JG K C):aS P w K mg base eP 1 a.bK a.tM ["self"] (C3 C):=by
 have n1:=k.n1;have n2:=k.n2;have cl:=k.cl
 refine T.nS.ok Af (fun vs H Q E h=>?_) (fun di A outer s H vs Q E hr h=>?_)
 . obtain⟨_,_,_,_,_,rfl,_⟩:=h;rfl
 . obtain⟨p,d,n,ts,fr,rfl,hw,q1,q2⟩:=h
   have hi:=hw.ins;have hd:=hw.dd
   refine⟨_,(af (bC (iu (bx (aq (pv 0) rfl) (fun _=>rfl)))
    (ah (aF eO))
    aN)
    (ah (aF (Sr (aq (pv 0) rfl) rfl rfl T.D4)))),?_⟩
   repeat' (walk_at "rd1")
   refine JV hd ?_
   repeat' (walk_at "rd1")
   . rename_i hb
     exact q1 (by cases ts with|nil=>rfl|cons y r=>simp [sA] at hb)
   . rename_i hb
     have pk:0<(ts.map (·.2)).length:=by
      cases ts with
      |nil=>simp [sA] at hb
      |cons y r=>simp
     refine YW hd (ns:=ts.map (·.2)) (by unfold sA;rw [KB,KB];rfl) pk (fun t ht hm=>?_)
     exact q2 t ht hm
theorem p9 (T:Txt K mg a) {C:Addr} (k:JG K C):cT P w K mg base 1 a.bK ["self"] [] (C3 C):=
 ⟨⟨_,_,Mh T k,T.nS.binds fun _ _ _ _ _ _=>m7 fun _=>rfl,.nil⟩⟩
def o5:Sp:=fun vs H Q _=>∃v n t,vs=[v,n,t]/\Q .a9 H
theorem KW (T:Txt K mg a):aS P w K mg base eP 4 a.f7 a.xo ["self","name","time"] o5:=by
 refine T.rY.ok Ej (fun vs H Q E h=>?_) (fun di A outer s H vs Q E hr h=>?_)
 . obtain⟨_,_,_,rfl,_⟩:=h;rfl
 . obtain⟨v,n,t,rfl,q⟩:=h
   refine⟨_,(ah KN),?_⟩
   repeat' (walk_at "rd1")
   exact q
theorem HD (T:Txt K mg a):cT P w K mg base 4 a.f7 ["self","name","time"] [] o5:=
 ⟨⟨_,_,KW T,T.rY.binds fun _ _ _ _ _ _=>iC fun _ _ _=>rfl,.nil⟩⟩
theorem LV (T:Txt K mg a):aS P w K mg base eP 3 a.fZ a.w5 ["self","name","time"] o5:=by
 refine T.tu.ok Ew (fun vs H Q E h=>?_) (fun di A outer s H vs Q E hr h=>?_)
 . obtain⟨_,_,_,rfl,_⟩:=h;rfl
 . obtain⟨v,n,t,rfl,q⟩:=h
   refine⟨_,(ah KN),?_⟩
   repeat' (walk_at "rd1")
   exact q
theorem Io (T:Txt K mg a):cT P w K mg base 3 a.fZ ["self","name","time"] [] o5:=
 ⟨⟨_,_,LV T,T.tu.binds fun _ _ _ _ _ _=>iC fun _ _ _=>rfl,.nil⟩⟩
def leD (t:Int) (x:Str × BB):Bool:=match x.2 with
 | .int u=>decide (u<=t)
 |_=>false
def vF (C:Addr):Sp:=fun vs H Q _=>∃(p d:Addr) (n:Int) (ts:List (Str × Int)) (t:Int),vs=[.ref p,.int t]/\uh C H p d n ts []/\ts.length<60/\∀q H',aA H H'->H q=none->eF H' q (((ts.filter fun x=>decide (x.2<=t)).map (·.1)).map GM)->Q (.ref q) H'
theorem Jk (T:Txt K mg a):aS P w K mg base eP 4 a.eh a.rM ["self","to"] (vF a.aT):=by
 have n1:=T.jQ;have n2:=T.gb;have cl:=T.eM
 refine T.oz.ok A2 (fun vs H Q E h=>?_) (fun di A outer s H vs Q E hr h=>?_)
 . obtain⟨_,_,_,_,_,rfl,_⟩:=h;rfl
 . obtain⟨p,d,n,ts,t,rfl,hw,hl,q⟩:=h
   have hi:=hw.ins;have hd:=hw.dd
   refine⟨_,(ah (aF (Sj (J0 (T:=["name","time"]) (M:=["self","to"]) (lcn (ao jR) ["self","to"] rfl rfl (by decide+kernel)) rfl (P7 (aq (pv 0) rfl)) (fun _ _ _ _ _=>(JR (K:=K) (n:=2) rfl rfl (gY (cf (i:=0) (show SI (["name","time","self","to"]:List Str) by decide+kernel) rfl (FF rfl)) (gY (cf (i:=1) (show SI (["name","time","self","to"]:List Str) by decide+kernel) rfl (FF rfl)) xK)))) (GO (pP (by decide) (pP (by decide) Dt))) (fun _ _ _ _ _=>(JD (aL rQ (pv 1) (pv 3) (aR _)))) (fun _ _ _ _ _=>(pv 0)))))),?_⟩
   repeat' (walk_at "rd1")
   refine ZP hd (fun R hR=>?_) (leD t) (fun x=>.str x.1) (by rw [zX];omega) (fun _=>rfl) (fun y c Hf H2 N hc mvf hrd mP hy yes no=>?_) (fun q1 H1 E6 mQ zx=>?_)
   . repeat' (walk_at "rd1")
     exact hR
   . obtain⟨x,hx,rfl⟩:=AT.mp hc
     refine Bn hy (fun w1 w2 f1 f2=>?_)
     obtain rfl:=f1.str_inv
     obtain rfl:=f2.int_inv
     repeat' (walk_at "rd1")
     refine BW (fun hb=>?_) (fun hb=>no hb _ (aA.refl _))
     repeat' (walk_at "rd1")
     exact yes hb _ _ (aA.refl _) (.str _)
   have VO:eF H1 q1 (((ts.filter fun x=>decide (x.2<=t)).map (·.1)).map GM):=by
    unfold sA at zx
    rw [Aaw,KB] at zx
    rw [KB];exact zx
   repeat' (walk_at "rd1")
   exact q q1 H1 E6 mQ VO
theorem FN (T:Txt K mg a):cT P w K mg base 4 a.eh ["self","to"] [] (vF a.aT):=
 ⟨⟨_,_,Jk T,T.oz.binds fun _ _ _ _ _ _=>eC fun _ _=>rfl,.nil⟩⟩
theorem Js (T:Txt K mg a):cT P w K mg base 1 a.aY ["self","now"] [] (xf a.aT):=⟨⟨_,_,Gq T T.eM T.jQ T.gb,JT T,.nil⟩⟩
theorem Ql {C:Addr} {H:Hp} {Q:VK} {E:XK} {n:Int} {us:List V} (eu:us=[.int n]) (k:∀x H2 d,aA H H2->H x=none->H d=none->uh C H2 x d n [] []->Q (.ref x) H2):uL C (xf C) us H Q E:=by
 refine⟨_,eu,fun x dx hx hd ne=>⟨x,dx,n,rfl,av,fun H' d mv h1 h2 h3=>⟨rfl,?_⟩⟩⟩
 exact k x _ d (D5 hx hd mv) hx (xM h1) ⟨⟨dx,h3⟩,h2,⟨rfl,rfl,rfl,rfl⟩,by decide⟩
def Told (a:Ad) (kd:Bool) (H:Hp) (x:Addr) (S:List Addr) (n:Int) (ts:List (Str × Int)):Prop:=
 (ts.map (·.1)).Nodup/\((kd=true/\∃d,S=[x,d]/\uh a.aT H x d n ts [])\/(kd=false/\∃d m us G eD,S=x::d::m::G.foot/\Ch us/\GP a.ai a.aj H x d m n us G ts eD))
section
variable {H H':Hp} {x:Addr} {S S':List Addr} {n:Int} {ts:List (Str × Int)} {kd:Bool}
theorem GP.wt {C CW p d m:Addr} {us:List (Int × Int)} {G:fG} {eD:List (Str × Int)} (h:GP C CW H p d m n us G ts eD):uh C H p d n ts [("wheels",.ref G.q),("far",.ref G.f),("moves",.ref m)]:=⟨h.ws.ex,h.ws.dd,⟨rfl,rfl,rfl,rfl⟩,LF rfl⟩
theorem Told.keeps (sm:aA H H') (h:Told a kd H x S n ts):Told a kd H' x S n ts:=by
 obtain⟨h0,⟨k,d,e,h1⟩|⟨k,d,m,us,G,eD,e,hc,h1⟩⟩:=h
 . exact⟨h0,.inl ⟨k,d,e,h1.keeps sm⟩⟩
 . exact⟨h0,.inr ⟨k,d,m,us,G,eD,e,hc,h1.keeps sm⟩⟩
theorem Told.mv (mv:Mv S' H H') (hn:∀b∈S,b∉S') (h:Told a kd H x S n ts):Told a kd H' x S n ts:=by
 obtain⟨h0,⟨k,d,rfl,h1⟩|⟨k,d,m,us,G,eD,rfl,hc,h1⟩⟩:=h
 . exact⟨h0,.inl ⟨k,d,rfl,h1.mv mv (hn x (by simp)) (hn d (by simp))⟩⟩
 . exact⟨h0,.inr ⟨k,d,m,us,G,eD,rfl,hc,h1.mv mv hn⟩⟩
theorem Told.alive (h:Told a kd H x S n ts):∀b∈S,H b≠none:=by
 obtain⟨h0,⟨k,d,rfl,h1⟩|⟨k,d,m,us,G,eD,rfl,hc,h1⟩⟩:=h
 . intro b hb
   have:b=x\/b=d:=by simpa using hb
   rcases this with rfl|rfl
   . obtain⟨dx,e⟩:=h1.ex
     rw [e];simp
   . obtain⟨kvs,e2,_⟩:=h1.dd
     rw [e2];simp
 . exact h1.ws.alive
theorem Told.self (h:Told a kd H x S n ts):x∈S:=by
 obtain⟨h0,⟨k,d,rfl,h1⟩|⟨k,d,m,us,G,eD,rfl,hc,h1⟩⟩:=h <;>exact BN
end
def CK (a:Ad) (kd:Bool) (H:Hp) (x:Addr) (S:List Addr) (n:Int) (ts:List (Str × Int)) (R:Hp->Prop):Prop:=∀S' H',Mv S H H'->Told a kd H' x S' n ts->(∀b∈S',b∈S\/H b=none)->R H'
section
variable {H:Hp} {Q:VK} {E:XK} {x d m:Addr} {n t:Int} {ts eD:List (Str × Int)} {us:List (Int × Int)} {G:fG} {nm:Str}
theorem VG (h0:(ts.map (·.1)).Nodup) (h1:uh a.aT H x d n ts []) (hl:ts.length<=1000) (hn:nm∉ts.map (·.1)) (ht:n<t)
 (q:CK a true H x [x,d] n (ts++[(nm,t)]) (Q .a9)):z7 a.aT o5 [.ref x,.str nm,.int t] H Q E:=
 ⟨x,d,n,ts,[],nm,t,rfl,h1,hl,hn,ht,fun H1 mv hw=>⟨fun H2=>H2=H1,fun _ h=>⟨_,_,_,rfl,h _ rfl⟩,fun H2 e=>by
  subst e
  exact q [x,d] H2 (cW mv (by simp)) ⟨zS h0 hn,.inl ⟨rfl,d,rfl,hw⟩⟩ fun b hb=>.inl hb⟩⟩
theorem WY (hc:Ch us) (h1:GP a.ai a.aj H x d m n us G ts eD) (hl:ts.length<=1000) (hn:nm∉ts.map (·.1)) (ht:n<t)
 (q:CK a false H x (x::d::m::G.foot) n (ts++[(nm,t)]) (Q .a9)):z7 a.ai (Ag a.ai a.aj) [.ref x,.str nm,.int t] H Q E:=
 ⟨x,d,n,ts,_,nm,t,rfl,h1.wt,hl,hn,ht,fun H1 mv hw=>by
  have zc:=h1.ws.Jg mv hw.dd
  have VD:nm∉eD.map (·.1):=fun z=>hn ((h1.mem nm).mp z)
  have Jx:=h1.af9
  refine⟨fun H2=>∃G',Mv (m::G.foot) H1 H2/\gH a.ai a.aj H2 x d m n G' (ts++[(nm,t)]) (eD++[(nm,0)])/\GI us n (ts++[(nm,t)]) G'/\∀b∈G'.foot,b∈G.foot\/H1 b=none,fun Q' h=>?_,fun H2 ⟨G',gL,vW,yc,hs⟩=>?_⟩
  . exact⟨x,d,m,n,G,us,ts++[(nm,t)],ts,eD,nm,t,rfl,zc,h1.gi,h1.uo,hn,VD,by omega,by omega,fun H3 G' pJ vW yc hs=>h H3 ⟨G',pJ,vW,yc,hs⟩⟩
  . refine q _ H2 ((cW mv fun b hb=>by simp [AN.mp hb]).trans (cW gL fun b hb=>AD _ (AD _ hb))) ⟨zS h1.nd hn,.inr ⟨rfl,d,m,us,G',_,rfl,hc,⟨vW,yc,h1.uo,zS h1.nd hn,zS h1.YX VD,fun y=>?_⟩⟩⟩ fun b hb=>?_
    . rw [Da,Da,Cn,Cn,h1.mem y];rfl
    . simp only [AE] at hb ⊢
      rcases hb with hb|hb|hb|hb
      . exact .inl (.inl hb)
      . exact .inl (.inr (.inl hb))
      . exact .inl (.inr (.inr (.inl hb)))
      . rcases hs b hb with r|r
        . exact .inl (.inr (.inr (.inr r)))
        . exact .inr (mv.none r)⟩
theorem TV (h0:(ts.map (·.1)).Nodup) (h1:uh a.aT H x d n ts []) (ht:(nm,t)∈ts)
 (q:CK a true H x [x,d] n (jj ts nm) (Q (.int t))):wD a.aT o5 [.ref x,.str nm] H Q E:=
 ⟨x,d,n,ts,[],nm,t,rfl,h1,h0,ht,fun H1 mv hw=>⟨fun H2=>H2=H1,fun _ h=>⟨_,_,_,rfl,h _ rfl⟩,fun H2 e=>by
  subst e
  exact q [x,d] H2 (cW mv (by simp)) ⟨sI h0,.inl ⟨rfl,d,rfl,hw⟩⟩ fun b hb=>.inl hb⟩⟩
theorem TX (hc:Ch us) (h1:GP a.ai a.aj H x d m n us G ts eD) (hl:ts.length<=1000) (ht:(nm,t)∈ts)
 (q:CK a false H x (x::d::m::G.foot) n (jj ts nm) (Q (.int t))):wD a.ai (AA a.ai a.aj) [.ref x,.str nm] H Q E:=
 ⟨x,d,n,ts,_,nm,t,rfl,h1.wt,h1.nd,ht,fun H1 mv hw=>by
  have zc:=h1.ws.Jg mv hw.dd
  refine⟨fun H2=>∃G',Mv (m::G.foot) H1 H2/\gH a.ai a.aj H2 x d m n G' (jj ts nm) (jj eD nm)/\GI us n (jj ts nm) G'/\∀b∈G'.foot,b∈G.foot,fun Q' h=>?_,fun H2 ⟨G',gL,vW,yc,hs⟩=>?_⟩
  . exact⟨x,d,m,n,G,us,_,ts,eD,nm,t,rfl,zc,h1.gi,h1.uo,ht,h1.nd,(h1.mem _).mpr (Cs (f:=(·.1)) ht),by omega,fun H3 G' pJ vW yc hs=>h H3 ⟨G',pJ,vW,yc,hs⟩⟩
  . refine q _ H2 ((cW mv fun b hb=>by simp [AN.mp hb]).trans (cW gL fun b hb=>AD _ (AD _ hb))) ⟨sI h1.nd,.inr ⟨rfl,d,m,us,G',_,rfl,hc,⟨vW,yc,h1.uo,sI h1.nd,sI h1.YX,fun y=>?_⟩⟩⟩ fun b hb=>?_
    . rw [Di,Di,h1.mem y]
    . simp only [AE] at hb ⊢
      exact .inl (hb.imp_right fun hb=>hb.imp_right fun hb=>hb.imp_right fun hb=>hs b hb)⟩
def WT (a:Ad) (kd:Bool) (H:Hp) (x:Addr) (S:List Addr) (t:Int) (ts:List (Str × Int)) (Q:VK):Prop:=∀S' H' (l:Addr) (ks:List (Int × Str)),Mv S H H'->Told a kd H' x S' t (ts.filter fun y=>decide (t<y.2))->(∀b∈S',b∈S\/H b=none)->H l=none->l∉S'->ks.Perm ((ts.filter fun y=>decide (y.2<=t)).map Rp)->VY ks->eF H' l (ks.map pairD)->Q (.ref l) H'
theorem Ei {f:Str × Int->Bool} (h:(ts.map (·.1)).Nodup):((ts.filter f).map (·.1)).Nodup:=h.sublist (JJ.map _)
theorem Wv (h0:(ts.map (·.1)).Nodup) (h1:uh a.aT H x d n ts []) (hl:ts.length<60) (Q0:n<=t) (q:WT a true H x [x,d] t ts Q):zZ a.aT (vF a.aT) [.ref x,.int t] H Q E:=
 ⟨x,d,n,ts,[],t,rfl,h1,hl,h0,Q0,⟨fun H1=>aA H H1,fun Q' h=>⟨x,d,n,ts,t,rfl,h1,hl,fun q0 H1 sm hn hq=>by
    refine h q0 H1 _ (h1.keeps sm) (Ei h0) (fun y=>?_) hn hq (fun b=>sm.none) sm
    rw [AT]
    constructor
    . rintro⟨z,hz,rfl⟩
      obtain⟨z1,z2⟩:=CS.mp hz
      exact⟨z.2,z1,of_decide_eq_true z2⟩
    . rintro⟨u,hu,hut⟩
      exact⟨(y,u),CS.mpr ⟨hu,decide_eq_true hut⟩,rfl⟩⟩,
  fun l H' ks hn hp hs hq hw ⟨H1,mQ,sm,mv⟩=>by
   refine q [x,d] H' l ks (sm.mv.trans mv) ⟨Ei h0,.inl ⟨rfl,d,rfl,hw⟩⟩ (fun b hb=>.inl hb) hn (fun z=>?_) hp hs hq
   have Jm:Told a true H x [x,d] n ts:=⟨h0,.inl ⟨rfl,d,rfl,h1⟩⟩
   exact Jm.alive l z hn⟩⟩
theorem Y1 (hc:Ch us) (h1:GP a.ai a.aj H x d m n us G ts eD) (hl:ts.length<60) (Q0:n<=t) (q:WT a false H x (x::d::m::G.foot) t ts Q):zZ a.ai (yF a.ai a.aj) [.ref x,.int t] H Q E:=
 ⟨x,d,n,ts,_,t,rfl,h1.wt,hl,h1.nd,Q0,by
  refine⟨fun H1=>∃G' mz,Mv (m::G.foot) H H1/\gH a.ai a.aj H1 x d m n G' ts mz/\GI us t (ts.filter fun y=>decide (t<y.2)) G'/\(mz.map (·.1)).Nodup/\(∀y,y∈mz.map (·.1)↔y∈(ts.filter fun y=>decide (t<y.2)).map (·.1))/\(∀b∈G'.foot,b∈G.foot\/H b=none)/\G'.q=G.q/\G'.f=G.f,?_,?_⟩
  . refine fun Q' h=>⟨x,d,m,n,us,G,ts,eD,t,rfl,h1,hc,Q0,by omega,fun q0 H1 G1 Uq ov iM jA YQ T4 RO VV RH Y5 mQ hq0=>?_⟩
    obtain⟨f1,f2,f3,f4,f5,f6⟩:=h1.ws.yZ
    obtain⟨dx,e1⟩:=h1.ws.ex
    obtain⟨dx1,e2⟩:=jA.ex
    have e3:=iM.at (a:=x) (fun z=>by
     rcases AE.mp z with z|z
     . exact f2 z
     . exact f4 z) e1
    rw [e3] at e2
    obtain⟨_,e5⟩:=HO.ins.inj (CC e2) |>.2
    simp only [Vc,List.cons.injEq,Prod.mk.injEq,V.ref.injEq,true_and,and_true] at e5
    refine h q0 H1 ov ⟨⟨dx,e3⟩,jA.dd,⟨rfl,rfl,rfl,rfl⟩,LF rfl⟩ T4 RO mQ hq0 (fun b=>iM.none) ⟨G1,Uq,iM,jA,YQ,VV,fun y=>?_,Y5,e5.1.symm,e5.2.symm⟩
    constructor
    . intro hx
      obtain⟨⟨_,v'⟩,hv,rfl⟩:=AT.mp hx
      obtain⟨u,v,h1,h2,_⟩:=(RH _ v').mp hv
      exact AT.mpr ⟨_,CS.mpr ⟨h1,decide_eq_true h2⟩,rfl⟩
    . intro hx
      obtain⟨⟨x0,u⟩,hu,e0⟩:=AT.mp hx
      have e0:x0=y:=e0
      subst e0
      obtain⟨g1,g2⟩:=CS.mp hu
      have g2:t<u:=of_decide_eq_true g2
      obtain⟨y,hy,e⟩:=AT.mp ((h1.mem x0).mpr (AT.mpr ⟨_,g1,rfl⟩))
      have e:y.1=x0:=e
      refine AT.mpr ⟨(x0,_),(RH x0 _).mpr ⟨u,y.2,g1,g2,?_,rfl⟩,rfl⟩
      rw [<-e];exact hy
  . rintro l H' ks hn hp hs hq hw ⟨H1,mQ,⟨G1,Uq,iM,jA,YQ,VV,RH,Y5,eq1,eq2⟩,mv⟩
    obtain⟨f1,f2,f3,f4,f5,f6⟩:=jA.yZ
    have KC:gH a.ai a.aj H' x d m t G1 (ts.filter fun y=>decide (t<y.2)) Uq:=⟨by rw [eq1,eq2];exact hw.ex,hw.dd,jA.mm.mv mv (by simp;exact⟨LH f2,LH f3⟩),jA.g.mv mv (fun b hb=>by simp;exact⟨fun z=>f4 (z▸hb),fun z=>f5 (z▸hb)⟩),jA.nd⟩
    refine q _ H' l ks ?_ ⟨Ei h1.nd,.inr ⟨rfl,d,m,us,G1,Uq,rfl,hc,⟨KC,YQ,h1.uo,Ei h1.nd,VV,RH⟩⟩⟩ (fun b hb=>?_) hn (fun z=>jA.alive l z mQ) hp hs hq
    . exact Mv.step (cW iM fun b hb=>by simp only [AE] at hb ⊢;exact .inr (.inr hb)) mv fun b hb=>.inl (by simp at hb ⊢;rcases hb with hb|hb <;>simp [hb])
    . simp only [AE] at hb ⊢
      rcases hb with hb|hb|hb|hb
      . exact .inl (.inl hb)
      . exact .inl (.inr (.inl hb))
      . exact .inl (.inr (.inr (.inl hb)))
      . exact(Y5 b hb).imp (fun r=>.inr (.inr (.inr r))) id⟩
end
structure iD where
 ru:RU
 wt:Int
 hm:Option Str
 dy:Bool
 no:Int
 st:Option (Int × Int)
 sn:Option Int
 un:Option Int
def Ma:Option Str->V|none=>.a9|some s=>.str s
def eW (n:Str) (rv sv:V) (x:iD):List (Str × V):=[("name",.str n),("rule",rv),("weight",.int x.wt),("home",Ma x.hm),("by_day",.bl x.dy),("number",.int x.no),("stretch",sv),("since",ow x.sn),("until",ow x.un)]
def gF (a:Ad) (H:Hp) (b:Addr) (n:Str) (x:iD):Prop:=∃rv sv,iL H (.ref b) a.ax (eW n rv sv x)/\pQ a H rv x.ru/\Dv H sv (II x.st)
theorem pM (o:Option (Int × Int)):Dc (II o)=true:=by cases o <;>rfl
theorem gF.keeps {H H':Hp} {b:Addr} {n:Str} {x:iD} (s:aA H H') (h:gF a H b n x):gF a H' b n x:=by
 obtain⟨rv,sv,h1,h2,h3⟩:=h
 exact⟨rv,sv,h1.keeps s,h2.keeps s,h3.keeps s⟩
theorem pQ.mv {H H':Hp} {b dx:Addr} {fs:List (Str × V)} {v:V} {r:RU} (T:Txt K mg a) (m:Mv [b] H H') (e:H b=some (.ins a.ax dx fs)) (h:pQ a H v r):pQ a H' v r:=
 pQ.fr (cs:=[a.ax]) (S:=[]) (Fr.Qe m e BN)
  (by simpa using T.k6)
  h
theorem gF.upd {H:Hp} {b dx:Addr} {n:Str} {x:iD} {rv sv:V} (T:Txt K mg a) (e:∃fs,H b=some (.ins a.ax dx fs)) (hr:pQ a H rv x.ru) (hs:Dv H sv (II x.st)):Mv [b] H (upd H b (.ins a.ax dx (eW n rv sv x)))/\gF a (upd H b (.ins a.ax dx (eW n rv sv x))) b n x:=by
 obtain⟨fs,e⟩:=e
 have mv:Mv [b] H (L2.upd H b (.ins a.ax dx (eW n rv sv x))):=.aV e (by intro _ z;cases z)
 exact⟨mv,rv,sv,⟨b,dx,rfl,av⟩,hr.mv T mv e,mv.dat (pM _) hs⟩
def lead (x:iD) (sh:Int):Int:=if x.dy=true then sh else 0
def Ep (a:Ad):Sp:=fun vs H Q _=>∃b n x sh,vs=[.ref b,.int sh]/\gF a H b n x/\Q (.int (lead x sh)) H
theorem Xp {H:Hp} {Q:VK} {E:XK} {b:Addr} {n:Str} {x:iD} {sh:Int} (h:gF a H b n x) (q:Q (.int (lead x sh)) H):Ep a [.ref b,.int sh] H Q E:=⟨b,n,x,sh,rfl,h,q⟩
theorem Uv (T:Txt K mg a):aS P w K mg base eP 1 a.fK a.wq ["self","shift"] (Ep a):=by
 have cl:=T.aW;have n1:=T.fJ
 refine T.sx.ok D2 (fun vs H Q E h=>?_) (fun di A outer s H vs Q E hr h=>?_)
 . obtain⟨_,_,_,_,rfl,_⟩:=h;rfl
 . obtain⟨b,n,x,sh,rfl,⟨rv,sv,hi,hR,hd⟩,q⟩:=h
   unfold eW at hi
   unfold lead at q
   refine⟨_,(ah (aF (Bm (bx (aq (pv 0) rfl) (fun _=>rfl)) (pv 1) au))),?_⟩
   cases hx:x.dy
   . rw [hx] at hi q
     repeat' (walk_at "rd1")
     exact q
   . rw [hx] at hi q
     repeat' (walk_at "rd1")
     exact q
theorem Fy (T:Txt K mg a):cT P w K mg base 1 a.fK ["self","shift"] [] (Ep a):=
 ⟨⟨_,_,Uv T,T.sx.binds fun _ _ _ _ _ _=>eC fun _ _=>rfl,.nil⟩⟩
def x9 (a:Ad):Sp:=fun vs H Q _=>∃b n x,vs=[.ref b]/\gF a H b n x/\Q (.bl x.st.isNone) H
theorem OL {H:Hp} {Q:VK} {E:XK} {b:Addr} {n:Str} {x:iD} (h:gF a H b n x) (q:Q (.bl x.st.isNone) H):x9 a [.ref b] H Q E:=⟨b,n,x,rfl,h,q⟩
theorem Mm (T:Txt K mg a):aS P w K mg base eP 1 a.dC a.qD ["self"] (x9 a):=by
 have cl:=T.aW;have n1:=T.b0
 refine T.mN.ok zD (fun vs H Q E h=>?_) (fun di A outer s H vs Q E hr h=>?_)
 . obtain⟨_,_,_,rfl,_⟩:=h;rfl
 . obtain⟨b,n,x,rfl,⟨rv,sv,hi,hR,hd⟩,q⟩:=h
   unfold eW at hi
   refine⟨_,(ah (aF (t8 DN (aq (pv 0) rfl) eO (aR _)))),?_⟩
   cases hx:x.st with
   |none=>
    rw [hx] at hd q
    obtain rfl:=hd.Sd
    repeat' (walk_at "rd1")
    exact q
   |some p=>
    rw [hx] at hd q
    cases hd
    repeat' (walk_at "rd1")
    exact q
theorem BF (T:Txt K mg a):cT P w K mg base 1 a.dC ["self"] [] (x9 a):=
 ⟨⟨_,_,Mm T,T.mN.binds fun _ _ _ _ _ _=>m7 fun _=>rfl,.nil⟩⟩
def yz (a:Ad):Sp:=fun vs H Q _=>∃b n x,vs=[.ref b]/\gF a H b n x/\Q (.bl x.sn.isSome) H
theorem NI {H:Hp} {Q:VK} {E:XK} {b:Addr} {n:Str} {x:iD} (h:gF a H b n x) (q:Q (.bl x.sn.isSome) H):yz a [.ref b] H Q E:=⟨b,n,x,rfl,h,q⟩
theorem LU (T:Txt K mg a):aS P w K mg base eP 1 a.bO a.mC ["self"] (yz a):=by
 have cl:=T.aW;have n1:=T.cA
 refine T.iT.ok vL (fun vs H Q E h=>?_) (fun di A outer s H vs Q E hr h=>?_)
 . obtain⟨_,_,_,rfl,_⟩:=h;rfl
 . obtain⟨b,n,x,rfl,⟨rv,sv,hi,hR,hd⟩,q⟩:=h
   unfold eW at hi
   refine⟨_,(ah (aF (t8 qt (aq (pv 0) rfl) eO (aR _)))),?_⟩
   cases hx:x.sn with
   |none=>
    rw [hx] at hi q
    simp only [ow] at hi
    repeat' (walk_at "rd1")
    exact q
   |some p=>
    rw [hx] at hi q
    simp only [ow] at hi
    repeat' (walk_at "rd1")
    exact q
theorem HY (T:Txt K mg a):cT P w K mg base 1 a.bO ["self"] [] (yz a):=
 ⟨⟨_,_,LU T,T.iT.binds fun _ _ _ _ _ _=>m7 fun _=>rfl,.nil⟩⟩
def rest (x:iD):iD:={x with sn:=none,un:=none}
def EX (a:Ad):Sp:=fun vs H Q _=>∃b n x,vs=[.ref b]/\gF a H b n x/\∀H',Mv [b] H H'->gF a H' b n (rest x)->Q .a9 H'
theorem YV {H:Hp} {Q:VK} {E:XK} {b:Addr} {n:Str} {x:iD} (h:gF a H b n x) (q:∀H',Mv [b] H H'->gF a H' b n (rest x)->Q .a9 H'):EX a [.ref b] H Q E:=⟨b,n,x,rfl,h,q⟩
theorem SX (T:Txt K mg a):aS P w K mg base eP 1 a.fS a.v5 ["self"] (EX a):=by
 have cl:=T.aW;have n1:=T.cA;have n2:=T.cZ
 refine T.sS.ok Fe (fun vs H Q E h=>?_) (fun di A outer s H vs Q E hr h=>?_)
 . obtain⟨_,_,_,rfl,_⟩:=h;rfl
 . obtain⟨b,n,x,rfl,⟨rv,sv,⟨p,dx,e,hi⟩,hR,hd⟩,q⟩:=h
   cases e
   have Ug:∃fs,H b=some (.ins a.ax dx fs):=⟨_,hi⟩
   unfold eW at hi
   refine⟨_,(af (aU (pv 0) eO rfl)
    (ah (aU (pv 0) eO rfl))),?_⟩
   repeat' (walk_at "rd1")
   simp only [lj]
   obtain⟨mv,hb⟩:=gF.upd (n:=n) (x:=rest x) T Ug hR hd
   exact q _ mv hb
theorem PF (T:Txt K mg a):cT P w K mg base 1 a.fS ["self"] [] (EX a):=
 ⟨⟨_,_,SX T,T.sS.binds fun _ _ _ _ _ _=>m7 fun _=>rfl,.nil⟩⟩
def wait (x:iD) (now sh f l:Int):iD:={x with sn:=some (max (f - lead x sh) (now+1)),un:=some (l - lead x sh)}
local macro_rules|`(tactic|walk_at "bat")=>`(tactic|first|(refine' gF.keeps ?s ?m;(case s=>assumption);(case m=>walk_at "bat"))|fail)
set_option hygiene false in
local macro_rules|`(tactic|walk_at "bat")=>`(tactic|first|assumption|fail)
local macro_rules|`(tactic|walk_at "use")=>`(tactic|first|((with_reducible refine' NI ?e ?_);case e=>walk_at "bat")|fail)
local macro_rules|`(tactic|walk_at "use")=>`(tactic|first|((with_reducible refine' OL ?e ?_);case e=>walk_at "bat")|fail)
local macro_rules|`(tactic|walk_at "use")=>`(tactic|first|((with_reducible refine' Xp ?e ?_);case e=>walk_at "bat")|fail)
def AY (a:Ad):Sp:=fun vs H Q _=>∃b n x now sh f l,vs=[.ref b,.int now,.int sh]/\gF a H b n x/\x.st=some (f,l)/\∀H',Mv [b] H H'->gF a H' b n (wait x now sh f l)->Q .a9 H'
theorem Sf {H:Hp} {Q:VK} {E:XK} {b:Addr} {n:Str} {x:iD} {now sh f l:Int} (h:gF a H b n x) (hs:x.st=some (f,l)) (q:∀H',Mv [b] H H'->gF a H' b n (wait x now sh f l)->Q .a9 H'):AY a [.ref b,.int now,.int sh] H Q E:=⟨b,n,x,now,sh,f,l,rfl,h,hs,q⟩
theorem PU (T:Txt K mg a):aS P w K mg base eP 2 a.fR a.xg ["self","now","shift"] (AY a):=by
 have cl:=T.aW;have n1:=T.b0;have n2:=T.cA;have n3:=T.cZ
 have XA:=T.tL
 have Yy:=Fy (P:=P) (w:=w) (base:=base) T
 refine T.tX.ok xl (fun vs H Q E h=>?_) (fun di A outer s H vs Q E hr h=>?_)
 . obtain⟨_,_,_,_,_,_,_,rfl,_⟩:=h;rfl
 . obtain⟨b,n,x,now,sh,f,l,rfl,hB,hs,q⟩:=h
   obtain⟨rv,sv,⟨p,dx,e,hi⟩,hR,hd⟩:=id hB
   cases e
   have Ug:∃fs,H b=some (.ins a.ax dx fs):=⟨_,hi⟩
   unfold eW at hi
   have FY:=hd
   rw [hs] at hd
   have hd:Dv H sv (.tuple [.int f,.int l]):=hd
   refine⟨_,(af (aE (i:=3) xl.nd rfl (FF rfl) (az (pv 0) cl XA Yy (hr.mono (by decide)) (ae (pv 2) ag)))
    (af (aU (pv 0) (cg (CQ rfl) rfl T.Ap PyProof.Rows.boot_max (ae (aB x3 (jZ sN (aq (pv 0) rfl) au (fun _ _=>rfl)) (pv 3)) (ae (aB bq (pv 1) au) ag))) rfl)
    (ah (aU (pv 0) (aB x3 (jZ sN (aq (pv 0) rfl) au (fun _ _=>rfl)) (pv 3)) rfl)))),?_⟩
   repeat' (walk_at "rd1")
   rename_i sn e1 e2 e3
   obtain rfl:sn=max (f - lead x sh) (now+1):=by omega
   have Ay:=(Mv.aV (o:=.ins a.ax dx [("name",.str n),("rule",rv),("weight",.int x.wt),("home",Ma x.hm),("by_day",.bl x.dy),("number",.int x.no),("stretch",sv),("since",.int (max (f - lead x sh) (now+1))),("until",ow x.un)]) hi (by intro _ z;cases z)).dat rfl hd
   repeat' (walk_at "rd1")
   simp only [lj]
   obtain⟨mv,hb⟩:=gF.upd (n:=n) (x:=wait x now sh f l) T Ug hR FY
   exact q _ mv hb
theorem Mx (T:Txt K mg a):cT P w K mg base 2 a.fR ["self","now","shift"] [] (AY a):=
 ⟨⟨_,_,PU T,T.tX.binds fun _ _ _ _ _ _=>iC fun _ _ _=>rfl,.nil⟩⟩
def pO (x:iD) (l t:Int):iD:=if t<l then x else {x with no:=(Q7 x.ru x.no l t).1,st:=(Q7 x.ru x.no l t).2}
def missed (n:Str) (x:iD) (l t:Int):List BB:=if t<l then [] else [.tuple [.str "missed",.str n,.int x.no,.int ((Q7 x.ru x.no l t).1 - 1)]]
def Ah (a:Ad):Sp:=fun vs H Q _=>∃b n x f l t,vs=[.ref b,.int t]/\gF a H b n x/\x.st=some (f,l)/\0<=x.no/\x.no<10^99/\t<10^80/\t - l<10^80/\∀q H',Mv [b] H H'->H q=none->eF H' q (missed n x l t)->gF a H' b n (pO x l t)->Q (.ref q) H'
theorem Uj {H:Hp} {Q:VK} {E:XK} {b:Addr} {n:Str} {x:iD} {f l t:Int} (h:gF a H b n x) (hs:x.st=some (f,l)) (h1:0<=x.no) (h2:x.no<10^99) (h3:t<10^80) (h4:t - l<10^80) (q:∀q H',Mv [b] H H'->H q=none->eF H' q (missed n x l t)->gF a H' b n (pO x l t)->Q (.ref q) H'):Ah a [.ref b,.int t] H Q E:=⟨b,n,x,f,l,t,rfl,h,hs,h1,h2,h3,h4,q⟩
theorem Pq (T:Txt K mg a):aS P w K mg base eP 5 a.cR a.pj ["self","shown"] (Ah a):=by
 have cl:=T.aW;have n0:=T.bG;have n1:=T.b0;have n2:=T.dt;have n3:=T.gy
 have Cu:=RE (P:=P) (w:=w) (base:=base) T
 refine T.kh.ok gu (fun vs H Q E h=>?_) (fun di A outer s H vs Q E hr h=>?_)
 . obtain⟨_,_,_,_,_,_,rfl,_⟩:=h;rfl
 . obtain⟨b,n,x,f,l,t,rfl,hB,hs,h1,h2,h3,h4,q⟩:=h
   obtain⟨rv,sv,⟨p,dx,e,hi⟩,hR,hd⟩:=id hB
   cases e
   have Ug:∃fs,H b=some (.ins a.ax dx fs):=⟨_,hi⟩
   unfold eW at hi
   have FY:=hd
   rw [hs] at hd
   have hd:Dv H sv (.tuple [.int f,.int l]):=hd
   refine⟨_,(af (aE (i:=2) gu.nd rfl (FF rfl) (aq (pv 0) rfl))
    (af (aE (i:=3) gu.nd rfl (FF rfl) (jZ sN (aq (pv 0) rfl) au (fun _ _=>rfl)))
    (af (bC (aL Qp (pv 3) (pv 1) (aR _))
     (ah (aF (dW ag)))
     aN)
    (du (aE (i:=4) gu.nd rfl (FF rfl) (az (aq (pv 0) rfl) T.cV T.uG Cu (hr.mono (by decide)) (ae (pv 2) (ae (pv 3) (ae (pv 1) ag)))))
    (af (aU (pv 0) (jZ sN (pv 4) au (fun _ _=>rfl)) rfl)
    (af (aU (pv 0) (jZ sN (pv 4) au (fun _ _=>rfl)) rfl)
    (ah (aF (dW (ae (dN (ae jk (ae (aq (pv 0) rfl) (ae (pv 2) (ae (aB x3 (aq (pv 0) rfl) au) ag))))) ag)))))))))),?_⟩
   repeat' (walk_at "rd1")
   . rename_i hb q1 H1 s1 mQ zx
     refine q _ _ s1.mv mQ ?_ ?_
     . unfold missed;rw [if_pos hb];exact zx
     . unfold pO;rw [if_pos hb];exact hB.keeps s1
   . rename_i hb
     refine iq (fun σ' H'=>aA H H'/\∃pv,σ'=[some (.ref b),some (.int t),some (.int x.no),some (.int l),some pv]/\Dv H' pv (.tuple [.int (Q7 x.ru x.no l t).1,II (Q7 x.ru x.no l t).2])) ?_ ?_
     . cases hru:x.ru with
       |each st sp wd m=>
        rw [hru] at hR
        have KL:=hR
        obtain⟨hp,_⟩:=hR
        repeat' (walk_at "rd1")
        exact⟨by walk_at "same",_,rfl,by assumption⟩
     rintro σ' H1 ⟨s1,pv,rfl,hpv⟩
     have hR1:=hR.keeps s1
     have uY:=s1 _ _ hi
     have aiz:∃fs,H1 b=some (.ins a.ax dx fs):=⟨_,uY⟩
     clear hi
     generalize hlb:Q7 x.ru x.no l t=lb at*
     obtain⟨k,o⟩:=lb
     have af6:Dv H1 pv (.tuple [.int k,II o]):=hpv
     have aiW:Dv (upd H1 b (.ins a.ax dx [("name",.str n),("rule",rv),("weight",.int x.wt),("home",Ma x.hm),("by_day",.bl x.dy),("number",.int k),("stretch",sv),("since",ow x.sn),("until",ow x.un)])) pv (.tuple [.int k,II o]):=(Mv.aV uY (by intro _ z;cases z)).dat (by simp [Dc,ej,pM]) af6
     repeat' (walk_at "rd1")
     rename_i Rk afn tv H3 s3 htv q4 H4 s4 Ro Im
     have iM:=Mv.aV (o:=.ins a.ax dx [("name",.str n),("rule",rv),("weight",.int x.wt),("home",Ma x.hm),("by_day",.bl x.dy),("number",.int k),("stretch",sv),("since",ow x.sn),("until",ow x.un)]) uY (by intro _ z;cases z)
     obtain⟨gL,Hm⟩:=gF.upd (n:=n) (x:={x with no:=k,st:=o}) T ⟨_,av⟩ (hR1.mv T iM uY) afn
     have s34:aA _ H4:=s3.trans s4
     have GR:=(s1.mv (S:=[b])).trans (iM.trans gL)
     refine q q4 H4 (GR.trans s34.mv) ?_ ?_ ?_
     . exact GR.none (s3.none Ro)
     . unfold missed;rw [if_neg hb,hlb];exact Im
     . unfold pO;rw [if_neg hb,hlb];exact Hm.keeps s34
theorem Le (T:Txt K mg a):cT P w K mg base 5 a.cR ["self","shown"] [] (Ah a):=
 ⟨⟨_,_,Pq T,T.kh.binds fun _ _ _ _ _ _=>eC fun _ _=>rfl,.nil⟩⟩
def sP (r:RU) (wt:Int) (hm:Option Str) (dy:Bool):iD:=⟨r,wt,hm,dy,0,some (Lg r),none,none⟩
def Bb (a:Ad):Sp:=fun vs H Q _=>∃p dx n rv r wt hm dy,vs=[.ref p,.str n,rv,.int wt,Ma hm,.bl dy]/\H p=some (.ins a.ax dx [])/\pQ a H rv r/\∀H',Mv [p] H H'->gF a H' p n (sP r wt hm dy)->Q .a9 H'
theorem O2 (T:Txt K mg a):aS P w K mg base eP 8 a.cI a.pI ["self","name","rule","weight","home","by_day"] (Bb a):=by
 have cl:=T.aW;have n0:=T.bG;have n1:=T.b0;have n2:=T.dt;have n3:=T.gy;have n4:=T.fI;have n5:=T.jl;have n6:=T.fJ;have n7:=T.cA;have n8:=T.cZ
 have FR:=K7 (P:=P) (w:=w) (base:=base) T
 have EV:=GK (P:=P) (w:=w) (base:=base) T
 refine T.kL.ok ya (fun vs H Q E h=>?_) (fun di A outer s H vs Q E hr h=>?_)
 . obtain⟨_,_,_,_,_,_,_,_,rfl,_⟩:=h;rfl
 . obtain⟨p,dx,n,rv,r,wt,hm,dy,rfl,hp,hR,q⟩:=h
   refine⟨_,(af (aU (pv 0) (pv 1) rfl)
    (du (aU (pv 0) (fL (pv 2) T.cV T.zr FR (hr.mono (by decide))) rfl)
    (af (aU (pv 0) (pv 3) rfl)
    (af (aU (pv 0) (pv 4) rfl)
    (af (aU (pv 0) (pv 5) rfl)
    (af (aU (pv 0) au rfl)
    (du (aU (pv 0) (fL (aq (pv 0) rfl) T.cV T.xQ EV (hr.mono (by decide))) rfl)
    (af (aU (pv 0) eO rfl)
    (ah (aU (pv 0) eO rfl)))))))))),?_⟩
   repeat' (walk_at "rd1")
   have iM:=Mv.aV (o:=.ins a.ax dx [("name",.str n)]) hp (by intro _ z;cases z)
   have hR1:=hR.mv T iM hp
   have e1:upd H p (.ins a.ax dx [("name",.str n)]) p=some (.ins a.ax dx [("name",.str n)]):=av
   generalize upd H p (.ins a.ax dx [("name",.str n)])=H1 at*
   refine iq (fun σ' H'=>∃Hn,σ'=[some (.ref p),some (.str n),some rv,some (.int wt),some (Ma hm),some (.bl dy)]/\Mv [p] H H'/\H' p=some (.ins a.ax dx [("name",.str n),("rule",Hn)])/\pQ a H' Hn r) ?_ ?_
   . cases r with
     |each st sp wd m=>
      have KL:=hR1
      obtain⟨hp0,_⟩:=hR1
      repeat' (walk_at "rd1")
      rename_i Hn H2 s2 Zx
      have gL:=Mv.aV (o:=.ins a.ax dx [("name",.str n),("rule",Hn)]) (s2 _ _ e1) (by intro _ z;cases z)
      exact⟨Hn,rfl,iM.trans (s2.mv.trans gL),av,Zx.mv T gL (s2 _ _ e1)⟩
   rintro σ' H2 ⟨Hn,rfl,gL,e2,hR2⟩
   clear e1 hR1 iM
   repeat' (walk_at "rd1")
   simp only [lj]
   have pJ:Mv [p] H (upd H2 p (.ins a.ax dx [("name",.str n),("rule",Hn),("weight",.int wt),("home",Ma hm),("by_day",.bl dy),("number",.int 0)])):=gL.trans (Mv.aV e2 (by intro _ z;cases z))
   have hR3:=hR2.mv T (Mv.aV (o:=.ins a.ax dx [("name",.str n),("rule",Hn),("weight",.int wt),("home",Ma hm),("by_day",.bl dy),("number",.int 0)]) e2 (by intro _ z;cases z)) e2
   refine iq (fun σ' H'=>∃sv,σ'=[some (.ref p),some (.str n),some rv,some (.int wt),some (Ma hm),some (.bl dy)]/\Mv [p] H H'/\H' p=some (.ins a.ax dx [("name",.str n),("rule",Hn),("weight",.int wt),("home",Ma hm),("by_day",.bl dy),("number",.int 0),("stretch",sv)])/\pQ a H' Hn r/\Dv H' sv (pD (Lg r))) ?_ ?_
   . cases r with
     |each st sp wd m=>
      have KL:=hR3
      obtain⟨hp0,_⟩:=hR3
      repeat' (walk_at "rd1")
      rename_i sv H4 s4 hs4
      have ud:=Mv.aV (o:=.ins a.ax dx [("name",.str n),("rule",Hn),("weight",.int wt),("home",Ma hm),("by_day",.bl dy),("number",.int 0),("stretch",sv)]) (s4 _ _ av) (by intro _ z;cases z)
      exact⟨sv,rfl,pJ.trans (s4.mv.trans ud),av,(KL.keeps s4).mv T ud (s4 _ _ av),ud.dat rfl hs4⟩
   rintro σ' H5 ⟨sv,rfl,Fi,e5,hR5,hs5⟩
   repeat' (walk_at "rd1")
   simp only [lj]
   obtain⟨Zh,hb6⟩:=gF.upd (n:=n) (x:=sP r wt hm dy) T ⟨_,e5⟩ hR5 hs5
   exact q _ (Fi.trans Zh) hb6
theorem Jt (T:Txt K mg a):cT P w K mg base 8 a.cI ["self","name","rule","weight","home","by_day"] [] (Bb a):=
 ⟨⟨_,_,O2 T,T.kL.binds fun _ _ _ _ _ _=>acJ fun _ _ _ _ _ _=>rfl,.nil⟩⟩
theorem Tp {H:Hp} {Q:VK} {E:XK} {n:Str} {rv:V} {r:RU} {wt:Int} {hm:Option Str} {dy:Bool} {us:List V} (eu:us=[.str n,rv,.int wt,Ma hm,.bl dy]) (hR:pQ a H rv r) (k:∀b H2,aA H H2->H b=none->gF a H2 b n (sP r wt hm dy)->Q (.ref b) H2):uL a.ax (Bb a) us H Q E:=by
 refine⟨_,eu,fun x dx hx hd ne=>⟨x,dx,n,rv,r,wt,hm,dy,rfl,av,hR.keeps (fun b u e=>?_),fun H' mv hg=>⟨rfl,?_⟩⟩⟩
 . rw [ay (aC e hx),ay (aC e hd)];exact e
 . refine k _ _ (fun b u e=>?_) hx hg
   have hb:b≠x:=aC e hx
   refine mv.kp b u (by simpa using hb) ?_
   rw [ay hb,ay (aC e hd)]
   exact e
theorem Ut {m:V} {k x y:Int}:Ct m k (.tuple [.int x,.int y])=II (qz m k (x,y)).2:=by
 cases m with
 |int i=>
  by_cases h:i<=k
  . rw [E9 h];simp [qz,h,II]
  . rw [EH h];simp [qz,h,II,pD]
 |_=>rfl
def QA:RU->Int->Option (Int × Int)
 | .each st sp wd m,n=>(qz m (n+1) (st+(n+1)*sp,st+(n+1)*sp+wd)).2
def rK (x:iD):iD:={x with st:=QA x.ru x.no,no:=x.no+1}
def D7 (a:Ad):Sp:=fun vs H Q _=>∃b n x t,vs=[.ref b,.int t]/\gF a H b n x/\0<=x.no/\x.no<10^50/\∀H',Mv [b] H H'->gF a H' b n (rK x)->Q .a9 H'
theorem VN {H:Hp} {Q:VK} {E:XK} {b:Addr} {n:Str} {x:iD} {t:Int} (h:gF a H b n x) (h0:0<=x.no) (h1:x.no<10^50) (q:∀H',Mv [b] H H'->gF a H' b n (rK x)->Q .a9 H'):D7 a [.ref b,.int t] H Q E:=⟨b,n,x,t,rfl,h,h0,h1,q⟩
theorem TH (T:Txt K mg a):aS P w K mg base eP 3 a.ei a.rZ ["self","at"] (D7 a):=by
 have cl:=T.aW;have n1:=T.b0;have n2:=T.dt;have n3:=T.gy
 have Cq:=E5 (P:=P) (w:=w) (base:=base) T
 refine T.oo.ok AJ (fun vs H Q E h=>?_) (fun di A outer s H vs Q E hr h=>?_)
 . obtain⟨_,_,_,_,rfl,_⟩:=h;rfl
 . obtain⟨b,n,x,t,rfl,⟨rv,sv,⟨p,dx,e,hi⟩,hR,hd⟩,h0,h1,q⟩:=h
   cases e
   have Ug:∃fs,H b=some (.ins a.ax dx fs):=⟨_,hi⟩
   unfold eW at hi
   refine⟨_,(du (aU (pv 0) (az (aq (pv 0) rfl) T.cV T.uz Cq (hr.mono (by decide)) (ae (aq (pv 0) rfl) (ae (pv 1) ag))) rfl)
    (ah (aU (pv 0) (aB bq (aq (pv 0) rfl) au) rfl))),?_⟩
   refine iq (fun σ' H'=>∃Rk,σ'=[some (.ref b),some (.int t)]/\Mv [b] H H'/\H' b=some (.ins a.ax dx (eW n rv Rk x))/\pQ a H' rv x.ru/\Dv H' Rk (II (QA x.ru x.no))) ?_ ?_
   . cases hx:x.ru with
     |each st sp wd m=>
      rw [hx] at hR
      have KL:=hR
      obtain⟨hp0,ho,g1,g2,g3,g4,g5,g6⟩:=hR
      repeat' (walk_at "rd1")
      rename_i Rk H2 s2 z9
      have z9:Dv H2 Rk (II (QA (.each st sp wd m) x.no)):=by
       rw [Ut] at z9
       exact z9
      have gL:=Mv.aV (o:=.ins a.ax dx (eW n rv Rk x)) (s2 _ _ hi) (by intro _ z;cases z)
      exact⟨Rk,rfl,s2.mv.trans gL,av,(KL.keeps s2).mv T gL (s2 _ _ hi),gL.dat (pM _) z9⟩
   rintro σ' H2 ⟨Rk,rfl,gL,e2,hR2,z9⟩
   have e20:∃fs,H2 b=some (.ins a.ax dx fs):=⟨_,e2⟩
   unfold eW at e2
   repeat' (walk_at "rd1")
   obtain⟨mv,hb⟩:=gF.upd (n:=n) (x:=rK x) T e20 hR2 z9
   exact q _ (gL.trans mv) hb
theorem Nz (T:Txt K mg a):cT P w K mg base 3 a.ei ["self","at"] [] (D7 a):=
 ⟨⟨_,_,TH T,T.oo.binds fun _ _ _ _ _ _=>eC fun _ _=>rfl,.nil⟩⟩
def QI (t1 t2:TE):TE:=fun σ H Q=>t1 σ H Q\/t2 σ H Q
theorem Dx {t1 t2:TE} {σ:St} {H:Hp} {Q:VK} (h:t1 σ H Q):QI t1 t2 σ H Q:=.inl h
theorem Du {t1 t2:TE} {σ:St} {H:Hp} {Q:VK} (h:t2 σ H Q):QI t1 t2 σ H Q:=.inr h
theorem XM {t1 t2:TE} {σ:St} {H:Hp} {Q:VK} (h:QI t1 t2 σ H Q):acx t1 t2 σ H Q:=h
def Lw (H:Hp) (p x:Addr):Prop:=∃C dx fs k,H p=some (.ins C dx fs)/\(k,V.ref x)∈fs
structure kc (cs:List Addr) (p:Addr) (pd:List Addr) (H H':Hp):Prop where
 al:H p≠none
 kp:∀x o,H x=some o->(∀xs,o=.lst xs->¬Lw H p x)->(∀kvs,o=.dK kvs->x∈pd)->(∀C dx fs,o=.ins C dx fs->C∉cs)->H' x=some o
 dm:∀x,H' x=none->H x=none
 lw:∀x xs,Lw H' p x->H x=some (.lst xs)->Lw H p x
section
variable {cs Rc pd S S':List Addr} {p q b C dx:Addr} {H H1 H':Hp} {v:V} {x:Addr} {n n':Int} {ts Xb:List (Str × Int)} {kd:Bool}
theorem uS (al:H p≠none) (h:∀o,H p=some o->H' p=some o) (l:Lw H' p x):Lw H p x:=by
 obtain⟨C,dx,fs,k,e,m⟩:=l
 cases e0:H p with
 |none=>exact absurd e0 al
 |some o=>
  rw [h o e0] at e
  exact⟨C,dx,fs,k,e0.trans e,m⟩
theorem kc.refl (al:H p≠none):kc cs p pd H H:=⟨al,fun _ _ h _ _ _=>h,fun _ h=>h,fun _ _ h _=>h⟩
theorem kc.off {xs:List V} (f:kc cs p pd H H') (h:H q=some (.lst xs)) (n:¬Lw H p q):¬Lw H' p q:=fun z=>n (f.lw _ _ z h)
theorem kc.trans (f:kc cs p pd H H1) (g:kc cs p pd H1 H'):kc cs p pd H H':=
 ⟨f.al,fun x o h a b c=>g.kp x o (f.kp x o h a b c) (fun xs e=>by subst e;exact f.off h (a xs rfl)) b c,fun x h=>f.dm x (g.dm x h),fun x xs z h=>Classical.byContradiction fun n=>
  n (f.lw x xs (g.lw x xs z (f.kp x _ h (fun _ _=>n) (by intro _ e;cases e) (by intro _ _ _ e;cases e))) h)⟩
theorem kc.al' (f:kc cs p pd H H'):H' p≠none:=fun z=>f.al (f.dm _ z)
theorem xB (al:H p≠none) (s:aA H H'):kc cs p pd H H':=⟨al,fun x o h _ _ _=>s x o h,fun _ h=>s.none h,fun _ _ l _=>uS al (s p) l⟩
theorem kc.step (f:kc cs p pd H H1) (s:aA H1 H'):kc cs p pd H H':=f.trans (xB f.al' s)
theorem kc.Qe {fs:List (Str × V)} (al:H p≠none) (m:Mv [b] H H') (h:H b=some (.ins C dx fs)) (hC:C∈cs) (n:p≠b):kc cs p pd H H':=⟨al,fun x o e _ _ c=>m.kp x o (fun z=>by
 rw [AN.mp z,h] at e
 cases e
 exact c _ _ _ rfl hC) e,m.dm,fun _ _ l _=>uS al (fun o e=>m.kp p o (by simpa using n) e) l⟩
theorem kc.dkM {kvs:List (Key × V)} (al:H p≠none) (m:Mv [b] H H') (h:H b=some (.dK kvs)) (hb:b∉pd) (n:p≠b):kc cs p pd H H':=⟨al,fun x o e _ d _=>m.kp x o (fun z=>by
 have z:=AN.mp z
 subst z
 rw [h] at e
 cases e
 exact hb (d _ rfl)) e,m.dm,fun _ _ l _=>uS al (fun o e=>m.kp p o (by simpa using n) e) l⟩
theorem kc.wide (f:kc cs p pd H H') (h:∀C∈cs,C∈Rc):kc Rc p pd H H':=⟨f.al,fun x o e a b c=>f.kp x o e a b fun C dx fs e' z=>c C dx fs e' (h C z),f.dm,f.lw⟩
theorem kc.none (f:kc cs p pd H H') (h:H' q=Option.none):H q=Option.none:=f.dm q h
theorem kc.tup {xs:List V} (f:kc cs p pd H H') (h:H q=some (.tup xs)):H' q=some (.tup xs):=f.kp q _ h (by intro _ z;cases z) (by intro _ z;cases z) (by intro _ _ _ z;cases z)
theorem kc.ins {fs:List (Str × V)} (f:kc cs p pd H H') (hC:C∉cs) (h:iL H v C fs):iL H' v C fs:=by
 obtain⟨y,dx,rfl,e⟩:=h
 exact⟨y,dx,rfl,f.kp y _ e (by intro _ z;cases z) (by intro _ z;cases z) (by intro _ _ _ z;cases z;exact hC)⟩
theorem kc.zq {d:BB} (f:kc cs p pd H H') (i:Dc d=true) (h:Dv H v d):Dv H' v d:=h.zq (fun _ _ e=>f.tup e) i
theorem kc.lat {ds:List BB} (f:kc cs p pd H H') (n:¬Lw H p q) (h:eF H q ds):eF H' q ds:=by
 obtain⟨xs,e,dv,im⟩:=h
 exact⟨xs,f.kp q _ e (fun _ _=>n) (by intro _ z;cases z) (by intro _ _ _ z;cases z),dv.zq (fun a xs e=>f.tup e) im,im⟩
theorem kc.afs {ds:List BB} (f:kc cs p pd H H') (n:¬Lw H p q) (h:eF H q ds):¬Lw H' p q:=let ⟨_,e,_⟩:=h;f.off e n
theorem kc.sql {xs:List V} (f:kc cs p pd H H') (n:¬Lw H p q) (h:iN K H q xs):iN K H' q xs:=by
 rcases h with(h|⟨o,h⟩)|h
 . exact .inl (.inl (f.kp _ _ h (fun _ _=>n) (by intro _ z;cases z) (by intro _ _ _ z;cases z)))
 . exact .inl (.inr ⟨o,f.kp _ _ h (by intro _ z;cases z) (by intro _ z;cases z) (by intro _ _ _ z;cases z)⟩)
 . exact .inr h
def BZ (p:Addr) (H:Hp) (q:Addr) (ds:List BB):Prop:=eF H q ds/\¬Lw H p q
theorem BZ.fr {ds:List BB} (h:BZ p H q ds) (f:kc cs p pd H H'):BZ p H' q ds:=⟨f.lat h.2 h.1,f.afs h.2 h.1⟩
theorem pQ.frw {r:RU} (f:kc cs p pd H H')
 (nE:a.aD∉cs)
 (h:pQ a H v r):pQ a H' v r:=by
 cases r with
 |each=>exact⟨f.ins nE h.1,h.2⟩
theorem Told.kind (h:Told a kd H x S n ts) {o:HO} (hb:b∈S) (e:H b=some o):(∃C dx fs,o=.ins C dx fs/\C∈[a.aT,a.ai,a.aj])\/(∃xs,o=.lst xs/\Lw H x b)\/∃kvs,o=.dK kvs:=by
 have hd:∀{d:Addr} {m:List (Str × BB)},b=d->nW H d m->∃kvs,o=.dK kvs:=fun {d m} z hd=>by
  obtain⟨kvs,e2,_⟩:=hd
  rw [z,e2] at e
  exact⟨kvs,(CC e).symm⟩
 obtain⟨h0,⟨_,d,rfl,h1⟩|⟨_,d,m,us,G,eD,rfl,hc,h1⟩⟩:=h
 . rcases AE.mp hb with z|hb
   . obtain⟨dx,e1⟩:=h1.ex
     rw [z,e1] at e
     exact .inl ⟨_,_,_,(CC e).symm,by simp⟩
   . exact .inr (.inr (hd (AN.mp hb) h1.dd))
 . obtain⟨dx,e1⟩:=h1.ws.ex
   rcases AE.mp hb with z|hb
   . rw [z,e1] at e
     exact .inl ⟨_,_,_,(CC e).symm,by simp⟩
   . rcases AE.mp hb with z|hb
     . exact .inr (.inr (hd z h1.ws.dd))
     . rcases AE.mp hb with z|hb
       . exact .inr (.inr (hd z h1.ws.mm))
       . rcases AE.mp hb with z|hb
         . rw [z,h1.ws.g.q] at e
           exact .inr (.inl ⟨_,(CC e).symm,z▸⟨_,_,_,"wheels",e1,by simp [Vc]⟩⟩)
         . rcases AE.mp hb with z|hb
           . obtain⟨xs,e2,_⟩:=h1.ws.g.f
             rw [z,e2] at e
             exact .inr (.inl ⟨_,(CC e).symm,z▸⟨_,_,_,"far",e1,by simp [Vc]⟩⟩)
           . obtain⟨y,hy,hb⟩:=Lm.mp hb
             have hw:=h1.ws.g.w y hy
             rcases AE.mp hb with z|hb
             . obtain⟨dy,e2⟩:=hw.i
               rw [z,e2] at e
               exact .inl ⟨_,_,_,(CC e).symm,by simp⟩
             . rcases AE.mp hb with z|hb
               . rw [z,hw.d] at e
                 exact .inr (.inr ⟨_,(CC e).symm⟩)
               . obtain⟨c,hc,z⟩:=AT.mp hb
                 exact .inr (.inr (hd z.symm (hw.c c hc)))
theorem Told.lwS (h:Told a kd H x S n ts) (l:Lw H x b):b∈S:=by
 obtain⟨C,dx,fs,k,e,m⟩:=l
 obtain⟨h0,⟨_,d,rfl,h1⟩|⟨_,d,mm,us,G,eD,rfl,hc,h1⟩⟩:=h
 . obtain⟨dy,e1⟩:=h1.ex
   rw [e] at e1
   cases e1
   have m:k="times"/\b=d:=by simpa using m
   rw [m.2];simp
 . obtain⟨dy,e1⟩:=h1.ws.ex
   rw [e] at e1
   cases e1
   simp only [Vc,AE,Prod.mk.injEq,reduceCtorEq,and_false,V.ref.injEq,false_or,Pc,or_false] at m
   rcases m with z|z|z|z <;>rw [z.2] <;>simp [fG.foot]
theorem zP (h:Told a kd H x S n ts) (h':Told a kd H' x S' n' Xb) (mv:Mv S H H') (hs:∀b∈S',b∈S\/H b=none) (hp:∀b∈S,b∉pd):kc [a.aT,a.ai,a.aj] x pd H H':=
 ⟨h.alive x h.self,fun y o e c1 c2 c3=>mv.kp y o (fun z=>by
  rcases h.kind z e with⟨C,dx,fs,r,hC⟩|⟨xs,r,l⟩|⟨kvs,r⟩
  . exact c3 C dx fs r hC
  . exact c1 xs r l
  . exact hp y z (c2 kvs r)) e,mv.dm,fun y xs l e=>by
  rcases hs y (h'.lwS l) with z|z
  . rcases h.kind z e with⟨C,dx,fs,r,hC⟩|⟨xs,r,l⟩|⟨kvs,r⟩
    . cases r
    . exact l
    . cases r
  . rw [z] at e;cases e⟩
end
set_option hygiene false in
local macro_rules|`(tactic|walk_at "rd1")=>`(tactic|first|with_reducible refine XM ?_|fail)
structure KS where
 now:Int
 sh:Int
 f:Str->Option iD
 t:Str->Option Int
structure Lay where
 p:Addr
 wp:Addr
 pd:List Addr
 rv:V
 bd:Addr
 gv:V
 ad:Str->Addr
 nm:List Str
def bJ (L:Lay) (now sh:Int):List (Str × V):=[("waits",.ref L.wp),("rounds",L.rv),("now",.int now),("shift",.int sh),("groups",L.gv),("by_name",.ref L.bd)]
structure cK (a:Ad) (H:Hp) (L:Lay) (k:KS):Prop where
 ins:iL H (.ref L.p) a.ak (bJ L k.now k.sh)
 wt:∃kd S ts,Told a kd H L.wp S k.now ts/\(∀b∈S,b∉L.bd::L.pd)/\∀n u,(n,u)∈ts↔k.t n=some u
 bd:∃ns,qC H L.bd ns (fun n=>.ref (L.ad n))/\ns.Nodup/\∀n,n∈ns↔(k.f n).isSome=true
 bl:∀n x,k.f n=some x->gF a H (L.ad n) n x
 ne:L.bd∉L.pd
 nl:L.nm.length<=55
 nt:∀n,(k.t n).isSome=true->n∈L.nm
 nf:∀n,(k.f n).isSome=true->n∈L.nm
 pl:∀b∈L.pd,H b≠none
abbrev rm (a:Ad) (L:Lay) (H H':Hp):Prop:=kc [a.ax,a.ak,a.aT,a.ai,a.aj] L.wp L.pd H H'
theorem xa {α:Type} [DecidableEq α]:∀{l m:List α},l.Nodup->(∀x∈l,x∈m)->l.length<=m.length
 |[],_,_,_=>IR _
 |x::l,m,h,hs=>by
  rw [EN] at h
  have h1:=xa (l:=l) (m:=m.erase x) h.2 fun y hy=>(List.mem_erase_of_ne (fun e:y=x=>h.1 (by rw [<-e];exact hy))).mpr (hs y (AD _ hy))
  have h2:=List.length_erase_of_mem (hs x BN)
  have h3:0<m.length:=List.length_pos_of_mem (hs x BN)
  rw [GG]
  omega
section
variable {H H':Hp} {L:Lay} {k:KS} {n:Str} {x x':iD}
theorem cK.keeps (s:aA H H') (h:cK a H L k):cK a H' L k:=by
 obtain⟨kd,S,ts,w1,w2,w3⟩:=h.wt
 obtain⟨ns,b1,b2,b3⟩:=h.bd
 exact⟨h.ins.keeps s,⟨kd,S,ts,w1.keeps s,w2,w3⟩,⟨ns,b1.keeps s,b2,b3⟩,fun n x e=>(h.bl n x e).keeps s,h.ne,h.nl,h.nt,h.nf,fun b hb z=>h.pl b hb (s.none z)⟩
theorem gF.at (h:gF a H b n x):∃dx rv sv,H b=some (.ins a.ax dx (eW n rv sv x)):=by
 obtain⟨rv,sv,⟨p,dx,e,hi⟩,_⟩:=h
 cases e
 exact⟨dx,rv,sv,hi⟩
theorem SK {C D:Addr} {b dx:Addr} {v:V} {fs gs:List (Str × V)} (m:Mv [b] H H') (e:H b=some (.ins D dx gs)) (nq:C≠D) (h:iL H v C fs):iL H' v C fs:=by
 obtain⟨p,dy,rfl,hi⟩:=h
 refine⟨p,dy,rfl,m.at (fun z=>?_) hi⟩
 rw [AN.mp z,e] at hi
 cases hi
 exact nq rfl
theorem Ex {C:Addr} {b:Addr} {v:V} {fs:List (Str × V)} {kvs:List (Key × V)} (m:Mv [b] H H') (e:H b=some (.dK kvs)) (h:iL H v C fs):iL H' v C fs:=by
 obtain⟨p,dy,rfl,hi⟩:=h
 refine⟨p,dy,rfl,m.at (fun z=>?_) hi⟩
 rw [AN.mp z,e] at hi
 cases hi
theorem gF.mvB (T:Txt K mg a) {m':Str} {y:iD} {b c:Addr} (h:gF a H b n x) (g:gF a H c m' y) (nq:n≠m') (m:Mv [c] H H'):gF a H' b n x:=by
 obtain⟨dx,Hn,Rk,e⟩:=g.at
 obtain⟨rv,sv,⟨p,dy,e0,hi⟩,h2,h3⟩:=h
 cases e0
 refine⟨rv,sv,⟨b,dy,rfl,m.at (fun z=>?_) hi⟩,h2.mv T m e,m.dat (pM _) h3⟩
 rw [AN.mp z,e] at hi
 have hi:HO.ins a.ax dx (eW m' Hn Rk y)=HO.ins a.ax dy (eW n rv sv x):=CC hi
 injection hi with _ _ hf
 unfold eW at hf
 injection hf with h4 _
 injection h4 with _ h5
 injection h5 with h6
 exact nq h6.symm
theorem pQ.Zo {c:Addr} {kvs:List (Key × V)} {v:V} {r:RU} (m:Mv [c] H H') (e:H c=some (.dK kvs)) (h:pQ a H v r):pQ a H' v r:=pQ.fr (cs:=[]) (S:=[c]) (Fr.dkM m e BN)
 (by simp)
 h
theorem gF.Zo {c:Addr} {kvs:List (Key × V)} (m:Mv [c] H H') (e:H c=some (.dK kvs)) (h:gF a H b n x):gF a H' b n x:=by
 obtain⟨rv,sv,h1,h2,h3⟩:=h
 exact⟨rv,sv,Ex m e h1,h2.Zo m e,m.dat (pM _) h3⟩
theorem cK.al (h:cK a H L k):H L.wp≠none:=let ⟨_,_,_,w1,_⟩:=h.wt;w1.alive _ w1.self
theorem cK.noB (T:Txt K mg a) (h:cK a H L k) {b dx C:Addr} {fs:List (Str × V)} (e:H b=some (.ins C dx fs)) (nC:C∉[a.aT,a.ai,a.aj]):∀kd S ts,Told a kd H L.wp S k.now ts->∀y∈S,y∉[b]:=fun kd S ts w y hy z=>by
 rw [<-AN.mp z] at e
 rcases w.kind hy e with⟨_,_,_,r,hC⟩|⟨_,r,_⟩|⟨_,r⟩
 . cases r;exact nC hC
 . cases r
 . cases r
theorem Txt.nB (T:Txt K mg a):a.ax∉[a.aT,a.ai,a.aj]:=by simp [T.mU,T.i7,T.jU]
theorem Txt.nK (T:Txt K mg a):a.ak∉[a.aT,a.ai,a.aj]:=by simp [T.jV,T.gB,T.ic]
theorem Txt.nE (T:Txt K mg a):a.aD∉[a.aT,a.ai,a.aj]:=by simp [T.mZ,T.i9,T.jW]
theorem cK.fresh (h:cK a H L k) {q:Addr} (hn:H q=none):¬Lw H L.wp q:=fun z=>by
 obtain⟨_,_,_,w1,_⟩:=h.wt
 exact w1.alive _ (w1.lwS z) hn
theorem cK.sP (T:Txt K mg a) (h:cK a H L k) {q:Addr} (hx:k.f n=some x) (hn:H q=none) (m:Mv [L.ad n] H H'):¬Lw H' L.wp q:=fun z=>by
 obtain⟨_,_,_,w1,_⟩:=h.wt
 obtain⟨_,_,_,e⟩:=(h.bl n x hx).at
 exact h.fresh hn (uS h.al (fun o e'=>m.kp _ o (h.noB T e T.nB _ _ _ w1 _ w1.self) e') z)
theorem cK.new (h:cK a H L k) {q:Addr} (hn:H q=none) (s:aA H H'):¬Lw H' L.wp q:=fun z=>h.fresh hn (uS h.al (s _) z)
theorem cK.RW (T:Txt K mg a) (h:cK a H L k) (hx:k.f n=some x) (m:Mv [L.ad n] H H') (hb:gF a H' (L.ad n) n x'):cK a H' L {k with f:=cU k.f n (some x')}/\rm a L H H':=by
 have hB:=h.bl n x hx
 obtain⟨dx,rv,sv,e⟩:=hB.at
 obtain⟨kd,S,ts,w1,w2,w3⟩:=h.wt
 obtain⟨ns,b1,b2,b3⟩:=h.bd
 have nd1:∀{d:Addr} {kvs:List (Key × V)},H d=some (.dK kvs)->d∉[L.ad n]:=fun {d kvs} e2 z=>by rw [AN.mp z,e] at e2;cases e2
 have MP:=h.noB T e T.nB _ _ _ w1
 refine⟨⟨SK m e (LH T.fM) h.ins,⟨kd,S,ts,w1.mv m MP,w2,w3⟩,⟨ns,b1.mv m (nd1 b1),b2,fun y=>?_⟩,fun y z hz=>?_,h.ne,h.nl,h.nt,fun y hy=>?_,fun b hb z=>h.pl b hb (m.dm _ z)⟩,kc.Qe h.al m e BN fun z=>MP _ w1.self (by simp [z])⟩
 . rw [b3]
   by_cases ey:y=n
   . subst ey;simp [aP,hx]
   . show _↔(cU k.f n (some x') y).isSome=true
     rw [dF ey]
 . by_cases ey:y=n
   . subst ey
     have hz:cU k.f y (some x') y=some z:=hz
     rw [aP] at hz
     cases hz
     exact hb
   . have hz:cU k.f n (some x') y=some z:=hz
     rw [dF ey] at hz
     exact(h.bl y z hz).mvB T hB ey m
 . by_cases ey:y=n
   . subst ey;exact h.nf y (by rw [hx];rfl)
   . refine h.nf y ?_
     have hy:(cU k.f n (some x') y).isSome=true:=hy
     rwa [dF ey] at hy
theorem Fj (T:Txt K mg a) {cs pd:List Addr} {p b:Addr} (f:kc cs p pd H H') (hB:a.ax∉cs)
 (hE:a.aD∉cs)
 (h:gF a H b n x):gF a H' b n x:=by
 obtain⟨rv,sv,h1,h2,h3⟩:=h
 exact⟨rv,sv,f.ins hB h1,pQ.frw f
  hE
  h2,f.zq (pM _) h3⟩
theorem cK.B6 (T:Txt K mg a) (h:cK a H L k) {kd:Bool} {VX:Int} {S S':List Addr} {ts0 ts:List (Str × Int)} {t':Str->Option Int} (w0:Told a kd H L.wp S k.now ts0) (wn:∀b∈S,b∉L.bd::L.pd) (m:Mv S H H') (w:Told a kd H' L.wp S' VX ts) (hs:∀b∈S',b∈S\/H b=none) (w3:∀n u,(n,u)∈ts↔t' n=some u) (w4:∀n,(t' n).isSome=true->n∈L.nm) (hi:iL H (.ref L.p) a.ak (bJ L VX k.sh)):cK a H' L {k with t:=t',now:=VX}/\rm a L H H':=by
 obtain⟨ns,b1,b2,b3⟩:=h.bd
 have f:=zP w0 w m hs (pd:=L.bd::L.pd) wn
 have f':kc [a.aT,a.ai,a.aj] L.wp L.pd H H':=zP w0 w m hs fun b hb z=>wn b hb (AD _ z)
 refine⟨⟨f.ins T.nK hi,⟨kd,S',ts,w,fun b hb z=>?_,w3⟩,⟨ns,f.kp _ _ b1 (by intro _ z;cases z) (by intro _ _;exact BN) (by intro _ _ _ z;cases z),b2,b3⟩,fun y z hz=>Fj T f T.nB
  T.nE
  (h.bl y z hz),h.ne,h.nl,w4,h.nf,fun b hb z=>h.pl b hb (f.dm _ z)⟩,f'.wide fun C hC=>by simp only [AE] at hC ⊢;exact .inr (.inr hC)⟩
 rcases hs b hb with r|r
 . exact wn b r z
 . rcases AE.mp z with z|z
   . rw [z,b1] at r;cases r
   . exact h.pl b z r
theorem cK.pop (T:Txt K mg a) (h:cK a H L k) {ns:List Str} (b1:qC H L.bd ns (fun n=>.ref (L.ad n))) (b2:ns.Nodup) (b3:∀n,n∈ns↔(k.f n).isSome=true) (m:Mv [L.bd] H H') (WQ:qC H' L.bd (ns.filter fun y=>decide (y≠n)) (fun n=>.ref (L.ad n))):cK a H' L {k with f:=cU k.f n none}/\rm a L H H':=by
 obtain⟨kd,S,ts,w1,w2,w3⟩:=h.wt
 have MP:∀b∈S,b∉[L.bd]:=fun b hb z=>w2 b hb (by rw [AN.mp z];exact BN)
 have hf:∀y,(cU k.f n none y).isSome=true↔y≠n/\(k.f y).isSome=true:=fun y=>by
  by_cases ey:y=n
  . subst ey;simp [aP]
  . rw [dF ey];simp [ey]
 refine⟨⟨Ex m b1 h.ins,⟨kd,S,ts,w1.mv m MP,w2,w3⟩,⟨_,WQ,b2.sublist JJ,fun y=>?_⟩,fun y z hz=>?_,h.ne,h.nl,h.nt,fun y hy=>h.nf y ((hf y).mp hy).2,fun b hb z=>h.pl b hb (m.dm _ z)⟩,kc.dkM h.al m b1 h.ne fun z=>MP _ w1.self (by simp [z])⟩
 . show _↔(cU k.f n none y).isSome=true
   rw [hf,CS,b3];simp [and_comm]
 . have hz:cU k.f n none y=some z:=hz
   by_cases ey:y=n
   . subst ey;rw [aP] at hz;cases hz
   . rw [dF ey] at hz
     exact(h.bl y z hz).Zo m b1
theorem cK.ae1 (T:Txt K mg a) (h:cK a H L k) {ns:List Str} {b:Addr} (b1:qC H L.bd ns (fun n=>.ref (L.ad n))) (b2:ns.Nodup) (b3:∀n,n∈ns↔(k.f n).isSome=true) (hn:k.f n=none) (hm:n∈L.nm) (hb:gF a H b n x) (m:Mv [L.bd] H H') (WQ:qC H' L.bd (ns++[n]) (cU (fun n=>.ref (L.ad n)) n (.ref b))):cK a H' {L with ad:=cU L.ad n b} {k with f:=cU k.f n (some x)}/\rm a L H H':=by
 obtain⟨kd,S,ts,w1,w2,w3⟩:=h.wt
 have MP:∀b∈S,b∉[L.bd]:=fun b hb z=>w2 b hb (by rw [AN.mp z];exact BN)
 have hf:∀y,(cU k.f n (some x) y).isSome=true↔y=n\/(k.f y).isSome=true:=fun y=>by
  by_cases ey:y=n
  . subst ey;simp [aP]
  . rw [dF ey];simp [ey]
 have OD:n∉ns:=fun z=>by rw [b3,hn] at z;cases z
 refine⟨⟨Ex m b1 h.ins,⟨kd,S,ts,w1.mv m MP,w2,w3⟩,⟨_,WQ.congr fun y hy=>?_,?_,fun y=>?_⟩,fun y z hz=>?_,h.ne,h.nl,h.nt,fun y hy=>?_,fun b hb z=>h.pl b hb (m.dm _ z)⟩,kc.dkM h.al m b1 h.ne fun z=>MP _ w1.self (by simp [z])⟩
 . show cU (fun n=>V.ref (L.ad n)) n (V.ref b) y=V.ref (cU L.ad n b y)
   by_cases ey:y=n
   . subst ey;rw [aP,aP]
   . rw [dF ey,dF ey]
 . rw [Gc]
   refine⟨b2,by simp,fun y hy z hz=>?_⟩
   rw [AN.mp hz]
   exact fun e=>OD (e▸hy)
 . show _↔(cU k.f n (some x) y).isSome=true
   rw [hf,Cn,b3,AN,or_comm]
 . have hz:cU k.f n (some x) y=some z:=hz
   show gF a H' (cU L.ad n b y) y z
   by_cases ey:y=n
   . subst ey
     rw [aP] at hz
     cases hz
     rw [aP]
     exact hb.Zo m b1
   . rw [dF ey] at hz
     rw [dF ey]
     exact(h.bl y z hz).Zo m b1
 . rcases (hf y).mp hy with e|hy
   . rw [e];exact hm
   . exact h.nf y hy
end
local macro_rules|`(tactic|walk_at "vat")=>`(tactic|first|(refine' qC.keeps ?s ?m;(case s=>assumption);(case m=>walk_at "vat"))|fail)
set_option hygiene false in
local macro_rules|`(tactic|walk_at "vat")=>`(tactic|first|assumption|fail)
local macro_rules|`(tactic|walk_at "kat")=>`(tactic|first|(refine' cK.keeps ?s ?m;(case s=>assumption);(case m=>walk_at "kat"))|fail)
set_option hygiene false in
local macro_rules|`(tactic|walk_at "kat")=>`(tactic|first|assumption|fail)
local macro_rules|`(tactic|walk_at "rd1")=>`(tactic|first|((with_reducible refine' aay ?e1 ?_);(case e1=>walk_at "vat"))|fail)
local macro_rules|`(tactic|walk_at "rd1")=>`(tactic|first|((with_reducible refine' TF ?e1 ?e2 ?_);(case e1=>walk_at "vat");(case e2=>assumption))|fail)
local macro_rules|`(tactic|walk_at "rd1")=>`(tactic|first|((with_reducible refine' Wd ?e1 (fun _ _ _=>?_));(case e1=>walk_at "vat"))|fail)
def vi (a:Ad):Sp:=fun vs H Q _=>∃v b n x,vs=[v,.ref b]/\gF a H b n x/\x.hm=none/\Q (.bl true) H
theorem Ld {H:Hp} {Q:VK} {E:XK} {v:V} {b:Addr} {n:Str} {x:iD} (h:gF a H b n x) (hx:x.hm=none) (q:Q (.bl true) H):vi a [v,.ref b] H Q E:=⟨v,b,n,x,rfl,h,hx,q⟩
theorem Jv (T:Txt K mg a):aS P w K mg base eP 4 a.b8 a.pq ["self","bell"] (vi a):=by
 have cl:=T.aW;have n1:=T.jl
 refine T.kF.ok xW (fun vs H Q E h=>?_) (fun di A outer s H vs Q E hr h=>?_)
 . obtain⟨_,_,_,_,rfl,_⟩:=h;rfl
 . obtain⟨v,b,n,x,rfl,⟨rv,sv,hi,hR,hd⟩,hx,q⟩:=h
   unfold eW at hi
   rw [hx] at hi
   simp only [Ma] at hi
   refine⟨_,(ah (aF (acG (t8 DN (aq (pv 1) rfl) eO (aR _)) (E8 Ba)))),?_⟩
   repeat' (walk_at "rd1")
   exact q
theorem FI (T:Txt K mg a):cT P w K mg base 4 a.b8 ["self","bell"] [] (vi a):=
 ⟨⟨_,_,Jv T,T.kF.binds fun _ _ _ _ _ _=>eC fun _ _=>rfl,.nil⟩⟩
def Bc (a:Ad):Sp:=fun vs H Q _=>∃L k b n x,vs=[.ref L.p,.ref b]/\cK a H L k/\gF a H b n x/\Q (.int (k.now+lead x k.sh)) H
theorem JF {H:Hp} {Q:VK} {E:XK} {L:Lay} {k:KS} {b:Addr} {n:Str} {x:iD} (h:cK a H L k) (hb:gF a H b n x) (q:Q (.int (k.now+lead x k.sh)) H):Bc a [.ref L.p,.ref b] H Q E:=⟨L,k,b,n,x,rfl,h,hb,q⟩
theorem OW (T:Txt K mg a):aS P w K mg base eP 5 a.bZ a.o9 ["self","bell"] (Bc a):=by
 have cl:=T.aO;have n1:=T.bB;have n2:=T.dG
 have FJ:=Fy (P:=P) (w:=w) (base:=base) T
 refine T.kM.ok yE (fun vs H Q E h=>?_) (fun di A outer s H vs Q E hr h=>?_)
 . obtain⟨_,_,_,_,_,rfl,_⟩:=h;rfl
 . obtain⟨L,k,b,n,x,rfl,hk,hb,q⟩:=h
   have hi:=hk.ins
   unfold bJ at hi
   have hbi:∃fs,iL H (.ref b) a.ax fs/\fs.lookup ("lead":Str)=none:=by
    obtain⟨rv,sv,hi,_⟩:=hb
    exact⟨_,hi,by unfold eW;walk_at "lk"⟩
   obtain⟨fs,hbi,hbl⟩:=hbi
   refine⟨_,(ah (aF (aB bq (aq (pv 0) rfl) (az (pv 1) T.aW T.tL FJ (hr.mono (by decide)) (ae (aq (pv 0) rfl) ag))))),?_⟩
   repeat' (walk_at "rd1")
   exact q
theorem Dk (T:Txt K mg a):cT P w K mg base 5 a.bZ ["self","bell"] [] (Bc a):=
 ⟨⟨_,_,OW T,T.kM.binds fun _ _ _ _ _ _=>eC fun _ _=>rfl,.nil⟩⟩
theorem gF.og {H:Hp} {b:Addr} {n:Str} {x:iD} (h:gF a H b n x):∃fs,iL H (.ref b) a.ax fs/\fs.lookup ("lead":Str)=none/\fs.lookup ("is_over":Str)=none/\fs.lookup ("is_waiting":Str)=none/\fs.lookup ("catch_up":Str)=none/\fs.lookup ("wait":Str)=none/\fs.lookup ("rest":Str)=none/\fs.lookup ("move":Str)=none/\fs.lookup ("about":Str)=none/\fs.lookup ("name":Str)=some (.str n)/\fs.lookup ("until":Str)=some (ow x.un)/\fs.lookup ("since":Str)=some (ow x.sn)/\fs.lookup ("by_day":Str)=some (.bl x.dy)/\fs.lookup ("weight":Str)=some (.int x.wt)/\fs.lookup ("number":Str)=some (.int x.no):=by
 obtain⟨rv,sv,hi,_⟩:=h
 refine⟨_,hi,?_⟩
 unfold eW
 exact⟨by walk_at "lk",by walk_at "lk",by walk_at "lk",by walk_at "lk",by walk_at "lk",by walk_at "lk",by walk_at "lk",by walk_at "lk",by walk_at "lk",by walk_at "lk",by walk_at "lk",by walk_at "lk",by walk_at "lk",by walk_at "lk"⟩
theorem uh.og {C:Addr} {H:Hp} {p d:Addr} {n:Int} {ts:List (Str × Int)} {fr:List (Str × V)} (h:uh C H p d n ts fr) (hf:fr=[]\/∃q f m,fr=([("wheels",V.ref q),("far",V.ref f),("moves",V.ref m)]:List (Str × V))):∃fs,iL H (.ref p) C fs/\fs.lookup ("put":Str)=none/\fs.lookup ("take":Str)=none/\fs.lookup ("time_of":Str)=none/\fs.lookup ("due":Str)=none/\fs.lookup ("least":Str)=none:=by
 refine⟨_,h.ins,?_⟩
 rcases hf with rfl|⟨q,f,m,rfl⟩ <;>exact⟨by walk_at "lk",by walk_at "lk",by walk_at "lk",by walk_at "lk",by walk_at "lk"⟩
theorem cK.YT {H:Hp} {L:Lay} {k:KS} (hk:cK a H L k) {kd:Bool} {S:List Addr} {n:Int} {ts:List (Str × Int)} (w1:Told a kd H L.wp S n ts) (w3:∀n u,(n,u)∈ts↔k.t n=some u):ts.length<60:=by
 have:=xa w1.1 (m:=L.nm) fun y hy=>by
  obtain⟨z,hz,rfl⟩:=AT.mp hy
  exact hk.nt z.1 (by rw [(w3 z.1 z.2).mp hz];rfl)
 have h55:=hk.nl
 rw [AL] at this
 omega
def Au (a:Ad):Sp:=fun vs H Q _=>∃L k n x,vs=[.ref L.p,.ref (L.ad n)]/\cK a H L k/\k.f n=some x/\∀H',rm a L H H'->cK a H' L {k with f:=cU k.f n (some (rest x)),t:=cU k.t n none}->Q .a9 H'
theorem Kz {H:Hp} {Q:VK} {E:XK} {L:Lay} {k:KS} {n:Str} {x:iD} (h:cK a H L k) (hx:k.f n=some x) (q:∀H',rm a L H H'->cK a H' L {k with f:=cU k.f n (some (rest x)),t:=cU k.t n none}->Q .a9 H'):Au a [.ref L.p,.ref (L.ad n)] H Q E:=⟨L,k,n,x,rfl,h,hx,q⟩
theorem NX (T:Txt K mg a):aS P w K mg base eP 6 a.eV a.xt ["self","bell"] (Au a):=by
 have cl:=T.aO;have n1:=T.bD;have cb:=T.aW;have n2:=T.bG;have cr:=T.eM;have cw:=T.aQ
 have FE:=PF (P:=P) (w:=w) (base:=base) T
 have Cr:=yW (P:=P) (w:=w) (base:=base) T T.K1
 have yo:=yW (P:=P) (w:=w) (base:=base) T T.t7
 have Je:=C5 (P:=P) (w:=w) (base:=base) T T.K1 T.nJ T.yY (Io T)
 have B4:=C5 (P:=P) (w:=w) (base:=base) T T.t7 T.ke T.sE (Mj T)
 refine T.sV.ok Fl (fun vs H Q E h=>?_) (fun di A outer s H vs Q E hr h=>?_)
 . obtain⟨_,_,_,_,rfl,_⟩:=h;rfl
 . obtain⟨L,k,n,x,rfl,hk,hx,q⟩:=h
   have hi:=hk.ins
   unfold bJ at hi
   have hB:=hk.bl n x hx
   obtain⟨fs,hb,l1,l2,l3,l4,l5,l6,l7,l8,l9,l10,Yf,Ye,V1,Xd⟩:=hB.og
   obtain⟨kd,S,ts,w1,w2,w3⟩:=hk.wt
   have hlen:=hk.YT w1 w3
   have hun:n∉ts.map (·.1)->cU k.t n none=k.t:=fun hn=>by
    funext y
    by_cases ey:y=n
    . subst ey
      rw [aP]
      cases e:k.t y with
      |none=>rfl
      |some u=>exact absurd (Cs (f:=(·.1)) ((w3 y u).mpr e)) hn
    . rw [dF ey]
   have hdr:∀{u:Int},(n,u)∈ts->∀{R:Hp->Prop},(∀H',rm a L H H'->cK a H' L {k with t:=cU k.t n none}->R H')->CK a kd H L.wp S k.now (jj ts n) R:=fun {u} hu R hR S' H' mv w' hs=>by
    have f1:∀y v,(y,v)∈jj ts n↔cU k.t n none y=some v:=fun y v=>by
     rw [dr]
     by_cases ey:y=n
     . subst ey;simp [aP]
     . rw [w3,dF ey];simp [ey]
    have f2:∀y,(cU k.t n none y).isSome=true->y∈L.nm:=fun y hy=>by
     by_cases ey:y=n
     . subst ey;rw [aP] at hy;cases hy
     . rw [dF ey] at hy;exact hk.nt y hy
    obtain⟨Gh,fr⟩:=hk.B6 T w1 w2 mv w' hs f1 f2 hk.ins
    exact hR H' fr Gh
   refine⟨_,(du (bC (aL qt (yK (az (aq (pv 0) rfl) T.eM T.uH Cr (hr.mono (by decide)) (ae (aq (pv 1) rfl) ag)) (az (aq (pv 0) rfl) T.aQ T.pC yo (hr.mono (by decide)) (ae (aq (pv 1) rfl) ag))) eO (aR _))
    (ah (aI (yK (az (aq (pv 0) rfl) T.eM T.Bf Je (hr.mono (by decide)) (ae (aq (pv 1) rfl) ag)) (az (aq (pv 0) rfl) T.aQ T.vg B4 (hr.mono (by decide)) (ae (aq (pv 1) rfl) ag)))))
    aN)
    (ah (aI (fL (pv 1) T.aW T.y4 FE (hr.mono (by decide)))))),?_⟩
   refine iq (fun σ' H'=>σ'=[some (.ref L.p),some (.ref (L.ad n))]/\rm a L H H'/\cK a H' L {k with t:=cU k.t n none}) ?_ ?_
   . obtain⟨h0,⟨rfl,d,rfl,h1⟩|⟨rfl,d,m,us,G,eD,rfl,hc,h1⟩⟩:=w1
     . obtain⟨gs,hw,k1,k2,k3,k4,k5⟩:=h1.og (.inl rfl)
       repeat' (walk_at "rd1")
       refine Dx ?_
       repeat' (walk_at "rd1")
       refine⟨L.wp,d,k.now,ts,[],n,rfl,h1,fun t ht=>?_,fun ht=>?_⟩
       . repeat' (walk_at "rd1")
         refine Dx ?_
         repeat' (walk_at "rd1")
         refine TV h0 h1 ht (hdr ht fun H' fr Gh=>?_)
         repeat' (walk_at "rd1")
         exact⟨rfl,fr,Gh⟩
       . repeat' (walk_at "rd1")
         exact⟨rfl,kc.refl hk.al,by rw [hun ht];exact hk⟩
     . obtain⟨gs,hw,k1,k2,k3,k4,k5⟩:=h1.wt.og (.inr ⟨_,_,_,rfl⟩)
       repeat' (walk_at "rd1")
       refine Du ?_
       repeat' (walk_at "rd1")
       refine⟨L.wp,d,k.now,ts,_,n,rfl,h1.wt,fun t ht=>?_,fun ht=>?_⟩
       . repeat' (walk_at "rd1")
         refine Du ?_
         repeat' (walk_at "rd1")
         refine TX hc h1 (by omega) ht (hdr ht fun H' fr Gh=>?_)
         repeat' (walk_at "rd1")
         exact⟨rfl,fr,Gh⟩
       . repeat' (walk_at "rd1")
         exact⟨rfl,kc.refl hk.al,by rw [hun ht];exact hk⟩
   rintro σ' H1 ⟨rfl,B2,mw⟩
   have JU:=mw.bl n x hx
   obtain⟨fs1,Vx,_,_,_,_,_,m6,_⟩:=JU.og
   repeat' (walk_at "rd1")
   refine YV JU (fun H2 gL QZ=>?_)
   repeat' (walk_at "rd1")
   obtain⟨mS,zl⟩:=mw.RW T hx gL QZ
   exact q _ (B2.trans zl) mS
theorem CV (T:Txt K mg a):cT P w K mg base 6 a.eV ["self","bell"] [] (Au a):=
 ⟨⟨_,_,NX T,T.sV.binds fun _ _ _ _ _ _=>eC fun _ _=>rfl,.nil⟩⟩
theorem nU {β:Type} {f:Str->β} {k:Str} {u v:β}:cU (cU f k u) k v=cU f k v:=by
 funext y
 by_cases e:y=k
 . rw [e,aP,aP]
 . rw [dF e,dF e,dF e]
local macro_rules|`(tactic|walk_at "fr")=>`(tactic|first|(refine' kc.step ?m ?s;(case s=>assumption);(case m=>walk_at "fr"))|fail)
local macro_rules|`(tactic|walk_at "fr")=>`(tactic|first|(refine' kc.trans ?m ?s;(case s=>assumption);(case m=>walk_at "fr"))|fail)
set_option hygiene false in
local macro_rules|`(tactic|walk_at "fr")=>`(tactic|first|assumption|fail)
def vj (a:Ad):Sp:=fun vs H Q _=>∃L k n x f l,vs=[.ref L.p,.ref (L.ad n)]/\cK a H L k/\k.f n=some x/\x.st=some (f,l)/\k.t n=none/\k.now<l - lead x k.sh/\∀H',rm a L H H'->cK a H' L {k with f:=cU k.f n (some (wait x k.now k.sh f l)),t:=cU k.t n (some (l - lead x k.sh))}->Q .a9 H'
theorem K4 {H:Hp} {Q:VK} {E:XK} {L:Lay} {k:KS} {n:Str} {x:iD} {f l:Int} (h:cK a H L k) (hx:k.f n=some x) (hs:x.st=some (f,l)) (ht:k.t n=none) (hl:k.now<l - lead x k.sh) (q:∀H',rm a L H H'->cK a H' L {k with f:=cU k.f n (some (wait x k.now k.sh f l)),t:=cU k.t n (some (l - lead x k.sh))}->Q .a9 H'):vj a [.ref L.p,.ref (L.ad n)] H Q E:=⟨L,k,n,x,f,l,rfl,h,hx,hs,ht,hl,q⟩
theorem Ih (T:Txt K mg a):aS P w K mg base eP 6 a.b9 a.pz ["self","bell"] (vj a):=by
 have cl:=T.aO;have n1:=T.bD;have n3:=T.bB;have n4:=T.dG;have cb:=T.aW;have n2:=T.bG;have n5:=T.cZ;have cr:=T.eM;have cw:=T.aQ
 have F2:=Mx (P:=P) (w:=w) (base:=base) T
 have LK:=GJ (P:=P) (w:=w) (base:=base) T T.K1 T.yO (HD T)
 have DZ:=GJ (P:=P) (w:=w) (base:=base) T T.t7 T.sU (MS T)
 refine T.km.ok yD (fun vs H Q E h=>?_) (fun di A outer s H vs Q E hr h=>?_)
 . obtain⟨_,_,_,_,_,_,rfl,_⟩:=h;rfl
 . obtain⟨L,k,n,x,f,l,rfl,hk,hx,hs,ht,hl,q⟩:=h
   have hi:=hk.ins
   unfold bJ at hi
   have hB:=hk.bl n x hx
   obtain⟨fs,hb,l1,l2,l3,l4,l5,l6,l7,l8,l9,l10,Yf,Ye,V1,Xd⟩:=hB.og
   refine⟨_,(du (aI (az (pv 1) T.aW T.zf F2 (hr.mono (by decide)) (ae (aq (pv 0) rfl) (ae (aq (pv 0) rfl) ag))))
    (ah (aI (yK (az (aq (pv 0) rfl) T.eM T.DH LK (hr.mono (by decide)) (ae (aq (pv 1) rfl) (ae (aq (pv 1) rfl) ag))) (az (aq (pv 0) rfl) T.aQ T.wM DZ (hr.mono (by decide)) (ae (aq (pv 1) rfl) (ae (aq (pv 1) rfl) ag))))))),?_⟩
   repeat' (walk_at "rd1")
   refine iq (fun σ' H'=>σ'=[some (.ref L.p),some (.ref (L.ad n))]/\rm a L H H'/\cK a H' L {k with f:=cU k.f n (some (wait x k.now k.sh f l))}) ?_ ?_
   . repeat' (walk_at "rd1")
     refine Sf hB hs (fun H2 gL QZ=>?_)
     repeat' (walk_at "rd1")
     obtain⟨mS,zl⟩:=hk.RW T hx gL QZ
     exact⟨rfl,zl,mS⟩
   rintro σ' H1 ⟨rfl,B2,mw⟩
   clear hi hB hb l1 l2 l3 l4 l5 l6 l7 l8 l9 l10 Yf Ye V1 Xd
   have hi:=mw.ins
   unfold bJ at hi
   have hB:=mw.bl n (wait x k.now k.sh f l) aP
   obtain⟨fs,hb,l1,l2,l3,l4,l5,l6,l7,l8,l9,l10,Yf,Ye,V1,Xd⟩:=hB.og
   have l10:fs.lookup ("until":Str)=some (.int (l - lead x k.sh)):=l10
   obtain⟨kd,S,ts,w1,w2,w3⟩:=mw.wt
   have WN:({k with f:=cU k.f n (some (wait x k.now k.sh f l))}:KS).t n=none:=ht
   have hlen:=mw.YT w1 w3
   have OD:n∈L.nm:=mw.nf n (by show(cU k.f n (some _) n).isSome=true;rw [aP];rfl)
   have f0:n∉ts.map (·.1):=fun z=>by
    obtain⟨y,hy,rfl⟩:=AT.mp z
    have:=(w3 y.1 y.2).mp hy
    rw [WN] at this
    cases this
   have hpt:∀{R:Hp->Prop},(∀H',rm a L H H'->cK a H' L {k with f:=cU k.f n (some (wait x k.now k.sh f l)),t:=cU k.t n (some (l - lead x k.sh))}->R H')->CK a kd H1 L.wp S k.now (ts++[(n,l - lead x k.sh)]) R:=fun {R} hR S' H' mv w' hs=>by
    have f1:∀y v,(y,v)∈ts++[(n,l - lead x k.sh)]↔cU k.t n (some (l - lead x k.sh)) y=some v:=fun y v=>by
     rw [Cn,w3]
     by_cases ey:y=n
     . subst ey
       rw [aP]
       show k.t y=some v\/_↔_
       rw [ht]
       simp [eq_comm]
     . rw [dF ey];simp [ey]
    have f2:∀y,(cU k.t n (some (l - lead x k.sh)) y).isSome=true->y∈L.nm:=fun y hy=>by
     by_cases ey:y=n
     . subst ey;exact OD
     . rw [dF ey] at hy;exact mw.nt y hy
    obtain⟨mS,zl⟩:=mw.B6 T w1 w2 mv w' hs f1 f2 mw.ins
    exact hR H' (B2.trans zl) mS
   obtain⟨h0,⟨rfl,d,rfl,h1⟩|⟨rfl,d,m,us,G,eD,rfl,hc,h1⟩⟩:=w1
   . obtain⟨gs,hw,k1,k2,k3,k4,k5⟩:=h1.og (.inl rfl)
     repeat' (walk_at "rd1")
     refine Dx ?_
     repeat' (walk_at "rd1")
     refine VG h0 h1 (by omega) f0 hl (hpt fun H2 zl mS=>?_)
     repeat' (walk_at "rd1")
     exact q _ zl mS
   . obtain⟨gs,hw,k1,k2,k3,k4,k5⟩:=h1.wt.og (.inr ⟨_,_,_,rfl⟩)
     repeat' (walk_at "rd1")
     refine Du ?_
     repeat' (walk_at "rd1")
     refine WY hc h1 (by omega) f0 hl (hpt fun H2 zl mS=>?_)
     repeat' (walk_at "rd1")
     exact q _ zl mS
theorem G3 (T:Txt K mg a):cT P w K mg base 6 a.b9 ["self","bell"] [] (vj a):=
 ⟨⟨_,_,Ih T,T.km.binds fun _ _ _ _ _ _=>eC fun _ _=>rfl,.nil⟩⟩
def yA (a:Ad):Sp:=fun vs H Q _=>∃L k n x,vs=[.ref L.p,.ref (L.ad n)]/\cK a H L k/\k.f n=some x/\∀H',rm a L H H'->cK a H' L {k with f:=cU k.f n none,t:=cU k.t n none}->gF a H' (L.ad n) n (rest x)->Q .a9 H'
theorem Pu {H:Hp} {Q:VK} {E:XK} {L:Lay} {k:KS} {n:Str} {x:iD} (h:cK a H L k) (hx:k.f n=some x) (q:∀H',rm a L H H'->cK a H' L {k with f:=cU k.f n none,t:=cU k.t n none}->gF a H' (L.ad n) n (rest x)->Q .a9 H'):yA a [.ref L.p,.ref (L.ad n)] H Q E:=⟨L,k,n,x,rfl,h,hx,q⟩
theorem Md (T:Txt K mg a):aS P w K mg base eP 7 a.df a.tf ["self","bell"] (yA a):=by
 have cl:=T.aO;have n1:=T.bu;have cb:=T.aW;have n2:=T.bG
 have HZ:=T.oH
 have Iz:=CV (P:=P) (w:=w) (base:=base) T
 refine T.oQ.ok BJ (fun vs H Q E h=>?_) (fun di A outer s H vs Q E hr h=>?_)
 . obtain⟨_,_,_,_,rfl,_⟩:=h;rfl
 . obtain⟨L,k,n,x,rfl,hk,hx,q⟩:=h
   have hi:=hk.ins
   unfold bJ at hi
   refine⟨_,(af (aI (az (pv 0) cl HZ Iz (hr.mono (by decide)) (ae (pv 1) ag)))
    (ah (aI (jC KF No OE qk (aq (pv 0) rfl) (ae (aq (pv 1) rfl) ag))))),?_⟩
   repeat' (walk_at "rd1")
   refine Kz hk hx (fun H1 B2 mw=>?_)
   have uY:=mw.ins
   unfold bJ at uY
   have hB:=mw.bl n (rest x) aP
   obtain⟨fs,hb,l1,l2,l3,l4,l5,l6,l7,l8,l9,l10,Yf,Ye,V1,Xd⟩:=hB.og
   obtain⟨ns,b1,b2,b3⟩:=mw.bd
   have hn:n∈ns:=by rw [b3];show(cU k.f n (some _) n).isSome=true;rw [aP];rfl
   repeat' (walk_at "rd1")
   refine RQ b1 hn (fun H2 gL WQ=>?_)
   repeat' (walk_at "rd1")
   obtain⟨mS,zl⟩:=mw.pop T b1 b2 b3 gL WQ
   have mS:cK a H2 L {k with f:=cU (cU k.f n (some (rest x))) n none,t:=cU k.t n none}:=mS
   rw [nU] at mS
   exact q _ (B2.trans zl) mS (hB.Zo gL b1)
theorem Jc (T:Txt K mg a):cT P w K mg base 7 a.df ["self","bell"] [] (yA a):=
 ⟨⟨_,_,Md T,T.oQ.binds fun _ _ _ _ _ _=>eC fun _ _=>rfl,.nil⟩⟩
def As (n:Str):BB:=.tuple [.str "over",.str n]
def yL (a:Ad):Sp:=fun vs H Q _=>∃L k n x,vs=[.ref L.p,.ref (L.ad n)]/\cK a H L k/\k.f n=some x/\∀q H',rm a L H H'->H q=none->BZ L.wp H' q [As n]->cK a H' L {k with f:=cU k.f n none,t:=cU k.t n none}->Q (.ref q) H'
theorem G4 {H:Hp} {Q:VK} {E:XK} {L:Lay} {k:KS} {n:Str} {x:iD} (h:cK a H L k) (hx:k.f n=some x) (q:∀q H',rm a L H H'->H q=none->BZ L.wp H' q [As n]->cK a H' L {k with f:=cU k.f n none,t:=cU k.t n none}->Q (.ref q) H'):yL a [.ref L.p,.ref (L.ad n)] H Q E:=⟨L,k,n,x,rfl,h,hx,q⟩
theorem L8 (T:Txt K mg a):aS P w K mg base eP 8 a.dg a.sH ["self","bell"] (yL a):=by
 have cl:=T.aO;have cb:=T.aW;have n2:=T.bG
 have OO:=T.qI
 have P8:=Jc (P:=P) (w:=w) (base:=base) T
 refine T.ou.ok Bx (fun vs H Q E h=>?_) (fun di A outer s H vs Q E hr h=>?_)
 . obtain⟨_,_,_,_,rfl,_⟩:=h;rfl
 . obtain⟨L,k,n,x,rfl,hk,hx,q⟩:=h
   have hi:=hk.ins
   unfold bJ at hi
   refine⟨_,(af (aI (az (pv 0) cl OO P8 (hr.mono (by decide)) (ae (pv 1) ag)))
    (ah (aF (dW (ae (dN (ae jk (ae (aq (pv 1) rfl) ag))) ag))))),?_⟩
   repeat' (walk_at "rd1")
   refine Pu hk hx (fun H1 B2 mw hB=>?_)
   obtain⟨fs,hb,l1,l2,l3,l4,l5,l6,l7,l8,l9,l10,Yf,Ye,V1,Xd⟩:=hB.og
   repeat' (walk_at "rd1")
   rename_i v2 H2 s2 Yc q3 H3 s3 um ua
   exact q _ _ ((B2.step s2).step s3) (B2.none (s2.none um)) ⟨ua,(mw.keeps s2).new um s3⟩ ((mw.keeps s2).keeps s3)
theorem vw (T:Txt K mg a):cT P w K mg base 8 a.dg ["self","bell"] [] (yL a):=
 ⟨⟨_,_,L8 T,T.ou.binds fun _ _ _ _ _ _=>eC fun _ _=>rfl,.nil⟩⟩
def fh (k:KS) (x:iD):Int:=k.now+lead x k.sh
def layB (k:KS) (x:iD) (l:Int):iD:=pO (rest x) l (fh k x)
def ro (k:KS) (n:Str) (x:iD) (l:Int):KS:=match (layB k x l).st with
 |none=>{k with f:=cU k.f n none,t:=cU k.t n none}
 |some (f',l')=>{k with f:=cU k.f n (some (wait (layB k x l) k.now k.sh f' l')),t:=cU k.t n (some (l' - lead x k.sh))}
def BG (k:KS) (n:Str) (x:iD) (l:Int):List BB:=missed n (rest x) l (fh k x)++(match (layB k x l).st with
 |none=>[As n]
 |some _=>[])
structure v9 (k:KS) (x:iD) (f l:Int):Prop where
 st:x.st=some (f,l)
 hm:x.hm=none
 n0:0<=x.no
 n1:x.no<10^99
 t1:fh k x<10^80
 t2:fh k x - l<10^80
theorem CM (k:KS) (x:iD) (l sh:Int):lead (layB k x l) sh=lead x sh:=by unfold layB pO;split <;>rfl
theorem gF.ris {H:Hp} {b:Addr} {n:Str} {x:iD} (h:gF a H b n x):∃v,pQ a H v x.ru:=let ⟨rv,_,_,h2,_⟩:=h;⟨rv,h2⟩
theorem RK {k:KS} {x:iD} {f l f' l':Int} {H:Hp} {v:V} (hR:pQ a H v x.ru) (ok:v9 k x f l) (e:(layB k x l).st=some (f',l')):fh k x<l':=by
 unfold layB pO at e
 split at e
 . rename_i h
   have e:x.st=some (f',l'):=e
   rw [ok.st] at e
   cases e
   exact h
 . exact(YC (r:=x.ru) (n:=x.no) (s:=l) (t:=fh k x) hR e).1
def HP (a:Ad):Sp:=fun vs H Q _=>∃L k n x f l,vs=[.ref L.p,.ref (L.ad n)]/\cK a H L k/\k.f n=some x/\v9 k x f l/\∀q H',rm a L H H'->H q=none->BZ L.wp H' q (BG k n x l)->cK a H' L (ro k n x l)->Q (.ref q) H'
theorem UW {H:Hp} {Q:VK} {E:XK} {L:Lay} {k:KS} {n:Str} {x:iD} {f l:Int} (h:cK a H L k) (hx:k.f n=some x) (ok:v9 k x f l) (q:∀q H',rm a L H H'->H q=none->BZ L.wp H' q (BG k n x l)->cK a H' L (ro k n x l)->Q (.ref q) H'):HP a [.ref L.p,.ref (L.ad n)] H Q E:=⟨L,k,n,x,f,l,rfl,h,hx,ok,q⟩
theorem Wm (T:Txt K mg a):aS P w K mg base eP 9 a.fO a.yQ ["self","bell"] (HP a):=by
 have cl:=T.aO;have cb:=T.aW
 have HZ:=T.oH;have HF:=T.nF;have vK:=T.jc;have rX:=T.ia;have Jl:=T.mV
 have Iz:=CV (P:=P) (w:=w) (base:=base) T
 have HH:=FI (P:=P) (w:=w) (base:=base) T
 have vh:=Dk (P:=P) (w:=w) (base:=base) T
 have rG:=vw (P:=P) (w:=w) (base:=base) T
 have Ip:=G3 (P:=P) (w:=w) (base:=base) T
 have zA:=Le (P:=P) (w:=w) (base:=base) T
 have lU:=BF (P:=P) (w:=w) (base:=base) T
 refine T.vH.ok yU (fun vs H Q E h=>?_) (fun di A outer s H vs Q E hr h=>?_)
 . obtain⟨_,_,_,_,_,_,rfl,_⟩:=h;rfl
 . obtain⟨L,k,n,x,f,l,rfl,hk,hx,ok,q⟩:=h
   have hi:=hk.ins
   unfold bJ at hi
   obtain⟨rv,hR⟩:=(hk.bl n x hx).ris
   refine⟨_,(af (aI (az (pv 0) cl HZ Iz (hr.mono (by decide)) (ae (pv 1) ag)))
    (af (bC (iu (bx (az (pv 0) cl HF HH (hr.mono (by decide)) (ae (pv 1) ag)) (fun _=>rfl)))
     (ah (aF (dW ag)))
     aN)
    (af (aE (i:=2) yU.nd rfl (FF rfl) (az (pv 1) T.aW T.qT zA (hr.mono (by decide)) (ae (az (pv 0) cl vK vh (hr.mono (by decide)) (ae (pv 1) ag)) ag)))
    (af (bC (bx (fL (pv 1) T.aW T.mq lU (hr.mono (by decide))) (fun _=>rfl))
     (ah (aF (aB IP (pv 2) (az (pv 0) cl rX rG (hr.mono (by decide)) (ae (pv 1) ag)))))
     aN)
    (af (aI (az (pv 0) cl Jl Ip (hr.mono (by decide)) (ae (pv 1) ag)))
    (ah (aF (pv 2)))))))),?_⟩
   repeat' (walk_at "rd1")
   refine Kz hk hx (fun H1 B2 mw=>?_)
   have uY:=mw.ins
   unfold bJ at uY
   have JU:=mw.bl n (rest x) aP
   obtain⟨fs,hb,l1,l2,l3,l4,l5,l6,l7,l8,l9,l10,Yf,Ye,V1,Xd⟩:=JU.og
   repeat' (walk_at "rd1")
   refine Ld JU ok.hm ?_
   repeat' (walk_at "rd1")
   refine JF mw JU ?_
   repeat' (walk_at "rd1")
   refine Uj JU ok.st ok.n0 ok.n1 ok.t1 ok.t2 (fun q2 H2 gL px zi QZ=>?_)
   obtain⟨mS,zl⟩:=mw.RW T (x:=rest x) aP gL QZ
   have mS:cK a H2 L {k with f:=cU (cU k.f n (some (rest x))) n (some (layB k x l)),t:=cU k.t n none}:=mS
   have QZ:gF a H2 (L.ad n) n (layB k x l):=QZ
   have zi:eF H2 q2 (missed n (rest x) l (fh k x)):=zi
   rw [nU] at mS
   have no2:=mw.sP T (x:=rest x) aP px gL
   have Ho:=mS.ins
   unfold bJ at Ho
   obtain⟨fs2,Hm,_,o2,_⟩:=QZ.og
   have hgt:∀{f' l':Int},(layB k x l).st=some (f',l')->fh k x<l':=fun e=>RK hR ok e
   unfold BG ro at q
   cases se:(layB k x l).st with
   |none=>
    rw [se] at q
    repeat' (walk_at "rd1")
    . refine G4 mS aP (fun q3 H3 yl um ua uO=>?_)
      have uO:cK a H3 L {k with f:=cU (cU k.f n (some (layB k x l))) n none,t:=cU (cU k.t n none) n none}:=uO
      rw [nU,nU] at uO
      have aeC:=yl.lat no2 zi
      refine Jo aeC ua.1 (by unfold missed;split <;>exact LF rfl) (fun q4 H4 s4 Ro Im=>?_)
      repeat' (walk_at "rd1")
      exact q _ _ (((B2.trans zl).trans yl).step s4) (B2.none (zl.none (yl.none Ro))) ⟨Im,uO.new Ro s4⟩ (uO.keeps s4)
    . rename_i hb
      rw [se] at hb
      cases hb
   |some fl=>
    obtain⟨f',l'⟩:=fl
    rw [se] at q
    have hgt:=hgt se
    repeat' (walk_at "rd1")
    . rename_i hb
      rw [se] at hb
      cases hb
    . refine K4 mS aP se aP (by show k.now<l' - lead (layB k x l) k.sh;rw [CM];unfold fh at hgt;omega) (fun H3 yl uO=>?_)
      have uO:cK a H3 L {k with f:=cU (cU k.f n (some (layB k x l))) n (some (wait (layB k x l) k.now k.sh f' l')),t:=cU (cU k.t n none) n (some (l' - lead (layB k x l) k.sh))}:=uO
      rw [nU,nU,CM] at uO
      repeat' (walk_at "rd1")
      exact q _ _ ((B2.trans zl).trans yl) (B2.none px) (by rw [Mo];exact BZ.fr ⟨zi,no2⟩ yl) uO
theorem Kq (T:Txt K mg a):cT P w K mg base 9 a.fO ["self","bell"] [] (HP a):=
 ⟨⟨_,_,Wm T,T.vH.binds fun _ _ _ _ _ _=>eC fun _ _=>rfl,.nil⟩⟩
theorem V3 {k:KS} {n m:Str} {x:iD} {l:Int} (h:m≠n):(ro k n x l).f m=k.f m:=by
 unfold ro
 split <;>exact dF h
theorem PQ (k:KS) (n:Str) (x:iD) (l:Int):(ro k n x l).now=k.now/\(ro k n x l).sh=k.sh:=by
 unfold ro
 split <;>exact⟨rfl,rfl⟩
theorem Qv (k:KS) (n:Str) (x:iD) (l:Int):(BG k n x l).length<=3:=by
 unfold BG missed
 rw [Do]
 split <;>split <;>exact LF rfl
theorem v9.same {k k':KS} {x:iD} {f l:Int} (h:v9 k x f l) (e1:k'.now=k.now) (e2:k'.sh=k.sh):v9 k' x f l:=by
 have e:fh k' x=fh k x:=by unfold fh;rw [e1,e2]
 exact⟨h.st,h.hm,h.n0,h.n1,by rw [e];exact h.t1,by rw [e];exact h.t2⟩
theorem F5 {k:KS} {n:Str} {x y:iD} {l:Int}:ro {k with f:=cU k.f n (some y)} n x l=ro k n x l:=by
 unfold ro
 show(match (layB k x l).st with|none=>_|some (f',l')=>_)=(match (layB k x l).st with|none=>_|some (f',l')=>_)
 cases (layB k x l).st with
 |none=>simp only [nU]
 |some p=>simp only [nU];rfl
def BQ (k:KS) (n:Str) (x:iD):List BB:=match QA x.ru x.no with
 |none=>[As n]
 |some (_,l)=>BG k n (rK x) l
def wG (k:KS) (n:Str) (x:iD):KS:=match QA x.ru x.no with
 |none=>{k with f:=cU k.f n none,t:=cU k.t n none}
 |some (_,l)=>ro k n (rK x) l
theorem WU {r:RU} {n f l:Int} {H:Hp} {v:V} (h:pQ a H v r) (hn:0<=n) (e:QA r n=some (f,l)):0<=f/\f<=l:=by
 cases r with
 |each st sp wd m=>
  obtain⟨_,_,g1,g2,g3,g4,g5,g6⟩:=h
  have hm:0<=(n+1)*sp:=Int.mul_nonneg (by omega) (by omega)
  have key:∀{m:V} {k:Int} {p:Int × Int},(qz m k p).2=some (f,l)->p=(f,l):=by
   intro m k p e
   cases m with
   |int i=>
    by_cases h:i<=k
    . simp [qz,h] at e
    . simp only [qz,if_neg h] at e;exact CC e
   |_=>exact CC e
  have e:=key e
  injection e with e1 e2
  omega
def xV (a:Ad):Sp:=fun vs H Q _=>∃L k n x t,vs=[.ref L.p,.ref (L.ad n),.int t]/\cK a H L k/\k.f n=some x/\x.hm=none/\0<=x.no/\x.no<10^50/\fh k x<10^79/\∀q H',rm a L H H'->H q=none->BZ L.wp H' q (BQ k n x)->cK a H' L (wG k n x)->Q (.ref q) H'
theorem Qk {H:Hp} {Q:VK} {E:XK} {L:Lay} {k:KS} {n:Str} {x:iD} {t:Int} (h:cK a H L k) (hx:k.f n=some x) (hm:x.hm=none) (h0:0<=x.no) (h1:x.no<10^50) (h2:fh k x<10^79) (q:∀q H',rm a L H H'->H q=none->BZ L.wp H' q (BQ k n x)->cK a H' L (wG k n x)->Q (.ref q) H'):xV a [.ref L.p,.ref (L.ad n),.int t] H Q E:=⟨L,k,n,x,t,rfl,h,hx,hm,h0,h1,h2,q⟩
theorem Lj (T:Txt K mg a):aS P w K mg base eP 10 a.dc a.r9 ["self","bell","at"] (xV a):=by
 have cl:=T.aO;have cb:=T.aW
 have rX:=T.ia;have Ov:=T.qA
 have rG:=vw (P:=P) (w:=w) (base:=base) T
 have O6:=Kq (P:=P) (w:=w) (base:=base) T
 have Cv:=Nz (P:=P) (w:=w) (base:=base) T
 have lU:=BF (P:=P) (w:=w) (base:=base) T
 refine T.oj.ok Aq (fun vs H Q E h=>?_) (fun di A outer s H vs Q E hr h=>?_)
 . obtain⟨_,_,_,_,_,rfl,_⟩:=h;rfl
 . obtain⟨L,k,n,x,t,rfl,hk,hx,hm,h0,h1,h2,q⟩:=h
   have hi:=hk.ins
   unfold bJ at hi
   have hB:=hk.bl n x hx
   obtain⟨rv,sv,hI,hR,hd⟩:=id hB
   unfold eW at hI
   refine⟨_,(af (aI (az (pv 1) T.aW T.uv Cv (hr.mono (by decide)) (ae (pv 2) ag)))
    (af (bC (bx (fL (pv 1) T.aW T.mq lU (hr.mono (by decide))) (fun _=>rfl))
     (ah (aF (az (pv 0) cl rX rG (hr.mono (by decide)) (ae (pv 1) ag))))
     aN)
    (ah (aF (az (pv 0) cl Ov O6 (hr.mono (by decide)) (ae (pv 1) ag)))))),?_⟩
   repeat' (walk_at "rd1")
   refine VN hB h0 h1 (fun H1 iM JU=>?_)
   obtain⟨mw,B2⟩:=hk.RW T hx iM JU
   have uY:=mw.ins
   unfold bJ at uY
   obtain⟨fs1,Vx,_,o1,_⟩:=JU.og
   have est:(rK x).st=QA x.ru x.no:=rfl
   unfold BQ wG at q
   cases se:QA x.ru x.no with
   |none=>
    rw [se] at q est
    repeat' (walk_at "rd1")
    . refine G4 mw aP (fun q3 H3 yl um ua uO=>?_)
      have uO:cK a H3 L {k with f:=cU (cU k.f n (some (rK x))) n none,t:=cU k.t n none}:=uO
      rw [nU] at uO
      repeat' (walk_at "rd1")
      exact q _ _ (B2.trans yl) (B2.none um) ua uO
    . rename_i hb
      rw [est] at hb
      cases hb
   |some fl=>
    obtain⟨f,l⟩:=fl
    rw [se] at q est
    have OD:=WU hR h0 se
    have hsw:fh {k with f:=cU k.f n (some (rK x))} (rK x)=fh k x:=rfl
    have eE:BG {k with f:=cU k.f n (some (rK x))} n (rK x) l=BG k n (rK x) l:=rfl
    repeat' (walk_at "rd1")
    . rename_i hb
      rw [est] at hb
      cases hb
    . refine UW mw aP ⟨est,hm,by show 0<=x.no+1;omega,by show x.no+1<10^99;omega,by rw [hsw];omega,by rw [hsw];omega⟩ (fun q3 H3 yl um ua uO=>?_)
      rw [F5] at uO
      rw [eE] at ua
      repeat' (walk_at "rd1")
      exact q _ _ (B2.trans yl) (B2.none um) ua uO
theorem Iu (T:Txt K mg a):cT P w K mg base 10 a.dc ["self","bell","at"] [] (xV a):=
 ⟨⟨_,_,Lj T,T.oj.binds fun _ _ _ _ _ _=>iC fun _ _ _=>rfl,.nil⟩⟩
theorem Yq {k:KS} {n m:Str} {x:iD} (h:m≠n):(wG k n x).f m=k.f m:=by
 unfold wG
 split
 . exact dF h
 . exact V3 h
theorem Qy (k:KS) (n:Str) (x:iD):(wG k n x).now=k.now/\(wG k n x).sh=k.sh:=by
 unfold wG
 split
 . exact⟨rfl,rfl⟩
 . exact PQ _ _ _ _
theorem Br (k:KS) (n:Str) (x:iD):(BQ k n x).length<=3:=by
 unfold BQ
 split
 . simp
 . exact Qv _ _ _ _
def KI (H H':Hp):Prop:=∀x o,H x=some o->(∀xs,o≠.lst xs)->H' x=some o
section
variable {H H' H1:Hp} {L:Lay} {k:KS} {n:Str} {x:iD}
theorem XQ {q:Addr} {ds:List BB} (m:Mv [q] H H') (h:eF H q ds):KI H H':=fun y o e nl=>m.kp y o (fun z=>by
 obtain⟨xs,e2,_⟩:=h
 rw [AN.mp z,e2] at e
 cases e
 exact nl _ rfl) e
theorem KI.ins {C:Addr} {v:V} {fs:List (Str × V)} (s:KI H H') (h:iL H v C fs):iL H' v C fs:=by
 obtain⟨p,dx,rfl,e⟩:=h
 exact⟨p,dx,rfl,s _ _ e (by intro _ z;cases z)⟩
theorem KI.tup (s:KI H H'):∀a xs,H a=some (.tup xs)->H' a=some (.tup xs):=fun _ _ e=>s _ _ e (by intro _ z;cases z)
theorem KI.ris {v:V} {r:RU} (s:KI H H') (h:pQ a H v r):pQ a H' v r:=by cases r <;>exact⟨s.ins h.1,h.2⟩
theorem KI.bat {b:Addr} (s:KI H H') (h:gF a H b n x):gF a H' b n x:=by
 obtain⟨rv,sv,h1,h2,h3⟩:=h
 exact⟨rv,sv,s.ins h1,s.ris h2,h3.zq s.tup (pM _)⟩
theorem cK.ext (h:cK a H L k) {q:Addr} {ds ds':List BB} (hq:BZ L.wp H q ds) (m:Mv [q] H H') (vV:eF H' q ds'):cK a H' L k/\BZ L.wp H' q ds':=by
 obtain⟨kd,S,ts,w1,w2,w3⟩:=h.wt
 obtain⟨ns,b1,b2,b3⟩:=h.bd
 have s:=XQ m hq.1
 have tQ:∀b∈S,b∉[q]:=fun b hb z=>by
  obtain⟨xs,e,_⟩:=hq.1
  rw [<-AN.mp z] at e
  rcases w1.kind hb e with⟨_,_,_,r,_⟩|⟨_,_,l⟩|⟨_,r⟩
  . cases r
  . exact hq.2 (AN.mp z▸l)
  . cases r
 exact⟨⟨s.ins h.ins,⟨kd,S,ts,w1.mv m tQ,w2,w3⟩,⟨ns,s _ _ b1 (by intro _ z;cases z),b2,b3⟩,fun n x e=>s.bat (h.bl n x e),h.ne,h.nl,h.nt,h.nf,fun b hb z=>h.pl b hb (m.dm _ z)⟩,vV,fun z=>hq.2 (uS h.al (fun o e=>m.kp _ o (tQ _ w1.self) e) z)⟩
theorem cK.wne (h:cK a H L k) {q:Addr} {ds:List BB} (hq:eF H q ds):L.wp∉[q]:=fun z=>by
 obtain⟨xs,e,_⟩:=hq
 rw [<-AN.mp z] at e
 obtain⟨_,_,_,⟨h0,⟨_,d,_,h1⟩|⟨_,d,m,us,G,eD,_,hc,h1⟩⟩,_⟩:=h.wt
 . obtain⟨_,e1⟩:=h1.ex
   rw [e] at e1;cases e1
 . obtain⟨_,e1⟩:=h1.ws.ex
   rw [e] at e1;cases e1
theorem cK.afG (h:cK a H L k) {q y:Addr} {ds:List BB} (hq:eF H q ds) (m:Mv [q] H H') (no:¬Lw H L.wp y):¬Lw H' L.wp y:=fun z=>no (uS h.al (fun o e=>m.kp _ o (h.wne hq) e) z)
theorem Kc {cs pd:List Addr} {p q:Addr} (f:kc cs p pd H H1) (m:Mv [q] H1 H') (hn:H q=none):kc cs p pd H H':=
 have ZK:p∉[q]:=fun z=>f.al (by rw [AN.mp z];exact hn)
 ⟨f.al,fun y o e a b c=>m.kp y o (fun z=>by rw [AN.mp z,hn] at e;cases e) (f.kp y o e a b c),fun y e=>f.dm y (m.dm y e),fun y xs l e=>f.lw y xs (uS f.al' (fun o e=>m.kp _ o ZK e) l) e⟩
end
theorem G7 {H:Hp} {p:Addr} {ss:List Str} (h:eF H p (ss.map GM)):H p=some (.lst (ss.map V.str)):=by
 obtain⟨xs,e,dv,im⟩:=h
 have:xs=ss.map V.str:=by
  clear e im
  induction ss generalizing xs with
  |nil=>cases dv;rfl
  |cons s ss ih=>
   cases dv with
   |cons h r=>
    rw [h.str_inv,ih _ r];rfl
 rw [this] at e
 exact e
theorem Tc {H:Hp} {Q:VK} {p:Addr} {ns:List Str} {f:Str->V} (hp:qC H p ns f) (hl:ns.length<64) (h:∀q H' ss,aA H H'->H q=none->ss.Perm ns->UpS ss->eF H' q (ss.map GM)->Q (.ref q) H'):J7 [.ref p] H Q:=⟨_,rfl,p,_,ns,rfl,hp,qC.ab5,hl,h⟩
def Hg (k:KS) (ss:List Str):Prop:=UpS ss/\∀n,n∈ss↔(k.f n).isSome=true
theorem cK.len {H:Hp} {L:Lay} {k:KS} (h:cK a H L k) {ns:List Str} (b2:ns.Nodup) (b3:∀n,n∈ns↔(k.f n).isSome=true):ns.length<60:=by
 have:=xa b2 (m:=L.nm) fun y hy=>h.nf y ((b3 y).mp hy)
 have:=h.nl
 omega
theorem Hg.len {H:Hp} {L:Lay} {k:KS} {ss:List Str} (h:cK a H L k) (hs:Hg k ss) (nd:ss.Nodup):ss.length<60:=h.len nd hs.2
def Ef (a:Ad):Sp:=fun vs H Q _=>∃L k,vs=[.ref L.p]/\cK a H L k/\∀q H' ss,aA H H'->H q=none->Hg k ss->ss.Nodup->H' q=some (.lst (ss.map fun n=>.ref (L.ad n)))->Q (.ref q) H'
theorem Y3 {H:Hp} {Q:VK} {E:XK} {L:Lay} {k:KS} (h:cK a H L k) (q:∀q H' ss,aA H H'->H q=none->Hg k ss->ss.Nodup->H' q=some (.lst (ss.map fun n=>.ref (L.ad n)))->Q (.ref q) H'):Ef a [.ref L.p] H Q E:=⟨L,k,rfl,h,q⟩
theorem Us (T:Txt K mg a):aS P w K mg base eP 4 a.bI a.m3 ["self"] (Ef a):=by
 have cl:=T.aO;have n1:=T.bu
 refine T.jJ.ok w6 (fun vs H Q E h=>?_) (fun di A outer s H vs Q E hr h=>?_)
 . obtain⟨_,_,rfl,_⟩:=h;rfl
 . obtain⟨L,k,rfl,hk,q⟩:=h
   have hi:=hk.ins
   unfold bJ at hi
   obtain⟨ns,b1,b2,b3⟩:=hk.bd
   have hlen:=hk.len b2 b3
   refine⟨_,(ah (aF (J0 (T:=["name"]) (M:=["self"]) (lcn (ao gm) ["self"] rfl rfl (by decide+kernel)) rfl (hV (cg (Jr rfl) rfl T.lC PyProof.Rows.boot_sorted (ae (aq (pv 0) rfl) ag))) (fun _ _ _ _ _=>(cf (i:=0) (show SI (["name","self"]:List Str) by decide+kernel) rfl (FF rfl))) (yH (by decide)) (fun _ _ _ _ _=>EC) (fun _ _ _ _ _=>(ng (iK hr) (z6 (K:=K) rfl (pv 1) rfl) (pv 0) (fun _ _=>rfl)))))),?_⟩
   repeat' (walk_at "rd1")
   refine Tc b1 (by omega) (fun q1 H1 ss s1 mQ Fh U1 zx=>?_)
   have hN:Hg k ss:=⟨U1,fun n=>by rw [Fh.mem_iff,b3]⟩
   have U6:ss.length=ns.length:=Fh.length_eq
   refine U9 (xs:=ss.map V.str) (.inl (.inl (G7 zx))) (by rw [AL];omega) (fun i acc H'=>aA H1 H'/\acc=(ss.take i).map fun n=>.ref (L.ad n)) ⟨aA.refl _,rfl⟩ (fun i acc H' hi ⟨s2,e⟩=>⟨aA.seq s2 (.inl (.inl (G7 zx))),by rw [e,AL,AL,Ll];omega⟩) (fun i x acc H' N hx ⟨s2,e⟩ yes no=>?_) (fun acc H' q2 ⟨s2,e⟩ px=>?_)
   . rw [EU] at hx
     obtain⟨n,hn,rfl⟩:=Pe.mp hx
     have wR:n∈ns:=Fh.mem_iff.mp (B0 hn)
     have Ho:=(hi.keeps s1).keeps s2
     have b12:=(b1.keeps s1).keeps s2
     repeat' (walk_at "rd1")
     refine BW (fun _=>?_) (fun hb=>by cases hb)
     repeat' (walk_at "rd1")
     exact yes _ _ ⟨s2,by rw [take_snoc hn,Da,e];rfl⟩
   . rw [AL,SC] at e
     refine q q2 _ ss ((s1.trans s2).trans (dX px)) ((s1.trans s2).none px) hN (Fh.nodup_iff.mpr b2) ?_
     rw [av,e]
theorem QC (T:Txt K mg a):cT P w K mg base 4 a.bI ["self"] [] (Ef a):=
 ⟨⟨_,_,Us T,T.jJ.binds fun _ _ _ _ _ _=>m7 fun _=>rfl,.nil⟩⟩
def Fn (a:Ad):Sp:=fun vs H Q _=>∃L k n x b,vs=[.ref L.p,.ref b]/\cK a H L k/\k.f n=none/\n∈L.nm/\gF a H b n x/\∀H',rm a L H H'->cK a H' {L with ad:=cU L.ad n b} {k with f:=cU k.f n (some x)}->Q .a9 H'
theorem Wn {H:Hp} {Q:VK} {E:XK} {L:Lay} {k:KS} {n:Str} {x:iD} {b:Addr} (h:cK a H L k) (hx:k.f n=none) (hm:n∈L.nm) (hb:gF a H b n x) (q:∀H',rm a L H H'->cK a H' {L with ad:=cU L.ad n b} {k with f:=cU k.f n (some x)}->Q .a9 H'):Fn a [.ref L.p,.ref b] H Q E:=⟨L,k,n,x,b,rfl,h,hx,hm,hb,q⟩
theorem Sy (T:Txt K mg a):aS P w K mg base eP 4 a.eX a.xI ["self","bell"] (Fn a):=by
 have cl:=T.aO;have n1:=T.bu;have cb:=T.aW;have n2:=T.bG
 refine T.tD.ok E3 (fun vs H Q E h=>?_) (fun di A outer s H vs Q E hr h=>?_)
 . obtain⟨_,_,_,_,_,rfl,_⟩:=h;rfl
 . obtain⟨L,k,n,x,b,rfl,hk,hx,hm,hB,q⟩:=h
   have hi:=hk.ins
   unfold bJ at hi
   obtain⟨ns,b1,b2,b3⟩:=hk.bd
   have hlen:=hk.len b2 b3
   obtain⟨fs,hb,l1,l2,l3,l4,l5,l6,l7,l8,l9,l10,Yf,Ye,V1,Xd⟩:=hB.og
   have OD:n∉ns:=fun z=>by rw [b3,hx] at z;cases z
   refine⟨_,(ah (t9 (iK hr) (aq (pv 0) rfl) (aq (pv 1) rfl) (pv 1) rfl)),?_⟩
   repeat' (walk_at "rd1")
   refine R3 b1 (by omega) OD (fun H2 gL WQ=>?_)
   repeat' (walk_at "rd1")
   obtain⟨mS,zl⟩:=hk.ae1 T b1 b2 b3 hx hm hB gL WQ
   exact q _ zl mS
theorem NT (T:Txt K mg a):cT P w K mg base 4 a.eX ["self","bell"] [] (Fn a):=
 ⟨⟨_,_,Sy T,T.tD.binds fun _ _ _ _ _ _=>eC fun _ _=>rfl,.nil⟩⟩
def Jb (a:Ad):Sp:=fun vs H Q _=>∃L k n rv r wt dy,vs=[.ref L.p,.str n,rv,.int wt,.a9,.bl dy]/\cK a H L k/\k.f n=none/\n∈L.nm/\pQ a H rv r/\1<=wt/\v9 k (sP r wt none dy) (Lg r).1 (Lg r).2/\∀q H' b,rm a L H H'->H q=none->BZ L.wp H' q (BG k n (sP r wt none dy) (Lg r).2)->cK a H' {L with ad:=cU L.ad n b} (ro k n (sP r wt none dy) (Lg r).2)->Q (.ref q) H'
theorem acM {H:Hp} {Q:VK} {E:XK} {L:Lay} {k:KS} {n:Str} {rv:V} {r:RU} {wt:Int} {dy:Bool} (h:cK a H L k) (hx:k.f n=none) (hm:n∈L.nm) (hR:pQ a H rv r) (hw:1<=wt) (ok:v9 k (sP r wt none dy) (Lg r).1 (Lg r).2) (q:∀q H' b,rm a L H H'->H q=none->BZ L.wp H' q (BG k n (sP r wt none dy) (Lg r).2)->cK a H' {L with ad:=cU L.ad n b} (ro k n (sP r wt none dy) (Lg r).2)->Q (.ref q) H'):Jb a [.ref L.p,.str n,rv,.int wt,.a9,.bl dy] H Q E:=⟨L,k,n,rv,r,wt,dy,rfl,h,hx,hm,hR,hw,ok,q⟩
theorem W9 (T:Txt K mg a):aS P w K mg base eP 13 a.e8 a.nY ["self","name","rule","weight","group","by_day"] (Jb a):=by
 have cl:=T.aO;have n1:=T.bu;have cb:=T.aW
 have Ww:=T.uw;have Ov:=T.qA
 have X0:=NT (P:=P) (w:=w) (base:=base) T
 have O6:=Kq (P:=P) (w:=w) (base:=base) T
 have Om:=Jt (P:=P) (w:=w) (base:=base) T
 refine T.pL.ok ux (fun vs H Q E h=>?_) (fun di A outer s H vs Q E hr h=>?_)
 . obtain⟨_,_,_,_,_,_,_,rfl,_⟩:=h;rfl
 . obtain⟨L,k,n,rv,r,wt,dy,rfl,hk,hx,hm,hR,hw,ok,q⟩:=h
   have hi:=hk.ins
   unfold bJ at hi
   obtain⟨ns,b1,b2,b3⟩:=hk.bd
   have OD:n∉ns:=fun z=>by rw [b3,hx] at z;cases z
   refine⟨_,(af (bC (El (OJ (iK hr) (pv 1) (aq (pv 0) rfl)) rfl)
    (ah fu)
    aN)
    (af (bC (PW.pt (vm (aL qt (pv 4) eO (aR _)) (p4 (iu (bx Ba (fun _=>rfl))))))
     (ah fu)
     aN)
    (af (bC (aL zp (pv 3) au (aR _))
     (ah fu)
     aN)
    (af (aE (i:=6) ux.nd rfl (FF rfl) (qc T.PZ Om (hr.mono (by decide)) rfl T.JS (ae (pv 1) (ae (pv 2) (ae (pv 3) (ae (pv 4) (ae (pv 5) ag)))))))
    (af (aI (az (pv 0) cl Ww X0 (hr.mono (by decide)) (ae (pv 6) ag)))
    (ah (aF (az (pv 0) cl Ov O6 (hr.mono (by decide)) (ae (pv 6) ag))))))))),?_⟩
   repeat' (walk_at "rd1")
   . rename_i o e1 e2 hb
     exact absurd (e1.mp hb) OD
   . refine Tp (hm:=none) rfl hR (fun b H1 s1 mQ JU=>?_)
     have mw:=hk.keeps s1
     have uY:=mw.ins
     unfold bJ at uY
     repeat' (walk_at "rd1")
     refine Wn mw hx hm JU (fun H2 zl mS=>?_)
     have Ho:iL H2 (.ref L.p) a.ak (bJ {L with ad:=cU L.ad n b} k.now k.sh):=mS.ins
     unfold bJ at Ho
     repeat' (walk_at "rd1")
     have eb:b=({L with ad:=cU L.ad n b}:Lay).ad n:=aP.symm
     rw [show(V.ref b)=V.ref (({L with ad:=cU L.ad n b}:Lay).ad n) by rw [<-eb]]
     refine UW (L:={L with ad:=cU L.ad n b}) mS (x:=sP r wt none dy) aP (ok.same rfl rfl) (fun q3 H3 yl um ua uO=>?_)
     repeat' (walk_at "rd1")
     have yl:rm a L H2 H3:=yl
     rw [F5] at uO
     exact q _ _ b (((xB hk.al s1).trans zl).trans yl) (s1.none (zl.none um)) ua uO
def pE (t:Str->Option Int) (to:Int):Str->Option Int:=fun n=>(t n).filter fun u=>decide (to<u)
def yr (a:Ad):Sp:=fun vs H Q _=>∃L k to,vs=[.ref L.p,.int to]/\cK a H L k/\k.now<=to/\∀q H' ks,rm a L H H'->H q=none->(∀u n,(u,n)∈ks↔k.t n=some u/\u<=to)->VY ks->(ks.map (·.2)).Nodup->BZ L.wp H' q ((ks.map (·.2)).map GM)->cK a H' L {k with now:=to,t:=pE k.t to}->Q (.ref q) H'
theorem Ng {H:Hp} {Q:VK} {E:XK} {L:Lay} {k:KS} {to:Int} (h:cK a H L k) (h0:k.now<=to) (q:∀q H' ks,rm a L H H'->H q=none->(∀u n,(u,n)∈ks↔k.t n=some u/\u<=to)->VY ks->(ks.map (·.2)).Nodup->BZ L.wp H' q ((ks.map (·.2)).map GM)->cK a H' L {k with now:=to,t:=pE k.t to}->Q (.ref q) H'):yr a [.ref L.p,.int to] H Q E:=⟨L,k,to,rfl,h,h0,q⟩
theorem LL (T:Txt K mg a):aS P w K mg base eP 7 a.cF a.qM ["self","time"] (yr a):=by
 have cl:=T.aO;have n1:=T.bB;have n2:=T.bD;have cr:=T.eM;have cw:=T.aQ
 have Ln:=GB (P:=P) (w:=w) (base:=base) T T.K1 T.u9 (FN T)
 have Ea:=GB (P:=P) (w:=w) (base:=base) T T.t7 T.oW (HU T)
 refine T.lS.ok zy (fun vs H Q E h=>?_) (fun di A outer s H vs Q E hr h=>?_)
 . obtain⟨_,_,_,rfl,_⟩:=h;rfl
 . obtain⟨L,k,to,rfl,hk,h0,q⟩:=h
   obtain⟨p,dx,e,hi⟩:=hk.ins
   cases e
   have iM:=Mv.aV (o:=.ins a.ak dx (bJ L to k.sh)) hi (by intro _ z;cases z)
   obtain⟨kd,S,ts,w1,w2,w3⟩:=hk.wt
   obtain⟨ns,b1,b2,b3⟩:=hk.bd
   have hlen:=hk.YT w1 w3
   have MP:=hk.noB T hi T.nK _ _ _ w1
   have fk1:rm a L H _:=kc.Qe hk.al iM hi (AD _ BN) fun z=>MP _ w1.self (by simp [z])
   have fi1:kc [a.ak] L.wp L.pd H _:=kc.Qe hk.al iM hi BN fun z=>MP _ w1.self (by simp [z])
   have uY:upd H L.p (.ins a.ak dx (bJ L to k.sh)) L.p=some (.ins a.ak dx (bJ L to k.sh)):=av
   have hbp:L.bd∉[L.p]:=fun z=>by rw [<-AN.mp z,b1] at hi;cases hi
   have hkb:∀y z,k.f y=some z->gF a (upd H L.p (.ins a.ak dx (bJ L to k.sh))) (L.ad y) y z:=fun y z hz=>Fj T fi1 (by simpa using T.fM)
    (by simpa using T.iY)
    (hk.bl y z hz)
   unfold bJ at hi
   refine⟨_,(du (aU (pv 0) (pv 1) rfl)
    (ah (aF (J0 (T:=["due","name"]) (M:=["self","time"]) (lcn (ao jh) ["self","time"] rfl rfl (by decide+kernel)) rfl (hV (yK (az (aq (pv 0) rfl) T.eM T.DF Ln (hr.mono (by decide)) (ae (pv 1) ag)) (az (aq (pv 0) rfl) T.aQ T.xx Ea (hr.mono (by decide)) (ae (pv 1) ag)))) (fun _ _ _ _ _=>(JR (K:=K) (n:=2) rfl rfl (gY (cf (i:=0) (show SI (["due","name","self","time"]:List Str) by decide+kernel) rfl (FF rfl)) (gY (cf (i:=1) (show SI (["due","name","self","time"]:List Str) by decide+kernel) rfl (FF rfl)) xK)))) (GO (pP (by decide) (pP (by decide) Dt))) (fun _ _ _ _ _=>EC) (fun _ _ _ _ _=>(pv 1)))))),?_⟩
   refine iq (fun σ' H'=>σ'=[some (.ref L.p),some (.int to)]/\H'=upd H L.p (.ins a.ak dx (bJ L to k.sh))) ?_ ?_
   . repeat' (walk_at "rd1")
     exact⟨rfl,rfl⟩
   rintro σ' H1 ⟨rfl,eH⟩
   rw [<-eH] at iM fk1 fi1 uY hkb
   clear eH
   have w1':=w1.mv iM MP
   have hiK:iL H1 (.ref L.p) a.ak (bJ L to k.sh):=⟨_,_,rfl,uY⟩
   have abE:WT a kd H1 L.wp S to ts (fun v H2=>∃l ks,v=.ref l/\rm a L H1 H2/\H1 l=none/\(∀u n,(u,n)∈ks↔k.t n=some u/\u<=to)/\VY ks/\(ks.map (·.2)).Nodup/\ks.length<60/\eF H2 l (ks.map pairD)/\cK a H2 L {k with now:=to,t:=pE k.t to}):=fun S' H2 l ks gL zc hs px Mi SF z9 zi=>by
    have f:=zP w1' zc gL hs (pd:=L.bd::L.pd) w2
    have f':rm a L H1 H2:=(zP w1' zc gL hs fun b hb z=>w2 b hb (AD _ z)).wide fun C hC=>by simp only [AE] at hC ⊢;exact .inr (.inr hC)
    refine⟨l,ks,rfl,f',px,fun u n=>?_,z9,?_,?_,zi,f.ins T.nK hiK,⟨kd,S',_,zc,fun b hb z=>?_,fun n u=>?_⟩,⟨ns,f.kp _ _ (b1.mv iM hbp) (by intro _ z;cases z) (by intro _ _;exact BN) (by intro _ _ _ z;cases z),b2,b3⟩,fun y z hz=>Fj T f T.nB
     T.nE
     (hkb y z hz),hk.ne,hk.nl,fun y hy=>hk.nt y ?_,hk.nf,fun b hb z=>hk.pl b hb (iM.dm _ (f.dm _ z))⟩
    . rw [SF.mem_iff,AT]
      constructor
      . rintro⟨y,hy,ey⟩
        obtain⟨h1,h2⟩:=CS.mp hy
        cases ey
        exact⟨(w3 _ _).mp h1,of_decide_eq_true h2⟩
      . rintro⟨h1,h2⟩
        exact⟨(n,u),CS.mpr ⟨(w3 n u).mpr h1,decide_eq_true h2⟩,rfl⟩
    . refine(SF.map _).nodup_iff.mpr ?_
      rw [KB]
      exact w1.1.sublist (JJ.map _)
    . have:=SF.length_eq
      rw [AL] at this
      have:=Nl (fun x:Str × Int=>decide (x.2<=to)) ts
      omega
    . rcases hs b hb with r|r
      . exact w2 b r z
      . rcases AE.mp z with z|z
        . rw [z,b1.mv iM hbp] at r;cases r
        . exact hk.pl b z (iM.dm _ r)
    . rw [CS,w3]
      show _↔(k.t n).filter _=some u
      simp [Option.filter_eq_some_iff]
    . have hy:((k.t y).filter fun u=>decide (to<u)).isSome=true:=hy
      cases e:k.t y with
      |none=>rw [e] at hy;cases hy
      |some u=>rfl
   unfold bJ at hiK
   obtain⟨h00,⟨rfl,d,rfl,h1⟩|⟨rfl,d,m,us,G,eD,rfl,hc,h1⟩⟩:=w1'
   . obtain⟨gs,hw,k1,k2,k3,k4,k5⟩:=h1.og (.inl rfl)
     repeat' (walk_at "rd1")
     refine Dx ?_
     repeat' (walk_at "rd1")
     refine Wv h00 h1 (by omega) h0 fun S' H2 l ks a1 a2 a3 a4 a5 a6 a7 a8=>?_
     obtain⟨l,ks,e,fk2,px,Zq,z9,D0,WG,zi,mS⟩:=abE S' H2 l ks a1 a2 a3 a4 a5 a6 a7 a8
     cases e
     refine Xv (cs:=ks) (gd:=pairD) (fun _=>true) (fun x=>.str x.2) zi.dv (by omega) (fun _=>rfl) (fun y c H' N hc sm' rE yes no=>?_) (fun q3 H3 s3 um ua=>?_)
     . refine Bn rE (fun w1 w2 f1 f2=>?_)
       obtain rfl:=f1.int_inv
       obtain rfl:=f2.str_inv
       repeat' (walk_at "rd1")
       refine BW (fun _=>?_) (fun hb=>by cases hb)
       repeat' (walk_at "rd1")
       exact yes rfl _ _ (aA.refl _) (.str _)
     . rw [zN] at ua
       repeat' (walk_at "rd1")
       exact q q3 H3 ks ((fk1.trans fk2).step s3) (fk1.none (fk2.none um)) Zq z9 D0 ⟨by rw [KB];exact ua,mS.new um s3⟩ (mS.keeps s3)
   . obtain⟨gs,hw,k1,k2,k3,k4,k5⟩:=h1.wt.og (.inr ⟨_,_,_,rfl⟩)
     repeat' (walk_at "rd1")
     refine Du ?_
     repeat' (walk_at "rd1")
     refine Y1 hc h1 (by omega) h0 fun S' H2 l ks a1 a2 a3 a4 a5 a6 a7 a8=>?_
     obtain⟨l,ks,e,fk2,px,Zq,z9,D0,WG,zi,mS⟩:=abE S' H2 l ks a1 a2 a3 a4 a5 a6 a7 a8
     cases e
     refine Xv (cs:=ks) (gd:=pairD) (fun _=>true) (fun x=>.str x.2) zi.dv (by omega) (fun _=>rfl) (fun y c H' N hc sm' rE yes no=>?_) (fun q3 H3 s3 um ua=>?_)
     . refine Bn rE (fun w1 w2 f1 f2=>?_)
       obtain rfl:=f1.int_inv
       obtain rfl:=f2.str_inv
       repeat' (walk_at "rd1")
       refine BW (fun _=>?_) (fun hb=>by cases hb)
       repeat' (walk_at "rd1")
       exact yes rfl _ _ (aA.refl _) (.str _)
     . rw [zN] at ua
       repeat' (walk_at "rd1")
       exact q q3 H3 ks ((fk1.trans fk2).step s3) (fk1.none (fk2.none um)) Zq z9 D0 ⟨by rw [KB];exact ua,mS.new um s3⟩ (mS.keeps s3)
theorem BE (T:Txt K mg a):cT P w K mg base 7 a.cF ["self","time"] [] (yr a):=
 ⟨⟨_,_,LL T,T.lS.binds fun _ _ _ _ _ _=>eC fun _ _=>rfl,.nil⟩⟩
def GC (a:Ad):Sp:=fun vs H Q _=>∃L k to,vs=[.ref L.p,.int to]/\cK a H L k/\(∀n u,k.t n=some u->u<=to->Q (.bl true) H)/\((∀n u,k.t n=some u->to<u)->Q (.bl false) H)
theorem QE (T:Txt K mg a):aS P w K mg base eP 5 a.bT a.mL ["self","to"] (GC a):=by
 have cl:=T.aO;have n2:=T.bD;have cr:=T.eM;have cw:=T.aQ
 have sr:=p9 (P:=P) (w:=w) (base:=base) T T.K1
 have lW:=p9 (P:=P) (w:=w) (base:=base) T T.t7
 refine T.jx.ok lG (fun vs H Q E h=>?_) (fun di A outer s H vs Q E hr h=>?_)
 . obtain⟨_,_,_,rfl,_⟩:=h;rfl
 . obtain⟨L,k,to,rfl,hk,q1,q2⟩:=h
   have hi:=hk.ins
   unfold bJ at hi
   obtain⟨kd,S,ts,w1,w2,w3⟩:=hk.wt
   refine⟨_,(af (aE (i:=2) lG.nd rfl (FF rfl) (yK (fL (aq (pv 0) rfl) T.eM T.tE sr (hr.mono (by decide))) (fL (aq (pv 0) rfl) T.aQ T.mj lW (hr.mono (by decide)))))
    (ah (aF (Hr (t8 qt (pv 2) eO (aR _)) (E8 (t8 rQ (pv 2) (pv 1) (aR _))))))),?_⟩
   obtain⟨h00,⟨rfl,d,rfl,h1⟩|⟨rfl,d,m,us,G,eD,rfl,hc,h1⟩⟩:=w1
   . obtain⟨gs,hw,k1,k2,k3,k4,k5⟩:=h1.og (.inl rfl)
     repeat' (walk_at "rd1")
     refine Dx ?_
     repeat' (walk_at "rd1")
     refine⟨L.wp,d,k.now,ts,_,rfl,h1,fun e=>?_,fun t ht hm=>?_⟩
     . repeat' (walk_at "rd1")
       exact q2 fun n u hu=>by rw [<-w3,e] at hu;cases hu
     . obtain⟨y,hy,rfl⟩:=AT.mp ht
       have JI:=(w3 y.1 y.2).mp hy
       repeat' (walk_at "rd1")
       by_cases hle:y.2<=to
       . rw [show decide (y.2<=to)=true from decide_eq_true hle]
         exact q1 _ _ JI hle
       . rw [show decide (y.2<=to)=false from decide_eq_false hle]
         refine q2 fun n u hu=>?_
         have:=hm u (AT.mpr ⟨(n,u),(w3 n u).mpr hu,rfl⟩)
         omega
   . obtain⟨gs,hw,k1,k2,k3,k4,k5⟩:=h1.wt.og (.inr ⟨_,_,_,rfl⟩)
     repeat' (walk_at "rd1")
     refine Du ?_
     repeat' (walk_at "rd1")
     refine⟨L.wp,d,k.now,ts,_,rfl,h1.wt,fun e=>?_,fun t ht hm=>?_⟩
     . repeat' (walk_at "rd1")
       exact q2 fun n u hu=>by rw [<-w3,e] at hu;cases hu
     . obtain⟨y,hy,rfl⟩:=AT.mp ht
       have JI:=(w3 y.1 y.2).mp hy
       repeat' (walk_at "rd1")
       by_cases hle:y.2<=to
       . rw [show decide (y.2<=to)=true from decide_eq_true hle]
         exact q1 _ _ JI hle
       . rw [show decide (y.2<=to)=false from decide_eq_false hle]
         refine q2 fun n u hu=>?_
         have:=hm u (AT.mpr ⟨(n,u),(w3 n u).mpr hu,rfl⟩)
         omega
theorem LW (T:Txt K mg a):cT P w K mg base 5 a.bT ["self","to"] [] (GC a):=
 ⟨⟨_,_,QE T,T.jx.binds fun _ _ _ _ _ _=>eC fun _ _=>rfl,.nil⟩⟩
theorem Qb {X:Cx} {k:Nat} {f C:Addr} {ps:List Str} {sp:Sp} {eQ:List V} {x:Str} {p pos:Pos} (M:Mk X.K C f) (F:cT X.prog X.w X.K X.mg X.base k f ps eQ sp) (hr:cS (k+1) X.A) (hg:Gl X x) (hm:X.mg x=some (.ref C))
 (zE:(x==("__debug__":Str))=false:=by decide):PE X (.Call (.Name x p) [] [] pos) (Bd C sp eQ E0 F6):=by
 rw [CY]
 obtain⟨fd,ds,F,hb,hd⟩:=F.ex
 exact N6 M F hr hg hm hb hd CN zE
def OZ (C:Addr):Sp:=fun vs H Q _=>∃p dx,vs=[.ref p]/\H p=some (.ins C dx [])/\∀H',Mv [p] H H'->Q .a9 H'
theorem ab1 (T:Txt K mg a):aS P w K mg base eP 1 a.bL a.lJ ["self"] (OZ a.bU):=by
 have n1:=T.e9;have n2:=T.g9;have cl:=T.jN
 refine T.je.ok vy (fun vs H Q E h=>?_) (fun di A outer s H vs Q E hr h=>?_)
 . obtain⟨_,_,rfl,_⟩:=h;rfl
 . obtain⟨p,dx,rfl,hp,q⟩:=h
   refine⟨_,(af (aU (pv 0) lQ rfl)
    (ah (aU (pv 0) lQ rfl))),?_⟩
   repeat' (walk_at "rd1")
   rename_i d1 H1 s1 mQ Ay d2 H2 s2 px hd2
   have e1:=s1 _ _ hp
   have iM:=Mv.aV (o:=.ins a.bU dx [("above_of",.ref d1)]) e1 (by intro _ z;cases z)
   have e2:=s2 _ _ (av (H:=H1) (a:=p) (o:=.ins a.bU dx [("above_of",.ref d1)]))
   have gL:=Mv.aV (o:=.ins a.bU dx [("above_of",.ref d1),("marks",.ref d2)]) e2 (by intro _ z;cases z)
   exact q _ ((s1.mv (S:=[p])).trans (iM.trans (s2.mv.trans gL)))
theorem DU (T:Txt K mg a):cT P w K mg base 1 a.bL ["self"] [] (OZ a.bU):=
 ⟨⟨_,_,ab1 T,T.je.binds fun _ _ _ _ _ _=>m7 fun _=>rfl,.nil⟩⟩
theorem C1 {H H':Hp} {x dx:Addr} {o:HO} (hx:H x=none) (hd:H dx=none) (m:Mv [x] (upd (upd H dx (.own x)) x o) H'):aA H H':=fun b u e=>by
 have hb:b≠x:=aC e hx
 refine m.kp b u (by simpa using hb) ?_
 rw [ay hb,ay (aC e hd)]
 exact e
theorem UD {C:Addr} {H:Hp} {Q:VK} {E:XK} (k:∀v H2,aA H H2->Q v H2):uL C (OZ C) [] H Q E:=
 ⟨_,rfl,fun x dx hx hd _=>⟨x,dx,rfl,av,fun H' mv=>⟨rfl,k _ _ (C1 hx hd mv)⟩⟩⟩
def k0 (now:Int):KS:=⟨now,0,fun _=>none,fun _=>none⟩
def V5 (H:Hp) (rv:V):Prop:=rv=.a9\/∃(l:Addr) (rs:List Int),rv=.ref l/\eF H l (rs.map Sm)/\1<=rs.length/\rs.length<=6/\∀r∈rs,2<=r/\r<=60
def tJ (a:Ad):Sp:=fun vs H Q _=>∃p dx rv now nm,vs=[.ref p,rv,.int now]/\H p=some (.ins a.ak dx [])/\V5 H rv/\(nm:List Str).length<=55/\∀H' L,Mv [p] H H'->L.p=p->L.nm=nm->(∀b,Lw H' L.wp b->H b=none)->cK a H' L (k0 now)->Q .a9 H'
theorem Nx (T:Txt K mg a):aS P w K mg base eP 7 a.bY a.pe ["self","rounds","now"] (tJ a):=by
 have cl:=T.aO;have n1:=T.bD;have n2:=T.gD;have n3:=T.bB;have n4:=T.dG;have n5:=T.gC;have n6:=T.bu
 have UC:=Js (P:=P) (w:=w) (base:=base) T
 have HR:=EB (P:=P) (w:=w) (base:=base) T
 have HB:=DU (P:=P) (w:=w) (base:=base) T
 refine T.kR.ok yk (fun vs H Q E h=>?_) (fun di A outer s H vs Q E hr h=>?_)
 . obtain⟨_,_,_,_,_,rfl,_⟩:=h;rfl
 . obtain⟨p,dx,rv,now,nm,rfl,hp,Sg,hnm,q⟩:=h
   refine⟨_,(du (aU (pv 0) (Bm (aL DN (pv 1) eO (aR _)) (qc T.U2 UC (hr.mono (by decide)) rfl T.QR (ae (pv 2) ag)) (qc T.FX HR (hr.mono (by decide)) rfl T.Dg (ae (pv 1) (ae (pv 2) ag)))) rfl)
    (du (aU (pv 0) (Bm (aL DN (pv 1) eO (aR _)) eO (De GV rfl T.pU WA (ae (pv 1) ag))) rfl)
    (af (aU (pv 0) (pv 2) rfl)
    (af (aU (pv 0) au rfl)
    (af (aU (pv 0) (Qb T.Gr HB (hr.mono (by decide)) rfl T.Dm) rfl)
    (ah (aU (pv 0) lQ rfl))))))),?_⟩
   refine iq (fun σ' H'=>σ'=[some (.ref p),some rv,some (.int now)]/\∃wp kd S,Mv [p] H H'/\H' p=some (.ins a.ak dx [("waits",.ref wp)])/\Told a kd H' wp S now []/\∀b∈S,H b=none) ?_ ?_
   . have fin:∀{H1:Hp} {wp:Addr} {kd:Bool} {S:List Addr},aA H H1->Told a kd H1 wp S now []->(∀b∈S,H b=none)->∃wp' kd S,Mv [p] H (upd H1 p (.ins a.ak dx [("waits",.ref wp)]))/\upd H1 p (.ins a.ak dx [("waits",.ref wp)]) p=some (.ins a.ak dx [("waits",.ref wp')])/\Told a kd (upd H1 p (.ins a.ak dx [("waits",.ref wp)])) wp' S now []/\∀b∈S,H b=none:=fun {H1 wp kd S} s1 ht hS=>by
      have iM:=Mv.aV (o:=.ins a.ak dx [("waits",.ref wp)]) (s1 _ _ hp) (by intro _ z;cases z)
      exact⟨wp,kd,S,(s1.mv (S:=[p])).trans iM,av,ht.mv iM (fun b hb z=>by rw [AN.mp z] at hb;rw [hS p hb] at hp;cases hp),hS⟩
     rcases Sg with rfl|⟨l,rs,rfl,hl,KL,VH,M6⟩
     . repeat' (walk_at "rd1")
       refine Ql rfl (fun wp H1 d s1 mQ Ay jA=>?_)
       have e1:=s1 _ _ hp
       repeat' (walk_at "rd1")
       exact⟨rfl,fin s1 (kd:=true) (S:=[wp,d]) ⟨.nil,.inl ⟨rfl,d,rfl,jA⟩⟩ (by simp [mQ,Ay])⟩
     . repeat' (walk_at "rd1")
       refine Nk rfl hl KL VH M6 (fun wp d m G H1 s1 hS jA=>?_)
       have e1:=s1 _ _ hp
       repeat' (walk_at "rd1")
       exact⟨rfl,fin s1 (kd:=false) ⟨.nil,.inr ⟨rfl,d,m,_,G,[],rfl,Il KL VH M6,jA⟩⟩ hS⟩
   rintro σ' H1 ⟨rfl,wp,kd,S,iM,Fh,ht1,hS⟩
   have hSp:∀b∈S,b∉[p]:=fun b hb z=>by rw [AN.mp z] at hb;rw [hS p hb] at hp;cases hp
   refine iq (fun σ' H'=>σ'=[some (.ref p),some rv,some (.int now)]/\∃UO,Mv [p] H1 H'/\H' p=some (.ins a.ak dx [("waits",.ref wp),("rounds",UO)])) ?_ ?_
   . rcases Sg with rfl|⟨l,rs,rfl,hl,KL,VH,M6⟩
     . repeat' (walk_at "rd1")
       exact⟨rfl,.a9,Mv.aV Fh (by intro _ z;cases z),av⟩
     . have K6:eF H1 l (rs.map Sm):=hl.mv iM (fun z=>by
        obtain⟨xs,e,_⟩:=hl
        rw [AN.mp z,hp] at e
        cases e)
       repeat' (walk_at "rd1")
       rename_i _ lr H2 s2 px zi
       exact⟨rfl,.ref lr,(s2.mv (S:=[p])).trans (Mv.aV (s2 _ _ Fh) (by intro _ z;cases z)),av⟩
   rintro σ' H2 ⟨rfl,UO,gL,SF⟩
   repeat' (walk_at "rd1")
   rw [lj]
   have pJ:=Mv.aV (o:=.ins a.ak dx [("waits",.ref wp),("rounds",UO),("now",.int now),("shift",.int 0)]) SF (by intro _ z;cases z)
   refine UD (fun gv H3 s3=>?_)
   have e3:=s3 _ _ (av (H:=H2) (a:=p) (o:=.ins a.ak dx [("waits",.ref wp),("rounds",UO),("now",.int now),("shift",.int 0)]))
   have ud:=Mv.aV (o:=.ins a.ak dx [("waits",.ref wp),("rounds",UO),("now",.int now),("shift",.int 0),("groups",gv)]) e3 (by intro _ z;cases z)
   repeat' (walk_at "rd1")
   repeat' (walk_at "rd1")
   rename_i bd H5 s5 hn5 SD
   have e5:=s5 _ _ (av (H:=H3) (a:=p) (o:=.ins a.ak dx [("waits",.ref wp),("rounds",UO),("now",.int now),("shift",.int 0),("groups",gv)]))
   have Fi:=Mv.aV (o:=.ins a.ak dx [("waits",.ref wp),("rounds",UO),("now",.int now),("shift",.int 0),("groups",gv),("by_name",.ref bd)]) e5 (by intro _ z;cases z)
   have mA:Mv [p] H1 _:=(gL.trans pJ).trans (s3.mv.trans ud)
   have mB:=(mA.trans (s5.mv (S:=[p]))).trans Fi
   have VQ:H1 bd=none:=mA.none hn5
   have nbd:bd∉[p]:=fun z=>by rw [AN.mp z,Fh] at VQ;cases VQ
   have htB:=ht1.mv mB hSp
   refine q _ ⟨p,wp,[],UO,bd,gv,fun _=>0,nm⟩ (iM.trans mB) rfl rfl (fun b l=>hS b (htB.lwS l)) ⟨⟨p,dx,rfl,av⟩,⟨kd,S,[],htB,fun b hb z=>?_,fun n u=>by simp [k0]⟩,⟨[],(S7 SD).mv Fi nbd,List.nodup_nil,fun n=>by simp [k0]⟩,fun n x e=>(by cases e),Pc,hnm,fun n e=>(by cases e),fun n e=>(by cases e),fun b hb=>(by cases hb)⟩
   have z:b=bd:=by simpa using z
   exact ht1.alive b hb (z▸VQ)
theorem K5 (T:Txt K mg a):cT P w K mg base 7 a.bY ["self","rounds","now"] [] (tJ a):=
 ⟨⟨_,_,Nx T,T.kR.binds fun _ _ _ _ _ _=>iC fun _ _ _=>rfl,.nil⟩⟩
theorem N1 (T:Txt K mg a):aS P w K mg base eP 8 a.bV a.lM ["self","rounds","now"] (tJ a):=by
 have zu:=K5 (P:=P) (w:=w) (base:=base) T
 refine T.i6.ok vE (fun vs H Q E h=>?_) (fun di A outer s H vs Q E hr h=>?_)
 . obtain⟨_,_,_,_,_,rfl,_⟩:=h;rfl
 . obtain⟨p,dx,rv,now,nm,rfl,hp,Sg,hnm,q⟩:=h
   refine⟨_,(ah (aI (Eb rfl T.Ko T.qL zu (hr.mono (by decide)) (ae (pv 0) (ae (pv 1) (ae (pv 2) ag)))))),?_⟩
   repeat' (walk_at "rd1")
   refine⟨p,dx,rv,now,nm,rfl,hp,Sg,hnm,fun H' L m e1 e2 e3 hk=>?_⟩
   repeat' (walk_at "rd1")
   exact q H' L m e1 e2 e3 hk
theorem Em (T:Txt K mg a):cT P w K mg base 8 a.bV ["self","rounds","now"] [] (tJ a):=⟨⟨_,_,N1 T,T.i6.binds fun _ _ _ _ _ _ s us kx hl=>by
 obtain⟨o,n,h1,h2⟩:=T.mY.ex
 have hl:us.length=3:=by simp at hl;omega
 obtain⟨_,_,_,rfl⟩:=Zc hl
 exact TD kx rfl h1 h2 rfl rfl,.nil⟩⟩
theorem SU {H:Hp} {Q:VK} {E:XK} {now:Int} {rv:V} {us:List V} (nm:List Str) (eu:us=[rv,.int now]) (Sg:V5 H rv) (hnm:nm.length<=55) (k:∀L H2,aA H H2->L.nm=nm->(∀b,Lw H2 L.wp b->H b=none)->cK a H2 L (k0 now)->Q (.ref L.p) H2):uL a.ak (tJ a) us H Q E:=by
 refine⟨_,eu,fun x dx hx hd ne=>?_⟩
 have sm:aA H (upd (upd H dx (.own x)) x (.ins a.ak dx [])):=fun b u e=>by rw [ay (aC e hx),ay (aC e hd)];exact e
 refine⟨x,dx,rv,now,nm,rfl,av,?_,hnm,fun H' L m e1 e2 e3 hk=>⟨rfl,?_⟩⟩
 . rcases Sg with h|⟨l,rs,h,hl,hh⟩
   . exact .inl h
   . exact .inr ⟨l,rs,h,hl.keeps sm,hh⟩
 . subst e1
   exact k L _ (C1 hx hd m) e2 (fun b l=>xM (e3 b l)) hk
def C8 (n:Str) (no now sn un:Int):BB:=.tuple [.str "rang",.str n,.int no,.int now,.int sn,.int un]
def Hy (a:Ad):Sp:=fun vs H Q _=>∃b n x,vs=[.ref b]/\gF a H b n x/\∀v' H',aA H H'->Dv H' v' (.tuple [.int (-x.wt),.str n])->Q v' H'
theorem aaS {H:Hp} {Q:VK} {E:XK} {b:Addr} {n:Str} {x:iD} (h:gF a H b n x) (q:∀v' H',aA H H'->Dv H' v' (.tuple [.int (-x.wt),.str n])->Q v' H'):Hy a [.ref b] H Q E:=⟨b,n,x,rfl,h,q⟩
theorem W2 (T:Txt K mg a):aS P w K mg base eP 4 a.fQ a.xh ["bell"] (Hy a):=by
 have cl:=T.aW;have n1:=T.fI;have n2:=T.bG
 refine T.tH.ok E7 (fun vs H Q E h=>?_) (fun di A outer s H vs Q E hr h=>?_)
 . obtain⟨_,_,_,rfl,_⟩:=h;rfl
 . obtain⟨b,n,x,rfl,⟨rv,sv,hi,hR,hd⟩,q⟩:=h
   unfold eW at hi
   refine⟨_,(ah (aF (dN (ae (Oz Ij (aq (pv 0) rfl)) (ae (aq (pv 0) rfl) ag))))),?_⟩
   repeat' (walk_at "rd1")
   exact q _ _ (by walk_at "same") (by walk_at "dat")
theorem RD (T:Txt K mg a):cT P w K mg base 4 a.fQ ["bell"] [] (Hy a):=
 ⟨⟨_,_,W2 T,T.tH.binds fun _ _ _ _ _ _=>m7 fun _=>rfl,.nil⟩⟩
def Kw (a:Ad):Sp:=fun vs H Q _=>∃L k n x sn un,vs=[.ref L.p,.ref (L.ad n),.a9]/\cK a H L k/\k.f n=some x/\x.sn=some sn/\x.un=some un/\x.hm=none/\0<=x.no/\x.no<10^50/\fh k x<10^79/\∀q H',rm a L H H'->H q=none->BZ L.wp H' q (C8 n x.no k.now sn un::BQ k n x)->cK a H' L (wG k n x)->Q (.ref q) H'
theorem Um (T:Txt K mg a):aS P w K mg base eP 11 a.d6 a.rP ["self","bell","deed"] (Kw a):=by
 have cl:=T.aO;have cb:=T.aW;have n1:=T.bB;have n2:=T.bG;have n3:=T.dt;have n4:=T.cA;have n5:=T.cZ
 have NR:=T.qV;have vK:=T.jc;have rX:=T.ia
 have Nh:=Iu (P:=P) (w:=w) (base:=base) T
 have vh:=Dk (P:=P) (w:=w) (base:=base) T
 have rG:=vw (P:=P) (w:=w) (base:=base) T
 refine T.om.ok sR (fun vs H Q E h=>?_) (fun di A outer s H vs Q E hr h=>?_)
 . obtain⟨_,_,_,_,_,_,rfl,_⟩:=h;rfl
 . obtain⟨L,k,n,x,sn,un,rfl,hk,hx,es,eu,hm,h0,h1,h2,q⟩:=h
   have hi:=hk.ins
   unfold bJ at hi
   have hB:=hk.bl n x hx
   obtain⟨rv,sv,hI,hR,hd⟩:=id hB
   unfold eW at hI
   rw [es,eu] at hI
   simp only [ow] at hI
   refine⟨_,(af (aE (i:=3) sR.nd rfl (FF rfl) (dN (ae jk (ae (aq (pv 1) rfl) (ae (aq (pv 1) rfl) (ae (aq (pv 0) rfl) (ae (aq (pv 1) rfl) (ae (aq (pv 1) rfl) ag))))))))
    (af (bC (PW.pt (vm (aL qt (pv 2) eO (aR _)) (p4 (aL Wg Ba yV (aR _)))))
     (ah (aF (aB IP (dW (ae (pv 3) ag)) (az (pv 0) cl rX rG (hr.mono (by decide)) (ae (pv 1) ag)))))
     aN)
    (ah (aF (aB IP (dW (ae (pv 3) ag)) (az (pv 0) cl NR Nh (hr.mono (by decide)) (ae (pv 1) (ae (az (pv 0) cl vK vh (hr.mono (by decide)) (ae (pv 1) ag)) ag)))))))),?_⟩
   repeat' (walk_at "rd1")
   rename_i v1 H1 s1 hv1 _ q2 H2 s2 px zi
   have mw:=hk.keeps s1
   have mS:=mw.keeps s2
   have QZ:=(hB.keeps s1).keeps s2
   refine JF mS QZ ?_
   repeat' (walk_at "rd1")
   refine Qk mS hx hm h0 h1 h2 (fun q3 H3 yl um ua uO=>?_)
   have hl:=Br k n x
   refine Jo (yl.lat (mw.new px s2) zi) ua.1 (by simp only [GG,YI];omega) (fun q4 H4 s4 Ro Im=>?_)
   repeat' (walk_at "rd1")
   exact q _ _ (((xB hk.al (s1.trans s2)).trans yl).step s4) (s1.none (s2.none (yl.none Ro))) ⟨Im,uO.new Ro s4⟩ (uO.keeps s4)
theorem PV (T:Txt K mg a):cT P w K mg base 11 a.d6 ["self","bell","deed"] [] (Kw a):=
 ⟨⟨_,_,Um T,T.om.binds fun _ _ _ _ _ _=>iC fun _ _ _=>rfl,.nil⟩⟩
def gG (k:KS) (n:Str):Bool:=(k.f n).any fun x=>x.sn.any fun s=>decide (s<=k.now)
def kg (s:KS × List BB) (n:Str):KS × List BB:=match s.1.f n with
 |some x=>(wG s.1 n x,s.2++(C8 n x.no s.1.now (x.sn.getD 0) (x.un.getD 0)::BQ s.1 n x))
 |none=>s
def gU (u:Int) (n:Str):BB:=.tuple [.str "woke",.int u,.str n]
def Er (k:KS) (n:Str):Int × Str:=((k.f n).elim 0 fun x=>-x.wt,n)
structure abD (k:KS):Prop where
 hm:∀n x,k.f n=some x->x.hm=none/\0<=x.no/\x.no<10^50
 un:∀n x s,k.f n=some x->x.sn=some s->∃u,x.un=some u
 nw:∀n u,k.t n=some u->k.now<=u/\u<10^59
 tx:∃n u,k.t n=some u
 sb:k.sh<10^59
theorem Mf (s:KS × List BB) (n:Str):(kg s n).1.now=s.1.now/\(kg s n).1.sh=s.1.sh/\(∀m,m≠n->(kg s n).1.f m=s.1.f m)/\(kg s n).2.length<=s.2.length+4:=by
 unfold kg
 cases e:s.1.f n with
 |none=>exact⟨rfl,rfl,fun _ _=>rfl,Nat.le_add_right _ _⟩
 |some x=>
  obtain⟨a1,a2⟩:=Qy s.1 n x
  refine⟨a1,a2,fun m hm=>Yq (x:=x) hm,?_⟩
  have:=Br s.1 n x
  simp only [Do,GG]
  omega
theorem ub:∀(ns:List Str) (s:KS × List BB),(ns.foldl kg s).1.now=s.1.now/\(ns.foldl kg s).1.sh=s.1.sh/\(∀m,m∉ns->(ns.foldl kg s).1.f m=s.1.f m)/\(ns.foldl kg s).2.length<=s.2.length+4*ns.length
 |[],s=>⟨rfl,rfl,fun _ _=>rfl,BY _⟩
 |n::r,s=>by
  obtain⟨h1,h2,h3,h4⟩:=ub r (kg s n)
  obtain⟨g1,g2,g3,g4⟩:=Mf s n
  refine⟨h1.trans g1,h2.trans g2,fun m hm=>?_,?_⟩
  . rw [AE,not_or] at hm
    exact(h3 m hm.2).trans (g3 m hm.1)
  . rw [List.foldl_cons,GG]
    omega
theorem C0 {s:KS × List BB} {n:Str} {x:iD} {sn un:Int} (h:s.1.f n=some x) (es:x.sn=some sn) (eu:x.un=some un):kg s n=(wG s.1 n x,s.2++(C8 n x.no s.1.now sn un::BQ s.1 n x)):=by
 unfold kg
 rw [h]
 simp only [es,eu,Option.getD_some]
theorem Pl {t1 t2:TE} {σ:St} {H:Hp} {Q:VK} (C:Int->Prop) (h1:(∀u,C u->Q (.int u) H)->QI t1 t2 σ H Q) (h2:∀u,C u->Q (.int u) H):QI t1 t2 σ H Q:=h1 h2
theorem Pw {α β:Type} {g:α->β} {l m:List β} (h:l.Perm m):∀rs:List α,m=rs.map g->∃ns:List α,ns.Perm rs/\l=ns.map g:=by
 induction h with
 |nil=>intro rs e;cases rs with
  |nil=>exact⟨[],.nil,rfl⟩
  |cons=>cases e
 |cons x _ ih=>intro rs e;cases rs with
  |nil=>cases e
  |cons r rs=>
   injection e with e1 e2
   obtain⟨ns,p,rfl⟩:=ih rs e2
   exact⟨r::ns,p.cons r,by rw [e1];rfl⟩
 |swap x y l=>intro rs e;match rs,e with
  |r::t::rs,e=>
   injection e with e1 e2
   injection e2 with e2 e3
   exact⟨t::r::rs,.swap r t rs,by rw [e1,e2,e3];rfl⟩
 |trans _ _ ih1 ih2=>
  intro rs e
  obtain⟨ns,p,e2⟩:=ih2 rs e
  obtain⟨ns',p',e3⟩:=ih1 ns e2
  exact⟨ns',p'.trans p,e3⟩
def BI (a:Ad):Sp:=fun vs H Q _=>∃L k,vs=[.ref L.p,.a9]/\cK a H L k/\abD k/\∀(q:Addr) (H':Hp) (u0:Int) (n0:Str) (r0 ks:List (Int × Str)) (ns:List Str),rm a L H H'->H q=none->(∀u n,(u,n)∈ks↔k.t n=some u/\u<=u0)->VY ks->ks=(u0,n0)::r0->(∀n u,k.t n=some u->u0<=u)->ns.Nodup->(∀n,n∈ns↔gG {k with now:=u0,t:=pE k.t u0} n=true)->ns.Pairwise (fun c d=>bw (Er k d) (Er k c)=false)->BZ L.wp H' q (ns.foldl kg ({k with now:=u0,t:=pE k.t u0},[gU u0 n0])).2->cK a H' L (ns.foldl kg ({k with now:=u0,t:=pE k.t u0},[gU u0 n0])).1->Q (.ref q) H'
theorem Jd (T:Txt K mg a):aS P w K mg base eP 12 a.bN a.mF ["self","deed"] (BI a):=by
 have cl:=T.aO;have n1:=T.bB;have n2:=T.bD;have cb:=T.aW;have n3:=T.cA;have cr:=T.eM;have cw:=T.aQ
 have Fu:=T.mE;have yC:=T.jL;have Xy:=T.uV
 have FO:=QC (P:=P) (w:=w) (base:=base) T
 have yq:=BE (P:=P) (w:=w) (base:=base) T
 have YK:=PV (P:=P) (w:=w) (base:=base) T
 have FZ:=RD (P:=P) (w:=w) (base:=base) T
 have xu:=HY (P:=P) (w:=w) (base:=base) T
 have sr:=p9 (P:=P) (w:=w) (base:=base) T T.K1
 have lW:=p9 (P:=P) (w:=w) (base:=base) T T.t7
 refine T.jr.ok dD (fun vs H Q E h=>?_) (fun di A outer s H vs Q E hr h=>?_)
 . obtain⟨_,_,rfl,_⟩:=h;rfl
 . obtain⟨L,k,rfl,hk,ok,q⟩:=h
   have hi:=hk.ins
   unfold bJ at hi
   obtain⟨kd,S,ts,w1,w2,w3⟩:=hk.wt
   refine⟨_,(af (aE (i:=2) dD.nd rfl (FF rfl) (az (pv 0) cl yC yq (hr.mono (by decide)) (ae (yK (fL (aq (pv 0) rfl) T.eM T.tE sr (hr.mono (by decide))) (fL (aq (pv 0) rfl) T.aQ T.mj lW (hr.mono (by decide)))) ag)))
    (af (aE (i:=3) dD.nd rfl (FF rfl) (dW (ae (dN (ae jk (ae (aq (pv 0) rfl) (ae (jZ sN (pv 2) au (fun _ _=>rfl)) ag)))) ag)))
    (af (aaj (i:=4) dD.nd rfl (FF rfl) (T:=["bell"]) (M:=["self","deed","names","entries","may_ring","05"]) (lcn (ao fB) ["self","deed","names","entries","may_ring","bell"] rfl rfl (by decide+kernel)) rfl (hV (fL (pv 0) cl Fu FO (hr.mono (by decide)))) (fun _ _ _ _ _=>(cf (i:=0) (show SI (["bell","self","deed","names","entries","may_ring","05"]:List Str) by decide+kernel) rfl (FF rfl))) (yH (by decide)) (fun _ _ _ _ _=>(JD (PW.pt (vm (La (K:=K) rfl (fL (pv 0) T.aW T.nD xu (hr.mono (by decide))) (fun _=>rfl)) (p4 (aL rQ (z6 (K:=K) rfl (pv 0) rfl) (z6 (K:=K) rfl (pv 1) rfl) (aR _))))))) (fun _ _ _ _ _=>(pv 0)) rfl)
    (af (mx Lo rfl (hV (QG FZ (hr.mono (by decide)) rfl T.lC (z8 rfl T.wO rfl) (ae (pv 4) ag))) (cf (i:=5) dD.nd rfl (FF rfl))
     (ah (aI (jC GS Q4 Re oS (pv 3) (ae (az (pv 0) cl Xy YK (hr.mono (by decide)) (ae (pv 5) (ae (pv 1) ag))) ag)))))
    (ah (aF (pv 3))))))),?_⟩
   repeat' (walk_at "rd1")
   refine Pl (fun u0=>u0∈ts.map (·.2)/\∀u∈ts.map (·.2),u0<=u) (fun hq=>?_) (fun u0 ⟨T3,hle⟩=>?_)
   . have pk:ts≠[]:=fun e=>by
      obtain⟨n,u,e1⟩:=ok.tx
      have:=(w3 n u).mpr e1
      rw [e] at this
      cases this
     obtain⟨h00,⟨rfl,d,rfl,h1⟩|⟨rfl,d,m,us,G,eD,rfl,hc,h1⟩⟩:=w1
     . obtain⟨gs,hw,k1,k2,k3,k4,k5⟩:=h1.og (.inl rfl)
       refine Dx ?_
       repeat' (walk_at "rd1")
       exact⟨L.wp,d,k.now,ts,_,rfl,h1,fun e=>absurd e pk,fun t ht hm=>hq t ⟨ht,hm⟩⟩
     . obtain⟨gs,hw,k1,k2,k3,k4,k5⟩:=h1.wt.og (.inr ⟨_,_,_,rfl⟩)
       refine Du ?_
       repeat' (walk_at "rd1")
       exact⟨L.wp,d,k.now,ts,_,rfl,h1.wt,fun e=>absurd e pk,fun t ht hm=>hq t ⟨ht,hm⟩⟩
   . obtain⟨⟨m0,VL⟩,R0,e0⟩:=AT.mp T3
     have e0:VL=u0:=e0
     subst e0
     have R0:=(w3 m0 VL).mp R0
     have acI:∀n u,k.t n=some u->VL<=u:=fun n u e=>hle u (AT.mpr ⟨(n,u),(w3 n u).mpr e,rfl⟩)
     repeat' (walk_at "rd1")
     refine⟨L,k,VL,rfl,hk,(ok.nw m0 VL R0).1,fun q1 H1 ks B2 mQ Ze hsr oF zx mw=>?_⟩
     cases ks with
     |nil=>have:=(Ze VL m0).mpr ⟨R0,Zs _⟩;cases this
     |cons c0 r0=>
      obtain⟨uc,n0⟩:=c0
      have hc:=(Ze uc n0).mp BN
      obtain rfl:uc=VL:=Int.le_antisymm hc.2 (acI n0 uc hc.1)
      have uY:=mw.ins
      unfold bJ at uY
      have i0:zg (((uc,n0)::r0).map (·.2) |>.map GM) 0=some (.str n0):=zV (j:=0) rfl
      obtain⟨zx,no1⟩:=zx
      repeat' (walk_at "rd1")
      rename_i v1 H2 s2 Yc q3 H3 s3 um ua
      have ua:eF H3 q3 [gU uc n0]:=ua
      have uO:=(mw.keeps s2).keeps s3
      refine Y3 uO (fun q4 H4 ss s4 Ro hN abo Im=>?_)
      have hlen:=hN.len uO abo
      have YB:=uO.keeps s4
      generalize ek:({k with now:=uc,t:=pE k.t uc}:KS)=k' at*
      have ekf:k'.f=k.f:=by rw [<-ek]
      have ekn:k'.now=uc:=by rw [<-ek]
      refine U9 (xs:=ss.map fun n=>.ref (L.ad n)) (.inl (.inl Im)) (by rw [AL];omega) (fun i acc H'=>aA H4 H'/\acc=((ss.take i).filter (gG k')).map (fun n=>.ref (L.ad n))/\acc.length<=i) ⟨aA.refl _,rfl,BY _⟩ (fun i acc H' hi ⟨s5,_,e⟩=>⟨aA.seq s5 (.inl (.inl Im)),by omega⟩) (fun i v acc H' N hx ⟨s5,ea,Jm⟩ yes no=>?_) (fun acc H' q5 ⟨s5,ea,aeB⟩ hn5=>?_)
      . rw [EU] at hx
        obtain⟨n,hn,rfl⟩:=Pe.mp hx
        obtain⟨x,Zi⟩:=Tl.mp ((hN.2 n).mp (B0 hn))
        have hk5:=YB.keeps s5
        have hi5:=hk5.ins
        unfold bJ at hi5
        have hB:=hk5.bl n x Zi
        obtain⟨rv,sv,hI,hR,hd⟩:=id hB
        unfold eW at hI
        have Zr:(ss.take (i+1)).filter (gG k')=(ss.take i).filter (gG k')++(if gG k' n=true then [n] else []):=by
         rw [take_snoc hn,ON]
         congr 1
         rw [NE,Aav]
        have Uz:gG k' n=x.sn.any fun s=>decide (s<=k'.now):=by unfold gG;rw [Zi];rfl
        cases U7:x.sn with
        |none=>
         rw [U7] at Uz hI
         simp only [ow] at hI
         have Uz:gG k' n=false:=Uz
         rw [if_neg (by rw [Uz];exact FB),Mo] at Zr
         repeat' (walk_at "rd1")
         . rename_i hb
           rw [U7] at hb
           cases hb
         . refine BW (fun hb=>by cases hb) (fun _=>?_)
           refine no _ ⟨s5,?_,by omega⟩
           rw [Zr,ea]
        |some sn=>
         rw [U7] at Uz hI
         simp only [ow] at hI
         have Uz:gG k' n=decide (sn<=k'.now):=Uz
         repeat' (walk_at "rd1")
         . refine BW (fun hb=>?_) (fun hb=>?_)
           . have hb:decide (sn<=k'.now)=true:=hb
             rw [if_pos (by rw [Uz];exact hb)] at Zr
             repeat' (walk_at "rd1")
             refine yes _ _ ⟨s5,?_,by rw [Do,List.length_singleton];omega⟩
             rw [Zr,ea,Da];rfl
           . have hb:decide (sn<=k'.now)=false:=hb
             rw [if_neg (by rw [Uz,hb];exact FB),Mo] at Zr
             refine no _ ⟨s5,?_,by omega⟩
             rw [Zr,ea]
         . rename_i hb
           rw [U7] at hb
           cases hb
      . rw [AL,SC] at ea
        repeat' (walk_at "rd1")
        have s6:aA H4 (upd H' q5 (.lst acc)):=s5.trans (dX hn5)
        have M3:=YB.keeps s6
        have hq6:upd H' q5 (.lst acc) q5=some (.lst acc):=av
        generalize upd H' q5 (.lst acc)=H6 at*
        have pY:∀n∈ss.filter (gG k'),∃x,k'.f n=some x:=fun n hn=>by
         have:=(CS.mp hn).2
         unfold gG at this
         cases e:k'.f n with
         |none=>rw [e] at this;cases this
         |some x=>exact⟨x,rfl⟩
        obtain⟨kf,hkf⟩:∃kf:V->Int × Str,∀n∈ss.filter (gG k'),kf (.ref (L.ad n))=Er k' n:=by
         classical
         refine⟨fun v=>if h:∃n,n∈ss.filter (gG k')/\v=.ref (L.ad n) then Er k' h.choose else (0,⟨#[]⟩),fun n hn=>?_⟩
         have h:∃m,m∈ss.filter (gG k')/\V.ref (L.ad n)=.ref (L.ad m):=⟨n,hn,rfl⟩
         show(if h:∃m,m∈ss.filter (gG k')/\V.ref (L.ad n)=.ref (L.ad m) then Er k' h.choose else (0,⟨#[]⟩))=Er k' n
         rw [dif_pos h]
         obtain⟨g1,g2⟩:=h.choose_spec
         obtain⟨x,hx⟩:=pY n hn
         obtain⟨y,hy⟩:=pY _ g1
         have e:L.ad n=L.ad h.choose:=by injection g2
         obtain⟨dx,r1,r2,b1⟩:=(M3.bl n x hx).at
         obtain⟨dy,r3,r4,b2⟩:=(M3.bl _ y hy).at
         rw [<-e,b1] at b2
         have b2:=CC b2
         injection b2 with _ _ hf
         unfold eW at hf
         injection hf with h4 _
         injection h4 with _ h5
         injection h5 with h6
         rw [<-h6]
        refine⟨q5,acc,kf,rfl,.inl (.inl hq6),by rw [AL] at aeB;omega,fun v hv H7 s7=>?_,fun q8 ys H8 s8 hn8 abp ⟨hpm,Rh⟩=>?_⟩
        . rw [ea] at hv
          obtain⟨n,hn,rfl⟩:=AT.mp hv
          obtain⟨x,hx⟩:=pY n hn
          rw [hkf n hn]
          refine aaS ((M3.keeps s7).bl n x hx) (fun v' H'' s'' d''=>⟨s'',?_⟩)
          unfold Er
          rw [hx]
          exact d''
        . obtain⟨ns,HG,rfl⟩:=Pw hpm _ ea
          have s9:aA H6 (upd H8 q8 (.lst (ns.map fun n=>.ref (L.ad n)))):=s8.trans (dX abp)
          have hq9:upd H8 q8 (.lst (ns.map fun n=>V.ref (L.ad n))) q8=some (.lst (ns.map fun n=>.ref (L.ad n))):=av
          have Vs:H6 q8=none:=hn8
          generalize upd H8 q8 (.lst (ns.map fun n=>.ref (L.ad n)))=H9 at*
          have hk9:=M3.keeps s9
          have s39:aA H3 H9:=(s4.trans s6).trans s9
          have aev:=ua.keeps s39
          have OD:ns.Nodup:=HG.nodup_iff.mpr (abo.filter _)
          have wR:∀n,n∈ns↔gG k' n=true:=fun n=>by
           rw [HG.mem_iff,CS]
           refine⟨fun h=>h.2,fun h=>⟨(hN.2 n).mpr ?_,h⟩⟩
           unfold gG at h
           cases e:k'.f n with
           |none=>rw [e] at h;cases h
           |some x=>rfl
          have fr9:rm a L H H9:=B2.step ((s2.trans s3).trans s39)
          have no9:¬Lw H9 L.wp q8:=M3.new Vs s9
          have afe:BZ L.wp H9 q3 [gU uc n0]:=⟨aev,fun z=>(mw.keeps s2).new um s3 (uS uO.al (s39 _) z)⟩
          have hb0:=(ok.nw m0 uc R0)
          have Hm:=ok.sb
          have akc:k'.sh=k.sh:=by rw [<-ek]
          have abp:H q8=none:=B2.none ((s2.trans s3).none (s4.none (s6.none Vs)))
          have acL:H q3=none:=B2.none (s2.none um)
          have hnl:ns.length<=60:=by rw [HG.length_eq];have:=Nl (gG k') ss;omega
          have aeu:∀n∈ns,∃x sn un,k'.f n=some x/\x.sn=some sn/\x.un=some un:=fun n hn=>by
           have h:=(wR n).mp hn
           unfold gG at h
           cases e:k'.f n with
           |none=>rw [e] at h;cases h
           |some x=>
            rw [e] at h
            cases es:x.sn with
            |none=>simp [es] at h
            |some sn=>
             obtain⟨un,eu⟩:=ok.un n x sn (by rw [<-ekf];exact e) es
             exact⟨x,sn,un,rfl,es,eu⟩
          repeat' (walk_at "rd1")
          refine forL (xs:=ns.map fun n=>.ref (L.ad n)) (.inl (.inl hq9)) (fun i σ' H'=>∃z,σ'=[some (.ref L.p),some .a9,some (.ref q1),some (.ref q3),some (.ref q5),z]/\rm a L H H'/\(H' q8=some (.lst (ns.map fun n=>.ref (L.ad n)))/\¬Lw H' L.wp q8)/\BZ L.wp H' q3 ((ns.take i).foldl kg (k',[gU uc n0])).2/\cK a H' L ((ns.take i).foldl kg (k',[gU uc n0])).1) ⟨_,rfl,fr9,⟨hq9,no9⟩,afe,hk9⟩ (fun i σ' H' _ ⟨_,_,_,Q8,_⟩=>.inl (.inl Q8.1)) ?_ ?_
          . rintro i y σ' Ha hy ⟨z,rfl,fra,⟨hpa,noa⟩,Z7,hka⟩
            rw [EU] at hy
            obtain⟨n,hn,rfl⟩:=Pe.mp hy
            have aiG:=Z7.1
            have hia:=hka.ins
            unfold bJ at hia
            obtain⟨x,sn,un,hx,es,eu⟩:=aeu n (B0 hn)
            have hni:n∉ns.take i:=by
             have:=JY (f:=id) (l:=ns) (j:=i) (c:=n) (by rw [List.map_id];exact OD) hn
             rwa [List.map_id] at this
            obtain⟨e1,e2,e3,e4⟩:=ub (ns.take i) (k',[gU uc n0])
            have ahV:(ns.take i).length<=ns.length:=by rw [Ll];omega
            have MX:=(e3 n hni).trans hx
            obtain⟨o1,o2,o3⟩:=ok.hm n x (by rw [<-ekf];exact hx)
            repeat' (walk_at "rd1")
            refine⟨L,_,n,x,sn,un,rfl,hka,MX,es,eu,o1,o2,o3,by unfold fh;rw [e1,e2];show k'.now+lead x k'.sh<10^79;unfold lead;split <;>omega,fun qb Hb frb MP hqb hkb=>?_⟩
            have Rt:=Z7.fr frb
            have ahT:=Rt.1
            have hlb:=Br ((ns.take i).foldl kg (k',[gU uc n0])).1 n x
            repeat' (walk_at "rd1")
            refine Bg Rt.1 hqb.1 (by simp only [GG] at e4 ⊢;simp only [YI] at e4;omega) (fun Hc mvc Zu=>?_)
            have pk:q8≠q3:=fun z=>by
             have:H6 q3≠none:=fun zz=>by
              obtain⟨xs,ex,_⟩:=id ua
              rw [(s4.trans s6) _ _ ex] at zz;cases zz
             exact this (z▸Vs)
            have hpb:Hb q8=some (.lst (ns.map fun n=>.ref (L.ad n))):=frb.kp q8 _ hpa (by intro _ _;exact noa) (by intro _ z;cases z) (by intro _ _ _ z;cases z)
            have hs:(ns.take (i+1)).foldl kg (k',[gU uc n0])=(wG ((ns.take i).foldl kg (k',[gU uc n0])).1 n x,((ns.take i).foldl kg (k',[gU uc n0])).2++(C8 n x.no ((ns.take i).foldl kg (k',[gU uc n0])).1.now sn un::BQ ((ns.take i).foldl kg (k',[gU uc n0])).1 n x)):=by
             rw [take_snoc hn,List.foldl_append]
             exact C0 MX es eu
            obtain⟨hkc,afU⟩:=hkb.ext Rt mvc Zu
            have nob:=frb.off hpa noa
            refine⟨_,rfl,Kc (fra.trans frb) mvc acL,⟨mvc.kp q8 _ (by simpa using pk) hpb,hkb.afG Rt.1 mvc nob⟩,?_,?_⟩
            . rw [hs];exact afU
            . rw [hs];exact hkc
          . rintro σ' Ha ⟨z,rfl,fra,hpa,Z7,hka⟩
            rw [AL,SC] at Z7 hka
            repeat' (walk_at "rd1")
            subst ek
            refine q _ _ uc n0 r0 _ ns fra acL Ze hsr rfl acI OD wR ?_ Z7 hka
            have:ns.Pairwise (fun c d=>bw (kf (.ref (L.ad d))) (kf (.ref (L.ad c)))=false):=Sk.mp Rh
            refine this.imp_of_mem fun {c d} hc hd h=>?_
            rw [hkf c (HG.mem_iff.mp hc),hkf d (HG.mem_iff.mp hd)] at h
            exact h
theorem F4 (T:Txt K mg a):cT P w K mg base 12 a.bN ["self","deed"] [] (BI a):=
 ⟨⟨_,_,Jd T,T.jr.binds fun _ _ _ _ _ _=>eC fun _ _=>rfl,.nil⟩⟩
def Vb (to:Int) (k:KS) (es:List BB) (k2:KS):Prop:=∃(u0:Int) (n0:Str) (r0 ks:List (Int × Str)) (ns:List Str),u0<=to/\(∀u n,(u,n)∈ks↔k.t n=some u/\u<=u0)/\VY ks/\ks=(u0,n0)::r0/\(∀n u,k.t n=some u->u0<=u)/\ns.Nodup/\(∀n,n∈ns↔gG {k with now:=u0,t:=pE k.t u0} n=true)/\ns.Pairwise (fun c d=>bw (Er k d) (Er k c)=false)/\ns.foldl kg ({k with now:=u0,t:=pE k.t u0},[gU u0 n0])=(k2,es)
inductive Tq (to:Int):Nat->KS->List BB->KS->Prop
 |done {m:Nat} {k:KS} (h:∀n u,k.t n=some u->to<u):Tq to (m+1) k [] {k with now:=to}
 |last {k k1:KS} {es:List BB} (h:Vb to k es k1):Tq to 1 k es k1
 |more {m:Nat} {k k1 k2:KS} {es es2:List BB} (h:Vb to k es k1) (g:Tq to (m+1) k1 es2 k2):Tq to (m+2) k (es++es2) k2
structure Nj (to:Int) (J:KS->Prop):Prop where
 rg:∀k,J k->(∃n u,k.t n=some u)->abD k
 st:∀k es k1,J k->Vb to k es k1->J k1
theorem Vb.now {to:Int} {k k2:KS} {es:List BB} (h:Vb to k es k2):k2.now<=to:=by
 obtain⟨u0,n0,r0,ks,ns,g0,_,_,_,_,_,_,_,e⟩:=h
 have:=(ub ns ({k with now:=u0,t:=pE k.t u0},[gU u0 n0])).1
 rw [e] at this
 rw [show k2.now=u0 from this]
 exact g0
def N5 (a:Ad):Sp:=fun vs H Q _=>∃L k to m J,vs=[.ref L.p,.int to,.int m,.a9]/\cK a H L k/\k.now<=to/\1<=m/\m<=60/\L.nm.length*m.toNat<=600/\Nj to J/\J k/\∀q H' es k2,Tq to m.toNat k es k2->es.length<=3000->rm a L H H'->H q=none->BZ L.wp H' q es->cK a H' L k2->Q (.ref q) H'
theorem Vo (T:Txt K mg a):aS P w K mg base eP 13 a.eU a.kZ ["self","to","most","deed"] (N5 a):=by
 have cl:=T.aO;have n1:=T.bB
 have Ik:=T.nN;have yC:=T.jL;have IG:=T.nO
 have I9:=LW (P:=P) (w:=w) (base:=base) T
 have yq:=BE (P:=P) (w:=w) (base:=base) T
 have Ju:=F4 (P:=P) (w:=w) (base:=base) T
 refine T.nj.ok lA (fun vs H Q E h=>?_) (fun di A outer s H vs Q E hr h=>?_)
 . obtain⟨_,_,_,_,_,rfl,_⟩:=h;rfl
 . obtain⟨L,k,to,m,J,rfl,hk,h0,RL,hm2,hmm,hJ,hJk,q⟩:=h
   have hi:=hk.ins
   unfold bJ at hi
   refine⟨_,(af (bC (aL zp (pv 1) (aq (pv 0) rfl) (aR _))
    (ah fu)
    aN)
    (af (aE (i:=4) lA.nd rfl (FF rfl) (dW ag))
    (af (aE (i:=5) lA.nd rfl (FF rfl) au)
    (af (sg Lo (bx (az (pv 0) cl Ik I9 (hr.mono (by decide)) (ae (pv 1) ag)) (fun _=>rfl))
     (af (aI (jC GS Q4 Re oS (pv 4) (ae (az (pv 0) cl IG Ju (hr.mono (by decide)) (ae (pv 3) ag)) ag)))
     (af (aE (i:=5) lA.nd rfl (FF rfl) (aB bq (pv 5) au))
     (ah (bC (aL (oM hr.LX) (pv 5) (pv 2) (aR _))
      (ah (aF (pv 4)))
      aN)))))
    (af (aI (az (pv 0) cl yC yq (hr.mono (by decide)) (ae (pv 1) ag)))
    (ah (aF (pv 4)))))))),?_⟩
   repeat' (walk_at "rd1")
   rename_i q1 H1 s1 mQ zx
   have mw:=hk.keeps s1
   refine wV (fun r σ' H'=>∃(j:Nat) (es0:List BB) (kj:KS),σ'=[some (.ref L.p),some (.int to),some (.int m),some .a9,some (.ref q1),some (.int (j:Int))]/\(r:Int)+j=m/\1<=r/\rm a L H H'/\BZ L.wp H' q1 es0/\es0.length<=j+4*(L.nm.length*j)/\cK a H' L kj/\kj.now<=to/\J kj/\∀es k2,Tq to r kj es k2->Tq to m.toNat k (es0++es) k2) ⟨m.toNat,0,[],k,rfl,by omega,by omega,xB hk.al s1,⟨zx,hk.new mQ s1⟩,IR _,mw,h0,hJk,fun es k2 h=>by rw [List.nil_append];exact h⟩ ?_
   rintro r σ' Hj ⟨j,es0,kj,rfl,hrj,KL,frj,hqj,hlj,QL,hnj,hJj,gj⟩
   have ajp:=hqj.1
   have x5:=QL.ins
   unfold bJ at x5
   have hjm:L.nm.length*j+L.nm.length<=600:=by
    have h1:L.nm.length*(j+1)<=L.nm.length*m.toNat:=Nat.mul_le_mul_left _ (by omega)
    rw [Nat.mul_succ] at h1
    omega
   repeat' (walk_at "rd1")
   refine⟨L,kj,to,rfl,QL,fun n u e1 e2=>?_,fun h1=>?_⟩
   . have rg:=hJ.rg kj hJj ⟨n,u,e1⟩
     repeat' (walk_at "rd1")
     refine⟨L,kj,rfl,QL,rg,fun q2 H2 u0 n0 r0 ks ns zl px g1 g2 g3 g4 g5 g6 g7 zi mS=>?_⟩
     have Mi:ns.length<=L.nm.length:=xa g5 fun y hy=>by
      have:=(g6 y).mp hy
      unfold gG at this
      refine QL.nf y ?_
      cases e:kj.f y with
      |none=>simp [e] at this
      |some x=>rfl
     obtain⟨_,_,_,hle⟩:=ub ns ({kj with now:=u0,t:=pE kj.t u0},[gU u0 n0])
     simp only [GG,YI] at hle
     have wk:Vb to kj (ns.foldl kg ({kj with now:=u0,t:=pE kj.t u0},[gU u0 n0])).2 (ns.foldl kg ({kj with now:=u0,t:=pE kj.t u0},[gU u0 n0])).1:=⟨u0,n0,r0,ks,ns,Int.le_trans (g4 n u e1) e2,g1,g2,g3,g4,g5,g6,g7,rfl⟩
     generalize ns.foldl kg ({kj with now:=u0,t:=pE kj.t u0},[gU u0 n0])=S at*
     have W0:=hqj.fr zl
     have agA:=W0.1
     have ajX:=zi.1
     have agq:j<=60:=by omega
     repeat' (walk_at "rd1")
     refine Bg W0.1 zi.1 (by omega) (fun H3 pJ ua=>?_)
     obtain⟨uO,aco⟩:=mS.ext W0 pJ ua
     have yl:rm a L H H3:=Kc (frj.trans zl) pJ mQ
     have Tw:(es0++S.2).length<=(j+1)+4*(L.nm.length*(j+1)):=by rw [Do,Nat.mul_succ];omega
     repeat' (walk_at "rd1")
     . obtain rfl:r=1:=by omega
       exact q _ _ _ _ (gj _ _ (.last wk)) (by rw [Do];omega) yl mQ aco uO
     . obtain⟨r2,rfl⟩:∃r2,r=r2+2:=⟨r - 2,by omega⟩
       refine⟨r2+1,by omega,j+1,_,_,rfl,by omega,by omega,yl,aco,Tw,uO,wk.now,hJ.st _ _ _ hJj wk,fun es k2 g=>?_⟩
       rw [Ps]
       exact gj _ _ (.more wk g)
   . repeat' (walk_at "rd1")
     refine Ng QL hnj (fun q2 H2 ks zl px hm2 _ _ zi mS=>?_)
     repeat' (walk_at "rd1")
     have e:pE kj.t to=kj.t:=by
      funext n
      unfold pE
      cases et:kj.t n with
      |none=>rfl
      |some u=>rw [Option.filter_some,if_pos (decide_eq_true (h1 n u et))]
     rw [e] at mS
     obtain⟨r',rfl⟩:∃r',r=r'+1:=⟨r - 1,by omega⟩
     have g:=gj _ _ (.done (m:=r') h1)
     rw [Mo] at g
     exact q _ _ _ _ g (by omega) (frj.trans zl) mQ (hqj.fr zl) mS
theorem WB (T:Txt K mg a):Binds K a.kZ ["self","to","most","deed"] [.int 60 a.fX,.none]:=T.nj.binds fun _ _ _ _ _ _ s us kx hl=>by
 obtain⟨o,n,h1,h2⟩:=T.ti.ex
 have hl:us.length=2:=by simp at hl;omega
 obtain⟨_,_,rfl⟩:=ln2 hl
 exact TD kx rfl h1 h2 rfl rfl
theorem PO (T:Txt K mg a):cT P w K mg base 13 a.eU ["self","to","most","deed"] [.int 60,.a9] (N5 a):=⟨⟨_,_,Vo T,WB T,.cons ⟨_,rfl⟩ (.cons rfl .nil)⟩⟩
theorem Y6 (T:Txt K mg a):Binds K a.kZ ["self","to","most","deed"] [.none]:=T.nj.binds fun _ _ _ _ _ _ s us kx hl=>by
 obtain⟨o,n,h1,h2⟩:=T.ti.ex
 have hl:us.length=3:=by simp at hl;omega
 obtain⟨_,_,_,rfl⟩:=Zc hl
 exact TD kx rfl h1 h2 rfl rfl
theorem QN (T:Txt K mg a):cT P w K mg base 13 a.eU ["self","to","most","deed"] [.a9] (N5 a):=⟨⟨_,_,Vo T,Y6 T,.cons rfl .nil⟩⟩
def Hx:Nat->Nat->List Nat
 |0,n=>[97+n]
 |k+1,n=>if n<26 then [97+n] else Hx k (n / 26)++[97+n % 26]
theorem Z0:∀(k j n:Nat),n<k->n<j->Hx k n=Hx j n
 |0,_,_,h,_=>absurd h (Nat.not_lt_zero _)
 |_+1,0,_,_,h=>absurd h (Nat.not_lt_zero _)
 |k+1,j+1,n,h,g=>by
  rw [Hx,Hx]
  split
  . rfl
  . rw [Z0 k j (n / 26) (by omega) (by omega)]
def dig (n:Nat):List Nat:=Hx (n+1) n
theorem Qw (n:Nat):dig n=if h:n<26 then [97+n] else dig (n / 26)++[97+n % 26]:=by
 unfold dig
 rw [Hx]
 split
 . rfl
 . rw [Z0 n (n / 26+1) (n / 26) (by omega) (by omega)]
theorem KD:∀(k n:Nat),n<26^(k+1)->(dig n).length<=k+1
 |0,n,h=>by rw [Qw];rw [dif_pos (by simpa using h)];simp
 |k+1,n,h=>by
  rw [Qw]
  split
  . simp
  . have:n / 26<26^(k+1):=by rw [Nat.div_lt_iff_lt_mul (by decide)];rw [Abr] at h;exact h
    have:=KD k (n / 26) this
    simp;omega
def vz (l:List Nat):Str:=⟨l.toArray⟩
theorem N4 {a b:List Nat} (h:vz a=vz b):a=b:=by
 unfold vz at h
 have:=congrArg (fun s:Str=>s.cps.toList) h
 simpa using this
def nameEnd (n:Nat) (l:List Nat):List Nat:=if n=0/\l≠[] then l else dig n++l
theorem Ey {n:Nat} {l:List Nat} (h:¬(n=0/\l≠[])):nameEnd (n / 26) ((97+n % 26)::l)=nameEnd n l:=by
 unfold nameEnd
 rw [if_neg h]
 by_cases h2:n<26
 . rw [if_pos ⟨by omega,by simp⟩]
   rw [Qw]
   rw [dif_pos h2]
   have:n % 26=n:=by omega
   rw [this];rfl
 . rw [if_neg (by omega)]
   conv=>rhs;rw [Qw]
   rw [dif_neg h2,Ps];rfl
def MN (n:Nat):Str:=vz (dig n)
theorem Yo (N:Nat):∀c∈dig N,c<0x110000:=by
 induction N using Nat.strongRecOn with
 |ind n ih=>
  intro c hc
  rw [Qw] at hc
  split at hc
  . have:c=97+n:=by simpa using hc
    omega
  . rcases Cn.mp hc with hc|hc
    . exact ih (n / 26) (by omega) c hc
    . have:c=97+n % 26:=by simpa using hc
      omega
theorem acq (N:Nat):LP (.str (MN N))=true:=by
 show(Str.cps (MN N)).all (·<0x110000)=true
 rw [Array.all_eq_true']
 intro c hc
 exact decide_eq_true (Yo N c (by simpa [MN,vz] using hc))
def Fd:Sp:=fun vs H Q _=>∃c k,vs=[.int c,.int k]/\0<=k/\k<61/\Q (.str (MN (c % 3000000007*61+k).toNat)) H
theorem Wi {H:Hp} {Q:VK} {E:XK} {c k:Int} (h1:0<=k) (h2:k<61) (q:Q (.str (MN (c % 3000000007*61+k).toNat)) H):Fd [.int c,.int k] H Q E:=⟨c,k,rfl,h1,h2,q⟩
theorem XT {n:Int} (h0:0<=n) (h1:n<26):zg (Str.cps "abcdefghijklmnopqrstuvwxyz").toList n=some (97+n.toNat):=by
 obtain⟨m,rfl⟩:=Aar h0
 have hm:m<26:=by omega
 refine zV ?_
 have:∀m:Fin 26,(Str.cps "abcdefghijklmnopqrstuvwxyz").toList[m.val]? =some (97+m.val):=by decide+kernel
 exact this ⟨m,hm⟩
theorem S0 (T:Txt K mg a):aS P w K mg base eP 1 a.eY a.vY ["_law_cell","_law_k"] Fd:=by
 refine T.sT.ok iO (fun vs H Q E h=>?_) (fun di A outer s H vs Q E hr h=>?_)
 . obtain⟨_,_,rfl,_⟩:=h;rfl
 . obtain⟨c,k,rfl,h1,h2,q⟩:=h
   refine⟨_,(af (aE (i:=2) iO.nd rfl (FF rfl) (aB bq (aB t5 (aB cH (pv 0) au) au) (pv 1)))
    (af (aE (i:=3) iO.nd rfl (FF rfl) jk)
    (af (sg Lo (PW.pt (Am (aL Qp (pv 2) au (aR _)) (BL (aL (oM hr.LX) (pv 3) jk (aR _)))))
     (af (aE (i:=3) iO.nd rfl (FF rfl) (aB T2 (jZ sN jk (aB cH (pv 2) au) (fun _ _=>rfl)) (pv 3)))
     (ah (aE (i:=2) iO.nd rfl (FF rfl) (aB ck (pv 2) au)))))
    (ah (aF (pv 3)))))),?_⟩
   have hN:(c % 3000000007*61+k)=((c % 3000000007*61+k).toNat:Int):=by omega
   have hB:(c % 3000000007*61+k).toNat<26^9:=by have:(26:Nat)^9=5429503678976:=by decide
                                                omega
   generalize (c % 3000000007*61+k).toNat=N at hN hB q
   repeat' (walk_at "rd1")
   rw [hN]
   refine wV (fun m σ' H'=>∃(n:Nat) (l:List Nat),σ'=[some (.int c),some (.int k),some (.int n),some (.str (vz l))]/\H'=H/\n<26^9/\nameEnd n l=dig N/\m=n+(if l=[] then 1 else 0)) ⟨_,N,[],rfl,rfl,hB,by simp [nameEnd],rfl⟩ ?_
   rintro m σ' H' ⟨n,l,rfl,rfl,hn,he,rfl⟩
   have hl:l.length<=9:=by
    have h1:=KD 8 N hB
    rw [<-he] at h1
    unfold nameEnd at h1
    split at h1
    . exact h1
    . rw [Do] at h1;omega
   have Mi:(vz l).length<=9:=by show l.toArray.size<=9;simpa using hl
   have step:¬(n=0/\l≠[])->∀σ2:St,σ2=[some (.int c),some (.int k),some (.int ((n:Int) / 26)),some (.str (vz ((97+n % 26)::l)))]->∃m',m'<n+(if l=[] then 1 else 0)/\∃(n':Nat) (l':List Nat),σ2=[some (.int c),some (.int k),some (.int n'),some (.str (vz l'))]/\H'=H'/\n'<26^9/\nameEnd n' l'=dig N/\m'=n'+(if l'=[] then 1 else 0):=by
    intro hs σ2 e
    refine⟨n / 26,?_,n / 26,(97+n % 26)::l,by rw [e,show((n / 26:Nat):Int)=(n:Int) / 26 by omega],rfl,by omega,by rw [Ey hs];exact he,by simp⟩
    by_cases h0:l=[]
    . rw [if_pos h0];omega
    . rw [if_neg h0]
      have:n≠0:=fun z=>hs ⟨z,h0⟩
      omega
   have cat:∀x:Nat,(⟨#[x]⟩:Str)++vz l=vz (x::l):=fun x=>by
    show(⟨#[x]++l.toArray⟩:Str)=⟨(x::l).toArray⟩
    congr 1
    simp
   have ix:zg (Str.cps "abcdefghijklmnopqrstuvwxyz").toList ((n:Int) % 26)=some (97+n % 26):=by
    rw [XT (by omega) (by omega)]
    rw [show((n:Int) % 26).toNat=n % 26 by omega]
   have acH:(Str.length "abcdefghijklmnopqrstuvwxyz")<=Ev:=by decide
   repeat' (walk_at "rd1")
   . refine Qi acH ix (N3 rfl (Jf ?_ ?_))
     . show 1+(vz l).length<=4000;omega
     . rw [cat]
       repeat' (walk_at "rd1")
       exact step (by omega) _ rfl
   . refine Qi acH ix (N3 rfl (Jf ?_ ?_))
     . show 1+(vz l).length<=4000;omega
     . rw [cat]
       repeat' (walk_at "rd1")
       refine step ?_ _ rfl
       rename_i Vx hb _ _
       intro z
       have:vz l=vz []:=V.str.inj hb
       exact z.2 (N4 this)
   . rename_i Vx hb
     have h0:n=0:=by omega
     have pk:l≠[]:=fun z=>hb (by rw [z];rfl)
     have:nameEnd n l=l:=by unfold nameEnd;rw [if_pos ⟨h0,pk⟩]
     rw [this] at he
     rw [he]
     exact q
theorem QB (T:Txt K mg a):cT P w K mg base 1 a.eY ["_law_cell","_law_k"] [] Fd:=
 ⟨⟨_,_,S0 T,T.sT.binds fun _ _ _ _ _ _=>eC fun _ _=>rfl,.nil⟩⟩
local macro_rules|`(tactic|walk_at "use")=>`(tactic|first|((with_reducible refine' Wi ?e1 ?e2 ?_);(case e1=>omega);(case e2=>omega))|fail)
def aak (K:At) (x:V) (g:TG) (tb:TS) (D:Ends) (σ:St) (H1:Hp):Prop:=∃a,x=.ref a/\(∃xs,zQ K H1 a xs)/\∃W:Nat->Nat->St->Hp->Prop,(∃m,W 0 m σ H1)/\∀i m σ H,W i m σ H->
 ((U3 K a).stop i H/\D.nx σ H)\/((U3 K a).go i H/\∃N:St->Hp->Prop,(∀σ' H',N σ' H'->∃m',m'<m/\W (i+1) m' σ' H')/\∀x H',(U3 K a).Rm i H x H'->g x σ H' fun σ2 H2=>tb {D with nx:=N,ct:=N,bk:=D.nx} σ2 H2)
section
variable {σ:St} {H:Hp} {D:Ends} {K:At} {v:V} {g:TG} {tb:TS}
theorem Wa {tl:TE} (h:tl σ H fun x H1=>aak K x g tb D σ H1):Pg (abQ K tl) g tb D σ H:=h
theorem aes {ds:List BB} (hd:Dv H v (.tuple ds)) (S:Nat->St->Prop) (h0:S 0 σ) (hs:∀i d x σ',ds[i]? =some d->Dv H x d->S i σ'->g x σ' H fun σ2 H2=>tb {D with nx:=fun Wr H'=>S (i+1) Wr/\H'=H,ct:=fun Wr H'=>S (i+1) Wr/\H'=H,bk:=D.nx} σ2 H2) (he:∀σ',S ds.length σ'->D.nx σ' H):aak K v g tb D σ H:=by
 cases hd with
 |tup h r=>
  rename_i a xs
  refine⟨a,rfl,⟨xs,.of h⟩,Tz (fun i σ' H'=>S i σ'/\H'=H) ⟨h0,rfl⟩ (fun i σ' H' _ p=>by rw [p.2];exact .of h) (fun i x σ' H' hx p=>?_) (fun σ' H' p=>?_)⟩
  . obtain⟨p1,rfl⟩:=p
    have hl:=r.length
    have hi:i<ds.length:=by have:=(AS.mp hx).1;omega
    obtain⟨x',u3,rE⟩:=r.get (i:=i) (d:=ds[i]) (AC hi)
    rw [hx] at u3
    cases u3
    exact hs i _ x σ' (AC hi) rE p1
  . obtain⟨p1,rfl⟩:=p
    rw [r.length] at p1
    exact he σ' p1
end
set_option hygiene false in
local macro_rules|`(tactic|walk_at "rd1")=>`(tactic|first|with_reducible refine Wa ?_|fail)
def Flat (d:BB):Prop:=(∃s,d=.str s)\/∃i,d=.int i
def Ent (e:BB):Prop:=∃ps,e=.tuple ps/\∀p∈ps,Flat p
def Bu:Sp:=fun vs H Q _=>∃v es,vs=[v]/\Dv H v (.list es)/\(∀e∈es,Ent e)/\Q (.bl true) H
theorem Tx {H:Hp} {Q:VK} {E:XK} {v:V} {es:List BB} (h:Dv H v (.list es)) (he:∀e∈es,Ent e) (q:Q (.bl true) H):Bu [v] H Q E:=⟨v,es,rfl,h,he,q⟩
theorem DX (T:Txt K mg a):aS P w K mg base eP 1 a.dM a.uQ ["_law_found"] o4:=by
 refine T.qj.ok B8 (fun vs H Q E h=>?_) (fun di A outer s H vs Q E hr h=>?_)
 . obtain⟨_,_,rfl,_⟩:=h;rfl
 . obtain⟨v,d,rfl,hd,k⟩:=h
   refine⟨_,(ah (aF (Hr (cg j9 rfl T.bz KM (ae (pv 0) (ae (nr (v:=.ty "int") rfl T.AK PyProof.Rows.boot_int rfl) ag))) (E8 (Qm (cg j9 rfl T.bz KM (ae (pv 0) (ae (nr (v:=.ty "bool") rfl T.xF PyProof.Rows.boot_bool rfl) ag)))))))),?_⟩
   repeat' (walk_at "rd1")
   . refine RJ ?_;cases d <;>simp_all [isInt,isBool]
   . refine RJ ?_;cases d <;>simp_all [isInt,isBool]
theorem uM (T:Txt K mg a):cT P w K mg base 1 a.dM ["_law_found"] [] o4:=
 ⟨⟨_,_,DX T,T.qj.binds fun _ _ _ _ _ _=>m7 fun _=>rfl,.nil⟩⟩
theorem N2 (T:Txt K mg a):aS P w K mg base eP 2 a.dZ a.uF ["_law_found"] Bu:=by
 have qf:=uM (P:=P) (w:=w) (base:=base) T
 refine T.qh.ok oI (fun vs H Q E h=>?_) (fun di A outer s H vs Q E hr h=>?_)
 . obtain⟨_,_,rfl,_⟩:=h;rfl
 . obtain⟨v,es,rfl,hv,he,q⟩:=h
   refine⟨_,(af (bC (iu (bx (cg j9 rfl T.bz KM (ae (pv 0) (ae (nr (v:=.ty "list") rfl T.pU WA rfl) ag))) (fun _=>rfl)))
    (ah (aF yV))
    aN)
    (af (mx Lo rfl (hV (pv 0)) (cf (i:=1) oI.nd rfl (FF rfl))
     (af (bC (iu (bx (cg j9 rfl T.bz KM (ae (pv 1) (ae (nr (v:=.ty "tuple") rfl T.wY PyProof.Rows.boot_tuple rfl) ag))) (fun _=>rfl)))
      (ah (aF yV))
      aN)
     (ah (mx Lo rfl (Y7 (pv 1)) (cf (i:=2) oI.nd rfl (FF rfl))
      (ah (bC (PW.pt (vm (iu (bx (cg j9 rfl T.bz KM (ae (pv 2) (ae (nr (v:=.ty "str") rfl T.D9 PyProof.Rows.boot_str rfl) ag))) (fun _=>rfl))) (p4 (iu (bx (aX qf (hr.mono (by decide)) rfl T.oO T.oi (ae (pv 2) ag)) (fun _=>rfl))))))
       (ah (aF yV))
       aN))))))
    (ah (aF yV)))),?_⟩
   repeat' (walk_at "rd1")
   refine afD (cs:=es) (gd:=fun d=>d) (by rw [List.map_id'];exact hv) (fun i σ' H'=>H'=H/\∃z1 z2,σ'=[some v,z1,z2]) ⟨rfl,_,_,rfl⟩ (fun i σ' H' _ ⟨e,_⟩ b xs _ hx=>by rw [e];exact hx) ?_ ?_
   . rintro i e x σ' H' hi ⟨rfl,z1,z2,rfl⟩ _ hx
     obtain⟨ps,rfl,hps⟩:=he e (B0 hi)
     have hx:Dv H' x (.tuple ps):=hx (aA.refl _)
     repeat' (walk_at "rd1")
     refine aes hx (fun j σ'=>∃z,σ'=[some v,some x,z]) ⟨_,rfl⟩ ?_ ?_
     . rintro j d y σ' hj hy ⟨z,rfl⟩
       rcases hps d (B0 hj) with⟨s,rfl⟩|⟨n,rfl⟩
       . obtain rfl:=hy.str_inv
         repeat' (walk_at "rd1")
         exact⟨⟨_,rfl⟩,rfl⟩
       . obtain rfl:=hy.int_inv
         repeat' (walk_at "rd1")
         exact⟨⟨_,rfl⟩,rfl⟩
     . rintro σ' ⟨z,rfl⟩
       exact⟨rfl,_,_,rfl⟩
   . rintro σ' H' ⟨rfl,z1,z2,rfl⟩
     repeat' (walk_at "rd1")
     exact q
theorem KY (T:Txt K mg a):cT P w K mg base 2 a.dZ ["_law_found"] [] Bu:=
 ⟨⟨_,_,N2 T,T.qh.binds fun _ _ _ _ _ _=>m7 fun _=>rfl,.nil⟩⟩
structure Cw (ds:List BB):Prop where
 c:AaI ds=true
 d:Aay ds<=3
 e:BB.eqvAll ds ds=true
theorem Cw.nil:Cw []:=⟨rfl,IR _,rfl⟩
theorem Cw.cons {d:BB} {ds:List BB} (h1:d.canLay0=true) (h2:d.depth<=3) (h3:UV d d=true) (h:Cw ds):Cw (d::ds):=by
 refine⟨?_,?_,?_⟩
 . rw [AaI,h1,h.c];rfl
 . have:=h.d;rw [Aay];omega
 . rw [BB.eqvAll,h3,h.e];rfl
theorem aas {K:At} {H:Hp} {Q:VK} {f:Bool->Bool} {x y:V} {ds:List BB} (h1:Dv H x (.list ds)) (h2:Dv H y (.list ds)) (hl:Cw ds) (h:Q (.bl (f true)) H):QX K f x y H Q:=by
 refine UZ h1 h2 (by rw [LP];exact hl.c) (by rw [LP];exact hl.c) ?_ ?_
 . have:=hl.d
   rw [BB.depth]
   omega
 . rw [UV,hl.e];exact h
theorem S4 {ds:List BB} (h:Cw ds) (hd:Aay ds<=2):(BB.tuple ds).canLay0=true/\(BB.tuple ds).depth<=3/\UV (.tuple ds) (.tuple ds)=true:=by
 refine⟨by rw [LP];exact h.c,?_,by rw [UV];exact h.e⟩
 rw [BB.depth]
 omega
theorem Flat.lay {d:BB} (h:Flat d) (hs:∀s,d=.str s->LP (.str s)=true):d.canLay0=true/\d.depth=0/\UV d d=true:=by
 rcases h with⟨s,rfl⟩|⟨i,rfl⟩
 . exact⟨hs s rfl,rfl,by simp [UV]⟩
 . exact⟨rfl,rfl,by simp [UV]⟩
theorem JC:∀{ps:List BB},(∀p∈ps,Flat p)->(∀s,GM s∈ps->LP (.str s)=true)->Cw ps/\Aay ps=0
 |[],_,_=>⟨.nil,rfl⟩
 |p::ps,h,hs=>by
  obtain⟨g1,g2⟩:=JC (ps:=ps) (fun q hq=>h q (AD _ hq)) (fun s hq=>hs s (AD _ hq))
  obtain⟨l1,l2,l3⟩:=(h p BN).lay fun s e=>hs s (by rw [<-e];exact BN)
  refine⟨.cons l1 (by omega) l3 g1,?_⟩
  rw [Aay,l2,g2];rfl
theorem S9 {ds:List BB} (h:∀e∈ds,∃ps,e=.tuple ps/\(∀p∈ps,Flat p)/\∀s,GM s∈ps->LP (.str s)=true):Cw ds:=by
 induction ds with
 |nil=>exact .nil
 |cons d ds ih=>
  obtain⟨ps,rfl,h1,h2⟩:=h d BN
  obtain⟨g1,g2⟩:=JC h1 h2
  obtain⟨l1,l2,l3⟩:=S4 g1 (by omega)
  exact .cons l1 l2 l3 (ih fun e he=>h e (AD _ he))
structure iJ where
 (n:Str) (st sp wd:Int) (m:V)
def iJ.F (c:iJ) (i:Int):Int:=c.st+i*c.sp
def iJ.L (c:iJ) (i:Int):Int:=c.F i+c.wd
structure iJ.Ok (c:iJ):Prop where
 s0:0<=c.st
 s1:c.st<10^41
 p0:1<=c.sp
 p1:c.sp<10^21
 w0:0<=c.wd
 w1:c.wd<c.sp
def iJ.ru (c:iJ):RU:=.each c.st c.sp c.wd c.m
def iJ.bl (c:iJ) (i:Int):iD:=⟨c.ru,1,none,false,i,some (c.F i,c.L i),some (c.F i),some (c.L i)⟩
def iJ.one {β:Type} (c:iJ) (v:Option β):Str->Option β:=cU (fun _=>none) c.n v
def iJ.kA (c:iJ) (now i:Int):KS:=⟨now,0,c.one (some (c.bl i)),c.one (some (c.L i))⟩
def iJ.kG (c:iJ) (now:Int):KS:=⟨now,0,c.one none,c.one none⟩
def XN (m:V) (i:Int):Prop:=∀M,m=.int M->i<M
def iJ.St (c:iJ) (k:KS) (i:Int):Prop:=0<=i/\c.L i<10^45/\((k=c.kA k.now i/\XN c.m i/\k.now<c.L i)\/(k=c.kG k.now/\c.m=.int i))
theorem iJ.Jn (c:iJ) (i:Int):c.L (i+1)=c.L i+c.sp:=by unfold iJ.L iJ.F;rw [Int.add_mul,AaK];omega
theorem iJ.XY (c:iJ) (i:Int):c.F (i+1)=c.F i+c.sp:=by unfold iJ.F;rw [Int.add_mul,AaK];omega
theorem iJ.ab8 {c:iJ} (ok:c.Ok) {i:Int} (h0:0<=i):i<=c.L i/\0<=c.F i:=by
 have h1:i*1<=i*c.sp:=US ok.p0 h0
 have:=ok.s0;have:=ok.w0
 unfold iJ.L iJ.F
 constructor <;>omega
theorem qP {β:Type} (c:iJ) (v:Option β):c.one v c.n=v:=aP
theorem p7 {β:Type} (c:iJ) (v:Option β) {y:Str} (h:y≠c.n):c.one v y=none:=dF h
theorem one_up {β:Type} (c:iJ) (v w:Option β):cU (c.one v) c.n w=c.one w:=nU
theorem Uu (c:iJ) (i:Int):pE (c.one (some (c.L i))) (c.L i)=c.one none:=by
 funext y
 unfold pE
 by_cases e:y=c.n
 . rw [e,qP,qP,Option.filter_some,if_neg (by simp)]
 . rw [p7 c _ e,p7 c _ e];rfl
def EZ (c:iJ) (i:Int):List BB:=gU (c.L i) c.n::C8 c.n i (c.L i) (c.F i) (c.L i)::(if c.m=.int (i+1) then [As c.n] else [])
theorem Vz {c:iJ} {i:Int} (hb:XN c.m i):QA c.ru i=if c.m=.int (i+1) then none else some (c.F (i+1),c.L (i+1)):=by
 show(qz c.m (i+1) (c.st+(i+1)*c.sp,c.st+(i+1)*c.sp+c.wd)).2=_
 unfold qz
 cases e:c.m with
 |int M=>
  have:=hb M e
  by_cases h:M<=i+1
  . rw [if_pos (by rw [show M=i+1 by omega])];simp only [if_pos h]
  . rw [if_neg (by intro z;injection z with z;omega)];simp only [if_neg h];rfl
 |_=>rw [if_neg (by intro z;cases z)];rfl
theorem acP {c:iJ} (ok:c.Ok) {i:Int} (hb:XN c.m i):wG ⟨c.L i,0,c.one (some (c.bl i)),c.one none⟩ c.n (c.bl i)=(if c.m=.int (i+1) then c.kG (c.L i) else c.kA (c.L i) (i+1))/\BQ ⟨c.L i,0,c.one (some (c.bl i)),c.one none⟩ c.n (c.bl i)=(if c.m=.int (i+1) then [As c.n] else []):=by
 have hf:QA (c.bl i).ru (c.bl i).no=if c.m=.int (i+1) then none else some (c.F (i+1),c.L (i+1)):=Vz hb
 unfold wG BQ
 rw [hf]
 by_cases h:c.m=.int (i+1)
 . simp only [if_pos h]
   exact⟨by rw [one_up,one_up];rfl,trivial⟩
 . simp only [if_neg h]
   have e1:layB ⟨c.L i,0,c.one (some (c.bl i)),c.one none⟩ (rK (c.bl i)) (c.L (i+1))=rest (rK (c.bl i)):=by
    unfold layB pO
    refine if_pos ?_
    show c.L i+0<c.L (i+1)
    have:=ok.p0
    rw [c.Jn];omega
   have e2:missed c.n (rest (rK (c.bl i))) (c.L (i+1)) (fh ⟨c.L i,0,c.one (some (c.bl i)),c.one none⟩ (rK (c.bl i)))=[]:=by
    unfold missed
    refine if_pos ?_
    show c.L i+0<c.L (i+1)
    have:=ok.p0
    rw [c.Jn];omega
   have e3:(rest (rK (c.bl i))).st=some (c.F (i+1),c.L (i+1)):=by
    show QA c.ru i=_
    rw [Vz hb,if_neg h]
   constructor
   . unfold ro
     rw [e1,e3]
     show(⟨c.L i,0,cU (c.one (some (c.bl i))) c.n _,cU (c.one none) c.n _⟩:KS)=_
     rw [one_up,one_up]
     unfold iJ.kA
     congr 2
     . congr 1
       show iD.mk _ _ _ _ _ _ _ _=iD.mk _ _ _ _ _ _ _ _
       congr 1
       . show some (max (c.F (i+1) - 0) (c.L i+1))=some (c.F (i+1))
         congr 1
         have:=ok.w1
         rw [c.XY]
         unfold iJ.L
         omega
       . show some (c.L (i+1) - 0)=some (c.L (i+1))
         rw [Int.sub_zero]
     . congr 1
       show c.L (i+1) - 0=c.L (i+1)
       omega
   . unfold BG
     rw [e2,e1,e3];rfl
theorem af7 {n:Str} {ns:List Str} (h:ns.Nodup) (hm:∀y,y∈ns↔y=n):ns=[n]:=by
 cases ns with
 |nil=>exact absurd ((hm n).mpr rfl) (by simp)
 |cons y r=>
  have hy:=(hm y).mp BN
  subst hy
  cases r with
  |nil=>rfl
  |cons z r=>
   have hz:=(hm z).mp (AD _ BN)
   subst hz
   simp at h
theorem abn {c:iJ} (ok:c.Ok) {to now i:Int} {es:List BB} {k2:KS} (h0:0<=i) (hb:XN c.m i) (h:Vb to (c.kA now i) es k2):c.L i<=to/\es=EZ c i/\k2=(if c.m=.int (i+1) then c.kG (c.L i) else c.kA (c.L i) (i+1)):=by
 obtain⟨u0,n0,r0,ks,ns,g0,g1,_,g3,_,g5,g6,_,e⟩:=h
 have hn:n0=c.n/\c.L i=u0:=by
  have h1:(c.one (some (c.L i))) n0=some u0:=((g1 u0 n0).mp (by rw [g3];exact BN)).1
  by_cases z:n0=c.n
  . rw [z,qP] at h1;exact⟨z,CC h1⟩
  . rw [p7 c _ z] at h1;cases h1
 obtain⟨rfl,rfl⟩:=hn
 have Gh:({c.kA now i with now:=c.L i,t:=pE (c.kA now i).t (c.L i)}:KS)=⟨c.L i,0,c.one (some (c.bl i)),c.one none⟩:=by
  show(⟨c.L i,0,c.one (some (c.bl i)),pE (c.one (some (c.L i))) (c.L i)⟩:KS)=_
  rw [Uu]
 rw [Gh] at g6 e
 have hw:=ok.w0
 have HG:ns=[c.n]:=af7 g5 fun y=>by
  rw [g6]
  unfold gG
  by_cases z:y=c.n
  . rw [show(⟨c.L i,0,c.one (some (c.bl i)),c.one none⟩:KS).f y=some (c.bl i) by rw [z];exact qP c _]
    simp only [z,iff_true]
    show decide (c.F i<=c.L i)=true
    exact decide_eq_true (by unfold iJ.L;omega)
  . rw [show(⟨c.L i,0,c.one (some (c.bl i)),c.one none⟩:KS).f y=none from p7 c _ z]
    simp [z]
 obtain⟨s1,s2⟩:=acP ok hb
 rw [HG,List.foldl_cons,List.foldl_nil,C0 (x:=c.bl i) (sn:=c.F i) (un:=c.L i) (qP c _) rfl rfl] at e
 have e:=Prod.mk.inj e
 refine⟨g0,?_,?_⟩
 . rw [<-e.2,s2];rfl
 . rw [<-e.1,s1]
def fm (c:iJ) (to:Int):Nat->Int->List BB × Int × Int
 |0,i=>([],i,to)
 |r+1,i=>if c.L i<=to/\c.m≠.int i then (EZ c i++(fm c to r (i+1)).1,(fm c to r (i+1)).2.1,if r=0 then c.L i else (fm c to r (i+1)).2.2) else ([],i,to)
theorem W8 {m:V} {i:Int} (h:XN m i):m≠.int i:=fun e=>absurd (h i e) (Int.lt_irrefl i)
theorem Nu {m:V} {i:Int} (h:XN m i) (hn:m≠.int (i+1)):XN m (i+1):=fun M e=>by
 have:=h M e
 have:M≠i+1:=fun z=>hn (by rw [e,z])
 omega
theorem Ec {c:iJ} (ok:c.Ok) {to i:Int} {k k2:KS} {es:List BB} (ht:to<10^44) (hs:c.St k i) (h:Vb to k es k2):(c.L i<=to/\c.m≠.int i)/\es=EZ c i/\c.St k2 (i+1)/\k2.now=c.L i:=by
 obtain⟨h0,hL,⟨hk,hb,hn⟩|⟨hk,hm⟩⟩:=hs
 . rw [hk] at h
   obtain⟨h1,h2,h3⟩:=abn ok h0 hb h
   have hp:=ok.p0;have Fh:=ok.p1
   have hLs:=c.Jn i
   refine⟨⟨h1,W8 hb⟩,h2,?_⟩
   by_cases e:c.m=.int (i+1)
   . rw [if_pos e] at h3
     subst h3
     exact⟨⟨by omega,by omega,.inr ⟨rfl,e⟩⟩,rfl⟩
   . rw [if_neg e] at h3
     subst h3
     exact⟨⟨by omega,by omega,.inl ⟨rfl,Nu hb e,by show c.L i<_;omega⟩⟩,rfl⟩
 . obtain⟨u0,n0,r0,ks,ns,g0,g1,_,g3,_⟩:=h
   have h1:k.t n0=some u0:=((g1 u0 n0).mp (by rw [g3];exact BN)).1
   rw [hk] at h1
   have h1:(c.one none:Str->Option Int) n0=some u0:=h1
   by_cases z:n0=c.n
   . rw [z,qP] at h1;cases h1
   . rw [p7 c _ z] at h1;cases h1
theorem adQ {c:iJ} (ok:c.Ok) {to:Int} (ht:to<10^44) {r:Nat} {k k2:KS} {es:List BB} (g:Tq to r k es k2):∀i,c.St k i->(k.now<=to)->es=(fm c to r i).1/\c.St k2 (fm c to r i).2.1/\k2.now=(fm c to r i).2.2/\i<=(fm c to r i).2.1/\(fm c to r i).2.1<=i+r:=by
 induction g with
 |@done r k h=>
  intro i hs hn
  have hc:¬(c.L i<=to/\c.m≠.int i):=fun⟨h1,h2⟩=>by
   obtain⟨_,_,⟨hk,_⟩|⟨_,hm⟩⟩:=hs
   . have:=h c.n (c.L i) (by rw [hk];exact qP c _)
     omega
   . exact h2 hm
  unfold fm
  simp only [if_neg hc]
  obtain⟨h0,hL,hh⟩:=hs
  refine⟨trivial,⟨h0,hL,?_⟩,trivial,Zs _,by omega⟩
  rcases hh with⟨hk,hb,hl⟩|⟨hk,hm⟩
  . refine .inl ⟨?_,hb,?_⟩
    . rw [hk];rfl
    . show to<c.L i
      exact h c.n (c.L i) (by rw [hk];exact qP c _)
  . refine .inr ⟨?_,hm⟩
    rw [hk];rfl
 |@last k k1 es h=>
  intro i hs hn
  obtain⟨hc,he,Rj,mQ⟩:=Ec ok ht hs h
  unfold fm
  simp only [if_pos hc,fm,Mo,if_pos trivial]
  exact⟨he,Rj,mQ,by omega,by omega⟩
 |@more r k k1 k2 es es2 h g ih=>
  intro i hs hn
  obtain⟨hc,he,Rj,mQ⟩:=Ec ok ht hs h
  obtain⟨a1,a2,a3,a4,a5⟩:=ih (i+1) Rj (by rw [mQ];exact hc.1)
  rw [fm]
  simp only [if_pos hc]
  refine⟨by rw [he,a1],a2,by rw [if_neg (by omega)];exact a3,by omega,by push_cast at a5 ⊢;omega⟩
theorem aaE {c:iJ} (ok:c.Ok) {to:Int} (ht:to<10^44):Nj to fun k=>∃i,c.St k i:=by
 refine⟨fun k ⟨i,hs⟩ ⟨n,u,hu⟩=>?_,fun k es k1 ⟨i,hs⟩ h=>⟨i+1,(Ec ok ht hs h).2.2.1⟩⟩
 obtain⟨h0,hL,⟨hk,hb,hl⟩|⟨hk,hm⟩⟩:=hs
 . have hi:=(iJ.ab8 ok h0).1
   refine⟨fun y x hy=>?_,fun y x s hy hx=>?_,fun y v hy=>?_,⟨n,u,hu⟩,?_⟩
   . rw [hk] at hy
     have hy:c.one (some (c.bl i)) y=some x:=hy
     by_cases z:y=c.n
     . rw [z,qP] at hy
       cases hy
       exact⟨rfl,h0,by show i<10^50;omega⟩
     . rw [p7 c _ z] at hy;cases hy
   . rw [hk] at hy
     have hy:c.one (some (c.bl i)) y=some x:=hy
     by_cases z:y=c.n
     . rw [z,qP] at hy
       cases hy
       exact⟨_,rfl⟩
     . rw [p7 c _ z] at hy;cases hy
   . rw [hk] at hy
     have hy:c.one (some (c.L i)) y=some v:=hy
     by_cases z:y=c.n
     . rw [z,qP] at hy
       cases hy
       exact⟨by omega,by omega⟩
     . rw [p7 c _ z] at hy;cases hy
   . rw [hk];show(0:Int)<10^59;decide
 . rw [hk] at hu
   have hu:(c.one none:Str->Option Int) n=some u:=hu
   by_cases z:n=c.n
   . rw [z,qP] at hu;cases hu
   . rw [p7 c _ z] at hu;cases hu
def Xw (n:Str) (f w no:Int) (m:V):List BB:=gU (f+w) n::C8 n no (f+w) f (f+w)::(if m=.int (no+1) then [As n] else [])
def Eh:Sp:=fun vs H Q _=>∃n f w no m,vs=[.str n,.int f,.int w,.int no,m]/\J3 m/\∀q H',aA H H'->H q=none->eF H' q (Xw n f w no m)->Q (.ref q) H'
theorem Yv {H:Hp} {Q:VK} {E:XK} {n:Str} {f w no:Int} {m:V} (hm:J3 m) (q:∀q H',aA H H'->H q=none->eF H' q (Xw n f w no m)->Q (.ref q) H'):Eh [.str n,.int f,.int w,.int no,m] H Q E:=⟨n,f,w,no,m,rfl,hm,q⟩
theorem Rr (T:Txt K mg a):aS P w K mg base eP 1 a.eT a.xN ["_law_name_here","_law_first","_law_wide","_law_number","_law_many"] Eh:=by
 refine T.sy.ok pK (fun vs H Q E h=>?_) (fun di A outer s H vs Q E hr h=>?_)
 . obtain⟨_,_,_,_,_,rfl,_⟩:=h;rfl
 . obtain⟨n,f,w,no,m,rfl,hm,q⟩:=h
   refine⟨_,(af (aE (i:=5) pK.nd rfl (FF rfl) (aB bq (pv 1) (pv 2)))
    (af (aE (i:=6) pK.nd rfl (FF rfl) (dW (ae (dN (ae jk (ae (pv 5) (ae (pv 0) ag)))) (ae (dN (ae jk (ae (pv 0) (ae (pv 3) (ae (pv 5) (ae (pv 1) (ae (pv 5) ag))))))) ag))))
    (af (bC (aL (oM hr.LX) (aB bq (pv 3) au) (pv 4) (aR _))
     (ah (aI (jC GS TW TZ t6 (pv 6) (ae (dN (ae jk (ae (pv 0) ag))) ag))))
     aN)
    (ah (aF (pv 6)))))),?_⟩
   unfold Xw at q
   rcases hm with rfl|⟨M,rfl,hM⟩
   . rw [if_neg (fun z=>by cases z)] at q
     repeat' (walk_at "rd1")
     rename_i va Ha sa hva vb Hb sb hvb q3 Hc sc Zn Zu hb
     exact q q3 Hc (sa.trans (sb.trans sc)) (sa.none (sb.none Zn)) Zu
   . by_cases e:M=no+1
     . rw [if_pos (by rw [e])] at q
       repeat' (walk_at "rd1")
       rename_i va Ha sa hva vb Hb sb hvb q3 Hc sc Zn Zu hb vd Hd sd hvd He me hqe
       exact q q3 He (Mv.J4 (sa.trans (sb.trans (sc.trans sd))) me (sa.none (sb.none Zn))) (sa.none (sb.none Zn)) hqe
     . rw [if_neg (fun z=>by injection z with z;exact e z)] at q
       repeat' (walk_at "rd1")
       rename_i va Ha sa hva vb Hb sb hvb q3 Hc sc Zn Zu hb
       exact q q3 Hc (sa.trans (sb.trans sc)) (sa.none (sb.none Zn)) Zu
theorem PR (T:Txt K mg a):cT P w K mg base 1 a.eT ["_law_name_here","_law_first","_law_wide","_law_number","_law_many"] [] Eh:=
 ⟨⟨_,_,Rr T,T.sy.binds fun _ _ _ _ _ _=>abS fun _ _ _ _ _=>rfl,.nil⟩⟩
def Hw (c:Int):Int:=if c % 3=0 then 60 else 1+c / 3 % 12
theorem UT (c:Int):1<=Hw c/\Hw c<=60:=by unfold Hw;split <;>omega
def Gb (a:Ad):Sp:=fun vs H Q _=>∃L k c to J,vs=[.ref L.p,.int c,.int to]/\cK a H L k/\k.now<=to/\L.nm.length<=10/\Nj to J/\J k/\∀v H' es k2,Tq to (Hw c).toNat k es k2->es.length<=3000->rm a L H H'->Dv H' v (.tuple [.int (Hw c),.list es])->cK a H' L k2->Q v H'
theorem OC (T:Txt K mg a):aS P w K mg base eP 14 a.dP a.uE ["_law_keeper","_law_cell","_law_to"] (Gb a):=by
 have cl:=T.aO
 have Ck:=PO (P:=P) (w:=w) (base:=base) T
 have Cb:=QN (P:=P) (w:=w) (base:=base) T
 refine T.pR.ok uC (fun vs H Q E h=>?_) (fun di A outer s H vs Q E hr h=>?_)
 . obtain⟨_,_,_,_,_,rfl,_⟩:=h;rfl
 . obtain⟨L,k,c,to,J,rfl,hk,h0,hl,hJ,hJk,q⟩:=h
   have hi:=hk.ins
   unfold bJ at hi
   have hb:=UT c
   have hmm:L.nm.length*(Hw c).toNat<=600:=Me (Nat.mul_le_mul hl (show(Hw c).toNat<=60 by omega)) (by decide)
   refine⟨_,(af (bC (aL (oM hr.LX) (aB cH (pv 1) au) au (aR _))
    (ah (aF (dN (ae au (ae (az (pv 0) T.aO T.tV Ck (hr.mono (by decide)) (ae (pv 2) ag)) ag)))))
    aN)
    (af (aE (i:=3) uC.nd rfl (FF rfl) (aB bq au (aB cH (aB ck (pv 1) au) au)))
    (ah (aF (dN (ae (pv 3) (ae (az (pv 0) T.aO T.tV Cb (hr.mono (by decide)) (ae (pv 2) (ae (pv 3) ag))) ag))))))),?_⟩
   repeat' (walk_at "rd1")
   . rename_i hc
     have e:Hw c=60:=by unfold Hw;rw [if_pos hc]
     rw [e] at hmm q
     refine⟨L,k,to,60,J,rfl,hk,h0,by decide,by decide,hmm,hJ,hJk,fun q1 H1 es k2 g hes fr mQ zx mS=>?_⟩
     have aeZ:=zx.1
     repeat' (walk_at "rd1")
     rename_i v2 H2 s2 Yc
     exact q v2 H2 es k2 g hes (fr.step s2) Yc (mS.keeps s2)
   . rename_i hc _ _
     have e:Hw c=1+c / 3 % 12:=by unfold Hw;rw [if_neg hc]
     rw [e] at hmm q
     refine⟨L,k,to,1+c / 3 % 12,J,rfl,hk,h0,by omega,by omega,hmm,hJ,hJk,fun q1 H1 es k2 g hes fr mQ zx mS=>?_⟩
     have aeZ:=zx.1
     repeat' (walk_at "rd1")
     rename_i v2 H2 s2 Yc
     exact q v2 H2 es k2 g hes (fr.step s2) Yc (mS.keeps s2)
theorem KZ (T:Txt K mg a):cT P w K mg base 14 a.dP ["_law_keeper","_law_cell","_law_to"] [] (Gb a):=
 ⟨⟨_,_,OC T,T.pR.binds fun _ _ _ _ _ _=>iC fun _ _ _=>rfl,.nil⟩⟩
theorem Sz (T:Txt K mg a):Binds K a.nY ["self","name","rule","weight","group","by_day"] [.int 1 a.fj,.none,.bool false]:=T.pL.binds fun _ _ _ _ _ _ s us kx hl=>by
 obtain⟨o,n,h1,h2⟩:=T.wL.ex
 have hl:us.length=3:=by simp at hl;omega
 obtain⟨_,_,_,rfl⟩:=Zc hl
 exact TD kx rfl h1 h2 rfl rfl
theorem MA (T:Txt K mg a):cT P w K mg base 13 a.e8 ["self","name","rule","weight","group","by_day"] [.int 1,.a9,.bl false] (Jb a):=⟨⟨_,_,W9 T,Sz T,.cons ⟨_,rfl⟩ (.cons rfl (.cons rfl .nil))⟩⟩
theorem lay0 {c:iJ} (ok:c.Ok) {now:Int} (h:now<c.st):ro (k0 now) c.n (sP c.ru 1 none false) (c.st+c.wd)=c.kA now 0:=by
 have hw:=ok.w0
 have e0:c.F 0=c.st:=by unfold iJ.F;omega
 have e1:layB (k0 now) (sP c.ru 1 none false) (c.st+c.wd)=rest (sP c.ru 1 none false):=by
  unfold layB pO
  refine if_pos ?_
  show now+0<c.st+c.wd
  omega
 unfold ro
 rw [e1]
 show(⟨now,0,cU (fun _=>none) c.n _,cU (fun _=>none) c.n _⟩:KS)=c.kA now 0
 unfold iJ.kA iJ.one iJ.bl iJ.L
 rw [e0]
 congr 2
 . congr 1
   show iD.mk _ _ _ _ _ _ _ _=iD.mk _ _ _ _ _ _ _ _
   congr 1
   . show some (max (c.st - 0) (now+1))=some c.st
     congr 1
     omega
   . show some (c.st+c.wd - 0)=some (c.st+c.wd)
     rw [Int.sub_zero]
 . congr 1
   show c.st+c.wd - 0=c.st+c.wd
   omega
def ZI (c:iJ) (to:Int) (M:Nat) (no:Int) (j:Nat) (pre:List BB) (i st:Int):Prop:=(j<M->st=to/\fm c to M no=(pre++(fm c to (M - j) i).1,(fm c to (M - j) i).2.1,(fm c to (M - j) i).2.2))/\(j=M->fm c to M no=(pre,i,st))
theorem UM {c:iJ} {to no i st:Int} {M j:Nat} {pre:List BB} (h:ZI c to M no j pre i st) (hj:j<M) (hc:c.L i<=to/\c.m≠.int i):ZI c to M no (j+1) (pre++EZ c i) (i+1) (if j+1=M then c.L i else to):=by
 obtain⟨_,e⟩:=h.1 hj
 have er:M - j=(M - (j+1))+1:=by omega
 rw [er,fm] at e
 simp only [if_pos hc] at e
 refine⟨fun h1=>⟨if_neg (by omega),?_⟩,fun h1=>?_⟩
 . rw [e,if_neg (by omega),Ps]
 . rw [e,h1,Nat.sub_self]
   simp [fm]
theorem Qg {c:iJ} {to no i st:Int} {M j:Nat} {pre:List BB} (h:ZI c to M no j pre i st) (hj:j<M) (hc:¬(c.L i<=to/\c.m≠.int i)):ZI c to M no (j+1) pre i st:=by
 obtain⟨es,e⟩:=h.1 hj
 have er:M - j=(M - (j+1))+1:=by omega
 rw [er,fm] at e
 simp only [if_neg hc,Mo] at e
 refine⟨fun h1=>⟨es,?_⟩,fun h1=>by rw [e,es]⟩
 have er:M - (j+1)=(M - (j+1) - 1)+1:=by omega
 rw [e,er,fm]
 simp only [if_neg hc,Mo]
theorem Ym {m:V} {i:Int} (h:J3 m):OX (.int i) m=true:=by rcases h with rfl|⟨_,rfl,_⟩ <;>rfl
def aaw (e:BB):Prop:=∃ps,e=.tuple ps/\(∀p∈ps,Flat p)/\∀s,GM s∈ps->LP (.str s)=true
theorem W3 {c:iJ} (h:LP (.str c.n)=true) (i:Int):∀e∈EZ c i,aaw e:=by
 have cw:LP (.str "woke")=true:=by decide+kernel
 have cr:LP (.str "rang")=true:=by decide+kernel
 have co:LP (.str "over")=true:=by decide+kernel
 intro e he
 unfold EZ at he
 simp only [AE] at he
 rcases he with rfl|rfl|he
 . refine⟨_,rfl,fun p hp=>?_,fun s hs=>?_⟩
   . simp only [AE,Pc,or_false] at hp
     rcases hp with rfl|rfl|rfl
     . exact .inl ⟨_,rfl⟩
     . exact .inr ⟨_,rfl⟩
     . exact .inl ⟨_,rfl⟩
   . simp only [AE,Pc,or_false,GM.injEq,reduceCtorEq,false_or] at hs
     rcases hs with rfl|rfl
     . exact cw
     . exact h
 . refine⟨_,rfl,fun p hp=>?_,fun s hs=>?_⟩
   . simp only [AE,Pc,or_false] at hp
     rcases hp with rfl|rfl|rfl|rfl|rfl|rfl
     . exact .inl ⟨_,rfl⟩
     . exact .inl ⟨_,rfl⟩
     . exact .inr ⟨_,rfl⟩
     . exact .inr ⟨_,rfl⟩
     . exact .inr ⟨_,rfl⟩
     . exact .inr ⟨_,rfl⟩
   . simp only [AE,Pc,or_false,GM.injEq,reduceCtorEq] at hs
     rcases hs with rfl|rfl
     . exact cr
     . exact h
 . split at he
   . rw [AN.mp he]
     refine⟨_,rfl,fun p hp=>?_,fun s hs=>?_⟩
     . simp only [AE,Pc,or_false] at hp
       rcases hp with rfl|rfl
       . exact .inl ⟨_,rfl⟩
       . exact .inl ⟨_,rfl⟩
     . simp only [AE,Pc,or_false,GM.injEq] at hs
       rcases hs with rfl|rfl
       . exact co
       . exact h
   . cases he
theorem P2 {c:iJ} (ok:c.Ok) (h:LP (.str c.n)=true) {to:Int} (h0:0<=to):∀(r:Nat) (i:Int),0<=i->(∀e∈(fm c to r i).1,aaw e)/\0<=(fm c to r i).2.2/\(fm c to r i).2.2<=to
 |0,i,_=>⟨fun e he=>(by cases he),h0,Zs _⟩
 |r+1,i,hi=>by
  obtain⟨h1,h2,h3⟩:=P2 ok h h0 r (i+1) (by omega)
  rw [fm]
  by_cases hc:c.L i<=to/\c.m≠.int i
  . simp only [if_pos hc]
    refine⟨fun e he=>?_,?_⟩
    . rcases Cn.mp he with he|he
      . exact W3 h i e he
      . exact h1 e he
    . have:=iJ.ab8 ok hi
      split
      . exact⟨by omega,hc.1⟩
      . exact⟨h2,h3⟩
  . simp only [if_neg hc]
    exact⟨fun e he=>(by cases he),h0,Zs _⟩
theorem V9 {a b x:V} {i:Nat} (h:[a,b][i]? =some x):i<2/\(x=a\/x=b):=by
 match i,h with
 |0,h=>cases h;exact⟨by decide,.inl rfl⟩
 |1,h=>cases h;exact⟨by decide,.inr rfl⟩
theorem Yd (T:Txt K mg a):aS P w K mg base eP 15 a.uX a.EI ["_law_script"] (Ou K):=by
 have cl:=T.aO;have n1:=T.bB
 have HI:=Em (P:=P) (w:=w) (base:=base) T
 have Az:=MA (P:=P) (w:=w) (base:=base) T
 have BA:=BX (P:=P) (w:=w) (base:=base) T
 have aM:=zt (P:=P) (w:=w) (base:=base) T
 have Hi:=QB (P:=P) (w:=w) (base:=base) T
 have GW:=PR (P:=P) (w:=w) (base:=base) T
 have En:=KZ (P:=P) (w:=w) (base:=base) T
 have EE:=KY (P:=P) (w:=w) (base:=base) T
 have qf:=uM (P:=P) (w:=w) (base:=base) T
 refine T.Od.ok cJ (fun vs H Q E h=>?_) (fun di A outer s H vs Q E hr h=>?_)
 . obtain⟨_,_,rfl,_⟩:=h;rfl
 . obtain⟨l0,ns,rfl,hS,aj2,q⟩:=h
   refine⟨_,(af (aE (i:=1) cJ.nd rfl (FF rfl) (aB cH (aB ck (aX aM (hr.mono (by decide)) rfl T.aG T.aH (ae (pv 0) (ae au ag))) au) au))
    (du (bC (aL (oM hr.LX) (aB cH (aX aM (hr.mono (by decide)) rfl T.aG T.aH (ae (pv 0) (ae au ag))) au) au (aR _))
     (ah (aE (i:=1) cJ.nd rfl (FF rfl) (aB cH (aB ck (aX aM (hr.mono (by decide)) rfl T.aG T.aH (ae (pv 0) (ae au ag))) au) (aB QS au au))))
     aN)
    (af (aE (i:=2) cJ.nd rfl (FF rfl) (aB bq (aB bq (pv 1) au) (aB cH (aX aM (hr.mono (by decide)) rfl T.aG T.aH (ae (pv 0) (ae au ag))) au)))
    (af (aE (i:=3) cJ.nd rfl (FF rfl) (aB bq au (aB cH (aB ck (aX aM (hr.mono (by decide)) rfl T.aG T.aH (ae (pv 0) (ae au ag))) au) au)))
    (du (bC (aL (oM hr.LX) (aB cH (aX aM (hr.mono (by decide)) rfl T.aG T.aH (ae (pv 0) (ae au ag))) au) au (aR _))
     (ah (aE (i:=3) cJ.nd rfl (FF rfl) (aB bq au (aB cH (aB ck (aX aM (hr.mono (by decide)) rfl T.aG T.aH (ae (pv 0) (ae au ag))) au) (aB QS au au)))))
     aN)
    (af (aE (i:=4) cJ.nd rfl (FF rfl) (aB cH (aX aM (hr.mono (by decide)) rfl T.aG T.aH (ae (pv 0) (ae au ag))) (pv 3)))
    (af (aE (i:=5) cJ.nd rfl (FF rfl) eO)
    (du (bC (aL (oM hr.LX) (aB cH (aX aM (hr.mono (by decide)) rfl T.aG T.aH (ae (pv 0) (ae au ag))) au) au (aR _))
     (ah (aE (i:=5) cJ.nd rfl (FF rfl) (aB bq au (aB cH (aB ck (aX aM (hr.mono (by decide)) rfl T.aG T.aH (ae (pv 0) (ae au ag))) au) au))))
     aN)
    (af (aE (i:=6) cJ.nd rfl (FF rfl) (aX Hi (hr.mono (by decide)) rfl T.wx T.xE (ae (aX aM (hr.mono (by decide)) rfl T.aG T.aH (ae (pv 0) (ae au ag))) (ae au ag))))
    (af (aE (i:=7) cJ.nd rfl (FF rfl) eO)
    (du (bC (aL (oM hr.LX) (aB cH (aX aM (hr.mono (by decide)) rfl T.aG T.aH (ae (pv 0) (ae au ag))) au) au (aR _))
     (ah (aE (i:=7) cJ.nd rfl (FF rfl) (dW (ae (aB bq au (aB cH (aB ck (aX aM (hr.mono (by decide)) rfl T.aG T.aH (ae (pv 0) (ae au ag))) au) au)) (ae (aB bq au (aB cH (aB ck (aX aM (hr.mono (by decide)) rfl T.aG T.aH (ae (pv 0) (ae au ag))) au) au)) ag)))))
     aN)
    (af (aE (i:=8) cJ.nd rfl (FF rfl) (qc T.Gf HI (hr.mono (by decide)) rfl T.DC (ae (pv 7) (ae (pv 1) ag))))
    (af (aI (az (pv 8) T.aO T.xq Az (hr.mono (by decide)) (ae (pv 6) (ae (qc T.HA BA (hr.mono (by decide)) rfl T.DM (ae (pv 2) (ae (pv 3) (ae (pv 4) (ae (pv 5) ag))))) ag))))
    (af (aE (i:=9) cJ.nd rfl (FF rfl) au)
    (af (mx Lo rfl (hV (dW (ae (aX aM (hr.mono (by decide)) rfl T.aG T.aH (ae (pv 0) (ae au ag))) (ae (aX aM (hr.mono (by decide)) rfl T.aG T.aH (ae (pv 0) (ae au ag))) ag)))) (cf (i:=10) cJ.nd rfl (FF rfl))
     (af (aE (i:=11) cJ.nd rfl (FF rfl) (aB bq (aB bq (pv 1) (aB t5 (aB cH (aB ck (pv 10) au) au) (pv 3))) (aB cH (aB ck (pv 10) au) au)))
     (af (Xx (aX En (hr.mono (by decide)) rfl T.uA T.uR (ae (pv 8) (ae (pv 10) (ae (pv 11) ag)))) (EJ (n:=2) rfl (gY (cf (i:=12) cJ.nd rfl (FF rfl)) (gY (cf (i:=13) cJ.nd rfl (FF rfl)) xK))))
     (af (aE (i:=14) cJ.nd rfl (FF rfl) (dW ag))
     (af (aE (i:=15) cJ.nd rfl (FF rfl) (pv 11))
     (af (mx Lo rfl (L4 rfl T.wZ (ae (pv 12) ag)) (cf (i:=16) cJ.nd rfl (FF rfl))
      (af (aE (i:=17) cJ.nd rfl (FF rfl) (aB bq (pv 2) (aB t5 (pv 9) (pv 3))))
      (ah (bC (PW.pt (vm (aL rQ (aB bq (pv 17) (pv 4)) (pv 11) (aR _)) (p4 (aL (Iv hr.LX) (pv 9) (pv 5) (aR _)))))
       (af (aI (jC GS Q4 Re oS (pv 14) (ae (aX GW (hr.mono (by decide)) rfl T.xk T.wy (ae (pv 6) (ae (pv 17) (ae (pv 4) (ae (pv 9) (ae (pv 5) ag)))))) ag)))
       (af (aE (i:=9) cJ.nd rfl (FF rfl) (aB bq (pv 9) au))
       (ah (bC (aL (oM hr.LX) (aB bq (pv 16) au) (pv 12) (aR _))
        (ah (aE (i:=15) cJ.nd rfl (FF rfl) (aB bq (pv 17) (pv 4))))
        aN))))
       aN))))
     (af (bC (PW.pt (Am (iu (bx (aX EE (hr.mono (by decide)) rfl T.uP T.uT (ae (pv 13) ag)) (fun _=>rfl))) (Am (aL (Iv hr.LX) (pv 13) (pv 14) (aR _)) (Am (iu (bx (aX qf (hr.mono (by decide)) rfl T.oO T.oi (ae (aq (pv 8) rfl) ag)) (fun _=>rfl))) (BL (aL (Iv hr.LX) (aq (pv 8) rfl) (pv 15) (aR _)))))))
      (ah (aF yV))
      aN)
     (ah (aE (i:=1) cJ.nd rfl (FF rfl) (pv 15))))))))))
    (ah (aF yV))))))))))))))))),?_⟩
   repeat' (walk_at "rd1")
   refine iq (fun σ' H'=>H'=H/\∃now:Int,0<=now/\now<10^39/\σ'=[some (.ref l0),some (.int now),none,none,none,none,none,none,none,none,none,none,none,none,none,none,none,none]) ?_ ?_
   . repeat' (walk_at "rd1")
     all_goals exact⟨rfl,_,by omega,by omega,rfl⟩
   rintro σ' H' ⟨rfl,now,CO,mQ,rfl⟩
   repeat' (walk_at "rd1")
   generalize se:now+1+cell ns (Abk 1) % 40=st
   refine iq (fun σ' H1=>H1=H'/\∃sp:Int,1<=sp/\sp<=10^20/\σ'=[some (.ref l0),some (.int now),some (.int st),some (.int sp),none,none,none,none,none,none,none,none,none,none,none,none,none,none]) ?_ ?_
   . repeat' (walk_at "rd1")
     all_goals exact⟨rfl,_,by omega,by omega,rfl⟩
   rintro σ' H1 ⟨rfl,sp,hp0,Fh,rfl⟩
   repeat' (walk_at "rd1")
   rename_i a1 a2 a3 a4 a5 a6 hw0 jA
   generalize cell ns (Abk 3) % sp=wd at*
   refine iq (fun σ' H2=>H2=H1/\∃m:V,J3 m/\(∀M,m=.int M->M<100)/\σ'=[some (.ref l0),some (.int now),some (.int st),some (.int sp),some (.int wd),some m,none,none,none,none,none,none,none,none,none,none,none,none]) ?_ ?_
   . repeat' (walk_at "rd1")
     . exact⟨rfl,_,.inr ⟨_,rfl,by omega⟩,fun M e=>by injection e with e;omega,rfl⟩
     . exact⟨rfl,_,.inl rfl,fun M e=>(by cases e),rfl⟩
   rintro σ' H2 ⟨rfl,m,hom,hmb,rfl⟩
   repeat' (walk_at "rd1")
   have adU:=acq (cell ns (Abk 5) % 3000000007*61+0).toNat
   generalize MN (cell ns (Abk 5) % 3000000007*61+0).toNat=nm at*
   refine iq (fun σ' H3=>aA H2 H3/\∃rv:V,V5 H3 rv/\σ'=[some (.ref l0),some (.int now),some (.int st),some (.int sp),some (.int wd),some m,some (.str nm),some rv,none,none,none,none,none,none,none,none,none,none]) ?_ ?_
   . repeat' (walk_at "rd1")
     . rename_i b1 b2 b3 b4 b5 b6 b7 lr H3 s3 um ua
       exact⟨s3,.ref lr,.inr ⟨lr,[2+cell ns (Abk 5) / 2 % 59,2+cell ns (Abk 5) / 118 % 59],rfl,ua,LF rfl,LF rfl,fun r hr=>by simp only [AE,Pc,or_false] at hr;omega⟩,rfl⟩
     . exact⟨aA.refl _,_,.inl rfl,rfl⟩
   rintro σ' H3 ⟨s3,rv,Sg,rfl⟩
   have hS3:=aA.seq s3 hS
   clear hS s3
   obtain⟨c,c1,c2,c3,c4,c5⟩:∃c:iJ,c.n=nm/\c.st=st/\c.sp=sp/\c.wd=wd/\c.m=m:=⟨⟨nm,st,sp,wd,m⟩,rfl,rfl,rfl,rfl,rfl⟩
   subst c1 c3 c4 c5
   rw [<-c2] at se
   rw [<-c2]
   clear c2 st
   have ok:c.Ok:=⟨by omega,by omega,by omega,by omega,hw0,jA⟩
   have aea:now<c.st:=by omega
   repeat' (walk_at "rd1")
   refine SU [c.n] rfl Sg (by simp) (fun L H4 s4 enm hlw YB=>?_)
   have hi4:=YB.ins
   unfold bJ at hi4
   have hS4:=aA.seq s4 hS3
   repeat' (walk_at "rd1")
   . exact⟨_,_,_,_,rfl,by omega,by omega,by omega,by omega,hom⟩
   rename_i rvE H5 s5 hiE
   have hR:pQ a H5 rvE (.each c.st c.sp c.wd c.m):=⟨hiE,hom,by omega,by omega,by omega,by omega,by omega,by omega⟩
   have okA:v9 (k0 now) (sP (.each c.st c.sp c.wd c.m) 1 none false) (Lg (.each c.st c.sp c.wd c.m)).1 (Lg (.each c.st c.sp c.wd c.m)).2:=⟨rfl,rfl,Zs _,(by show(0:Int)<10^99;decide),(by show now+0<10^80;omega),(by show now+0 - (c.st+c.wd)<10^80;omega)⟩
   have hk5:=YB.keeps s5
   refine acM hk5 rfl (by rw [enm];simp) hR (by decide) okA (fun q6 H6 bA fr6 hn6 hq6 M3=>?_)
   have M3:cK a H6 {L with ad:=cU L.ad c.n bA} (ro (k0 now) c.n (sP c.ru 1 none false) (c.st+c.wd)):=M3
   rw [lay0 ok aea] at M3
   have hS6:iN K H6 l0 (ns.map V.int):=by
    rcases hS3 with h|h
    . have h3:H3 l0≠none:=by rcases h with h|⟨o,h⟩ <;>rw [h] <;>simp
      exact fr6.sql (fun z=>h3 (hlw _ (uS YB.al (s5 _) z))) (aA.seq s5 hS4)
    . exact .inr h
   have hp6:L.p=({L with ad:=cU L.ad c.n bA}:Lay).p:=rfl
   have aeX:({L with ad:=cU L.ad c.n bA}:Lay).nm=[c.n]:=enm
   rw [hp6]
   generalize ({L with ad:=cU L.ad c.n bA}:Lay)=L6 at*
   clear hk5 YB hi4 hS4 hS3 hlw fr6 hq6 hR okA hiE s5 s4 enm hp6 Sg
   repeat' (walk_at "rd1")
   rename_i ql H7 s7 hn7 hq7
   have hk7:=M3.keeps s7
   have no7:¬Lw H7 L6.wp ql:=M3.new hn7 s7
   generalize cell ns (Abk 6)=c6 at*
   generalize cell ns (Abk 7)=c7 at*
   obtain⟨xs7,ex7,dv7,_⟩:=id hq7
   have U7:xs7=[.int c6,.int c7]:=by
    cases dv7 with
    |cons g1 r1=>
     cases r1 with
     |cons g2 r2=>
      cases r2
      rw [g1.int_inv,g2.int_inv]
   subst U7
   have Y4:c.St (c.kA now 0) 0:=⟨Zs _,by unfold iJ.L iJ.F;omega,.inl ⟨rfl,fun M e=>by
    rcases hom with z|⟨j',z,z1⟩
    . rw [z] at e;cases e
    . rw [z] at e;cases e;omega,by show now<_;unfold iJ.L iJ.F;omega⟩⟩
   clear M3 hq7 hS6 dv7 hn7 s7 hn6
   refine forL (xs:=[.int c6,.int c7]) (.inl (.inl ex7)) (fun i σ' H'=>∃(z10 z11 z12 z13 z14 z15 U4 Vl:Option V) (k:KS) (no:Int),σ'=[some (.ref l0),some (.int k.now),some (.int c.st),some (.int c.sp),some (.int c.wd),some c.m,some (.str c.n),some rv,some (.ref L6.p),some (.int no),z10,z11,z12,z13,z14,z15,U4,Vl]/\cK a H' L6 k/\c.St k no/\(0<=k.now/\k.now<10^39+(i:Int)*10^22)/\no<=60*(i:Int)/\(H' ql=some (.lst [.int c6,.int c7])/\¬Lw H' L6.wp ql)) ⟨none,none,none,none,none,none,none,none,c.kA now 0,0,rfl,hk7,Y4,⟨CO,by show now<_;omega⟩,by omega,ex7,no7⟩ (fun i σ' H' _ h=>by obtain⟨_,_,_,_,_,_,_,_,_,_,_,_,_,_,_,e⟩:=h;exact .inl (.inl e.1)) ?_ ?_
   . rintro i x σ' H8 hx ⟨z10,z11,z12,z13,z14,z15,U4,Vl,k8,no,rfl,hk8,hs8,⟨aiH,hnw⟩,tQ,hl8,no8⟩
     obtain⟨Ho,cc,rfl⟩:i<2/\∃cc,x=.int cc:=by
      obtain⟨h1,h2|h2⟩:=V9 hx
      . exact⟨h1,_,h2⟩
      . exact⟨h1,_,h2⟩
     have hi8:=hk8.ins
     unfold bJ at hi8
     have R0:0<=cc / 64 % 14*c.sp:=Int.mul_nonneg (by omega) (by omega)
     have RL:cc / 64 % 14*c.sp<=13*10^20:=Int.mul_le_mul (by omega) (by omega) (by omega) (by decide)
     repeat' (walk_at "rd1")
     generalize QM:k8.now+cc / 64 % 14*c.sp+cc / 1024 % 50=to
     have ht:to<10^44:=by omega
     have abZ:k8.now<=to:=by omega
     refine⟨L6,k8,cc,to,fun k=>∃i,c.St k i,rfl,hk8,abZ,by rw [aeX];exact LF rfl,aaE ok ht,⟨no,hs8⟩,fun v H9 es k9 g hes fr9 hv9 hk9=>?_⟩
     obtain⟨he,XS,Vs,uY,hi3⟩:=adQ ok ht g no hs8 abZ
     repeat' (walk_at "rd1")
     refine(show ab9 _ _ _ _ _ _ _ from Bn hv9 (fun w1 w2 f1 f2=>?_))
     obtain rfl:=f1.int_inv
     repeat' (walk_at "rd1")
     rename_i qd H10 s10 afQ aeV
     have hb:=UT cc
     refine⟨Hw cc,rfl,by omega,by omega,?_⟩
     refine Mg (fun j σ' H'=>aA H9 H'/\∃(U4 Vl:Option V) (pre:List BB) (i' uJ:Int),σ'=[some (.ref l0),some (.int k8.now),some (.int c.st),some (.int c.sp),some (.int c.wd),some c.m,some (.str c.n),some rv,some (.ref L6.p),some (.int i'),some (.int cc),some (.int to),some (.int (Hw cc)),some w2,some (.ref qd),some (.int uJ),U4,Vl]/\eF H' qd pre/\pre.length<=3*j/\(0<=i'/\i'<=no+j)/\ZI c to (Hw cc).toNat no j pre i' uJ) ⟨s10,U4,Vl,[],no,to,rfl,aeV,BY _,⟨hs8.1,by omega⟩,fun _=>⟨rfl,by rw [List.nil_append,Nat.sub_zero]⟩,fun h=>by omega⟩ ?_ ?_
     . rintro j σ' H11 hj ⟨X4,U4,Vl,pre,i',uJ,rfl,Vg,uN,⟨Ug,adC⟩,hI⟩
       have agq:j<60:=by omega
       repeat' (walk_at "rd1")
       . rename_i hle
         refine .inl ⟨Ym hom,?_⟩
         repeat' (walk_at "rd1")
         . rename_i pk
           refine Yv hom (fun qn H12 s12 aj0 afz=>?_)
           have acw:=Vg.keeps s12
           have aac:eF H12 qn (EZ c i'):=afz
           have hln:(EZ c i').length<=3:=by unfold EZ;split <;>simp
           repeat' (walk_at "rd1")
           refine Bg acw aac (by omega) (fun H13 m13 abP=>?_)
           have s13:aA H9 H13:=Mv.J4 (X4.trans s12) m13 afQ
           have hI':=UM hI hj ⟨hle,fun e=>pk e.symm⟩
           repeat' (walk_at "rd1")
           . rename_i hjm
             rw [if_pos (by omega)] at hI'
             exact⟨s13,_,_,_,i'+1,c.L i',rfl,abP,by rw [Do];omega,⟨by omega,by omega⟩,hI'⟩
           . rename_i hjm
             rw [if_neg (by omega)] at hI'
             exact⟨s13,_,_,_,i'+1,uJ,rfl,abP,by rw [Do];omega,⟨by omega,by omega⟩,by rw [(hI.1 hj).1];exact hI'⟩
         . rename_i hb
           exact⟨X4,_,_,pre,i',uJ,rfl,Vg,by omega,⟨Ug,by omega⟩,Qg hI hj fun h=>h.2 hb.symm⟩
       . rename_i hb
         exact⟨X4,_,_,pre,i',uJ,rfl,Vg,by omega,⟨Ug,by omega⟩,Qg hI hj fun h=>hb h.1⟩
     . rintro σ' H11 ⟨X4,U4,Vl,pre,i',uJ,rfl,Vg,uN,⟨Ug,adC⟩,hI⟩
       have aa3:=hI.2 rfl
       rw [aa3] at he XS Vs uY hi3
       obtain⟨ce,cb0,cb1⟩:=P2 ok adU (to:=to) (by omega) (Hw cc).toNat no hs8.1
       rw [aa3] at ce cb0 cb1
       have he:es=pre:=he
       have XS:c.St k9 i':=XS
       have Vs:k9.now=uJ:=Vs
       subst he
       have f11:=f2.keeps X4
       have abv:=hk9.keeps X4
       have aee:=abv.ins
       unfold bJ at aee
       have adI:∀e∈es,Ent e:=fun e h=>by obtain⟨ps,h1,h2,_⟩:=ce e h;exact⟨ps,h1,h2⟩
       have ZN:Cw es:=S9 ce
       have abe:=fr9.step X4
       have aed:H11 ql=some (.lst [.int c6,.int c7]):=abe.kp ql _ hl8 (fun _ _=>no8) (by intro _ z;cases z) (by intro _ _ _ z;cases z)
       have ad9:=abe.off hl8 no8
       repeat' (walk_at "rd1")
       refine Tx f11 adI ?_
       repeat' (walk_at "rd1")
       refine aas f11 Vg.dv ZN ?_
       repeat' (walk_at "rd1")
       have cb0:0<=uJ:=cb0
       have cb1:uJ<=to:=cb1
       exact⟨_,_,_,_,_,_,_,_,k9,i',by rw [Vs];rfl,abv,XS,⟨by omega,by omega⟩,by omega,aed,ad9⟩
   . rintro σ' H8 ⟨z10,z11,z12,z13,z14,z15,U4,Vl,k8,no,rfl,_⟩
     repeat' (walk_at "rd1")
     exact q _
end
end My
open PySem PySem.W PyProof.Rows
local macro_rules|`(tactic|walk_at "k_dg")=>`(tactic|(refine' ⟨?a,⟨_,L2.Kt ?l ?c⟩,?k⟩;(case a=>k_is);(case l=>k_is);(case c=>k_is);(case k=>k_is)))
local macro_rules|`(tactic|walk_at "k_dm")=>`(tactic|(refine' ⟨?a,⟨_,L2.Kt ?l ?c⟩,?k,?i⟩;(case a=>k_is);(case l=>k_is);(case c=>k_is);(case k=>k_is);(case i=>k_is)))
local macro_rules|`(tactic|walk_at "k_dt")=>`(tactic|(refine' My.To ?l;(case l=>k_is)))
local macro_rules|`(tactic|walk_at "k_ck")=>`(tactic|(refine' ⟨?a,?b,?c,?d,?e,?f,?g⟩;(case a=>k_is);(case b=>k_is);(case c=>k_is);(case d=>k_is);(case e=>k_is);(case f=>k_is);(case g=>k_is)))
set_option maxRecDepth 100000 in
set_option maxHeartbeats 0 in
theorem PySem.Challenge.cw_wakefew_k52_one_bell_rings_holds : PySem.Challenge.rw_wakefew_k52_one_bell_rings.Holds := by
 refine Hd ?_
 k_fill
 refine L2.OG (l:=PySem.Challenge.rw_wakefew_k52_one_bell_rings) (n:=63) (k:=30) (x:="_law_script") (CX:=L2.eP) (sp:=My.Ou) rfl (by decide) rfl ⟨rfl,by decide,by decide⟩ (fun w h Y=>PySem.W.kIn_of Y) ?F ?S ?C
 case F=>
  intro w mg fa h KX G hmg
  have T:∃a:My.Ad,a.uX=a.uX/\My.Txt (L2.KOf KX) mg a:=by
   dsimp only [L2.KOf]
   refine' My.X5 KX G ?h0 ?h1 ?h2 ?h3 ?h4 ?h5 ?h6 ?h7 ?h8 ?h9 ?h12 ?h13 ?h14 ?h15 ?h16 ?h17 ?h18 ?h19 ?h21 ?h22 ?h23 ?h24 ?h25 ?h26 ?h27 ?h28 ?h29 ?h30 ?h31 ?h32 ?h33 ?h34 ?h35 ?h36 ?h37 ?h38 ?h39 ?h40 ?h41 ?h42 ?h43 ?h44 ?h45 ?h46 ?h47 ?h48 ?h49 ?h50 ?h51 ?h52 ?h54 ?h55 ?h56 ?h57 ?h58 ?h59 ?h60 ?h61 ?h62 ?h63 ?h64 ?h65 ?h66 ?h67 ?h68 ?h69 ?h70 ?h71 ?h72 ?h73 ?h74 ?h75 ?h76 ?h77 ?h78 ?h79 ?h80 ?h81 ?h82 ?h83 ?h84 ?h85 ?h86 ?h87 ?h88 ?h89 ?h90 ?h91 ?h92 ?h93 ?h94 ?h95 ?h96 ?h97 ?h98 ?h99 ?h100 ?h101 ?h102 ?h103 ?h104 ?h105 ?h106 ?h107 ?h108 ?h109 ?h113 ?h114 ?h115 ?h116 ?h117 ?h118 ?h119 ?h120 ?h121 ?h122 ?h123 ?h124 ?h125 ?h126 ?h127 ?h128 ?h129 ?h130 ?h131 ?h132 ?h133 ?h134 ?h135 ?h136 ?h137 ?h138 ?h139 ?h140 ?h141 ?h142 ?h143 ?h144 ?h145 ?h146 ?h150 ?h151 ?h152 ?h153 ?h154 ?h155 ?h156 ?h157 ?h158 ?h160 ?h161 ?h162 ?h163 ?h164 ?h165 ?h166 ?h167 ?h168 ?h169 ?h170 ?h174 ?h175 ?h176 ?h177 ?h178 ?h179 ?h180 ?h181 ?h182 ?h183 ?h184 ?h185 ?h186 ?h187 ?h191 ?h192 ?h193 ?h194 ?h195 ?h196 ?h199 ?h200 ?h201 ?h202 ?h203 ?h204 ?h205 ?h206 ?h207 ?h208 ?h209 ?h210 ?h211 ?h212 ?h213 ?h214 ?h215 ?h216 ?h217 ?h218 ?h219 ?h220 ?h221 ?h222
   (case h0=>k_is)
   (case h1=>k_is)
   (case h2=>k_is)
   (case h3=>k_is)
   (case h4=>k_is)
   (case h5=>k_is)
   (case h6=>k_is)
   (case h7=>k_is)
   (case h8=>k_is)
   (case h9=>k_is)
   (case h12=>walk_at "k_dm")
   (case h13=>walk_at "k_dm")
   (case h14=>walk_at "k_dm")
   (case h15=>walk_at "k_dm")
   (case h16=>walk_at "k_dm")
   (case h17=>walk_at "k_dm")
   (case h18=>walk_at "k_dm")
   (case h19=>walk_at "k_dm")
   (case h21=>walk_at "k_dm")
   (case h22=>walk_at "k_dm")
   (case h23=>walk_at "k_dt")
   (case h24=>walk_at "k_dm")
   (case h25=>walk_at "k_dm")
   (case h26=>walk_at "k_dm")
   (case h27=>walk_at "k_dm")
   (case h28=>walk_at "k_dm")
   (case h29=>walk_at "k_dm")
   (case h30=>walk_at "k_dm")
   (case h31=>walk_at "k_dm")
   (case h32=>walk_at "k_dm")
   (case h33=>walk_at "k_dg")
   (case h34=>walk_at "k_dg")
   (case h35=>walk_at "k_dg")
   (case h36=>walk_at "k_dg")
   (case h37=>walk_at "k_dm")
   (case h38=>walk_at "k_dm")
   (case h39=>walk_at "k_dm")
   (case h40=>walk_at "k_dm")
   (case h41=>walk_at "k_dm")
   (case h42=>walk_at "k_dm")
   (case h43=>walk_at "k_dm")
   (case h44=>walk_at "k_dm")
   (case h45=>walk_at "k_dt")
   (case h46=>walk_at "k_dm")
   (case h47=>walk_at "k_dm")
   (case h48=>walk_at "k_dm")
   (case h49=>walk_at "k_dm")
   (case h50=>walk_at "k_dm")
   (case h51=>walk_at "k_dm")
   (case h52=>walk_at "k_dm")
   (case h54=>walk_at "k_dm")
   (case h55=>walk_at "k_dm")
   (case h56=>walk_at "k_dm")
   (case h57=>walk_at "k_dm")
   (case h58=>walk_at "k_dm")
   (case h59=>walk_at "k_dm")
   (case h60=>walk_at "k_dm")
   (case h61=>walk_at "k_dm")
   (case h62=>walk_at "k_dm")
   (case h63=>walk_at "k_dm")
   (case h64=>walk_at "k_dm")
   (case h65=>walk_at "k_dg")
   (case h66=>walk_at "k_dm")
   (case h67=>walk_at "k_dt")
   (case h68=>walk_at "k_dm")
   (case h69=>walk_at "k_dt")
   (case h70=>walk_at "k_dm")
   (case h71=>walk_at "k_dt")
   (case h72=>walk_at "k_dm")
   (case h73=>walk_at "k_dm")
   (case h74=>walk_at "k_dm")
   (case h75=>walk_at "k_dg")
   (case h76=>walk_at "k_dg")
   (case h77=>walk_at "k_dm")
   (case h78=>walk_at "k_dm")
   (case h79=>walk_at "k_dm")
   (case h80=>walk_at "k_dt")
   (case h81=>walk_at "k_dm")
   (case h82=>walk_at "k_dm")
   (case h83=>walk_at "k_dm")
   (case h84=>walk_at "k_dm")
   (case h85=>walk_at "k_dm")
   (case h86=>walk_at "k_dg")
   (case h87=>walk_at "k_dg")
   (case h88=>walk_at "k_dg")
   (case h89=>walk_at "k_dg")
   (case h90=>walk_at "k_dg")
   (case h91=>walk_at "k_dg")
   (case h92=>walk_at "k_dg")
   (case h93=>walk_at "k_ck")
   (case h94=>k_is)
   (case h95=>k_is)
   (case h96=>k_is)
   (case h97=>k_is)
   (case h98=>k_is)
   (case h99=>k_is)
   (case h100=>k_is)
   (case h101=>k_is)
   (case h102=>k_is)
   (case h103=>k_is)
   (case h104=>k_is)
   (case h105=>walk_at "k_ck")
   (case h106=>k_is)
   (case h107=>k_is)
   (case h108=>k_is)
   (case h109=>k_is)
   (case h113=>walk_at "k_ck")
   (case h114=>k_is)
   (case h115=>k_is)
   (case h116=>k_is)
   (case h117=>k_is)
   (case h118=>k_is)
   (case h119=>k_is)
   (case h120=>k_is)
   (case h121=>k_is)
   (case h122=>k_is)
   (case h123=>k_is)
   (case h124=>k_is)
   (case h125=>walk_at "k_ck")
   (case h126=>k_is)
   (case h127=>k_is)
   (case h128=>k_is)
   (case h129=>k_is)
   (case h130=>k_is)
   (case h131=>k_is)
   (case h132=>k_is)
   (case h133=>walk_at "k_ck")
   (case h134=>k_is)
   (case h135=>k_is)
   (case h136=>k_is)
   (case h137=>k_is)
   (case h138=>k_is)
   (case h139=>k_is)
   (case h140=>k_is)
   (case h141=>k_is)
   (case h142=>k_is)
   (case h143=>k_is)
   (case h144=>k_is)
   (case h145=>k_is)
   (case h146=>k_is)
   (case h150=>walk_at "k_ck")
   (case h151=>k_is)
   (case h152=>k_is)
   (case h153=>k_is)
   (case h154=>k_is)
   (case h155=>k_is)
   (case h156=>k_is)
   (case h157=>k_is)
   (case h158=>k_is)
   (case h160=>k_is)
   (case h161=>k_is)
   (case h162=>k_is)
   (case h163=>k_is)
   (case h164=>k_is)
   (case h165=>k_is)
   (case h166=>k_is)
   (case h167=>k_is)
   (case h168=>k_is)
   (case h169=>k_is)
   (case h170=>k_is)
   (case h174=>walk_at "k_ck")
   (case h175=>k_is)
   (case h176=>k_is)
   (case h177=>k_is)
   (case h178=>k_is)
   (case h179=>k_is)
   (case h180=>k_is)
   (case h181=>k_is)
   (case h182=>decide)
   (case h183=>decide)
   (case h184=>decide)
   (case h185=>decide)
   (case h186=>decide)
   (case h187=>decide)
   (case h191=>decide)
   (case h192=>decide)
   (case h193=>decide)
   (case h194=>decide)
   (case h195=>decide)
   (case h196=>decide)
   (case h199=>k_is)
   (case h200=>k_is)
   (case h201=>k_is)
   (case h202=>k_is)
   (case h203=>k_is)
   (case h204=>k_is)
   (case h205=>k_is)
   (case h206=>k_is)
   (case h207=>k_is)
   (case h208=>k_is)
   (case h209=>k_is)
   (case h210=>k_is)
   (case h211=>k_is)
   (case h212=>k_is)
   (case h213=>k_is)
   (case h214=>k_is)
   (case h215=>k_is)
   (case h216=>k_is)
   (case h217=>k_is)
   (case h218=>k_is)
   (case h219=>k_is)
   (case h220=>k_is)
   (case h221=>k_is)
   (case h222=>k_is)
  obtain⟨a,_,T⟩:=T
  have e0:=hmg.symm.trans T.QU
  cases e0
  exact⟨a.EI,fun s u=>My.K0 T s u,fun base kb nb=>(My.Yd T).mono (by decide)⟩
 case S=>exact fun K H l ns hl hO hS=>⟨l,ns,rfl,hS,hl,fun _=>rfl⟩
 case C=>exact fun H s e s' h=>h
