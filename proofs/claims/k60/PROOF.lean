import PyProof.Rows.All
import Wide.All
import OpenK.KSplit
import OpenK.KNot
import OpenK.KApp
import KE.KPop
import KE.KListMore
import KE.RegKMod
import KE.KDictOf
import KE.KDictMeth
import KE.KEqSeq
import KE.KSlice
import KE.GnPush
import KE.KSorted
import KE.KJoinElse
import KE.RegTryLedger
import KE.KTops
import KE.RegKSuper
import KE.KSort
import KE.KDictLoop
import KE.RegLcTurns
import KE.RegLcAnyAll
import KE.KCat
import KE.KTemps
import KE.KTup
import KE.KxMul
import KE.KxSplit
import KE.KxIndex
import KE.KxText
import KE.KCells
import KE.KPassesOwn
import KE.RegKIsNot
import KE.KTempsTwo
import KE.KSetInts
import KE.KSortedL
import KE.KxBytes
import KE.KClos
import KE.KNestStore
import KE.KOwnIter
import KE.KStopIter
import KE.RegKBase
import KE.KDictOne
import KE.RegKMathG
import KE.KDictAny
import KE.RegKCallOwn
import KE.KSliceW
import KE.KxDecode
import KE.RegKMathGB
import KE.KLam
import KE.KDictBranch
import KE.KTree
import KE.KTreeB
import KE.KNestM
import KE.KDflt
import KE.KOwnIterCall
import KE.KSortedM
import KE.KTurns
import KE.KEqText
import KE.KxLen
import KE.RegKMathGC
import KE.KIsClose
import KE.KEqDict
import KE.KDisp
import KE.KDictAnyGet
import KE.KDictObj
import KE.KSetIn
import KE.KRevSl
import KE.KEqDeep
import KE.KAnyBase
import KE.KBoundM
import KE.KWhile
import KE.KRevIter
import KE.KCount
import KE.KTreeR
import KE.KxStill
import KE.KFinally
import KE.KTopLam
import KE.KWithOwn
import KE.KCases
import KE.KOpsOwn
import KE.KDictNew
import KE.KDictList
import KE.KDictIter
import KE.RegKUnpackStar
import KE.KSortAsk
import KE.KWhileD
import KE.KLcTest
import KE.KSumEnd
import KE.KPopAny
import KE.KGrown
import KE.KItemAt
import KE.KTextLit
import KE.KTupDict
import KE.KFmtOwn
import KE.KUnrMore
import KE.KMinKey
import KE.KTurnsDict
import KE.KExtendNil
import KE.KMethU
import KE.BytesMul
import KE.KCompFold
import KE.KDictSum
import KE.KDictName
import KE.KDictSym
import KE.KTurnsAny
import KE.KDictAnyTail
import KE.RegKStar
import KE.RegKParD
import KE.RegKTupTruth
import KE.RegKTupSum
import KE.KCallJoin
import KE.KMethJoin
import KE.KPathRangeEnd
import KE.KStateW
import KE.RegKParC
import KE.KxWritten
import KE.KxAdd
import KE.KxAffix
import KE.KxField
import KE.RegKIsAll
import KE.RegKMatchCls
import KE.KLcPair
import KE.RegKTryDeep
import KE.KJoinL
import KE.RegKNeg
import KE.KxPercentT
import KE.KBytesCut
import KE.KCellOne
import KE.KCompIf
import KE.KMenu
import KE.KxFormat
import KE.KTypeName
import KE.KCompText
import KE.BytesMulAny
import KE.KDictSymLen
import KE.KSortTup
import KE.KPairAssign
import KE.KTypeOf
import KE.KFinEnd
import KE.KMulAny
import KE.KBytesMenu
import KE.KTextDict
import KE.KPathShort
import KE.KSplitRange
import KE.KKinds
import KE.KxPart
import KE.KRangeItem
import KE.KDictLetter
import KE.KRangeNest
import KE.KSetAt
import KE.KWords
import KE.KxTruthy
import KE.KPairRows
import KE.KBytesMore
import KE.RegKStateDown
import KE.KItemsList
import KE.KRangePlain
import KE.KStateGiven
import KE.KBitsMul
import KE.KTextTable
import KE.KForList
import KE.KIdxIf
import KE.KAssignIn
import KE.KFirstTurn
import KE.KOwnRange
import KE.KLooksOwn
import KE.KDictWord
import KE.KStrOpen
import KE.KTurnsGround
import KE.KListEnd
import KE.KSearch
import KE.KFinFacts
import KE.RegKTryOn
import KE.KCenter
import KE.KStrWords
import KE.KStateTextK
import KE.KBools
import KE.KStateWGiven
import KE.KData
import KE.KCallTup
import KE.KTreeD
import KE.KTreeF
import KE.KEndWord
import KE.KStateBytes
import KE.KRangeEnd
import KE.KOf
import KE.KRepItem
import KE.KListLetter
import KE.KSliceSign
import KE.KCallBy
import KE.KToBytes
import KE.KPathText
import KE.KMinBuiltin
import KE.KFromBytes
import KE.KEqDat
import KE.KBytesUnr
import KE.KIsBytes
import KE.KCallRec
import KE.KEndW
import KE.RegLGe
import KE.RegLGeC
import Wide.FinOn
import Wide.FinOn
import Lean
import PyProof.EqAt
import PyProof.EqKinds
import PyProof.TupleCall
import PyProof.StrLawsRepr
import Open.Tops
import PySem.Challenge.RW_wakefew_k60_the_days_clock
theorem PySem.W.Fast.tw3933744386620080926 : True := trivial
theorem PySem.W.Fast.tw2623927778843870023 : True := trivial
theorem PySem.W.Fast.tw2618154128015014628 : True := trivial
theorem PySem.W.Fast.tw13633423006662073861 : True := trivial
theorem PySem.W.Fast.tw9619955936531087030 : True := trivial
theorem PySem.W.Fast.tw8195065742708390646 : True := trivial
theorem PySem.W.Fast.tw1280226203674103505 : True := trivial
theorem PySem.W.Fast.tw1900441842116426608 : True := trivial
theorem PySem.W.Fast.tw8536998726496360635 : True := trivial
theorem PySem.W.Fast.tw9577221689991544876 : True := trivial
theorem PySem.W.Fast.tw14162042446855129748 : True := trivial
theorem PySem.W.Fast.tw9854384245753414132 : True := trivial
theorem PySem.W.Fast.tw219238486271612305 : True := trivial
theorem PySem.W.Fast.tw2083378578840661171 : True := trivial
theorem PySem.W.Fast.tw389460512455375433 : True := trivial
theorem PySem.W.Fast.tw14894360031444770001 : True := trivial
theorem PySem.W.Fast.tw13194152482281430920 : True := trivial
theorem PySem.W.Fast.tw7244325951981790982 : True := trivial
theorem PySem.W.Fast.tw14828239808756397607 : True := trivial
theorem PySem.W.Fast.tw433449533723322577 : True := trivial
theorem PySem.W.Fast.tw12206040237674822780 : True := trivial
theorem PySem.W.Fast.tw7089085081154674473 : True := trivial
theorem PySem.W.Fast.tw8981379171909059516 : True := trivial
theorem PySem.W.Fast.tw4053840547174470956 : True := trivial
theorem PySem.W.Fast.tw17470960011608160548 : True := trivial
theorem PySem.W.Fast.tw5317702083494036362 : True := trivial
theorem PySem.W.Fast.tw982222388608359713 : True := trivial
theorem PySem.W.Fast.tw17803432684127973507 : True := trivial
theorem PySem.W.Fast.tw7366042042178159057 : True := trivial
theorem PySem.W.Fast.tw5384274166274354063 : True := trivial
theorem PySem.W.Fast.tw11805960559011504200 : True := trivial
theorem PySem.W.Fast.tw15717551191377990858 : True := trivial
theorem PySem.W.Fast.tw16950844257568816438 : True := trivial
theorem PySem.W.Fast.tw18419171657143160329 : True := trivial
theorem PySem.W.Fast.tw1856734806639475331 : True := trivial
theorem PySem.W.Fast.tw17740787836525544817 : True := trivial
theorem PySem.W.Fast.tw12581023948866842235 : True := trivial
theorem PySem.W.Fast.tw5811401377831331370 : True := trivial
theorem PySem.W.Fast.tw10127615276258628667 : True := trivial
theorem PySem.W.Fast.tw12472142256307527014 : True := trivial
theorem PySem.W.Fast.tw13089500736524491784 : True := trivial
theorem PySem.W.Fast.tw14892598091806800005 : True := trivial
theorem PySem.W.Fast.tw14866076559255397635 : True := trivial
theorem PySem.W.Fast.tw7737460710696549043 : True := trivial
theorem PySem.W.Fast.tw932839701382126404 : True := trivial
theorem PySem.W.Fast.tw3631656871647319896 : True := trivial
theorem PySem.W.Fast.tw387439790479957101 : True := trivial
theorem PySem.W.Fast.tw411060735618915507 : True := trivial
theorem PySem.W.Fast.tw1026304854190277863 : True := trivial
theorem PySem.W.Fast.tw11836878463227383507 : True := trivial
theorem PySem.W.Fast.tw14752555974476546100 : True := trivial
theorem PySem.W.Fast.tw1998264531772967934 : True := trivial
theorem PySem.W.Fast.tw1011409171088523512 : True := trivial
theorem PySem.W.Fast.tw10262347389639114986 : True := trivial
theorem PySem.W.Fast.tw9180884327369088417 : True := trivial
theorem PySem.W.Fast.tw1892951376047984078 : True := trivial
theorem PySem.W.Fast.tw212244500341540496 : True := trivial
theorem PySem.W.Fast.tw11482921538907906311 : True := trivial
theorem PySem.W.Fast.tw11914825063717489122 : True := trivial
theorem PySem.W.Fast.tw2294418403102800241 : True := trivial
theorem PySem.W.Fast.tw15059220801243882193 : True := trivial
theorem PySem.W.Fast.tw658113280966554574 : True := trivial
theorem PySem.W.Fast.tw1906427671069177679 : True := trivial
theorem PySem.W.Fast.tw14777347965798583670 : True := trivial
theorem PySem.W.Fast.tw5468161347355754247 : True := trivial
theorem PySem.W.Fast.tw6641742691332238137 : True := trivial
theorem PySem.W.Fast.tw12551175852434283984 : True := trivial
theorem PySem.W.Fast.tw12625478007034190409 : True := trivial
theorem PySem.W.Fast.tw8145289162921337578 : True := trivial
theorem PySem.W.Fast.tw9140779041739362165 : True := trivial
theorem PySem.W.Fast.tw119905698561759969 : True := trivial
theorem PySem.W.Fast.tw14407044084701244284 : True := trivial
theorem PySem.W.Fast.tw9891699520288416642 : True := trivial
theorem PySem.W.Fast.tw4218942361379391079 : True := trivial
theorem PySem.W.Fast.tw1351866352697404703 : True := trivial
theorem PySem.W.Fast.tw748149187538724641 : True := trivial
theorem PySem.W.Fast.tw10212470720385199361 : True := trivial
theorem PySem.W.Fast.tw7927560891241789511 : True := trivial
theorem PySem.W.Fast.tw39935864262516149 : True := trivial
theorem PySem.W.Fast.tw6847296339594378525 : True := trivial
theorem PySem.W.Fast.tw14347113003751706384 : True := trivial
theorem PySem.W.Fast.tw3156621366056172190 : True := trivial
theorem PySem.W.Fast.tw9021635154514321135 : True := trivial
theorem PySem.W.Fast.tw7581625409662590524 : True := trivial
theorem PySem.W.Fast.tw9721885262939799754 : True := trivial
theorem PySem.W.Fast.tw221576962549474724 : True := trivial
theorem PySem.W.Fast.tw17501279599382823539 : True := trivial
theorem PySem.W.Fast.tw1964642904833710869 : True := trivial
theorem PySem.W.Fast.tw267177056036454339 : True := trivial
theorem PySem.W.Fast.tw12990989066046625634 : True := trivial
theorem PySem.W.Fast.tw12107527867127949713 : True := trivial
theorem PySem.W.Fast.tw13925150339005124135 : True := trivial
theorem PySem.W.Fast.tw8438386595106806793 : True := trivial
theorem PySem.W.Fast.tw2913750833435349869 : True := trivial
theorem PySem.W.Fast.tw11179917383104445964 : True := trivial
theorem PySem.W.Fast.tw12071291858852918993 : True := trivial
theorem PySem.W.Fast.tw1307544393353837674 : True := trivial
theorem PySem.W.Fast.tw18235393099878211139 : True := trivial
theorem PySem.W.Fast.tw6968123214355550982 : True := trivial
theorem PySem.W.Fast.tw1244412774737423814 : True := trivial
theorem PySem.W.Fast.tw14291182948620310445 : True := trivial
theorem PySem.W.Fast.tw7347646299108533977 : True := trivial
theorem PySem.W.Fast.tw15173366979564246683 : True := trivial
theorem PySem.W.Fast.tw13125339067316032245 : True := trivial
theorem PySem.W.Fast.tw2822231583121631232 : True := trivial
theorem PySem.W.Fast.tw308353505034223219 : True := trivial
theorem PySem.W.Fast.tw14677231046333857634 : True := trivial
theorem PySem.W.Fast.tw4483134213735301797 : True := trivial
theorem PySem.W.Fast.tw12182310775543803801 : True := trivial
theorem PySem.W.Fast.tw13310439171616397214 : True := trivial
theorem PySem.W.Fast.tw9951632785380977516 : True := trivial
theorem PySem.W.Fast.tw330155496319486698 : True := trivial
theorem PySem.W.Fast.tw16485079249861435747 : True := trivial
theorem PySem.W.Fast.tw2878675010942456310 : True := trivial
theorem PySem.W.Fast.tw14099154032067854933 : True := trivial
theorem PySem.W.Fast.tw17032099095617713375 : True := trivial
theorem PySem.W.Fast.tw2794473791459032557 : True := trivial
theorem PySem.W.Fast.tw14253553031324457403 : True := trivial
theorem PySem.W.Fast.tw17786680949362927507 : True := trivial
theorem PySem.W.Fast.tw9061534103479078433 : True := trivial
theorem PySem.W.Fast.tw284906294303510122 : True := trivial
theorem PySem.W.Fast.tw4988139480266079192 : True := trivial
theorem PySem.W.Fast.tw14420234992866001998 : True := trivial
theorem PySem.W.Fast.tw16741903990676291244 : True := trivial
theorem PySem.W.Fast.tw8408432714672810687 : True := trivial
theorem PySem.W.Fast.tw712876453932975016 : True := trivial
theorem PySem.W.Fast.tw17889265433203076371 : True := trivial
theorem PySem.W.Fast.tw14981889246304208723 : True := trivial
theorem PySem.W.Fast.tw10409986649079015688 : True := trivial
theorem PySem.W.Fast.tw16093653414049546652 : True := trivial
theorem PySem.W.Fast.tw14947457668237752282 : True := trivial
theorem PySem.W.Fast.tw10533029409156384213 : True := trivial
theorem PySem.W.Fast.tw3242197841772289459 : True := trivial
theorem PySem.W.Fast.tw14111624326486854553 : True := trivial
theorem PySem.W.Fast.tw15897923850118637367 : True := trivial
theorem PySem.W.Fast.tw15081236047687262128 : True := trivial
theorem PySem.W.Fast.tw1366662211000280441 : True := trivial
theorem PySem.W.Fast.tw15199445844855730559 : True := trivial
theorem PySem.W.Fast.tw11856568351904390074 : True := trivial
theorem PySem.W.Fast.tw9540299111728397919 : True := trivial
theorem PySem.W.Fast.tw6019170903600864635 : True := trivial
theorem PySem.W.Fast.tw11012358312403900441 : True := trivial
theorem PySem.W.Fast.tw5944044104789604262 : True := trivial
theorem PySem.W.Fast.tw2560717606541366124 : True := trivial
theorem PySem.W.Fast.tw1526894229836929839 : True := trivial
theorem PySem.W.Fast.tw12171531488226641973 : True := trivial
theorem PySem.W.Fast.tw14448676985275196306 : True := trivial
theorem PySem.W.Fast.tw10861445820734739572 : True := trivial
theorem PySem.W.Fast.tw2564537010982801535 : True := trivial
theorem PySem.W.Fast.tw12975419666356380826 : True := trivial
theorem PySem.W.Fast.tw9594228919237993028 : True := trivial
theorem PySem.W.Fast.tw17043358873854988142 : True := trivial
theorem PySem.W.Fast.tw4462040801977109988 : True := trivial
theorem PySem.W.Fast.tw1833978884193336600 : True := trivial
theorem PySem.W.Fast.tw2076369439776739980 : True := trivial
theorem PySem.W.Fast.tw5683978775287113040 : True := trivial
theorem PySem.W.Fast.tw8791039300013004528 : True := trivial
theorem PySem.W.Fast.tw5557488513432386349 : True := trivial
theorem PySem.W.Fast.tw10530945154049078039 : True := trivial
theorem PySem.W.Fast.tw16249601066440288368 : True := trivial
theorem PySem.W.Fast.tw7207901180512256519 : True := trivial
theorem PySem.W.Fast.tw3599461420086565053 : True := trivial
theorem PySem.W.Fast.tw6476751086967210748 : True := trivial
theorem PySem.W.Fast.tw444445074729331875 : True := trivial
theorem PySem.W.Fast.tw4632030239678645568 : True := trivial
theorem PySem.W.Fast.tw7118287117881191995 : True := trivial
theorem PySem.W.Fast.tw7551268745164000144 : True := trivial
theorem PySem.W.Fast.tw17018168221887167637 : True := trivial
theorem PySem.W.Fast.tw8086441514836349272 : True := trivial
theorem PySem.W.Fast.tw17862835070871886679 : True := trivial
theorem PySem.W.Fast.tw4455027645276104111 : True := trivial
theorem PySem.W.Fast.tw1240304842524433879 : True := trivial
theorem PySem.W.Fast.tw9537990068813546550 : True := trivial
theorem PySem.W.Fast.tw2026872144773375673 : True := trivial
theorem PySem.W.Fast.tw3980051727153239036 : True := trivial
theorem PySem.W.Fast.tw9827238231941667573 : True := trivial
theorem PySem.W.Fast.tw4453004579427868663 : True := trivial
theorem PySem.W.Fast.tw15079852113623859005 : True := trivial
theorem PySem.W.Fast.tw6030172380048908837 : True := trivial
theorem PySem.W.Fast.tw753945940515399995 : True := trivial
theorem PySem.W.Fast.tw1050709158331754453 : True := trivial
theorem PySem.W.Fast.tw13554275593581921259 : True := trivial
theorem PySem.W.Fast.tw3596206658881992321 : True := trivial
theorem PySem.W.Fast.tw13400736202888357210 : True := trivial
theorem PySem.W.Fast.tw1977715418491230762 : True := trivial
theorem PySem.W.Fast.tw17585400959285250186 : True := trivial
theorem PySem.W.Fast.tw7317323291525427346 : True := trivial
theorem PySem.W.Fast.tw977691957141392938 : True := trivial
theorem PySem.W.Fast.tw3638351932773456767 : True := trivial
theorem PySem.W.Fast.tw14073119125109356423 : True := trivial
theorem PySem.W.Fast.tw2575711175096378128 : True := trivial
theorem PySem.W.Fast.tw17359472562608848581 : True := trivial
theorem PySem.W.Fast.tw10576397790562642116 : True := trivial
theorem PySem.W.Fast.tw5839811628954936531 : True := trivial
theorem PySem.W.Fast.tw10662273486947106557 : True := trivial
theorem PySem.W.Fast.tw13854082105827200728 : True := trivial
theorem PySem.W.Fast.tw17979580070261624384 : True := trivial
theorem PySem.W.Fast.tw4218860218786981117 : True := trivial
theorem PySem.W.Fast.tw11210968968318344332 : True := trivial
theorem PySem.W.Fast.tw476310757079433885 : True := trivial
theorem PySem.W.Fast.tw4975513086277178841 : True := trivial
theorem PySem.W.Fast.tw14305997105867401954 : True := trivial
theorem PySem.W.Fast.tw13584919163864943408 : True := trivial
theorem PySem.W.Fast.tw14179209121697479999 : True := trivial
theorem PySem.W.Fast.tw14548323457163451643 : True := trivial
theorem PySem.W.Fast.tw16678828470329988300 : True := trivial
theorem PySem.W.Fast.tw15338601281160584150 : True := trivial
theorem PySem.W.Fast.tw6327597946878223732 : True := trivial
theorem PySem.W.Fast.tw18281952040436542241 : True := trivial
theorem PySem.W.Fast.tw6880419655195569729 : True := trivial
theorem PySem.W.Fast.tw4115973798738251835 : True := trivial
theorem PySem.W.Fast.tw15816036160855742018 : True := trivial
theorem PySem.W.Fast.tw18149267477751133311 : True := trivial
theorem PySem.W.Fast.tw17793947221508411462 : True := trivial
theorem PySem.W.Fast.tw5920178813569880808 : True := trivial
theorem PySem.W.Fast.tw13205173867919175854 : True := trivial
theorem PySem.W.Fast.tw5946609750684043878 : True := trivial
theorem PySem.W.Fast.tw1268939047144981037 : True := trivial
theorem PySem.W.Fast.tw18078215364868786174 : True := trivial
theorem PySem.W.Fast.tw4458504747134125224 : True := trivial
theorem PySem.W.Fast.tw4918430437565292852 : True := trivial
theorem PySem.W.Fast.tw13320976621430207736 : True := trivial
theorem PySem.W.Fast.tw13644084408854798532 : True := trivial
theorem PySem.W.Fast.tw6287397193617334223 : True := trivial
theorem PySem.W.Fast.tw8416857220235465103 : True := trivial
theorem PySem.W.Fast.tw18315401575844057273 : True := trivial
theorem PySem.W.Fast.tw17439761879875034860 : True := trivial
theorem PySem.W.Fast.tw17259989155628416029 : True := trivial
theorem PySem.W.Fast.tw12026496865941077550 : True := trivial
theorem PySem.W.Fast.tw7318734959406586979 : True := trivial
theorem PySem.W.Fast.tw7025214513970256633 : True := trivial
theorem PySem.W.Fast.tw12936792751771396602 : True := trivial
theorem PySem.W.Fast.tw17846379764673683938 : True := trivial
theorem PySem.W.Fast.tw8064930512264004242 : True := trivial
theorem PySem.W.Fast.tw8933422723426177084 : True := trivial
theorem PySem.W.Fast.tw14735054849823357656 : True := trivial
theorem PySem.W.Fast.tw16632697889459769377 : True := trivial
theorem PySem.W.Fast.tw6241730879146411354 : True := trivial
theorem PySem.W.Fast.tw13051566134867211820 : True := trivial
theorem PySem.W.Fast.tw957670427503256309 : True := trivial
theorem PySem.W.Fast.tw15270067636181877322 : True := trivial
theorem PySem.W.Fast.tw3165596394817871080 : True := trivial
theorem PySem.W.Fast.tw7834668301975295240 : True := trivial
theorem PySem.W.Fast.tw11432329810077403914 : True := trivial
theorem PySem.W.Fast.tw14665838936543158005 : True := trivial
theorem PySem.W.Fast.tw6600281296786385625 : True := trivial
theorem PySem.W.Fast.tw13537824549585559560 : True := trivial
theorem PySem.W.Fast.tw1837639620418267082 : True := trivial
theorem PySem.W.Fast.tw809850839145068621 : True := trivial
theorem PySem.W.Fast.tw10554890785379117758 : True := trivial
theorem PySem.W.Fast.tw10690283753006864979 : True := trivial
theorem PySem.W.Fast.tw16962866602598701259 : True := trivial
theorem PySem.W.Fast.tw11782098921328135167 : True := trivial
theorem PySem.W.Fast.tw5033419791708155152 : True := trivial
theorem PySem.W.Fast.tw16114838954672009220 : True := trivial
theorem PySem.W.Fast.tw15008188029789985582 : True := trivial
theorem PySem.W.Fast.tw16199722058092477377 : True := trivial
theorem PySem.W.Fast.tw6666559043179924279 : True := trivial
theorem PySem.W.Fast.tw7608669079472480322 : True := trivial
theorem PySem.W.Fast.tw5665416448403834472 : True := trivial
theorem PySem.W.Fast.tw2220783733076799773 : True := trivial
theorem PySem.W.Fast.tw8063590797839305651 : True := trivial
theorem PySem.W.Fast.tw16961107188082410440 : True := trivial
theorem PySem.W.Fast.tw11674235701227890782 : True := trivial
theorem PySem.W.Fast.tw18147923885424373762 : True := trivial
theorem PySem.W.Fast.tw9939486631573497674 : True := trivial
theorem PySem.W.Fast.tw2032543033472252152 : True := trivial
theorem PySem.W.Fast.tw6357015326957433426 : True := trivial
theorem PySem.W.Fast.tw1008901440435212883 : True := trivial
theorem PySem.W.Fast.tw11876699462326849422 : True := trivial
theorem PySem.W.Fast.tw2251585011891715662 : True := trivial
theorem PySem.W.Fast.tw4049138910170047373 : True := trivial
theorem PySem.W.Fast.tw18059275656991184227 : True := trivial
theorem PySem.W.Fast.tw11705567410587722883 : True := trivial
theorem PySem.W.Fast.tw15590885761552719664 : True := trivial
theorem PySem.W.Fast.tw9846508814454223313 : True := trivial
theorem PySem.W.Fast.tw1760287710840159954 : True := trivial
theorem PySem.W.Fast.tw4830287607847617366 : True := trivial
theorem PySem.W.Fast.tw15272866178808001886 : True := trivial
theorem PySem.W.Fast.tw996080734821944116 : True := trivial
theorem PySem.W.Fast.tw3838214434959174751 : True := trivial
theorem PySem.W.Fast.tw5686558104948313441 : True := trivial
theorem PySem.W.Fast.tw8841975695866081122 : True := trivial
theorem PySem.W.Fast.tw11759177208546569213 : True := trivial
theorem PySem.W.Fast.tw2258556112107802059 : True := trivial
theorem PySem.W.Fast.tw14960208021732247765 : True := trivial
theorem PySem.W.Fast.tw15923199285539944563 : True := trivial
theorem PySem.W.Fast.tw14530403189748425150 : True := trivial
theorem PySem.W.Fast.tw17354428055625051372 : True := trivial
theorem PySem.W.Fast.tw7177849561239576040 : True := trivial
theorem PySem.W.Fast.tw4336994176156219960 : True := trivial
theorem PySem.W.Fast.tw1187882972062588736 : True := trivial
theorem PySem.W.Fast.tw8519818982611078126 : True := trivial
theorem PySem.W.Fast.tw16145758369855077985 : True := trivial
theorem PySem.W.Fast.tw15811669350086547624 : True := trivial
theorem PySem.W.Fast.tw14677348619474979451 : True := trivial
theorem PySem.W.Fast.tw10467446253169472007 : True := trivial
set_option Elab.async false in
set_option maxRecDepth 100000 in
set_option maxHeartbeats 0 in
open_shared Top for PySem.Challenge.pw_wakefew_k60_the_days_clock leaving 1
set_option Elab.async false in
set_option maxRecDepth 100000 in
set_option maxHeartbeats 0 in
open_top Hd for PySem.Challenge.rw_wakefew_k60_the_days_clock
set_option compiler.extract_closed false
set_option Elab.async false
set_option linter.all false
set_option maxRecDepth 100000
namespace L2
open PySem PySem.Spec PyProof.Rows
abbrev Key:=Sum Int Str
def FQ:Key->Value->Bool
 | .inl k,v=>Value.isInt k v
 | .inr x,v=>Value.isStrOf x v
def afz (w:World):Key->Int
 | .inl k=>hashInt k
 | .inr x=>hashStr w x
theorem cC:∀{k:Key} {v:Value},FQ k v=true->(∃i t,k=Sum.inl i/\v=Value.int i t)\/(∃x t,k=Sum.inr x/\v=Value.str x t)
 | .inl i,v,h=>by
   obtain⟨t,e⟩:=Value.isInt_shape (k:=i) (v:=v) h
   exact .inl ⟨i,t,rfl,e⟩
 | .inr x,v,h=>by
   obtain⟨t,e⟩:=Value.isStrOf_shape (x:=x) (v:=v) h
   exact .inr ⟨x,t,rfl,e⟩
theorem P0 (i:Int) (t:Tok):FQ (.inl i) (.int i t)=true:=by simp [FQ,Value.isInt]
theorem Od (x:Str) (t:Tok):FQ (.inr x) (.str x t)=true:=by simp [FQ,Value.isStrOf]
theorem ZA (a b:Int):decide ((Sum.inl a:Key)=Sum.inl b)=(a==b):=by
 by_cases e:a=b
 . subst e;simp
 . have h:¬(Sum.inl a:Key)=Sum.inl b:=fun q=>e (Sum.inl.inj q)
   rw [decide_eq_false h]
   exact(beq_eq_false_iff_ne.mpr e).symm
theorem ZH (a b:Str):decide ((Sum.inr a:Key)=Sum.inr b)=decide (a=b):=by
 by_cases e:a=b
 . subst e;simp
 . have h:¬(Sum.inr a:Key)=Sum.inr b:=fun q=>e (Sum.inr.inj q)
   rw [decide_eq_false h,decide_eq_false e]
theorem ZE (a:Int) (b:Str):decide ((Sum.inl a:Key)=Sum.inr b)=false:=decide_eq_false (fun q=>nomatch q)
theorem Yo (a:Str) (b:Int):decide ((Sum.inr a:Key)=Sum.inl b)=false:=decide_eq_false (fun q=>nomatch q)
def aX (prog:Program) (w:World):PySem.KeyKind prog w Key where
 is:=FQ
 hash:=afz w
 inj:=fun v a b ha hb=>by
  rcases cC ha with⟨i,t,rfl,rfl⟩|⟨x,t,rfl,rfl⟩
  . rcases cC hb with⟨j,u,rfl,e⟩|⟨y,u,rfl,e⟩
    . injection e with e1 _;rw [e1]
    . exact nomatch e
  . rcases cC hb with⟨j,u,rfl,e⟩|⟨y,u,rfl,e⟩
    . exact nomatch e
    . injection e with e1 _;rw [e1]
 byValue:=fun k v h=>by
  rcases cC h with⟨i,t,rfl,rfl⟩|⟨x,t,rfl,rfl⟩ <;>rfl
 pyHash:=fun hv h=>by
  rcases cC hv with⟨i,t,rfl,rfl⟩|⟨x,t,rfl,rfl⟩
  . exact wpAny_pyHash_int h
  . exact wpAny_pyHash_str h
 eqBool:=fun hu hv h=>by
  rcases cC hu with⟨i,t,rfl,rfl⟩|⟨x,t,rfl,rfl⟩
  . rcases cC hv with⟨j,u,rfl,rfl⟩|⟨y,u,rfl,rfl⟩
    . rw [ZA] at h;exact wpAny_eqBool_int h
    . rw [ZE] at h;exact SeqAt.EqAt.int_str i t y u _ _ _ _ h
  . rcases cC hv with⟨j,u,rfl,rfl⟩|⟨y,u,rfl,rfl⟩
    . rw [Yo] at h;exact SeqAt.EqAt.str_int x t j u _ _ _ _ h
    . rw [ZH] at h;exact wpAny_eqBool_str h
 «strs»:=fun k x t v h=>by
  rcases cC h with⟨i,u,rfl,e⟩|⟨y,u,rfl,e⟩
  . exact nomatch e
  . injection e with e1 _
    subst e1
    cases v <;>rfl
theorem Ko (prog:Program) (w:World) (i:Int) (t:Tok):(aX prog w).is (.inl i) (.int i t)=true:=P0 i t
theorem J5 (prog:Program) (w:World) (x:Str) (t:Tok):(aX prog w).is (.inr x) (.str x t)=true:=Od x t
inductive V where
 |aQ|bl (b:Bool)|int (i:Int)|str (x:Str)|NY (b:Array UInt8)|ZJ (b:UInt64)|ref (a:Addr)|ty (n:String)
 deriving DecidableEq
def RelV:V->Value->Prop
 | .aQ,u=>u=Value.none
 | .bl b,u=>u=Value.bool b
 | .int i,u=>∃t,u=Value.int i t
 | .str x,u=>∃t,u=Value.str x t
 | .NY b,u=>∃t,u=Value.bytes b t
 | .ZJ b,u=>∃t,u=Value.float b t
 | .ref a,u=>u=Value.ref a
 | .ty n,u=>u=Value.type n
abbrev Vals:List V->List Value->Prop:=Paired RelV
theorem Vals.length {xs:List V} {us:List Value} (r:Vals xs us):xs.length=us.length:=Paired.length r
theorem Vals.get:∀{xs:List V} {us:List Value} {i:Nat} {x:V},Vals xs us->xs[i]? =some x->∃u,us[i]? =some u/\RelV x u
 |_,_,_,_,.nil,e=>by simp at e
 |_,_,0,_,.cons r _,e=>by simp at e;subst e;exact⟨_,rfl,r⟩
 |_,_,i+1,x,.cons _ t,e=>by
  obtain⟨u,h1,h2⟩:=Vals.get (i:=i) (x:=x) t (by simpa using e)
  exact⟨u,by simpa using h1,h2⟩
theorem Vals.set {x:V} {u:Value} (r:RelV x u):∀{xs:List V} {us:List Value} (i:Nat),Vals xs us->Vals (xs.set i x) (us.set i u)
 |_,_,_,.nil=>.nil
 |_,_,0,.cons _ t=>.cons r t
 |_,_,i+1,.cons q t=>.cons q (Vals.set r i t)
theorem Vals.append:∀{xs ys:List V} {us ws:List Value},Vals xs us->Vals ys ws->Vals (xs++ys) (us++ws)
 |_,_,_,_,.nil,s=>s
 |_,_,_,_,.cons r t,s=>.cons r (Vals.append t s)
def qJ:Option V->Option Value->Prop
 |some v,some u=>RelV v u
 |none,none=>True
 |_,_=>False
def KV {κ:Type}:List (κ × V)->List (κ × Value)->Prop:=Paired fun(p:κ × V) (q:κ × Value)=>p.1=q.1/\RelV p.2 q.2
def kV:Key->V
 | .inl i=>.int i
 | .inr x=>.str x
inductive HO where
 |lst (xs:List V)
 |tup (xs:List V)
 |dK (kvs:List (Key × V))|dT (kvs:List (List Key × V))
 |set (S:Int->Bool) (n:Nat)
 |ins (C dx:Addr) (fs:List (Str × V))
 |own (x:Addr)
 |xd (fs:List (Str × V))
 |met (f x:Addr)
 |rng (lo hi:Int)
 |wK (o:Obj) (u:HO)
 |Zf (ps:Array Value)
 |ext (φ:Heap->Prop)
abbrev Hp:=Addr->Option HO
def upd (H:Hp) (a:Addr) (o:HO):Hp:=fun b=>if b=a then some o else H b
theorem ao {H:Hp} {a:Addr} {o:HO}:upd H a o a=some o:=by unfold upd;rw [if_pos rfl]
theorem ay {H:Hp} {a b:Addr} {o:HO} (h:b≠a):upd H a o b=H b:=by unfold upd;rw [if_neg h]
theorem jZ {H:Hp} {a:Addr} {o u:HO}:upd (upd H a o) a u=upd H a u:=by
 funext b;unfold upd;split <;>rfl
theorem lj {H:Hp} {a b:Addr} {o u:HO} (h:H a=some o) (h':H b=some u) (d:o≠u):a≠b:=by
 intro e;subst e;rw [h] at h';exact d (Option.some.inj h')
theorem aA {H:Hp} {a b:Addr} {o:HO} (h:H a=some o) (h':H b=none):a≠b:=by
 intro e;subst e;rw [h] at h';cases h'
section
variable (P:Program) (w:World)
def c5 (H:Hp) (h:Heap) (a:Addr):HO->Prop
 | .lst xs=>xs.length<=sizeLine/\∃(a8:List Value) (n:Nat),Vals xs a8/\h.get? a=some {cls:=.type "list",data:=.seq a8.toArray n}
 | .tup xs=>xs.length<=sizeLine/\∃a8:List Value,Vals xs a8/\IsTup h a a8.toArray
 | .dK kvs=>kvs.length<=sizeLine/\(a==sysModules)=false/\∃vs,KV kvs vs/\h.DictOf (aX P w) a vs
 | .dT kvs=>kvs.length<=sizeLine/\(a==sysModules)=false/\∃xs:List (List Key × Addr × Value),
  Paired (fun(p:List Key × V) (q:List Key × Addr × Value)=>p.1=q.1/\H q.2.1=some (.tup (p.1.map kV))/\RelV p.2 q.2.2) kvs xs/\
  ∃o es ep,h.get? a=some o/\o.ExactDict/\o.data=.dict es ep/\es.toList=xs.map (entryOfKey (tupleKind (aX P w)))/\(xs.map (·.1)).Nodup
 | .set S n=>h.SetOf (intKind P w) a S n
 | .ins C dx fs=>H dx=some (.own a)/\fs.length<=1000/\dx≠a/\h.get? a=some (PySem.W.instObj C dx)/\
  ∃mA,h.Ns1 dx mA/\(∀f,qJ (fs.lookup f) (mA f))/\PySem.Within mA (fs.map (·.1))
 | .own _=>∃o,h.get? a=some o
 | .xd fs=>∃mA,h.Ns1 a mA/\∀f,qJ (fs.lookup f) (mA f)
 | .rng lo hi=>∃t u v,h.get? a=some {cls:=.type "range",data:=.fields #[.int lo t,.int hi u,.int 1 v]}
 | .wK o u=>h.get? a=some o/\c5 H h a u
 | .Zf ps=>h.get? a=some {cls:=.none,data:=.fields ps}
 | .met f x=>h.get? a=some (PySem.W.methodObj (.ref f) (.ref x))
 | .ext φ=>φ h/\(∃o,h.get? a=some o)/\∀h1 h2:Heap,φ h1->(∀o,h1.get? a=some o->h2.get? a=some o)->φ h2
def rJ (H:Hp) (h:Heap):Prop:=∀a o,H a=some o->c5 P w H h a o
end
section
variable {P:Program} {w:World} {H H':Hp} {h h':Heap} {a:Addr} {o:HO}
theorem c5.lt (x:c5 P w H h a o):a<h.objs.size:=by
 cases o with
 |lst xs=>obtain⟨_,_,_,_,e⟩:=x;exact Heap.lt_size e
 |tup xs=>obtain⟨_,_,_,p⟩:=x;exact p.lt
 |dK kvs=>obtain⟨_,_,_,_,o,_,_,e,_⟩:=x;exact Heap.lt_size e
 |dT kvs=>obtain⟨_,_,_,_,o,_,_,e,_⟩:=x;exact Heap.lt_size e
 |set S n=>obtain⟨o,_,_,_,e,_⟩:=x;exact Heap.lt_size e
 |ins C dx fs=>obtain⟨_,_,_,e,_⟩:=x;exact Heap.lt_size e
 |own y=>obtain⟨_,e⟩:=x;exact Heap.lt_size e
 |xd fs=>obtain⟨_,⟨_,_,_,e,_⟩,_⟩:=x;exact Heap.lt_size e
 |rng lo hi=>obtain⟨_,_,_,e⟩:=x;exact Heap.lt_size e
 |wK ob u=>obtain⟨e,_⟩:=x;exact Heap.lt_size e
 |Zf ps=>exact Heap.lt_size (show h.get? a=some _ from x)
 |met f y=>exact Heap.lt_size (show h.get? a=some _ from x)
 |ext φ=>obtain⟨_,⟨_,e⟩,_⟩:=x;exact Heap.lt_size e
theorem Paired.ZZ {α β:Type} {F G:α->β->Prop}:∀{l₁:List α} {l₂:List β},Paired F l₁ l₂->(∀a b,F a b->G a b)->Paired G l₁ l₂
 |_,_,.nil,_=>.nil
 |_,_,.cons r t,f=>.cons (f _ _ r) (Paired.ZZ t f)
theorem c5.Jh (x:c5 P w H h a o) (k:∀b u,(b=a\/H b=some (.own a))->h.get? b=some u->h'.get? b=some u)
 (ho:∀b,H b=some (.own a)->H' b=some (.own a)) (ht:∀b xs,H b=some (.tup xs)->H' b=some (.tup xs)):c5 P w H' h' a o:=by
 induction o with
 |lst xs=>obtain⟨z,a8,n,r,e⟩:=x;exact⟨z,a8,n,r,k _ _ (.inl rfl) e⟩
 |tup xs=>obtain⟨z,a8,r,ob,e,c⟩:=x;exact⟨z,a8,r,ob,k _ _ (.inl rfl) e,c⟩
 |dK kvs=>obtain⟨z,y,vs,r,ob,es,ep,e,c⟩:=x;exact⟨z,y,vs,r,ob,es,ep,k _ _ (.inl rfl) e,c⟩
 |dT kvs=>
  obtain⟨z,y,xs,r,ob,es,ep,e,c⟩:=x
  exact⟨z,y,xs,Paired.ZZ r fun p q z=>⟨z.1,ht _ _ z.2.1,z.2.2⟩,ob,es,ep,k _ _ (.inl rfl) e,c⟩
 |set S n=>obtain⟨ob,es,ep,t,e,c⟩:=x;exact⟨ob,es,ep,t,k _ _ (.inl rfl) e,c⟩
 |ins C dx fs=>
  obtain⟨d,z,ne,e,mA,⟨od,es,ep,e2,c⟩,r⟩:=x
  exact⟨ho _ d,z,ne,k _ _ (.inl rfl) e,mA,⟨od,es,ep,k _ _ (.inr d) e2,c⟩,r⟩
 |own y=>obtain⟨ob,e⟩:=x;exact⟨ob,k _ _ (.inl rfl) e⟩
 |xd fs=>obtain⟨mA,⟨od,es,ep,e,c⟩,r⟩:=x;exact⟨mA,⟨od,es,ep,k _ _ (.inl rfl) e,c⟩,r⟩
 |rng lo hi=>obtain⟨t,u,v,e⟩:=x;exact⟨t,u,v,k _ _ (.inl rfl) e⟩
 |wK ob u ih=>obtain⟨e,q⟩:=x;exact⟨k _ _ (.inl rfl) e,ih q⟩
 |Zf ps=>
  have e:h.get? a=some {cls:=.none,data:=.fields ps}:=x
  show h'.get? a=some {cls:=.none,data:=.fields ps}
  exact k a _ (.inl rfl) e
 |met f y=>
  have e:h.get? a=some (PySem.W.methodObj (.ref f) (.ref y)):=x
  show h'.get? a=some (PySem.W.methodObj (.ref f) (.ref y))
  exact k a _ (.inl rfl) e
 |ext φ=>obtain⟨p,⟨o,e⟩,st⟩:=x;exact⟨st _ _ p fun o q=>k _ _ (.inl rfl) q,⟨o,k _ _ (.inl rfl) e⟩,st⟩
theorem rJ.lt (x:rJ P w H h) (e:H a=some o):a<h.objs.size:=(x a o e).lt
theorem rJ.fresh (x:rJ P w H h) (e:h.objs.size<=a):H a=none:=by
 cases q:H a with
 |none=>rfl
 |some u=>exact absurd (Nat.lt_of_lt_of_le (x.lt q) e) (Nat.lt_irrefl _)
theorem rJ.kept (x:rJ P w H h) (k:∀b u,h.get? b=some u->h'.get? b=some u):rJ P w H h':=fun a o e=>
 (x a o e).Jh (fun b u _ q=>k b u q) (fun _ q=>q) fun _ _ q=>q
theorem rJ.laid (x:rJ P w H h) (k:∀b u,h.get? b=some u->h'.get? b=some u) (hp:h.objs.size<=a) (new:c5 P w (upd H a o) h' a o):rJ P w (upd H a o) h':=fun b u e=>by
 have hn:=x.fresh hp
 by_cases hb:b=a
 . subst hb;rw [ao] at e;cases e;exact new
 . rw [ay hb] at e
   exact(x b u e).Jh (fun c v _ q=>k c v q) (fun c q=>by rw [ay (aA q hn)];exact q) fun c xs q=>by rw [ay (aA q hn)];exact q
end
def Rd (H:Hp) (a:Addr) (u:HO):Prop:=H a=some u\/∃o,H a=some (.wK o u)
theorem Rd.of {H:Hp} {a:Addr} {u:HO} (h:H a=some u):Rd H a u:=.inl h
theorem Rd.ok {P:Program} {w:World} {H:Hp} {h:Heap} {a:Addr} {u:HO} (r:Rd H a u) (x:rJ P w H h):c5 P w H h a u:=by
 rcases r with r|⟨o,r⟩
 . exact x a u r
 . obtain⟨_,q⟩:=x a _ r
   exact q
def Mut:Option HO->Prop
 |some (.lst _)=>True
 |some (.dK _)=>True
 |some (.dT _)=>True
 |some (.set _ _)=>True
 |some (.ins _ _ _)=>True
 |some (.ext _)=>True
 |_=>False
section
variable {P:Program} {w:World} {H:Hp} {h h':Heap} {x e:Addr} {o':HO}
theorem rJ.write (ok:rJ P w H h) (mu:Mut (H x)) (he:e=x\/H e=some (.own x)) (k:∀b u,b≠e->h.get? b=some u->h'.get? b=some u) (heo:∃u,h'.get? e=some u)
 (new:c5 P w (upd H x o') h' x o'):rJ P w (upd H x o') h':=fun b u q=>by
 have aaK:∀c y,H c=some (.own y)->c≠x:=fun c y r z=>by subst z;rw [r] at mu;exact mu
 have afw:∀c xs,H c=some (.tup xs)->c≠x:=fun c xs r z=>by subst z;rw [r] at mu;exact mu
 by_cases hb:b=x
 . subst hb;rw [ao] at q;cases q;exact new
 . rw [ay hb] at q
   by_cases Zz:b=e
   . have q':H b=some (.own x):=by
      rcases he with z|z
      . exact absurd (Zz.trans z) hb
      . rw [Zz];exact z
     rw [q] at q';cases q'
     obtain⟨v,hv⟩:=heo
     exact⟨v,by rw [Zz];exact hv⟩
   . refine(ok b u q).Jh (fun c v hc r=>k c v ?_ r) (fun c r=>by rw [ay (aaK c b r)];exact r) fun c xs r=>by rw [ay (afw c xs r)];exact r
     rcases hc with rfl|hc
     . exact Zz
     . rintro rfl
       rcases he with z|z
       . exact aaK c b hc z
       . rw [hc] at z;cases z;exact hb rfl
end
structure Un (fs ex:List Addr) (H H':Hp) (h h':Heap):Prop where
 keep:∀b o,h.get? b=some o->H b=none->b∉fs->b∉ex->h'.get? b=some o
 slot:∀b o,h.get? b=some o->H b=none->b∈fs->b∉ex->∃sl,h'.get? b=some {o with slots:=sl}
 free:∀b o,h.get? b=some o->H b=none->b∉ex->H' b=none
 there:∀b o,h.get? b=some o->b∉ex->∃o',h'.get? b=some o'
 Cy:∀b xs,H b=some (.tup xs)->H' b=some (.tup xs)
 yk:∀b o u,H b=some (.wK o u)->H' b=some (.wK o u)
 E4:∀b ps,H b=some (.Zf ps)->∃more,H' b=some (.Zf (ps++more))
section
variable {fs fs' ex ex':List Addr} {H H1 H2:Hp} {h h1 h2 h':Heap} {a x e:Addr} {o:HO}
theorem Un.any (u:Un fs ex H H1 h h1) {b:Addr} {ob:Obj} (q:h.get? b=some ob) (n:H b=none) (hx:b∉ex):∃sl,h1.get? b=some {ob with slots:=sl}:=by
 by_cases hb:b∈fs
 . exact u.slot b ob q n hb hx
 . exact⟨ob.slots,u.keep b ob q n hb hx⟩
theorem Un.kept (k:∀b u,h.get? b=some u->h'.get? b=some u):Un fs ex H H h h':=
 ⟨fun b ob q _ _ _=>k b ob q,fun b ob q _ _ _=>⟨ob.slots,k b ob q⟩,fun _ _ _ n _=>n,fun b ob q _=>⟨ob,k b ob q⟩,fun _ _ q=>q,fun _ _ _ q=>q,fun _ ps q=>⟨#[],by rw [q];simp⟩⟩
theorem Un.refl:Un fs ex H H h h:=Un.kept fun _ _ q=>q
theorem Un.laid (k:∀b u,h.get? b=some u->h'.get? b=some u) (hp:h.objs.size<=a) (hn:H a=none):Un fs ex H (upd H a o) h h' where
 keep:=fun b u q _ _ _=>k b u q
 slot:=fun b u q _ _ _=>⟨u.slots,k b u q⟩
 free:=fun b u q n _=>by rw [ay (Nat.ne_of_lt (Nat.lt_of_lt_of_le (Heap.lt_size q) hp))];exact n
 there:=fun b u q _=>⟨u,k b u q⟩
 Cy:=fun b xs q=>by rw [ay (aA q hn)];exact q
 yk:=fun b u xs q=>by rw [ay (aA q hn)];exact q
 E4:=fun b ps q=>⟨#[],by rw [ay (aA q hn),q];simp⟩
theorem Un.write (mu:Mut (H x)) (he:e=x\/H e=some (.own x)) (k:∀b u,b≠e->h.get? b=some u->h'.get? b=some u) (heo:∃u,h'.get? e=some u):Un fs ex H (upd H x o) h h':=by
 have hx:∀b,H b=none->b≠x:=fun b n z=>by subst z;rw [n] at mu;exact mu
 have hb:∀b,H b=none->b≠e:=fun b n z=>by
  subst z
  rcases he with r|r
  . exact hx b n r
  . rw [n] at r;cases r
 have hm:∀b u,H b=some u->¬Mut (some u)->b≠x:=fun b u q nm z=>by subst z;rw [q] at mu;exact nm mu
 refine⟨fun b u q n _ _=>k b u (hb b n) q,fun b u q n _ _=>⟨u.slots,k b u (hb b n) q⟩,fun b u q n _=>by rw [ay (hx b n)];exact n,fun b u q _=>?_,
  fun b xs q=>by rw [ay (hm b _ q fun z=>z)];exact q,fun b u xs q=>by rw [ay (hm b _ q fun z=>z)];exact q,fun b ps q=>⟨#[],by rw [ay (hm b _ q fun z=>z),q];simp⟩⟩
 by_cases Zz:b=e
 . subst Zz;exact heo
 . exact⟨u,k b u Zz q⟩
end
def trk (h:Heap) (H:Hp):List Addr:=(List.range h.objs.size).filter fun a=>(H a).isSome
def II (h:Heap) (H:Hp):Heap:=PySem.W.hideAll h (trk h H)
theorem Qf (h:Heap) (H:Hp):(II h H).objs.size=h.objs.size:=PySem.W.hideAll_size _ _
theorem RK {h:Heap} {H:Hp} {b:Addr} {o:Obj} (e:h.get? b=some o) (n:H b=none):(II h H).get? b=some o:=
 PySem.W.hideAll_get _ e fun hm=>by
  have q:(H b).isSome=true:=(List.mem_filter.mp hm).2
  rw [n] at q;simp at q
theorem UY {h:Heap} {H:Hp} {b:Addr} {o:Obj} (e:(II h H).get? b=some o):h.get? b=some o/\H b=none:=by
 have e':h.get? b=some o:=PySem.W.of_hideAll (trk h H) e
 refine⟨e',?_⟩
 cases q:H b with
 |none=>rfl
 |some x=>
  have hm:b∈trk h H:=List.mem_filter.mpr ⟨List.mem_range.mpr (Heap.lt_size e'),by simp [q]⟩
  have z:(II h H).get? b=none:=PySem.W.hideAll_none (trk h H) hm
  rw [z] at e;cases e
def UH (g h:Heap) (L:Addr):List (Addr × Obj):=(List.range h.objs.size).filterMap fun a=>if a=L\/(g.get? a).isSome=true then none else (h.get? a).map fun o=>(a,o)
def rest (g h:Heap) (L d:Addr):List (Addr × Obj):=(UH g h L).filter fun p=>decide (p.1≠d)
structure Mod (K:PySem.W.Frag) (mg:Str->Option Value) (base:Heap):Prop where
 kin:K.In base
 glob:base.Ns mainGlobals mg
 blt:∃mb,base.Ns builtinsNs mb/\∀x:Str,x≠"__name__"->mb x=bootBuiltins x
 nolimit:base.NoLimit
structure Cx where
 prog:Program
 w:World
 K:PySem.W.Frag
 mg:Str->Option Value
 base:Heap
 A:Around
 N:List Str
 ig:Shared
 Mx:Hp
 env:Env
 outer:List Env
 stack:List Env
 ex:List Addr
 fn:Str->Bool
 calm:Bool
 pn:List (Addr × Obj)
 xe:Value->Shared->Prop
def Kd (l:List Env):List Addr:=l.filterMap (·.frame)
abbrev Cx.fs (X:Cx):List Addr:=Kd X.outer
def Vis (sc:Scope) (x:Str):Prop:=sc.names.lookup x=some .local\/sc.names.lookup x=some .cell\/sc.names.lookup x=some .free
def Loc (sc:Scope) (x:Str):Prop:=sc.names.lookup x=some .local\/sc.names.lookup x=some .cell
def Look (env:Env) (h:Heap) (m:Str->Option Value) (x:Str) (u:Value):Prop:=
 (env.kindOf x=some .local/\m x=some u)\/((env.kindOf x=some .cell\/env.kindOf x=some .free)/\∃c,env.cells.lookup x=some c/\h.IsCell c (some u))
structure Cx.Ok (X:Cx):Prop where
 mod:Mod X.K X.mg X.base
 kind:X.env.scope.kind=.function
 glob:X.env.globals=mainGlobals
 blt:X.env.builtins=builtinsNs
 above:X.ig.heap.objs.size<=X.env.locals
 inj:∀x y c,X.env.cells.lookup x=some c->X.env.cells.lookup y=some c->x=y
 has:∀x,(X.env.kindOf x=some .cell\/X.env.kindOf x=some .free)->∃c,X.env.cells.lookup x=some c
 cab:∀x c,X.fn x=true->X.env.cells.lookup x=some c->X.ig.heap.objs.size<=c
 hd:X.calm=true->X.A.handled=none
 frames:X.A.frames=some X.stack
 stk:X.stack=X.outer\/(X.stack=X.env::X.outer/\X.env.frame=some X.env.locals)
 exf:∀b∈X.ex,b≠X.env.locals/\∀x c,X.env.cells.lookup x=some c->c≠b
 bs:∀b o,X.base.get? b=some o->X.ig.heap.get? b=some o/\X.Mx b=none
 Qu:X.base.objs.size<=X.ig.heap.objs.size
 O5:∀b o,X.base.get? b=some o->b∉X.ex
 N9:∀b∈X.ex,b∉X.fs
 Du:X.ig.heap.FunFrames X.base X.outer
 Xg:∀b∈X.fs,X.Mx b=none
structure Inv (X:Cx) (pins:List (Addr × Obj)) (σ:List (Option V)) (H:Hp) (s:Shared):Prop where
 ok:X.Ok
 os:s.os=X.ig.os
 bare:AllBare s.gens
 base:Un X.fs X.ex X.Mx H X.ig.heap s.heap
 loc:∃m,s.heap.Ns X.env.locals m/\∀(i:Nat) (x:Str) (v:V),X.N[i]? =some x->σ[i]? =some (some v)->Vis X.env.scope x->∃u,RelV v u/\Look X.env s.heap m x u
 cell:∀x c,X.env.cells.lookup x=some c->∃v,s.heap.IsCell c v
 free:H X.env.locals=none
 mH:∀x c,X.env.cells.lookup x=some c->H c=none
 pin:∀p∈X.pn++pins,s.heap.get? p.1=some p.2/\H p.1=none/\p.1≠X.env.locals/\p.1∉X.fs/\∀v,p.2.data≠.cell v
 bL:rJ X.prog X.w H s.heap
 len:σ.length=X.N.length
section
variable {X:Cx} {pins:List (Addr × Obj)} {σ:List (Option V)} {H H':Hp} {s:Shared} {h':Heap}
theorem Cx.Ok.ad7 (ok:X.Ok) {b:Addr} {o:Obj} (e:X.base.get? b=some o):b∉X.fs:=fun hb=>by
 have:=(ok.Du.mem hb).1
 rw [e] at this;cases this
theorem Inv.bs (I:Inv X pins σ H s):∀b o,X.base.get? b=some o->s.heap.get? b=some o/\H b=none:=fun b o e=>
 ⟨I.base.keep b o (I.ok.bs b o e).1 (I.ok.bs b o e).2 (I.ok.ad7 e) (I.ok.O5 b o e),I.base.free b o (I.ok.bs b o e).1 (I.ok.bs b o e).2 (I.ok.O5 b o e)⟩
theorem Inv.bk (I:Inv X pins σ H s):∀b o,X.base.get? b=some o->s.heap.get? b=some o:=fun b o e=>(I.bs b o e).1
theorem Inv.mod (I:Inv X pins σ H s):Mod X.K X.mg X.base:=I.ok.mod
theorem Inv.A5 (I:Inv X pins σ H s):X.K.In s.heap:=I.ok.mod.kin.keeps I.bk
theorem Inv.fr (I:Inv X pins σ H s):∃m,Fr X.base X.env.locals s.heap m:=
 let ⟨m,hn,_⟩:=I.loc
 ⟨m,hn,I.bk,Nat.le_trans I.ok.Qu I.ok.above⟩
theorem Inv.lt (I:Inv X pins σ H s):X.env.locals<s.heap.objs.size:=let ⟨_,hn,_⟩:=I.loc;hn.lt
theorem Inv.sz (I:Inv X pins σ H s):X.ig.heap.objs.size<=s.heap.objs.size:=Nat.le_trans I.ok.above (Nat.le_of_lt I.lt)
theorem Inv.aeT (I:Inv X pins σ H s) {a:Addr} (h:s.heap.objs.size<=a):a∉X.fs:=fun hb=>by
 obtain⟨_,o,ho,_⟩:=I.ok.Du.mem hb
 exact absurd (Nat.lt_of_lt_of_le (Heap.lt_size ho) (Nat.le_trans I.sz h)) (Nat.lt_irrefl _)
theorem Inv.Y7 (I:Inv X pins σ H s):∀x c,X.env.cells.lookup x=some c->c≠X.env.locals:=fun x c e z=>by
 obtain⟨v,o,ho,hd⟩:=I.cell x c e
 obtain⟨m,⟨o',es,ep,U1,Nu,_⟩,_⟩:=I.loc
 rw [z,U1] at ho;cases ho;rw [Nu] at hd;cases hd
theorem Inv.Du (I:Inv X pins σ H s):s.heap.FunFrames X.base X.outer:=by
 have all:∀(l:List Env),(∀b∈Kd l,b∈X.fs)->X.ig.heap.FunFrames X.base l->s.heap.FunFrames X.base l:=by
  intro l
  induction l with
  |nil=>intro _ _;trivial
  |cons env r ih=>
   intro hs hl
   obtain⟨hk,⟨L,o,hf,hn,ho,hd⟩,hr⟩:=hl
   have hL:L∈X.fs:=hs L (by unfold Kd;rw [List.filterMap_cons,hf];exact List.mem_cons_self)
   obtain⟨sl,e⟩:=I.base.slot L o ho (I.ok.Xg L hL) hL fun z=>I.ok.N9 L z hL
   exact⟨hk,⟨L,_,hf,hn,e,hd⟩,ih (fun b hb=>hs b (by unfold Kd;rw [List.filterMap_cons,hf];exact List.mem_cons_of_mem _ hb)) hr⟩
 exact all X.outer (fun _ hb=>hb) I.ok.Du
theorem Inv.stack (I:Inv X pins σ H s):s.heap.FunFrames X.base X.stack:=by
 rcases I.ok.stk with e|⟨e,hf⟩
 . rw [e];exact I.Du
 . rw [e]
   obtain⟨m,hn,_⟩:=I.loc
   refine .cons (by rw [I.ok.kind];decide) hf hn ?_ I.Du
   exact Heap.get?_none_of_le (Nat.le_trans I.ok.Qu I.ok.above)
theorem Inv.Lj (I:Inv X pins σ H s):∀b∈Kd X.stack,b∈X.env.locals::X.fs:=fun b hb=>by
 rcases I.ok.stk with e|⟨e,hf⟩
 . rw [e] at hb;exact List.mem_cons_of_mem _ hb
 . rw [e] at hb
   unfold Kd at hb
   rw [List.filterMap_cons,hf] at hb
   exact hb
theorem Inv.MV (I:Inv X pins σ H s):∀b∈Kd X.stack,H b=none:=fun b hb=>by
 rcases List.mem_cons.mp (I.Lj b hb) with e|hb
 . rw [e];exact I.free
 . obtain⟨_,o,ho,_⟩:=I.ok.Du.mem hb
   exact I.base.free b o ho (I.ok.Xg b hb) fun z=>I.ok.N9 b z hb
theorem Inv.step {g':Array GenState} {t':Nat} {d':Drawn} {ch:List Addr} (I:Inv X pins σ H s)
 (TR:∀b∈ch,(b∈X.ex\/X.ig.heap.objs.size<=b)/\b≠X.env.locals/\(∀x c,X.env.cells.lookup x=some c->c≠b)/\∀p∈X.pn++pins,p.1≠b)
 (keep:∀b o,b≠X.env.locals->b∉X.fs->b∉ch->s.heap.get? b=some o->H b=none->h'.get? b=some o)
 (slot:∀b o,b≠X.env.locals->b∈X.fs->b∉ch->s.heap.get? b=some o->H b=none->∃sl,h'.get? b=some {o with slots:=sl}) (free:∀b o,b∉ch->s.heap.get? b=some o->H b=none->H' b=none)
 (there:∀b o,b∉ch->s.heap.get? b=some o->∃o',h'.get? b=some o')
 (Cy:∀b xs,H b=some (.tup xs)->H' b=some (.tup xs)) (yk:∀b o u,H b=some (.wK o u)->H' b=some (.wK o u)) (E4:∀b ps,H b=some (.Zf ps)->∃more,H' b=some (.Zf (ps++more)))
 (ns:∀m,s.heap.Ns X.env.locals m->h'.Ns X.env.locals m) (bL:rJ X.prog X.w H' h') (hg:AllBare g'):
 Inv X pins σ H' {s with heap:=h',gens:=g',drawn:=d',toks:=t'}:=by
 have neL:∀b o,X.ig.heap.get? b=some o->b≠X.env.locals:=fun b o e=>Nat.ne_of_lt (Nat.lt_of_lt_of_le (Heap.lt_size e) I.ok.above)
 have neC:∀b o,X.ig.heap.get? b=some o->b∉X.ex->b∉ch:=fun b o e hx hb=>by
  rcases (TR b hb).1 with z|z
  . exact hx z
  . exact absurd (Nat.lt_of_lt_of_le (Heap.lt_size e) z) (Nat.lt_irrefl _)
 have cellK:∀x c,X.env.cells.lookup x=some c->∀v,s.heap.IsCell c v->h'.IsCell c v:=fun x c e v ⟨o,ho,hd⟩=>by
  have nch:c∉ch:=fun z=>(TR c z).2.2.1 x c e rfl
  by_cases hc:c∈X.fs
  . obtain⟨sl,q⟩:=slot c o (I.Y7 x c e) hc nch ho (I.mH x c e)
    exact⟨_,q,hd⟩
  . exact⟨o,keep c o (I.Y7 x c e) hc nch ho (I.mH x c e),hd⟩
 refine⟨I.ok,I.os,hg,⟨fun b o e n hb hx=>?_,fun b o e n hb hx=>?_,fun b o e n hx=>?_,fun b o e hx=>?_,fun b xs e=>Cy b xs (I.base.Cy b xs e),fun b o xs e=>yk b o xs (I.base.yk b o xs e),fun b ps e=>?_⟩,?_,fun x c e=>?_,?_,fun x c e=>?_,fun p hp=>?_,bL,I.len⟩
 . exact keep b o (neL b o e) hb (neC b o e hx) (I.base.keep b o e n hb hx) (I.base.free b o e n hx)
 . obtain⟨sl,e1⟩:=I.base.slot b o e n hb hx
   obtain⟨sl',e2⟩:=slot b _ (neL b o e) hb (neC b o e hx) e1 (I.base.free b o e n hx)
   exact⟨sl',e2⟩
 . obtain⟨o',e1⟩:=I.base.there b o e hx
   exact free b o' (neC b o e hx) e1 (I.base.free b o e n hx)
 . obtain⟨o',e1⟩:=I.base.there b o e hx
   exact there b o' (neC b o e hx) e1
 . obtain⟨m1,e1⟩:=I.base.E4 b ps e
   obtain⟨m2,e2⟩:=E4 b _ e1
   exact⟨m1++m2,by rw [e2,Array.append_assoc]⟩
 . obtain⟨m,hn,hl⟩:=I.loc
   refine⟨m,ns m hn,fun i x v e1 e2 e3=>?_⟩
   obtain⟨u,r,l⟩:=hl i x v e1 e2 e3
   refine⟨u,r,?_⟩
   rcases l with l|⟨k,c,e,z⟩
   . exact .inl l
   . exact .inr ⟨k,c,e,cellK x c e _ z⟩
 . obtain⟨v,z⟩:=I.cell x c e
   exact⟨v,cellK x c e v z⟩
 . obtain⟨m,⟨o,_,_,ho,_⟩,_⟩:=I.loc
   exact free _ o (fun z=>(TR _ z).2.1 rfl) ho I.free
 . obtain⟨v,o,ho,hd⟩:=I.cell x c e
   exact free c o (fun z=>(TR c z).2.2.1 x c e rfl) ho (I.mH x c e)
 . obtain⟨e,n,ne,nf,d⟩:=I.pin p hp
   have nch:p.1∉ch:=fun z=>(TR p.1 z).2.2.2 p hp rfl
   exact⟨keep p.1 p.2 ne nf nch e n,free p.1 p.2 nch e n,ne,nf,d⟩
theorem Inv.un {t':Nat} (I:Inv X pins σ H s) (u:Un X.fs [] H H' s.heap h') (bL:rJ X.prog X.w H' h'):Inv X pins σ H' {s with heap:=h',toks:=t'}:=by
 obtain⟨m,⟨o,es,ep,ho,r⟩,_⟩:=id I.loc
 obtain⟨sl,hL⟩:=u.any ho I.free (by simp)
 exact I.step (g':=s.gens) (d':=s.drawn) (ch:=[]) (fun _ z=>nomatch z) (fun b o _ hb _ e n=>u.keep b o e n hb (by simp)) (fun b o _ hb _ e n=>u.slot b o e n hb (by simp)) (fun b o _ e n=>u.free b o e n (by simp)) (fun b o _ e=>u.there b o e (by simp)) u.Cy u.yk u.E4 (fun m' hm=>by
  obtain⟨o',es',ep',U1,r'⟩:=hm
  rw [ho] at U1;cases U1
  exact⟨_,es',ep',hL,r'⟩) bL I.bare
theorem Inv.call {g':Array GenState} {t':Nat} {d':Drawn} {ch:List Addr} (I:Inv X pins σ H s) (u:Un (Kd X.stack) ch H H' s.heap h') (bL:rJ X.prog X.w H' h') (hg:AllBare g')
 (TR:∀b∈ch,(b∈X.ex\/X.ig.heap.objs.size<=b)/\b≠X.env.locals/\(∀x c,X.env.cells.lookup x=some c->c≠b)/\∀p∈X.pn++pins,p.1≠b):
 Inv X pins σ H' {s with heap:=h',gens:=g',drawn:=d',toks:=t'}:=by
 obtain⟨m,⟨o,es,ep,ho,r⟩,_⟩:=id I.loc
 obtain⟨sl,hL⟩:=u.any ho I.free fun z=>(TR _ z).2.1 rfl
 exact I.step (ch:=ch) TR (fun b o hL hb hc e n=>u.keep b o e n (fun z=>(List.mem_cons.mp (I.Lj b z)).elim hL hb) hc) (fun b o _ _ hc e n=>u.any e n hc) (fun b o hc e n=>u.free b o e n hc) (fun b o hc e=>u.there b o e hc) u.Cy u.yk u.E4 (fun m' hm=>by
  obtain⟨o',es',ep',U1,r'⟩:=hm
  rw [ho] at U1;cases U1
  exact⟨_,es',ep',hL,r'⟩) bL hg
theorem Inv.turned {t':Nat} {it:Addr} (I:Inv X pins σ H s) (k:∀b o,b≠it->s.heap.get? b=some o->h'.get? b=some o) (hn:H it=none) (hL:it≠X.env.locals)
 (h1:it∈X.ex\/X.ig.heap.objs.size<=it) (h2:∀x c,X.env.cells.lookup x=some c->c≠it) (h3:∀p∈X.pn++pins,p.1≠it):Inv X pins σ H {s with heap:=h',toks:=t'}:=by
 have nit:∀b u,H b=some u->b≠it:=fun b u e z=>by rw [z,hn] at e;cases e
 refine I.step (g':=s.gens) (d':=s.drawn) (ch:=[it]) (fun b hb=>?_) (fun b o _ _ hc e _=>k b o (fun z=>hc (by simp [z])) e) (fun b o _ _ hc e _=>⟨o.slots,k b o (fun z=>hc (by simp [z])) e⟩) (fun _ _ _ _ n=>n)
  (fun b o hc e=>⟨o,k b o (fun z=>hc (by simp [z])) e⟩) (fun _ _ e=>e) (fun _ _ _ e=>e) (fun b ps e=>⟨#[],by rw [e];simp⟩) (fun m hm=>?_) (fun b u e=>?_) I.bare
 . have e:b=it:=by simpa using hb
   subst e
   exact⟨h1,hL,h2,h3⟩
 . obtain⟨o,es,ep,ho,r⟩:=hm
   exact⟨o,es,ep,k _ o (Ne.symm hL) ho,r⟩
 . refine(I.bL b u e).Jh (fun c v hc q=>k c v ?_ q) (fun _ q=>q) fun _ _ q=>q
   rcases hc with z|z
   . rw [z];exact nit b u e
   . exact nit c _ z
theorem Inv.tok (I:Inv X pins σ H s) (t:Nat):Inv X pins σ H {s with toks:=t}:=I.un (h':=s.heap) (t':=t) Un.refl I.bL
theorem Inv.kept {t':Nat} (I:Inv X pins σ H s) (k:∀b u,s.heap.get? b=some u->h'.get? b=some u):Inv X pins σ H {s with heap:=h',toks:=t'}:=I.un (Un.kept k) (I.bL.kept k)
theorem Inv.laid {a:Addr} {o:HO} {t':Nat} (I:Inv X pins σ H s) (k:∀b u,s.heap.get? b=some u->h'.get? b=some u) (hp:s.heap.objs.size<=a) (new:c5 X.prog X.w (upd H a o) h' a o):
 Inv X pins σ (upd H a o) {s with heap:=h',toks:=t'}:=I.un (Un.laid k hp (I.bL.fresh hp)) (I.bL.laid k hp new)
theorem Inv.write {x e:Addr} {o:HO} {t':Nat} (I:Inv X pins σ H s) (mu:Mut (H x)) (he:e=x\/H e=some (.own x)) (k:∀b u,b≠e->s.heap.get? b=some u->h'.get? b=some u) (heo:∃u,h'.get? e=some u)
 (new:c5 X.prog X.w (upd H x o) h' x o):Inv X pins σ (upd H x o) {s with heap:=h',toks:=t'}:=I.un (Un.write mu he k heo) (I.bL.write mu he k heo new)
theorem Inv.weak {σ':List (Option V)} (I:Inv X pins σ H s) (hl:σ'.length=σ.length) (w:∀(i:Nat) v,σ'[i]? =some (some v)->σ[i]? =some (some v)):Inv X pins σ' H s:=
 ⟨I.ok,I.os,I.bare,I.base,let ⟨m,hn,Sf⟩:=I.loc;⟨m,hn,fun i x v e1 e2 e3=>Sf i x v e1 (w i v e2) e3⟩,I.cell,I.free,I.mH,I.pin,I.bL,hl.trans I.len⟩
theorem Inv.CF {WX:List (Addr × Obj)} (I:Inv X pins σ H s) (h:∀p∈WX,s.heap.get? p.1=some p.2/\H p.1=none/\p.1≠X.env.locals/\p.1∉X.fs/\∀v,p.2.data≠.cell v):Inv X WX σ H s:=
 ⟨I.ok,I.os,I.bare,I.base,I.loc,I.cell,I.free,I.mH,fun p hp=>(List.mem_append.mp hp).elim (fun z=>I.pin p (List.mem_append_left _ z)) (h p),I.bL,I.len⟩
theorem J9 {N:List Str} (hN:N.Nodup) {i j:Nat} {x:Str} (a:N[i]? =some x) (b:N[j]? =some x):i=j:=by
 obtain⟨h1,e1⟩:=List.getElem?_eq_some_iff.mp a
 obtain⟨h2,e2⟩:=List.getElem?_eq_some_iff.mp b
 exact(List.getElem_inj hN).mp (e1.trans e2.symm)
theorem Hk {M:Model} {A:Around} {E:Value->Shared->Prop} {i:Nat} {x:Str} {v:V} {u:Value} {Q:Unit->Shared->Prop} (I:Inv X pins σ H s) (hN:X.N.Nodup) (hi:X.N[i]? =some x) (hx:Loc X.env.scope x) (r:RelV v u)
 (h:∀s',Inv X pins (σ.set i (some v)) H s'->(∃a,Heap.SameBut a s.heap s'.heap/\(a=X.env.locals\/X.env.cells.lookup x=some a))->Q () s') (hf:X.fn x=true\/X.env.scope.names.lookup x=some .local:=by first|exact .inl rfl|exact .inr rfl|assumption):wpAny M A (storeName X.env x u) Q E s:=by
 obtain⟨m,hn,hl⟩:=id I.loc
 have ad0:(X.env.scope.kind==.class||(X.env.scope.kind==.module&&X.env.locals !=X.env.globals))=false:=by rw [I.ok.kind];rfl
 have abu:i<σ.length:=by rw [I.len];exact(List.getElem?_eq_some_iff.mp hi).1
 have Y7:=I.Y7
 have tracked:∀{a:Addr} {h':Heap},(∃o,s.heap.get? a=some o/\H a=none)->Heap.SameBut a s.heap h'->rJ X.prog X.w H h':=fun {a h'} ha hs b ob e=>by
  obtain⟨_,_,Xu⟩:=ha
  refine(I.bL b ob e).Jh (fun c w' hc q=>(hs.2 c ?_).trans q) (fun _ q=>q) fun _ _ q=>q
  rintro rfl
  rcases hc with rfl|hc
  . rw [Xu] at e;cases e
  . rw [Xu] at hc;cases hc
 rcases hx with hk|hk
 . refine wpAny_storeName_local hk hn (fun h' TC hs=>?_) ad0
   obtain⟨oL,_,_,LI,_⟩:=id hn
   refine h _ ⟨I.ok,I.os,I.bare,⟨fun b o e n hb hx=>?_,fun b o e n hb hx=>?_,I.base.free,fun b o e hx=>?_,I.base.Cy,I.base.yk,I.base.E4⟩,⟨_,TC,fun j y v' e1 e2 e3=>?_⟩,fun y c e=>?_,I.free,I.mH,fun p hp=>?_,tracked ⟨oL,LI,I.free⟩ hs,by simpa using I.len⟩ ⟨_,hs,.inl rfl⟩
   . exact(hs.2 b (Nat.ne_of_lt (Nat.lt_of_lt_of_le (Heap.lt_size e) I.ok.above))).trans (I.base.keep b o e n hb hx)
   . obtain⟨sl,e1⟩:=I.base.slot b o e n hb hx
     exact⟨sl,(hs.2 b (Nat.ne_of_lt (Nat.lt_of_lt_of_le (Heap.lt_size e) I.ok.above))).trans e1⟩
   . obtain⟨o',e1⟩:=I.base.there b o e hx
     exact⟨o',(hs.2 b (Nat.ne_of_lt (Nat.lt_of_lt_of_le (Heap.lt_size e) I.ok.above))).trans e1⟩
   . by_cases hj:j=i
     . subst hj
       rw [hi] at e1;cases e1
       rw [List.getElem?_set_self abu] at e2
       cases e2
       exact⟨u,r,.inl ⟨hk,by simp⟩⟩
     . rw [List.getElem?_set_ne (Ne.symm hj)] at e2
       obtain⟨u',r',q⟩:=hl j y v' e1 e2 e3
       refine⟨u',r',?_⟩
       rcases q with⟨k,e⟩|⟨k,c,e,z⟩
       . refine .inl ⟨k,?_⟩
         have:y≠x:=fun e=>hj (J9 hN e1 (e▸hi))
         simp [this,e]
       . exact .inr ⟨k,c,e,z.sameBut hs (Y7 y c e)⟩
   . obtain⟨w',z⟩:=I.cell y c e
     exact⟨w',z.sameBut hs (Y7 y c e)⟩
   . obtain⟨e,n,ne,nf,d⟩:=I.pin p hp
     exact⟨(hs.2 p.1 ne).trans e,n,ne,nf,d⟩
 . have hfn:X.fn x=true:=by
    rcases hf with z|z
    . exact z
    . rw [z] at hk;cases hk
   obtain⟨c,hc⟩:=I.ok.has x (.inl hk)
   obtain⟨w',z⟩:=I.cell x c hc
   refine wpAny_storeName_cell I.ok.kind hk hc z (fun h' Qh hs=>?_)
   obtain⟨oc,hoc,aeL⟩:=id z
   refine h {s with heap:=h'} ⟨I.ok,I.os,I.bare,⟨fun b o e n hb hx=>?_,fun b o e n hb hx=>?_,I.base.free,fun b o e hx=>?_,I.base.Cy,I.base.yk,I.base.E4⟩,⟨m,hn.sameBut hs (Ne.symm (Y7 x c hc)),fun j y v' e1 e2 e3=>?_⟩,fun y c' e=>?_,I.free,I.mH,fun p hp=>?_,tracked ⟨oc,hoc,I.mH x c hc⟩ hs,by simpa using I.len⟩ ⟨c,hs,.inr hc⟩
   . exact(hs.2 b (Nat.ne_of_lt (Nat.lt_of_lt_of_le (Heap.lt_size e) (I.ok.cab x c hfn hc)))).trans (I.base.keep b o e n hb hx)
   . obtain⟨sl,e1⟩:=I.base.slot b o e n hb hx
     exact⟨sl,(hs.2 b (Nat.ne_of_lt (Nat.lt_of_lt_of_le (Heap.lt_size e) (I.ok.cab x c hfn hc)))).trans e1⟩
   . obtain⟨o',e1⟩:=I.base.there b o e hx
     exact⟨o',(hs.2 b (Nat.ne_of_lt (Nat.lt_of_lt_of_le (Heap.lt_size e) (I.ok.cab x c hfn hc)))).trans e1⟩
   . by_cases hj:j=i
     . subst hj
       rw [hi] at e1;cases e1
       rw [List.getElem?_set_self abu] at e2
       cases e2
       exact⟨u,r,.inr ⟨.inl hk,c,hc,Qh⟩⟩
     . rw [List.getElem?_set_ne (Ne.symm hj)] at e2
       obtain⟨u',r',q⟩:=hl j y v' e1 e2 e3
       refine⟨u',r',?_⟩
       rcases q with q|⟨k,c',e,z'⟩
       . exact .inl q
       . refine .inr ⟨k,c',e,z'.sameBut hs ?_⟩
         rintro rfl
         exact hj (J9 hN e1 (I.ok.inj _ _ _ e hc▸hi))
   . by_cases hcc:c'=c
     . subst hcc;exact⟨_,Qh⟩
     . obtain⟨w2,z2⟩:=I.cell y c' e
       exact⟨w2,z2.sameBut hs hcc⟩
   . obtain⟨e,n,ne,nf,d⟩:=I.pin p hp
     refine⟨(hs.2 p.1 ?_).trans e,n,ne,nf,d⟩
     intro q
     rw [q,hoc] at e
     have q':oc=p.2:=Option.some.inj e
     exact d w' (by rw [<-q'];exact aeL)
theorem J8 {M:Model} {A:Around} {E:Value->Shared->Prop} {i:Nat} {x:Str} {v:V} {u:Value} {Q:Unit->Shared->Prop} (I:Inv X pins σ H s) (hN:X.N.Nodup) (hi:X.N[i]? =some x) (hx:Loc X.env.scope x) (r:RelV v u)
 (h:∀s',Inv X pins (σ.set i (some v)) H s'->Q () s') (hf:X.fn x=true\/X.env.scope.names.lookup x=some .local:=by first|exact .inl rfl|exact .inr rfl|assumption):wpAny M A (storeName X.env x u) Q E s:=
 Hk I hN hi hx r (fun s' I' _=>h s' I') hf
theorem Inv.acq {s':Shared} {ch:List Addr} (I:Inv X pins σ H s) (ho:s'.os=s.os) (u:Un (Kd X.stack) ch H H' s.heap s'.heap) (bL:rJ X.prog X.w H' s'.heap) (hg:AllBare s'.gens)
 (TR:∀b∈ch,(b∈X.ex\/X.ig.heap.objs.size<=b)/\b≠X.env.locals/\(∀x c,X.env.cells.lookup x=some c->c≠b)/\∀p∈X.pn++pins,p.1≠b):Inv X pins σ H' s':=by
 obtain⟨h',g',d',t',o'⟩:=s'
 have e:o'=s.os:=ho
 subst e
 exact I.call (g':=g') (t':=t') (d':=d') u bL hg TR
end
abbrev XK:=Value->Option Addr->Hp->Prop
abbrev St:=List (Option V)
abbrev VK:=V->Hp->Prop
abbrev TE:=St->Hp->VK->Prop
abbrev TT:=St->Hp->(Bool->Hp->Prop)->Prop
abbrev TA:=St->Hp->(List V->Hp->Prop)->Prop
structure Ends where
 nx:St->Hp->Prop
 rt:VK
 bk:St->Hp->Prop:=fun _ _=>False
 ct:St->Hp->Prop:=fun _ _=>False
abbrev TS:=Ends->St->Hp->Prop
def EP (X:Cx) (pins:List (Addr × Obj)) (σ:St) (Q:VK) (u:Value) (s':Shared):Prop:=∃v H',Inv X pins σ H' s'/\RelV v u/\Q v H'
def TP (X:Cx) (pins:List (Addr × Obj)) (σ:St) (Q:Bool->Hp->Prop) (b:Bool) (s':Shared):Prop:=∃H',Inv X pins σ H' s'/\Q b H'
def AP (X:Cx) (pins:List (Addr × Obj)) (σ:St) (Q:List V->Hp->Prop) (us:List Value) (s':Shared):Prop:=∃vs H',Inv X pins σ H' s'/\Vals vs us/\Q vs H'
def SP (X:Cx) (pins:List (Addr × Obj)) (D:Ends) (f:Flow) (s':Shared):Prop:=
 match f with
 | .next=>∃σ' H',Inv X pins σ' H' s'/\D.nx σ' H'
 | .brk=>∃σ' H',Inv X pins σ' H' s'/\D.bk σ' H'
 | .cont=>∃σ' H',Inv X pins σ' H' s'/\D.ct σ' H'
 | .ret u=>∃v σ' H',Inv X pins σ' H' s'/\RelV v u/\D.rt v H'
def PE (X:Cx) (e:Expr) (t:TE):Prop:=
 ∀(pins:List (Addr × Obj)) (s:Shared) (σ:St) (H:Hp) (Q:VK),Inv X pins σ H s->t σ H Q->wpAny (model X.prog X.w) X.A (eval e X.env) (EP X pins σ Q) X.xe s
def PT (X:Cx) (e:Expr) (t:TT):Prop:=
 ∀(pins:List (Addr × Obj)) (s:Shared) (σ:St) (H:Hp) (Q:Bool->Hp->Prop),Inv X pins σ H s->t σ H Q->wpAny (model X.prog X.w) X.A (isTrue e X.env (eval e X.env)) (TP X pins σ Q) X.xe s
def PW (X:Cx) (e:Expr) (t:TT):Prop:=
 ∀(whole:Sem Value) (pins:List (Addr × Obj)) (s:Shared) (σ:St) (H:Hp) (Q:Bool->Hp->Prop),Inv X pins σ H s->t σ H Q->wpAny (model X.prog X.w) X.A (isTrue e X.env whole) (TP X pins σ Q) X.xe s
theorem PW.pt {X:Cx} {e:Expr} {t:TT} (h:PW X e t):PT X e t:=h _
def PA (X:Cx) (es:List Expr) (t:TA):Prop:=
 ∀(pos:Pos) (pins:List (Addr × Obj)) (s:Shared) (σ:St) (H:Hp) (Q:List V->Hp->Prop),Inv X pins σ H s->t σ H Q->wpAny (model X.prog X.w) X.A (spliced (backTo pos (starEach es X.env))) (AP X pins σ Q) X.xe s
def PS (X:Cx) (st:Stmt) (t:TS):Prop:=
 ∀(pins:List (Addr × Obj)) (s:Shared) (σ:St) (H:Hp) (D:Ends),Inv X pins σ H s->t D σ H->wpAny (model X.prog X.w) X.A (exec st X.env) (SP X pins D) X.xe s
def K0 (X:Cx) (st:List Stmt) (t:TS):Prop:=
 ∀(pins:List (Addr × Obj)) (s:Shared) (σ:St) (H:Hp) (D:Ends),Inv X pins σ H s->t D σ H->wpAny (model X.prog X.w) X.A (execs st X.env) (SP X pins D) X.xe s
theorem dq {α:Type} {t:Sem α} {Q Q':α->Shared->Prop} {M:Model} {A:Around} {E:Value->Shared->Prop} {s:Shared} (h:wpAny M A t Q E s) (hQ:∀a s,Q a s->Q' a s):wpAny M A t Q' E s:=wpAny_mono h hQ fun _ _ x=>x
section
variable {X:Cx}
def Zv (i:Nat):TE:=fun σ H Q=>∃v,σ[i]? =some (some v)/\Q v H
def tC (v:V):TE:=fun _ H Q=>Q v H
theorem Z5 {i:Nat} {x:Str} {pos:Pos} (hN:X.N[i]? =some x) (hv:Vis X.env.scope x) (hd:(x==("__debug__":Str))=false:=by decide) (Qp:(x==("__classdict__":Str))=false:=by decide):PE X (.Name x pos) (Zv i):=by
 intro pins s σ H Q I h
 obtain⟨v,e,h⟩:=h
 obtain⟨m,hn,hl⟩:=I.loc
 obtain⟨u,r,l⟩:=hl i x v hN e hv
 have fin:EP X pins σ Q u s:=⟨v,H,I,r,h⟩
 rcases l with⟨hk,hm⟩|⟨hk,c,hc,HR⟩
 . exact wpAny_Name (wpAny_loadName_local I.ok.kind hk hn hm fin) hd
 . rcases hk with hk|hk
   . exact wpAny_Name (wpAny_loadName_cell I.ok.kind hk hc HR fin) hd
   . exact wpAny_Name (wpAny_loadName_free I.ok.kind hk hc HR fin Qp) hd
theorem ag {i j pos}:PE X (.Constant (.int i) j pos) (tC (.int i)):=fun _ _ _ H _ I h=>wpAny_Constant_int ⟨.int i,H,I.tok _,⟨_,rfl⟩,h⟩
theorem NR {b j pos}:PE X (.Constant (.bool b) j pos) (tC (.bl b)):=fun _ _ _ H _ I h=>Constant_bool ⟨.bl b,H,I,rfl,h⟩
theorem dn {j pos}:PE X (.Constant .none j pos) (tC .aQ):=fun _ _ _ H _ I h=>Constant_none ⟨.aQ,H,I,rfl,h⟩
theorem gk {x j pos}:PE X (.Constant (.str x) j pos) (tC (.str x)):=fun _ _ _ H _ I h=>Calls.Constant_str ⟨.str x,H,I.tok _,⟨_,rfl⟩,h⟩
def Gl (X:Cx) (x:Str):Prop:=X.env.kindOf x=some .globalImplicit
theorem Fg {E:Value->Shared->Prop} {pins:List (Addr × Obj)} {s:Shared} {σ:St} {H:Hp} {x:Str} {u:Value} {pos:Pos} {Q:Value->Shared->Prop} (I:Inv X pins σ H s) (hg:Gl X x) (hm:X.mg x=some u) (h:Q u s)
 (hd:(x==("__debug__":Str))=false:=by decide):wpAny (model X.prog X.w) X.A (eval (.Name x pos) X.env) Q E s:=
 Calls.Name_function_global I.ok.kind hg (Calls.loadGlobal_global (by rw [I.ok.glob];exact I.mod.glob.keeps I.bk) hm h) hd
theorem AH {E:Value->Shared->Prop} {pins:List (Addr × Obj)} {s:Shared} {σ:St} {H:Hp} {x:Str} {u:Value} {pos:Pos} {Q:Value->Shared->Prop} (I:Inv X pins σ H s) (hg:Gl X x) (hm:X.mg x=none) (hv:bootBuiltins x=some u) (h:Q u s)
 (hn:x≠"__name__":=by decide) (hd:(x==("__debug__":Str))=false:=by decide):wpAny (model X.prog X.w) X.A (eval (.Name x pos) X.env) Q E s:=by
 obtain⟨mb,h1,h2⟩:=I.mod.blt
 exact Calls.Name_function_global I.ok.kind hg (Calls.loadGlobal_builtin (by rw [I.ok.glob];exact I.mod.glob.keeps I.bk) hm (by rw [I.ok.blt];exact h1.keeps I.bk) ((h2 x hn).trans hv) h) hd
theorem Fo {x:Str} {v:V} {u:Value} {pos:Pos} (hg:Gl X x) (hm:X.mg x=none) (hv:bootBuiltins x=some u) (r:RelV v u) (hn:x≠"__name__":=by decide) (hd:(x==("__debug__":Str))=false:=by decide):PE X (.Name x pos) (tC v):=
 fun _ _ _ H _ I h=>AH I hg hm hv ⟨v,H,I,r,h⟩ hn hd
variable {a b:Expr} {ta tb:TE} {pos:Pos}
def PC (X:Cx) (op:CmpOp) (a b:Expr) (t:TE):Prop:=
 ∀(pins:List (Addr × Obj)) (s:Shared) (σ:St) (H:Hp) (Q:VK),Inv X pins σ H s->t σ H Q->
  wpAny (model X.prog X.w) X.A (eval a X.env) (fun v s₁=>wpAny (model X.prog X.w) X.A (eval b X.env) (fun u s₂=>wpAny (model X.prog X.w) X.A (compareOp op v u) (EP X pins σ Q) X.xe s₂) X.xe s₁) X.xe s
def tB (t:TE):TT:=fun σ H Q=>t σ H fun x H1=>∃c,x=.bl c/\Q c H1
theorem Lk {op:CmpOp} {t:TE} (h:PC X op a b t) (h1:behindInMarks op b=false:=by first|exact acp _ (by decide) (by decide)|rfl):PT X (.Compare a [op] [b] pos) (tB t):=by
 intro pins s σ H Q I hw
 refine wpAny_isTrue_Compare1 (dq (h pins s σ H _ I hw) fun v s1 h1=>dq h1 fun u s2 h2=>dq h2 fun c s3 ⟨x,H1,I1,r1,q1⟩=>?_) h1
 obtain⟨d,rfl,q⟩:=q1
 cases r1
 exact wpAny_truthy_bool ⟨H1,I1,q⟩
variable {tA tB':TT} {rest:List Expr}
def abf (t u:TT):TT:=fun σ H Q=>t σ H fun c H1=>if c=true then u σ H1 Q else Q false H1
def tOr (t u:TT):TT:=fun σ H Q=>t σ H fun c H1=>if c=true then Q true H1 else u σ H1 Q
def abp (t:TT):TT:=fun σ H Q=>t σ H fun c H1=>Q (!c) H1
theorem Ih (ha:PT X a tA):PW X (.BoolOp .And [a] pos) tA:=by
 intro wh pins s σ H Q I h
 refine isTrue_and (dq (ha pins s σ H Q I h) fun c s1 e=>?_)
 cases c with
 |true=>exact isTrue_and_nil e
 |false=>exact e
theorem FD (ha:PT X a tA):PW X (.BoolOp .Or [a] pos) tA:=by
 intro wh pins s σ H Q I h
 refine isTrue_or (dq (ha pins s σ H Q I h) fun c s1 e=>?_)
 cases c with
 |false=>exact isTrue_or_nil e
 |true=>exact e
theorem MJ (ha:PT X a tA) (hb:PW X (.BoolOp .And (b::rest) pos) tB'):PW X (.BoolOp .And (a::b::rest) pos) (abf tA tB'):=by
 intro wh pins s σ H Q I h
 refine isTrue_and (dq (ha pins s σ H _ I h) fun c s1 ⟨H1,I1,q1⟩=>?_)
 cases c with
 |true=>exact hb wh pins s1 σ H1 Q I1 q1
 |false=>exact⟨H1,I1,q1⟩
theorem Hl (ha:PT X a tA) (hb:PW X (.BoolOp .Or (b::rest) pos) tB'):PW X (.BoolOp .Or (a::b::rest) pos) (tOr tA tB'):=by
 intro wh pins s σ H Q I h
 refine isTrue_or (dq (ha pins s σ H _ I h) fun c s1 ⟨H1,I1,q1⟩=>?_)
 cases c with
 |true=>exact⟨H1,I1,q1⟩
 |false=>exact hb wh pins s1 σ H1 Q I1 q1
theorem Ax (ha:PT X a tA):PT X (.UnaryOp .Not a pos) (abp tA):=by
 intro pins s σ H Q I h
 exact isTrue_not (ha pins s σ H (fun c H1=>Q (!c) H1) I h)
def Wt (ta tb:TE):TE:=fun σ H Q=>ta σ H fun x H1=>∃c,x=.bl c/\if c=true then tb σ H1 Q else Q (.bl false) H1
def aaJ (ta tb:TE):TE:=fun σ H Q=>ta σ H fun x H1=>∃c,x=.bl c/\if c=true then Q (.bl true) H1 else tb σ H1 Q
def W0 (ta:TE):TE:=fun σ H Q=>ta σ H fun x H1=>∃c,x=.bl c/\Q (.bl (!c)) H1
theorem Gy {op} {t:TE} (h:PE X a t):PE X (.BoolOp op [a] pos) t:=fun pins s σ H Q I hw=>BoolOp_one (h pins s σ H Q I hw)
theorem IH (ha:PE X a ta) (hb:PE X (.BoolOp .And (b::rest) pos) tb):PE X (.BoolOp .And (a::b::rest) pos) (Wt ta tb):=by
 intro pins s σ H Q I h
 refine BoolOp_and (dq (ha pins s σ H _ I h) fun v s1 ⟨x,H1,I1,r1,q1⟩=>?_)
 obtain⟨c,rfl,q1⟩:=q1
 cases r1
 refine wpAny_truthy_bool ?_
 cases c with
 |true=>exact hb pins s1 σ H1 Q I1 q1
 |false=>exact⟨.bl false,H1,I1,rfl,q1⟩
theorem abS (ha:PE X a ta) (hb:PE X (.BoolOp .Or (b::rest) pos) tb):PE X (.BoolOp .Or (a::b::rest) pos) (aaJ ta tb):=by
 intro pins s σ H Q I h
 refine BoolOp_or (dq (ha pins s σ H _ I h) fun v s1 ⟨x,H1,I1,r1,q1⟩=>?_)
 obtain⟨c,rfl,q1⟩:=q1
 cases r1
 refine wpAny_truthy_bool ?_
 cases c with
 |false=>exact hb pins s1 σ H1 Q I1 q1
 |true=>exact⟨.bl true,H1,I1,rfl,q1⟩
theorem SA (ha:PE X a ta):PE X (.UnaryOp .Not a pos) (W0 ta):=by
 intro pins s σ H Q I h
 refine UnaryOp_ (dq (ha pins s σ H _ I h) fun v s1 ⟨x,H1,I1,r1,q1⟩=>?_)
 obtain⟨c,rfl,q1⟩:=q1
 cases r1
 exact not_of (wpAny_truthy_bool ⟨.bl (!c),H1,I1,rfl,q1⟩)
def tIf (t:TT) (ta tb:TE):TE:=fun σ H Q=>t σ H fun c H1=>if c=true then ta σ H1 Q else tb σ H1 Q
theorem Gx {c:Expr} (hc:PT X c tA) (ha:PE X a ta) (hb:PE X b tb):PE X (.IfExp c a b pos) (tIf tA ta tb):=by
 intro pins s σ H Q I h
 refine wpAny_IfExp (dq (hc pins s σ H _ I h) fun d s1 ⟨H1,I1,q1⟩=>?_)
 cases d with
 |true=>exact ha pins s1 σ H1 Q I1 q1
 |false=>exact hb pins s1 σ H1 Q I1 q1
end
def iH (K:PySem.W.Frag) (H:Hp) (a:Addr) (xs:List V):Prop:=
 Rd H a (.lst xs)\/
  ∃(o:Obj) (a8:Array Value) (n:Nat),K.lookup a=some o/\o.cls=.type "list"/\o.dict=none/\o.data=.seq a8 n/\a8.size<=sizeLine/\Vals xs a8.toList
def Pg (K:PySem.W.Frag) (H:Hp) (a:Addr) (xs:List V):Prop:=
 Rd H a (.tup xs)\/
  ∃(o:Obj) (a8:Array Value) (n:Nat),K.lookup a=some o/\o.cls=.type "tuple"/\o.data=.seq a8 n/\a8.size<=sizeLine/\Vals xs a8.toList
def adH:Value->Option V
 | .none=>some .aQ
 | .bool b=>some (.bl b)
 | .int i _=>some (.int i)
 | .str x _=>some (.str x)
 | .bytes b _=>some (.NY b)
 | .float b _=>some (.ZJ b)
 | .ref a=>some (.ref a)
 | .type n=>some (.ty n)
 |_=>none
theorem RelV.abs {x:V} {u:Value} (r:RelV x u):adH u=some x:=by
 cases x with
 |aQ=>cases r;rfl
 |bl _=>cases r;rfl
 |int _=>obtain⟨t,rfl⟩:=r;rfl
 |str _=>obtain⟨t,rfl⟩:=r;rfl
 |NY _=>obtain⟨t,rfl⟩:=r;rfl
 |ZJ _=>obtain⟨t,rfl⟩:=r;rfl
 |ref _=>cases r;rfl
 |ty _=>cases r;rfl
theorem RelV.inj {x y:V} {u:Value} (r:RelV x u) (q:RelV y u):x=y:=Option.some.inj (r.abs.symm.trans q.abs)
theorem Vals.inj:∀{xs ys:List V} {us:List Value},Vals xs us->Vals ys us->xs=ys
 |_,_,_,.nil,.nil=>rfl
 |_,_,_,.cons r t,.cons r' t'=>by rw [r.inj r',Vals.inj t t']
section
variable {X:Cx} {pins:List (Addr × Obj)} {σ:St} {H:Hp} {s:Shared} {a:Addr} {xs ys:List V}
theorem iH.of {K:PySem.W.Frag} (h:H a=some (.lst xs)):iH K H a xs:=.inl (.inl h)
theorem Pg.of {K:PySem.W.Frag} (h:H a=some (.tup xs)):Pg K H a xs:=.inl (.inl h)
theorem Inv.list (I:Inv X pins σ H s) (h:iH X.K H a xs):∃a8:List Value,Vals xs a8/\PlainL s.heap a a8.toArray/\xs.length<=sizeLine:=by
 rcases h with h|⟨o,a8,n,hk,hc,hd,hs,hz,r⟩
 . obtain⟨z,a8,n,r,e⟩:=h.ok I.bL
   exact⟨a8,r,⟨_,n,e,rfl,rfl,rfl⟩,z⟩
 . refine⟨a8.toList,r,⟨o,n,I.A5 a o hk,hc,hd,by simpa using hs⟩,?_⟩
   have e:=r.length
   simp only [Array.length_toList] at e
   omega
theorem Inv.tuple (I:Inv X pins σ H s) (h:Pg X.K H a xs):∃a8:List Value,Vals xs a8/\IsTup s.heap a a8.toArray/\xs.length<=sizeLine:=by
 rcases h with h|⟨o,a8,n,hk,hc,hs,hz,r⟩
 . obtain⟨z,a8,r,p⟩:=h.ok I.bL
   exact⟨a8,r,p,z⟩
 . refine⟨a8.toList,r,⟨o,I.A5 a o hk,hc,n,by simpa using hs⟩,?_⟩
   have e:=r.length
   simp only [Array.length_toList] at e
   omega
theorem Inv.QE (I:Inv X pins σ H s) (h:iH X.K H a xs) (h':iH X.K H a ys):xs=ys:=by
 obtain⟨a8,r,⟨o,n,e,_,_,d⟩,_⟩:=I.list h
 obtain⟨its',r',⟨o',n',e',_,_,d'⟩,_⟩:=I.list h'
 rw [e] at e';cases e'
 rw [d] at d'
 injection d' with d1 _
 have:a8=its':=by simpa using congrArg Array.toList d1
 subst this
 exact r.inj r'
end
abbrev Cx.GV (X:Cx) (E:Value->Shared->Prop):Cx:={X with xe:=E}
abbrev Cx.nox (X:Cx):Cx:=X.GV fun _ _=>False
theorem Cx.Ok.GV {X:Cx} (ok:X.Ok) (E:Value->Shared->Prop):(X.GV E).Ok:=
 ⟨ok.mod,ok.kind,ok.glob,ok.blt,ok.above,ok.inj,ok.has,ok.cab,ok.hd,ok.frames,ok.stk,ok.exf,ok.bs,ok.Qu,ok.O5,ok.N9,ok.Du,ok.Xg⟩
theorem Cx.Ok.xc {X:Cx} {E:Value->Shared->Prop} (ok:(X.GV E).Ok):X.Ok:=
 ⟨ok.mod,ok.kind,ok.glob,ok.blt,ok.above,ok.inj,ok.has,ok.cab,ok.hd,ok.frames,ok.stk,ok.exf,ok.bs,ok.Qu,ok.O5,ok.N9,ok.Du,ok.Xg⟩
section
variable {X:Cx} {pins:List (Addr × Obj)} {σ:St} {H:Hp} {s:Shared} {E:Value->Shared->Prop}
theorem Inv.GV (I:Inv X pins σ H s) (E:Value->Shared->Prop):Inv (X.GV E) pins σ H s:=⟨I.ok.GV E,I.os,I.bare,I.base,I.loc,I.cell,I.free,I.mH,I.pin,I.bL,I.len⟩
theorem Inv.xc (I:Inv (X.GV E) pins σ H s):Inv X pins σ H s:=⟨I.ok.xc,I.os,I.bare,I.base,I.loc,I.cell,I.free,I.mH,I.pin,I.bL,I.len⟩
theorem SP.xc {D:Ends} {f:Flow} {s':Shared} (h:SP (X.GV E) pins D f s'):SP X pins D f s':=by
 cases f with
 |next=>obtain⟨σ',H',I,q⟩:=h;exact⟨σ',H',I.xc,q⟩
 |brk=>obtain⟨σ',H',I,q⟩:=h;exact⟨σ',H',I.xc,q⟩
 |cont=>obtain⟨σ',H',I,q⟩:=h;exact⟨σ',H',I.xc,q⟩
 |ret u=>obtain⟨v,σ',H',I,r,q⟩:=h;exact⟨v,σ',H',I.xc,r,q⟩
theorem K0.nox {st:List Stmt} {t:TS} (h:K0 X.nox st t):K0 X st t:=fun pins s σ H D I hw=>
 wpAny_mono (h pins s σ H D (I.GV _) hw) (fun _ _ q=>q.xc) fun _ _ z=>False.elim z
end
section
variable {X:Cx} {st:Stmt} {rest:List Stmt} {t u:TS} {e:Expr} {te:TE} {pos:Pos}
def RB:TS:=fun D σ H=>D.nx σ H
theorem aO:K0 X [] RB:=fun _ _ σ H _ I h=>wpAny_execs_nil ⟨σ,H,I,h⟩
theorem ai (h1:PS X st t):K0 X [st] t:=by
 intro pins s σ H D I h
 refine wpAny_execs_cons (dq (h1 pins s σ H D I h) fun f s1 q=>?_)
 cases f with
 |next=>exact wpAny_execs_nil q
 |ret v=>exact q
 |brk=>exact q
 |cont=>exact q
theorem Ni:PS X (.Pass pos) RB:=fun _ _ σ H _ I h=>wpAny_Pass ⟨σ,H,I,h⟩
theorem Inv.quiet {pins:List (Addr × Obj)} {σ:St} {H:Hp} {s:Shared} (I:Inv X pins σ H s):interactive X.env=false:=by simp [interactive,I.ok.kind]
def WO (te:TE):TS:=fun D σ H=>te σ H fun _ H1=>D.nx σ H1
theorem aW (he:PE X e te) (hs:swapsWith e none pos.line X.env=pure false:=by rfl):PS X (.Expr e pos) (WO te):=by
 intro pins s σ H D I h
 exact wpAny_Expr_any (dq (he pins s σ H _ I h) fun v s1 ⟨x,H1,I1,r1,q1⟩=>⟨σ,H1,I1,q1⟩) I.quiet hs
def acy (te:TE):TS:=fun D σ H=>te σ H D.rt
theorem aC (he:PE X e te):PS X (.Return (some e) pos) (acy te):=by
 intro pins s σ H D I h
 exact wpAny_Return_some (dq (he pins s σ H _ I h) fun v s1 ⟨x,H1,I1,r1,q1⟩=>⟨x,σ,H1,I1,r1,q1⟩)
def acv (c:TT) (t u:TS):TS:=fun D σ H=>c σ H fun b H1=>if b=true then t D σ H1 else u D σ H1
theorem cj {c:Expr} {a b:List Stmt} {tc:TT} (hc:PT X c tc) (ha:K0 X a t) (hb:K0 X b u):PS X (.If c a b pos) (acv tc t u):=by
 intro pins s σ H D I h
 refine wpAny_If (dq (hc pins s σ H _ I h) fun d s1 ⟨H1,I1,q1⟩=>?_)
 cases d with
 |true=>exact ha pins s1 σ H1 D I1 q1
 |false=>exact hb pins s1 σ H1 D I1 q1
def ZC:TS:=fun _ _ _=>False
theorem cX:PS X st ZC:=fun _ _ _ _ _ _ h=>h.elim
end
abbrev TG:=V->St->Hp->(St->Hp->Prop)->Prop
abbrev OM:=List V->St->Hp->(St->Hp->Prop)->Prop
def PG (X:Cx) (target:Expr) (t:TG):Prop:=
 ∀(pins:List (Addr × Obj)) (s:Shared) (σ:St) (H:Hp) (v:V) (u:Value) (Q:St->Hp->Prop),Inv X pins σ H s->RelV v u->t v σ H Q->
  wpAny (model X.prog X.w) X.A (assign target X.env u) (fun _ s'=>∃σ' H',Inv X pins σ' H' s'/\Q σ' H') X.xe s
def PGs (X:Cx) (ts:List Expr) (t:OM):Prop:=
 ∀(pins:List (Addr × Obj)) (s:Shared) (σ:St) (H:Hp) (vs:List V) (us:List Value) (Q:St->Hp->Prop),Inv X pins σ H s->Vals vs us->t vs σ H Q->
  wpAny (model X.prog X.w) X.A (assignInOrder ((assignEach ts X.env).map (·.2)) us) (fun _ s'=>∃σ' H',Inv X pins σ' H' s'/\Q σ' H') X.xe s
abbrev UN:=V->V->V->Hp->(Hp->Prop)->Prop
def aaS (X:Cx) (t:UN):Prop:=
 ∀(pins:List (Addr × Obj)) (s:Shared) (σ:St) (H:Hp) (o i v:V) (ov iv u:Value) (Q:Hp->Prop),Inv X pins σ H s->RelV o ov->RelV i iv->RelV v u->t o i v H Q->
  wpAny (model X.prog X.w) X.A (setItem ov iv u) (fun _ s'=>∃H',Inv X pins σ H' s'/\Q H') X.xe s
section
variable {X:Cx} {pos:Pos}
def fR (i:Nat):TG:=fun v σ H Q=>Q (σ.set i (some v)) H
theorem aR {i:Nat} {x:Str} (hN:X.N.Nodup) (hi:X.N[i]? =some x) (hx:Loc X.env.scope x) (hf:X.fn x=true\/X.env.scope.names.lookup x=some .local:=by first|exact .inl rfl|exact .inr rfl|assumption):PG X (.Name x pos) (fR i):=by
 intro pins s σ H v u Q I r h
 exact wpAny_assign_Name (J8 I hN hi hx r (fun s' I'=>⟨_,H,I',h⟩) hf)
def RW:OM:=fun vs σ H Q=>vs=[]/\Q σ H
def jS (t:TG) (u:OM):OM:=fun vs σ H Q=>∃v r,vs=v::r/\t v σ H fun σ' H'=>u r σ' H' Q
theorem A3:PGs X [] RW:=by
 intro pins s σ H vs us Q I r h
 obtain⟨e,h⟩:=h
 subst e
 cases r
 exact assignInOrder_nil ⟨σ,H,I,h⟩
theorem bM {e:Expr} {es:List Expr} {t:TG} {u:OM} (h1:PG X e t) (h2:PGs X es u)
 (hs:(assignEach (e::es) X.env).map (·.2)=assign e X.env::(assignEach es X.env).map (·.2):=by rfl):PGs X (e::es) (jS t u):=by
 intro pins s σ H vs us Q I r h
 obtain⟨v,vr,e1,h⟩:=h
 subst e1
 cases r with
 |cons r rr=>
  rw [hs]
  refine assignInOrder_cons (dq (h1 pins s σ H _ _ _ I r h) fun _ s1 ⟨σ1,H1,I1,q1⟩=>?_)
  exact h2 pins s1 σ1 H1 _ _ Q I1 rr q1
def QQ (K:PySem.W.Frag) (n:Nat) (t:OM):TG:=fun v σ H Q=>∃a xs,v=.ref a/\Pg K H a xs/\xs.length=n/\t xs σ H Q
theorem MO {es:List Expr} {k:Nat} {t:OM} {n:Nat} (hc:X.calm=true) (h:PGs X es t)
 (hn:(assignEach es X.env).length=n:=by rfl) (AQ:(assignEach es X.env).findIdx? (·.1)=none:=by rfl):PG X (.Tuple es k pos) (QQ X.K n t):=by
 intro pins s σ H v u Q I r hw
 obtain⟨a,xs,e1,hq,hl,hw⟩:=hw
 subst e1
 cases r
 obtain⟨a8,rv,ht,hz⟩:=I.tuple hq
 refine assign_Tuple_tuple (I.ok.hd hc) ht (by simp [hn,<-hl,rv.length]) AQ fun h' hx=>?_
 have I1:Inv X pins σ H {s with heap:=h'}:=I.kept (t':=s.toks) fun b o e=>hx b o (Nat.ne_of_lt (Heap.lt_size e)) e
 exact h pins _ σ H xs _ Q I1 (by simpa using rv) hw
def aa4 (to ti:TE) (t:UN):TG:=fun v σ H Q=>to σ H fun o H1=>ti σ H1 fun i H2=>t o i v H2 fun H3=>Q σ H3
theorem AI {o i:Expr} {to ti:TE} {t:UN} (ho:PE X o to) (hi:PE X i ti) (hs:aaS X t)
 (ha:∀v,assign (.Subscript o i pos) X.env v=(do
  let ov <-holding [v] (eval o X.env)
  let iv <-holding [v,ov] (eval i X.env)
  standAt pos
  holding [v,ov,iv] (setItem ov iv v)
  release [v,ov,iv] []):=by intro _;rfl):PG X (.Subscript o i pos) (aa4 to ti t):=by
 intro pins s σ H v u Q I r h
 rw [ha]
 refine wpAny_bind (wpAny_holding (dq (ho pins s σ H _ I h) fun ov s1 ⟨x,H1,I1,r1,q1⟩=>?_))
 refine wpAny_bind (wpAny_holding (dq (hi pins s1 σ H1 _ I1 q1) fun iv s2 ⟨y,H2,I2,r2,q2⟩=>?_))
 refine wpAny_bind (wpAny_standAt (wpAny_bind (wpAny_holding (dq (hs pins s2 σ H2 x y v ov iv u _ I2 r1 r2 r q2) fun _ s3 ⟨H3,I3,q3⟩=>?_))))
 exact wpAny_release ⟨σ,H3,I3,q3⟩
def Qa (te:TE) (g:TG):TS:=fun D σ H=>te σ H fun x H1=>g x σ H1 D.nx
theorem rh {tg e:Expr} {te:TE} {g:TG} (he:PE X e te) (hg:PG X tg g) (hs:swapsWithSole [tg] e pos.line X.env=pure false:=by rfl) (hw:swappedStores [tg] e X.env=pure none:=by rfl)
 (h1:(assignEach [tg] X.env).map (·.2)=[assign tg X.env]:=by rfl):PS X (.Assign [tg] e pos) (Qa te g):=by
 intro pins s σ H D I h
 refine wpAny_Assign_stores (dq (he pins s σ H _ I h) fun v s1 ⟨x,H1,I1,r1,q1⟩=>?_) hs hw
 rw [h1]
 exact dq (hg pins s1 σ H1 x v _ I1 r1 q1) fun _ s2 q=>q
theorem aL {i:Nat} {x:Str} {e:Expr} {te:TE} {pos':Pos} (hN:X.N.Nodup) (hi:X.N[i]? =some x) (hx:Loc X.env.scope x) (he:PE X e te) (hs:swapsWith e (some (.Name x pos')) pos.line X.env=pure false:=by rfl) (hf:X.fn x=true\/X.env.scope.names.lookup x=some .local:=by first|exact .inl rfl|exact .inr rfl|assumption):
 PS X (.Assign [.Name x pos'] e pos) (Qa te (fR i)):=by
 intro pins s σ H D I h
 refine wpAny_Assign_Name (dq (he pins s σ H _ I h) fun v s1 ⟨y,H1,I1,r1,q1⟩=>?_) hs
 exact J8 I1 hN hi hx r1 (fun s2 I2=>⟨_,H1,I2,q1⟩) hf
end
section
variable {X:Cx} {pos:Pos}
def SM (c:TT) (tb:TS):TS:=fun D σ H=>∃W:Nat->St->Hp->Prop,(∃m,W m σ H)/\∀m σ H,W m σ H->
 c σ H fun b H1=>if b=true then ∃N:St->Hp->Prop,(∀σ' H',N σ' H'->∃m',m'<m/\W m' σ' H')/\tb {D with nx:=N,ct:=N,bk:=D.nx} σ H1 else D.nx σ H1
theorem JK {c:Expr} {body:List Stmt} {tc:TT} {tb:TS} (hp:PassesOwn (model X.prog X.w) X.A X.env X.xe) (hc:PT X c tc) (hb:K0 X body tb):PS X (.While c body [] pos) (SM tc tb):=by
 intro pins s σ H D I h
 obtain⟨W,⟨m0,w0⟩,turn⟩:=h
 refine wpAny_While (codeAny_whileLoop (fun n s'=>∃σ' H',Inv X pins σ' H' s'/\W n σ' H') ?_ m0 ⟨σ,H,I,w0⟩)
 rintro n s1 ⟨σ1,H1,I1,w1⟩
 refine wpAny_passesOwn hp (dq (hc pins s1 σ1 H1 _ I1 (turn n σ1 H1 w1)) fun b s2 ⟨H2,I2,q2⟩=>?_)
 cases b with
 |true=>
  obtain⟨N,hN,q2⟩:=q2
  rw [if_pos rfl]
  refine wpAny_passesOwn hp (dq (hb pins s2 σ1 H2 _ I2 q2) fun f s3 q3=>?_)
  cases f with
  |next=>
   obtain⟨σ3,H3,I3,n3⟩:=q3
   obtain⟨m',hm,w3⟩:=hN σ3 H3 n3
   exact⟨m',hm,σ3,H3,I3,w3⟩
  |cont=>
   obtain⟨σ3,H3,I3,n3⟩:=q3
   obtain⟨m',hm,w3⟩:=hN σ3 H3 n3
   exact⟨m',hm,σ3,H3,I3,w3⟩
  |brk=>exact q3
  |ret v=>exact q3
 |false=>
  rw [if_neg Bool.false_ne_true]
  exact wpAny_execs_nil ⟨σ1,H2,I2,q2⟩
end
structure It where
 go:Nat->Hp->Prop
 ZS:Nat->Hp->V->Hp->Prop
 stop:Nat->Hp->Prop
def ve (X:Cx) (pins:List (Addr × Obj)) (H:Hp) (b:Addr):Prop:=
 H b=none/\b≠X.env.locals/\b∉X.fs/\(b∈X.ex\/X.ig.heap.objs.size<=b)/\(∀x c,X.env.cells.lookup x=some c->c≠b)/\∀p∈X.pn++pins,p.1≠b
theorem Inv.Jc {X:Cx} {pins:List (Addr × Obj)} {σ:St} {H H':Hp} {s:Shared} {b:Addr} (I:Inv X pins σ H s) (hb:s.heap.objs.size<=b) (hn:H' b=none):ve X pins H' b:=by
 refine⟨hn,Nat.ne_of_gt (Nat.lt_of_lt_of_le I.lt hb),I.aeT hb,.inr (Nat.le_trans I.sz hb),fun x c e z=>?_,fun p hp z=>?_⟩
 . obtain⟨v,q⟩:=I.cell x c e
   exact absurd (Nat.lt_of_lt_of_le q.lt (by rw [z];exact hb)) (Nat.lt_irrefl _)
 . exact absurd (Nat.lt_of_lt_of_le (Heap.lt_size (I.pin p hp).1) (by rw [z];exact hb)) (Nat.lt_irrefl _)
structure Turn (P:Program) (w:World) (K:PySem.W.Frag) (tg:Expr) (J:It) (fp:List Addr) (it:Addr) (tn:Nat->Heap->Prop):Prop where
 mem:it∈fp
 obj:∀i h,tn i h->∀b∈fp,∃o,h.get? b=some o/\∀v,o.data≠.cell v
 keep:∀i h h',tn i h->(∀b∈fp,∀o,h.get? b=some o->h'.get? b=some o)->tn i h'
 item:∀(X:Cx),X.prog=P->X.w=w->X.K=K->X.calm=true->∀(i:Nat) (pins:List (Addr × Obj)) (s:Shared) (σ:St) (H:Hp) (E:Value->Shared->Prop),Inv X pins σ H s->(∀b∈fp,ve X pins H b)->tn i s.heap->J.go i H->
  wpAny (model P w) X.A (pyNext (.ref it)) (fun r s1=>∃u,r=some u/\
   wpAny (model P w) X.A (letOwnedTupleGo tg (.ref it) u) (fun _ s2=>∃x H',Inv X pins σ H' s2/\RelV x u/\J.ZS i H x H'/\tn (i+1) s2.heap/\∀b∈fp,H' b=none) E s1) E s
 done:∀(X:Cx),X.prog=P->X.w=w->X.K=K->X.calm=true->∀(i:Nat) (pins:List (Addr × Obj)) (s:Shared) (σ:St) (H:Hp) (E:Value->Shared->Prop),Inv X pins σ H s->(∀b∈fp,ve X pins H b)->tn i s.heap->J.stop i H->
  wpAny (model P w) X.A (pyNext (.ref it)) (fun r s1=>r=none/\Inv X pins σ H s1) E s
 self:∀(A:Around) (i:Nat) (s:Shared) (Q:Value->Shared->Prop) (E:Value->Shared->Prop),tn i s.heap->Q (.ref it) s->wpAny (model P w) A (pyIter (.ref it)) Q E s
abbrev TI:=St->Hp->(It->Hp->Prop)->Prop
def PIE (X:Cx) (pins:List (Addr × Obj)) (σ:St) (tg:Expr) (R:It->Hp->Prop) (itv:Value) (s2:Shared):Prop:=
 ∃(it:Addr) (fp:List Addr) (tn:Nat->Heap->Prop) (J:It) (H':Hp),itv=.ref it/\Inv X pins σ H' s2/\Turn X.prog X.w X.K tg J fp it tn/\tn 0 s2.heap/\(∀b∈fp,ve X pins H' b)/\R J H'
def PI (X:Cx) (tg iter:Expr) (wi:TI):Prop:=
 ∀(pins:List (Addr × Obj)) (s:Shared) (σ:St) (H:Hp) (R:It->Hp->Prop),Inv X pins σ H s->wi σ H R->
  wpAny (model X.prog X.w) X.A (eval iter X.env) (fun v s1=>wpAny (model X.prog X.w) X.A (pyIter v) (PIE X pins σ tg R) X.xe s1) X.xe s
theorem WQ {M:Model} {A:Around} {E:Value->Shared->Prop} {s:Shared} {tg:Expr} {it:Addr} {u:Value} {o:Obj} {n:String} {vs:Array Value} {Q:Unit->Shared->Prop} (ho:s.heap.get? it=some o) (hc:o.cls=.type n) (hd:o.data=.fields vs)
 (hn:["enumerate","zip","dict_itemiterator","dict_reverseitemiterator","odict_iterator","itertools.zip_longest","itertools.pairwise"].contains n=false) (hQ:Q () s):wpAny M A (letOwnedTupleGo tg (.ref it) u) Q E s:=by
 unfold letOwnedTupleGo
 cases tg <;>first
  |exact wpAny_pure hQ
  |(cases u <;>first
   |exact wpAny_pure hQ
   |(refine wpAny_bind (wpAny_load ho ?_)
     rw [hc,hd]
     show wpAny M A (if (["enumerate","zip","dict_itemiterator","dict_reverseitemiterator","odict_iterator","itertools.zip_longest","itertools.pairwise"].contains n&&vs[0]? ==some (rawInt _))=true then _ else _) Q E s
     rw [if_neg (by intro h;rw [hn,Bool.false_and] at h;cases h)]
     exact wpAny_pure hQ))
def S8 (K:PySem.W.Frag) (a:Addr):It:=
 ⟨fun i H=>∃xs x,iH K H a xs/\xs[i]? =some x,fun i H x H'=>H'=H/\∀xs,iH K H a xs->xs[i]? =some x,fun i H=>∃xs,iH K H a xs/\xs.length<=i⟩
def Ql (lo:Int) (n:Nat):It:=⟨fun i _=>i<n,fun i H x H'=>H'=H/\x=.int (lo+i),fun i _=>n<=i⟩
theorem OI {P:Program} {w:World} {K:PySem.W.Frag} {tg:Expr} (a it:Addr):Turn P w K tg (S8 K a) [it] it (fun i h=>h.IsListIter it a i) where
 mem:=by simp
 obj:=fun i h st b hb=>by
  have e:b=it:=by simpa using hb
  subst e
  obtain⟨o,e,c,d⟩:=st
  exact⟨o,e,fun v z=>by rw [d] at z;cases z⟩
 keep:=fun i h h' st k=>st.at fun o e=>k it (by simp) o e
 item:=by
  intro X hP hw hK hc i pins s σ H E I hf st hg
  subst hP hw hK
  obtain⟨xs,x,hq,hx⟩:=hg
  obtain⟨a8,rv,p,hz⟩:=I.list hq
  obtain⟨u,hu,ru⟩:=rv.get hx
  obtain⟨f0,f1,f2,f3,f4,f5⟩:=hf it (by simp)
  refine wpAny_pyNext_list_item st p.isList (x:=u) (by simpa using hu) fun h' JE sb=>?_
  have I1:Inv X pins σ H {s with heap:=h'}:=I.turned (t':=s.toks) (fun b o hb e=>(sb.2 b hb).trans e) f0 f1 f3 f4 f5
  obtain⟨o,e,c,d⟩:=id JE
  exact⟨u,rfl,WQ (s:={s with heap:=h'}) e c d (by decide) ⟨x,H,I1,ru,⟨rfl,fun ys hy=>by rw [I.QE hy hq];exact hx⟩,JE,fun b hb=>(hf b hb).1⟩⟩
 done:=by
  intro X hP hw hK hc i pins s σ H E I hf st hg
  subst hP hw hK
  obtain⟨xs,hq,hx⟩:=hg
  obtain⟨a8,rv,p,hz⟩:=I.list hq
  obtain⟨f0,f1,f2,f3,f4,f5⟩:=hf it (by simp)
  have hl:=rv.length
  exact wpAny_pyNext_list_end (I.ok.hd hc) st p.isList (by simp;omega) fun h' eb=>⟨rfl,I.turned (t':=s.toks) (fun b o hb e=>eb b o hb e) f0 f1 f3 f4 f5⟩
 self:=fun _ _ _ _ _ st h=>wpAny_pyIter_listiter st h
theorem Lp {P:Program} {w:World} {K:PySem.W.Frag} {tg:Expr} (it:Addr) (lo:Int) (n:Nat):Turn P w K tg (Ql lo n) [it] it (fun i h=>IsRangeIter h it (lo+(i:Nat)*1) ((n:Int) - (i:Nat)) 1) where
 mem:=by simp
 obj:=fun i h st b hb=>by
  have e:b=it:=by simpa using hb
  subst e
  exact⟨_,st,fun v z=>by
   have z':Data.fields _=Data.cell v:=z
   cases z'⟩
 keep:=fun i h h' st k=>k it (by simp) _ st
 item:=by
  intro X hP hw hK hc i pins s σ H E I hf st hg
  subst hP hw hK
  obtain⟨f0,f1,f2,f3,f4,f5⟩:=hf it (by simp)
  have W:=Walks.range (prog:=X.prog) (w:=X.w) (I.ok.hd hc) it lo 1 n
  refine W.item i s _ _ hg st fun v h' tk hv JE kk=>?_
  obtain⟨t,rfl⟩:=hv
  have I1:Inv X pins σ H {s with heap:=h',toks:=tk}:=I.turned (fun b o hb e=>kk b o (by simpa using hb) e) f0 f1 f3 f4 f5
  refine⟨_,rfl,WQ (s:={s with heap:=h',toks:=tk}) (n:="range_iterator") JE rfl rfl (by decide) ⟨.int (lo+i),H,I1,⟨t,?_⟩,⟨rfl,rfl⟩,JE,fun b hb=>(hf b hb).1⟩⟩
  rw [Int.mul_one]
 done:=by
  intro X hP hw hK hc i pins s σ H E I hf st hg
  subst hP hw hK
  obtain⟨f0,f1,f2,f3,f4,f5⟩:=hf it (by simp)
  exact wpAny_pyNext_range_end (I.ok.hd hc) st (by have:n<=i:=hg;omega) fun h' eb=>⟨rfl,I.turned (t':=s.toks) (fun b o hb e=>eb b o hb e) f0 f1 f3 f4 f5⟩
 self:=fun _ _ _ _ _ st h=>wpAny_pyIter_rangeiter st h
section
variable {X:Cx} {tg:Expr}
def R3 (K:PySem.W.Frag) (tl:TE):TI:=fun σ H R=>tl σ H fun x H1=>∃a,x=.ref a/\(∃xs,iH K H1 a xs)/\R (S8 K a) H1
theorem fx {l:Expr} {tl:TE} (hl:PE X l tl):PI X tg l (R3 X.K tl):=by
 intro pins s σ H R I h
 refine dq (hl pins s σ H _ I h) fun v s1 ⟨x,H1,I1,r1,q1⟩=>?_
 obtain⟨a,e,⟨xs,hq⟩,q⟩:=q1
 subst e
 cases r1
 obtain⟨a8,rv,p,hz⟩:=I1.list hq
 refine wpAny_pyIter_list p.isList ?_
 refine⟨s1.heap.objs.size,[s1.heap.objs.size],_,_,H1,rfl,I1.kept (t':=s1.toks) fun b o e=>Heap.get?_push_of_some _ e,OI a _,⟨_,Heap.get?_push_size _ rfl,rfl,rfl⟩,fun b hb=>?_,q⟩
 have e:b=s1.heap.objs.size:=by simpa using hb
 subst e
 exact I1.Jc (Nat.le_refl _) (I1.bL.fresh (Nat.le_refl _))
theorem J1 {pins:List (Addr × Obj)} {σ:St} {H:Hp} {s:Shared} {R:It->Hp->Prop} {E:Value->Shared->Prop} {lo hi:Int} {t u v:Tok} {tk:Nat} (I:Inv X pins σ H s) (h1:-(2^62)<=lo) (h2:lo<2^62) (h3:-(2^62)<=hi) (h4:hi<2^62)
 (q:R (Ql lo (hi - lo).toNat) H):wpAny (model X.prog X.w) X.A (pyIter (.ref s.heap.objs.size)) (PIE X pins σ tg R) E {s with heap:=s.heap.push {cls:=.type "range",data:=.fields #[.int lo t,.int hi u,.int 1 v]},toks:=tk}:=by
 refine wpAny_pyIter_range (IsRange.new ..) (small_one h1 h2 h3 h4) ?_
 have I1:Inv X pins σ H {s with heap:=s.heap.push {cls:=.type "range",data:=.fields #[.int lo t,.int hi u,.int 1 v]},toks:=tk}:=I.kept fun b o e=>Heap.get?_push_of_some _ e
 refine⟨(s.heap.push {cls:=.type "range",data:=.fields #[.int lo t,.int hi u,.int 1 v]}).objs.size,[(s.heap.push {cls:=.type "range",data:=.fields #[.int lo t,.int hi u,.int 1 v]}).objs.size],_,_,H,rfl,
  I1.kept (t':=tk) fun b o e=>Heap.get?_push_of_some _ e,Lp _ lo (hi - lo).toNat,?_,fun b hb=>?_,q⟩
 . have e1:lo+((0:Nat):Int)*1=lo:=by simp
   have e2:(((hi - lo).toNat:Nat):Int) - ((0:Nat):Int)=Builtin.Range.rangeSize lo hi 1:=by rw [rangeSize_one];split <;>omega
   show IsRangeIter _ _ (lo+((0:Nat):Int)*1) ((((hi - lo).toNat:Nat):Int) - ((0:Nat):Int)) 1
   rw [e1,e2]
   exact Heap.get?_push_size _ rfl
 . have e:b=(s.heap.push {cls:=.type "range",data:=.fields #[.int lo t,.int hi u,.int 1 v]}).objs.size:=by simpa using hb
   subst e
   exact I1.Jc (Nat.le_refl _) (I1.bL.fresh (Nat.le_refl _))
def W9 (ta:TA):TI:=fun σ H R=>ta σ H fun vs H1=>∃j:Int,vs=[.int j]/\-(2^62)<=j/\j<2^62/\R (Ql 0 j.toNat) H1
def Xt (ta:TA):TI:=fun σ H R=>ta σ H fun vs H1=>∃i j:Int,vs=[.int i,.int j]/\(-(2^62)<=i/\i<2^62/\-(2^62)<=j/\j<2^62)/\R (Ql i (j - i).toNat) H1
theorem Oh {a:Expr} {ta:TA} {p pos:Pos} (hg:Gl X "range") (hm:X.mg "range"=none) (ha:PA X [a] ta) (hs:starEach [a] X.env=[(false,eval a X.env)]:=by rfl):PI X tg (.Call (.Name "range" p) [a] [] pos) (W9 ta):=by
 intro pins s σ H R I h
 refine Call_ (AH I hg hm boot_range (PyProof.Rows.callWith_type1 (dq (ha pos pins s σ H _ I h) fun us s1 ⟨vs,H1,I1,r1,q1⟩=>?_) hs rfl))
 obtain⟨j,e,q1,q2,q⟩:=q1
 subst e
 cases r1 with
 |cons r rr=>
  cases rr
  obtain⟨t,rfl⟩:=r
  exact call_range_1 (J1 I1 (by omega) (by omega) q1 q2 (by simpa using q))
theorem PU {a b:Expr} {ta:TA} {p pos:Pos} (hg:Gl X "range") (hm:X.mg "range"=none) (ha:PA X [a,b] ta) (hs:starEach [a,b] X.env=[(false,eval a X.env),(false,eval b X.env)]:=by rfl) (Qc:starEach [b] X.env=[(false,eval b X.env)]:=by rfl):
 PI X tg (.Call (.Name "range" p) [a,b] [] pos) (Xt ta):=by
 intro pins s σ H R I h
 refine Call_ (AH I hg hm boot_range (PyProof.Rows.callWith_type1 (dq (ha pos pins s σ H _ I h) fun us s1 ⟨vs,H1,I1,r1,q1⟩=>?_) (by rw [hs,Qc]) (by rw [Qc];rfl)))
 obtain⟨i,j,e,⟨q1,q2,q3,q4⟩,q⟩:=q1
 subst e
 cases r1 with
 |cons r rr=>
  cases rr with
  |cons r' rr=>
   cases rr
   obtain⟨t,rfl⟩:=r
   obtain⟨t',rfl⟩:=r'
   exact call_range_2 (J1 I1 q1 q2 q3 q4 q)
def X6 (wi:TI) (g:TG) (tb:TS):TS:=fun D σ H=>wi σ H fun J H1=>∃W:Nat->Nat->St->Hp->Prop,(∃m,W 0 m σ H1)/\∀i m σ H,W i m σ H->
 (J.stop i H/\D.nx σ H)\/(J.go i H/\∃N:St->Hp->Prop,(∀σ' H',N σ' H'->∃m',m'<m/\W (i+1) m' σ' H')/\∀x H',J.ZS i H x H'->g x σ H' fun σ2 H2=>tb {D with nx:=N,ct:=N,bk:=D.nx} σ2 H2)
def Gm (fp:List Addr) (h:Heap):List (Addr × Obj):=fp.filterMap fun b=>(h.get? b).map fun o=>(b,o)
theorem qZ {fp:List Addr} {h:Heap} {b:Addr} {o:Obj} (hb:b∈fp) (e:h.get? b=some o):(b,o)∈Gm fp h:=List.mem_filterMap.mpr ⟨b,hb,by rw [e];rfl⟩
theorem Pr {fp:List Addr} {h:Heap} {p:Addr × Obj} (hp:p∈Gm fp h):p.1∈fp/\h.get? p.1=some p.2:=by
 obtain⟨b,hb,e⟩:=List.mem_filterMap.mp hp
 cases q:h.get? b with
 |none=>rw [q] at e;cases e
 |some o=>
  rw [q] at e
  have e':(b,o)=p:=Option.some.inj e
  subst e'
  exact⟨hb,q⟩
theorem Inv.pinned {pins:List (Addr × Obj)} {σ:St} {H:Hp} {s:Shared} {fp:List Addr} (I:Inv X pins σ H s) (hf:∀b∈fp,ve X pins H b) (ho:∀b∈fp,∃o,s.heap.get? b=some o/\∀v,o.data≠.cell v):Inv X (pins++Gm fp s.heap) σ H s:=
 I.CF fun p hp=>(List.mem_append.mp hp).elim (fun z=>I.pin p (List.mem_append_right _ z)) fun z=>by
  obtain⟨hb,e⟩:=Pr z
  obtain⟨f0,f1,f2,_⟩:=hf p.1 hb
  obtain⟨o,e',d⟩:=ho p.1 hb
  rw [e] at e';cases e'
  exact⟨e,f0,f1,f2,d⟩
theorem Inv.FA {pins pl:List (Addr × Obj)} {σ:St} {H:Hp} {s:Shared} (I:Inv X (pins++pl) σ H s):Inv X pins σ H s:=I.CF fun p hp=>I.pin p (List.mem_append_right _ (List.mem_append_left _ hp))
theorem Gb {iter:Expr} {body:List Stmt} {wi:TI} {g:TG} {tb:TS} {pos:Pos} (hp:PassesOwn (model X.prog X.w) X.A X.env X.xe) (hc:X.calm=true) (hi:PI X tg iter wi) (hg:PG X tg g) (hb:K0 X body tb)
 (hs:∀x,foldedSetIterable iter X.env x=pure x:=by intro _;rfl):PS X (.For tg iter body [] pos) (X6 wi g tb):=by
 intro pins s σ H D I h
 refine wpAny_For (dq (hi pins s σ H _ I h) fun v s1 h1=>dq h1 fun itv s2 h2=>?_) hs
 obtain⟨it,fp,tn,J,H2,e,I2,T,st2,f2,W,⟨m0,w0⟩,turn⟩:=h2
 subst e
 have stat:∀{H':Hp},(∀b∈fp,H' b=none)->∀b∈fp,ve X pins H' b:=fun hn b hb=>⟨hn b hb,(f2 b hb).2⟩
 refine codeAny_forLoop_any (fun n s'=>∃i σ' H',Inv X pins σ' H' s'/\tn i s'.heap/\(∀b∈fp,H' b=none)/\W i n σ' H') ?_ m0 ⟨0,σ,H2,I2,st2,fun b hb=>(f2 b hb).1,w0⟩
 rintro n s3 ⟨i,σ3,H3,I3,st3,C6,w3⟩
 rcases turn i n σ3 H3 w3 with⟨stop,qn⟩|⟨go,N,hN,step⟩
 . refine wpAny_passesOwn hp (dq (T.done X rfl rfl rfl hc i pins s3 σ3 H3 X.xe I3 (stat C6) st3 stop) fun r s4 ⟨hr,I4⟩=>?_)
   subst hr
   exact wpAny_execs_nil ⟨σ3,H3,I4,qn⟩
 . refine wpAny_passesOwn hp (dq (T.item X rfl rfl rfl hc i pins s3 σ3 H3 X.xe I3 (stat C6) st3 go) fun r s4 ⟨u,hr,h4⟩=>?_)
   subst hr
   refine wpAny_passesOwn hp (dq h4 fun _ s5 ⟨x,H5,I5,r5,y5,Zx,fr5⟩=>?_)
   have I5':=I5.pinned (stat fr5) (T.obj _ _ Zx)
   refine wpAny_passesOwn hp (dq (hg _ s5 σ3 H5 x u _ I5' r5 (step x H5 y5)) fun _ s6 ⟨σ6,H6,I6,q6⟩=>?_)
   refine wpAny_passesOwn hp (dq (hb _ s6 σ6 H6 _ I6 q6) fun f s7 q7=>?_)
   have again:∀{σ7:St} {H7:Hp},Inv X (pins++Gm fp s5.heap) σ7 H7 s7->N σ7 H7->∃m,m<n/\∃i σ' H',Inv X pins σ' H' s7/\tn i s7.heap/\(∀b∈fp,H' b=none)/\W i m σ' H':=fun {σ7 H7} I7 n7=>by
    obtain⟨m',hm,w7⟩:=hN σ7 H7 n7
    refine⟨m',hm,i+1,σ7,H7,I7.FA,T.keep _ _ _ Zx fun b hb o e=>(I7.pin (b,o) (List.mem_append_right _ (List.mem_append_right _ (qZ hb e)))).1,fun b hb=>?_,w7⟩
    obtain⟨o,e,d⟩:=T.obj _ _ Zx b hb
    exact(I7.pin (b,o) (List.mem_append_right _ (List.mem_append_right _ (qZ hb e)))).2.1
   cases f with
   |next=>obtain⟨σ7,H7,I7,n7⟩:=q7;exact again I7 n7
   |cont=>obtain⟨σ7,H7,I7,n7⟩:=q7;exact again I7 n7
   |brk=>obtain⟨σ7,H7,I7,q7⟩:=q7;exact⟨σ7,H7,I7.FA,q7⟩
   |ret v=>obtain⟨x7,σ7,H7,I7,r7,q7⟩:=q7;exact⟨x7,σ7,H7,I7.FA,r7,q7⟩
end
theorem RJ {K:PySem.W.Frag} {a:Addr} {xs:List V} {g:TG} {tb:TS} {D:Ends} {σ:St} {H:Hp} (Pv:Nat->St->Hp->Prop) (h0:Pv 0 σ H) (hl:∀i σ H,i<=xs.length->Pv i σ H->iH K H a xs)
 (hs:∀i x σ H,xs[i]? =some x->Pv i σ H->g x σ H fun σ2 H2=>tb {D with nx:=Pv (i+1),ct:=Pv (i+1),bk:=D.nx} σ2 H2) (hd:∀σ H,Pv xs.length σ H->D.nx σ H):
 ∃W:Nat->Nat->St->Hp->Prop,(∃m,W 0 m σ H)/\∀i m σ H,W i m σ H->
  ((S8 K a).stop i H/\D.nx σ H)\/((S8 K a).go i H/\∃N:St->Hp->Prop,(∀σ' H',N σ' H'->∃m',m'<m/\W (i+1) m' σ' H')/\∀x H',(S8 K a).ZS i H x H'->g x σ H' fun σ2 H2=>tb {D with nx:=N,ct:=N,bk:=D.nx} σ2 H2):=by
 refine⟨fun i m σ H=>m=xs.length - i/\i<=xs.length/\Pv i σ H,⟨xs.length,by simp,Nat.zero_le _,h0⟩,?_⟩
 rintro i m σ H ⟨rfl,hi,p⟩
 have q:=hl i σ H hi p
 by_cases fq:i<xs.length
 . refine .inr ⟨⟨xs,xs[i],q,by simp [fq]⟩,Pv (i+1),fun σ' H' p'=>⟨xs.length - (i+1),by omega,rfl,fq,p'⟩,fun x H' y=>?_⟩
   obtain⟨e,y⟩:=y
   subst e
   exact hs i x σ _ (y xs q) p
 . have e:i=xs.length:=by omega
   subst e
   exact .inl ⟨⟨xs,q,Nat.le_refl _⟩,hd σ H p⟩
theorem Ov {lo:Int} {n:Nat} {g:TG} {tb:TS} {D:Ends} {σ:St} {H:Hp} (Pv:Nat->St->Hp->Prop) (h0:Pv 0 σ H)
 (hs:∀i σ H,i<n->Pv i σ H->g (.int (lo+i)) σ H fun σ2 H2=>tb {D with nx:=Pv (i+1),ct:=Pv (i+1),bk:=D.nx} σ2 H2) (hd:∀σ H,Pv n σ H->D.nx σ H):
 ∃W:Nat->Nat->St->Hp->Prop,(∃m,W 0 m σ H)/\∀i m σ H,W i m σ H->
  ((Ql lo n).stop i H/\D.nx σ H)\/((Ql lo n).go i H/\∃N:St->Hp->Prop,(∀σ' H',N σ' H'->∃m',m'<m/\W (i+1) m' σ' H')/\∀x H',(Ql lo n).ZS i H x H'->g x σ H' fun σ2 H2=>tb {D with nx:=N,ct:=N,bk:=D.nx} σ2 H2):=by
 refine⟨fun i m σ H=>m=n - i/\i<=n/\Pv i σ H,⟨n,by simp,Nat.zero_le _,h0⟩,?_⟩
 rintro i m σ H ⟨rfl,hi,p⟩
 by_cases fq:i<n
 . refine .inr ⟨fq,Pv (i+1),fun σ' H' p'=>⟨n - (i+1),by omega,rfl,fq,p'⟩,fun x H' y=>?_⟩
   obtain⟨e,y⟩:=y
   subst e y
   exact hs i σ _ fq p
 . have e:i=n:=by omega
   subst e
   exact .inl ⟨Nat.le_refl _,hd σ H p⟩
abbrev R2:=V->V->Hp->VK->Prop
def C9 (X:Cx) (f:Value->Value->Sem Value) (r:R2):Prop:=
 ∀(pins:List (Addr × Obj)) (s:Shared) (σ:St) (H:Hp) (x y:V) (v u:Value) (Q:VK),Inv X pins σ H s->RelV x v->RelV y u->r x y H Q->
  wpAny (model X.prog X.w) X.A (f v u) (EP X pins σ Q) X.xe s
def kl (X:Cx) (f:Value) (r:List V->Hp->VK->Prop):Prop:=
 ∀(pins:List (Addr × Obj)) (s:Shared) (σ:St) (H:Hp) (xs:List V) (us:List Value) (Q:VK),Inv X pins σ H s->Vals xs us->r xs H Q->
  wpAny (model X.prog X.w) X.A (call f us) (EP X pins σ Q) X.xe s
def ad5 (X:Cx) (r:V->Hp->(Bool->Hp->Prop)->Prop):Prop:=
 ∀(pins:List (Addr × Obj)) (s:Shared) (σ:St) (H:Hp) (x:V) (v:Value) (Q:Bool->Hp->Prop),Inv X pins σ H s->RelV x v->r x H Q->
  wpAny (model X.prog X.w) X.A (truthy v) (TP X pins σ Q) X.xe s
def tOp (r:R2) (ta tb:TE):TE:=fun σ H Q=>ta σ H fun x H1=>tb σ H1 fun y H2=>r x y H2 Q
def rI (C:Int->Int->Prop) (g:Int->Int->V):R2:=fun x y H Q=>∃i j,x=.int i/\y=.int j/\C i j/\Q (g i j) H
def UR (g:Int->Int->V):R2:=fun x y H Q=>∃i j,x=.int i/\y=.int j/\Q (g i j) H
section
variable {X:Cx} {a b c:Expr} {ta tb tc:TE} {pos:Pos}
theorem XD (ha:PE X a ta) (hb:PE X b tb) {pins:List (Addr × Obj)} {s:Shared} {σ:St} {H:Hp} {R:V->V->Hp->Prop} (I:Inv X pins σ H s)
 (h:ta σ H fun x H1=>tb σ H1 fun y H2=>R x y H2) {Q:Value->Shared->Prop} {f:Value->Value->Sem Value}
 (hf:∀v u s2 x y H2,Inv X pins σ H2 s2->RelV x v->RelV y u->R x y H2->wpAny (model X.prog X.w) X.A (f v u) Q X.xe s2):
 wpAny (model X.prog X.w) X.A (eval a X.env) (fun v s₁=>wpAny (model X.prog X.w) X.A (eval b X.env) (fun u s₂=>wpAny (model X.prog X.w) X.A (f v u) Q X.xe s₂) X.xe s₁) X.xe s:=by
 refine dq (ha pins s σ H _ I h) fun v s1 ⟨x,H1,I1,r1,q1⟩=>?_
 refine dq (hb pins s1 σ H1 _ I1 q1) fun u s2 ⟨y,H2,I2,r2,q2⟩=>?_
 exact hf v u s2 x y H2 I2 r1 r2 q2
theorem av {op:Operator} {r:R2} (ho:C9 X (binaryOp op) r) (ha:PE X a ta) (hb:PE X b tb):PE X (.BinOp a op b pos) (tOp r ta tb):=by
 intro pins s σ H Q I h
 exact wpAny_BinOp (XD ha hb I h fun v u s2 x y H2 I2 rx ry q=>ho pins s2 σ H2 x y v u Q I2 rx ry q)
theorem opI {f:Value->Value->Sem Value} {C:Int->Int->Prop} {g:Int->Int->Int}
 (rule:∀(i j:Int) (t u:Tok) (s:Shared) (Q:Value->Shared->Prop) (E:Value->Shared->Prop),C i j->Q (.int (g i j) s.toks) {s with toks:=s.toks+1}->wpAny (model X.prog X.w) X.A (f (.int i t) (.int j u)) Q E s):
 C9 X f (rI C fun i j=>.int (g i j)):=by
 intro pins s σ H x y v u Q I rx ry h
 obtain⟨i,j,rfl,rfl,hc,q⟩:=h
 obtain⟨t,rfl⟩:=rx
 obtain⟨t',rfl⟩:=ry
 exact rule i j t t' s _ _ hc ⟨.int (g i j),H,I.tok _,⟨_,rfl⟩,q⟩
theorem abv {f:Value->Value->Sem Value} {g:Int->Int->Int}
 (rule:∀(i j:Int) (t u:Tok) (s:Shared) (Q:Value->Shared->Prop) (E:Value->Shared->Prop),Q (.int (g i j) s.toks) {s with toks:=s.toks+1}->wpAny (model X.prog X.w) X.A (f (.int i t) (.int j u)) Q E s):
 C9 X f (UR fun i j=>.int (g i j)):=by
 intro pins s σ H x y v u Q I rx ry h
 obtain⟨i,j,rfl,rfl,q⟩:=h
 obtain⟨t,rfl⟩:=rx
 obtain⟨t',rfl⟩:=ry
 exact rule i j t t' s _ _ ⟨.int (g i j),H,I.tok _,⟨_,rfl⟩,q⟩
theorem Vz {f:Value->Value->Sem Value} {g:Int->Int->Bool}
 (rule:∀(i j:Int) (t u:Tok) (s:Shared) (Q:Value->Shared->Prop) (E:Value->Shared->Prop),Q (.bool (g i j)) s->wpAny (model X.prog X.w) X.A (f (.int i t) (.int j u)) Q E s):
 C9 X f (UR fun i j=>.bl (g i j)):=by
 intro pins s σ H x y v u Q I rx ry h
 obtain⟨i,j,rfl,rfl,q⟩:=h
 obtain⟨t,rfl⟩:=rx
 obtain⟨t',rfl⟩:=ry
 exact rule i j t t' s _ _ ⟨.bl (g i j),H,I,rfl,q⟩
def XQ (i j:Int):Prop:=0<=j/\j<=1000000/\i.natAbs<2^64
theorem aM:C9 X (binaryOp .Add) (UR fun i j=>.int (i+j)):=abv fun _ _ _ _ _ _ _ q=>add_int q
theorem eF:C9 X (binaryOp .Sub) (UR fun i j=>.int (i - j)):=abv fun _ _ _ _ _ _ _ q=>sub_int q
theorem ZR:C9 X (binaryOp .Mod) (rI (fun _ j=>0<j) fun i j=>.int (i % j)):=opI fun i j _ _ _ _ _ hc q=>by
 have h1:(0:Int)<j:=hc
 exact mod_int' (by omega) (by rw [Int.fmod_eq_emod_of_nonneg i (by omega)];exact q)
theorem Lx:C9 X (binaryOp .Pow) (rI XQ fun i j=>.int (i^j.toNat)):=opI fun _ _ _ _ _ _ _ hc q=>pow_int_small hc.1 hc.2.1 hc.2.2 q
end
def U4:V->V->Bool
 | .aQ,.aQ=>true| .aQ,.int _=>true| .int _,.aQ=>true| .aQ,.bl _=>true| .bl _,.aQ=>true| .aQ,.str _=>true| .str _,.aQ=>true
 | .int _,.int _=>true| .bl _,.bl _=>true| .str _,.str _=>true| .NY _,.NY _=>true
 | .int _,.str _=>true| .str _,.int _=>true| .bl _,.str _=>true| .str _,.bl _=>true
 |_,_=>false
def rEq:R2:=fun x y H Q=>U4 x y=true/\Q (.bl (decide (x=y))) H
def rNe:R2:=fun x y H Q=>U4 x y=true/\Q (.bl (!decide (x=y))) H
theorem Nm {i j:Int}:decide (V.int i=V.int j)=(i==j):=by
 rw [Bool.eq_iff_iff]
 simp
theorem Qy {i j:Bool}:decide (V.bl i=V.bl j)=(i==j):=by
 rw [Bool.eq_iff_iff]
 simp
theorem Nw {i j:Str}:decide (V.str i=V.str j)=(i==j):=by
 rw [Bool.eq_iff_iff]
 simp
theorem Ny {i j:Array UInt8}:decide (V.NY i=V.NY j)=(i.toList==j.toList):=by
 rw [Bool.eq_iff_iff]
 cases i
 cases j
 simp
section
variable {X:Cx} {a b c:Expr} {ta tb tc:TE} {pos:Pos}
theorem a9 {pins:List (Addr × Obj)} {σ:St} {H:Hp} {s:Shared} {Q:VK} {k k':Bool} (I:Inv X pins σ H s) (q:Q (.bl k) H) (e:k=k'):EP X pins σ Q (.bool k') s:=by
 subst e
 exact⟨.bl k,H,I,rfl,q⟩
theorem ack:C9 X (compareOp .Eq) rEq:=by
 intro pins s σ H x y v u Q I rx ry h
 obtain⟨hs,q⟩:=h
 cases x with
 |aQ=>
  cases rx
  cases y with
  |aQ=>cases ry;exact PySem.EqNone.eq_none_none (a9 I q (by simp))
  |bl j=>cases ry;exact PySem.EqNone.eq_none_bool (a9 I q (by simp))
  |int j=>obtain⟨t',rfl⟩:=ry;exact PySem.EqNone.eq_none_int (a9 I q (by simp))
  |str j=>obtain⟨t',rfl⟩:=ry;exact PySem.EqNone.eq_none_str (a9 I q (by simp))
  |_=>exact absurd (show false=true from hs) Bool.false_ne_true
 |bl i=>
  cases rx
  cases y with
  |aQ=>cases ry;exact PySem.EqNone.eq_bool_none (a9 I q (by simp))
  |bl j=>cases ry;exact eq_bool (a9 I q Qy)
  |str j=>obtain⟨t',rfl⟩:=ry;exact PySem.EqMixed.eq_bool_str (a9 I q (by simp))
  |_=>exact absurd (show false=true from hs) Bool.false_ne_true
 |int i=>
  obtain⟨t,rfl⟩:=rx
  cases y with
  |aQ=>cases ry;exact PySem.EqNone.eq_int_none (a9 I q (by simp))
  |int j=>obtain⟨t',rfl⟩:=ry;exact eq_int (a9 I q Nm)
  |str j=>obtain⟨t',rfl⟩:=ry;exact PySem.EqMixed.eq_int_str (a9 I q (by simp))
  |_=>exact absurd (show false=true from hs) Bool.false_ne_true
 |str i=>
  obtain⟨t,rfl⟩:=rx
  cases y with
  |aQ=>cases ry;exact PySem.EqNone.eq_str_none (a9 I q (by simp))
  |bl j=>cases ry;exact PySem.EqMixed.eq_str_bool (a9 I q (by simp))
  |int j=>obtain⟨t',rfl⟩:=ry;exact PySem.EqMixed.eq_str_int (a9 I q (by simp))
  |str j=>obtain⟨t',rfl⟩:=ry;exact eq_str (a9 I q Nw)
  |_=>exact absurd (show false=true from hs) Bool.false_ne_true
 |NY i=>
  obtain⟨t,rfl⟩:=rx
  cases y with
  |NY j=>obtain⟨t',rfl⟩:=ry;exact PySem.W.eq_bytes (a9 I q Ny)
  |_=>exact absurd (show false=true from hs) Bool.false_ne_true
 |_=>cases y <;>exact absurd (show false=true from hs) Bool.false_ne_true
theorem acJ:C9 X (compareOp .NotEq) rNe:=by
 intro pins s σ H x y v u Q I rx ry h
 obtain⟨hs,q⟩:=h
 cases x with
 |aQ=>
  cases rx
  cases y with
  |aQ=>cases ry;exact PySem.EqNone.ne_none_none (a9 I q (by simp))
  |bl j=>cases ry;exact PySem.EqNone.ne_none_bool (a9 I q (by simp))
  |int j=>obtain⟨t',rfl⟩:=ry;exact PySem.EqNone.ne_none_int (a9 I q (by simp))
  |str j=>obtain⟨t',rfl⟩:=ry;exact PySem.EqNone.ne_none_str (a9 I q (by simp))
  |_=>exact absurd (show false=true from hs) Bool.false_ne_true
 |bl i=>
  cases rx
  cases y with
  |aQ=>cases ry;exact PySem.EqNone.ne_bool_none (a9 I q (by simp))
  |bl j=>cases ry;exact ne_bool (a9 I q (congrArg not Qy))
  |str j=>obtain⟨t',rfl⟩:=ry;exact PySem.EqMixed.ne_bool_str (a9 I q (by simp))
  |_=>exact absurd (show false=true from hs) Bool.false_ne_true
 |int i=>
  obtain⟨t,rfl⟩:=rx
  cases y with
  |aQ=>cases ry;exact PySem.EqNone.ne_int_none (a9 I q (by simp))
  |int j=>obtain⟨t',rfl⟩:=ry;exact ne_int (a9 I q (congrArg not Nm))
  |str j=>obtain⟨t',rfl⟩:=ry;exact PySem.EqMixed.ne_int_str (a9 I q (by simp))
  |_=>exact absurd (show false=true from hs) Bool.false_ne_true
 |str i=>
  obtain⟨t,rfl⟩:=rx
  cases y with
  |aQ=>cases ry;exact PySem.EqNone.ne_str_none (a9 I q (by simp))
  |bl j=>cases ry;exact PySem.EqMixed.ne_str_bool (a9 I q (by simp))
  |int j=>obtain⟨t',rfl⟩:=ry;exact PySem.EqMixed.ne_str_int (a9 I q (by simp))
  |str j=>obtain⟨t',rfl⟩:=ry;exact ne_str (a9 I q (congrArg not Nw))
  |_=>exact absurd (show false=true from hs) Bool.false_ne_true
 |NY i=>
  obtain⟨t,rfl⟩:=rx
  cases y with
  |NY j=>obtain⟨t',rfl⟩:=ry;exact PySem.W.ne_bytes (a9 I q (congrArg not Ny))
  |_=>exact absurd (show false=true from hs) Bool.false_ne_true
 |_=>cases y <;>exact absurd (show false=true from hs) Bool.false_ne_true
theorem GK:C9 X (compareOp .Lt) (UR fun i j=>.bl (decide (i<j))):=Vz fun _ _ _ _ _ _ _ q=>lt_int q
theorem Q5:C9 X (compareOp .LtE) (UR fun i j=>.bl (decide (i<=j))):=Vz fun _ _ _ _ _ _ _ q=>le_int q
theorem TB:C9 X (compareOp .Gt) (UR fun i j=>.bl (decide (j<i))):=Vz fun _ _ _ _ _ _ _ q=>gt_int q
theorem Sh:C9 X (compareOp .GtE) (UR fun i j=>.bl (decide (j<=i))):=Vz fun _ _ _ _ _ _ _ q=>ge_int q
theorem F1:C9 X (compareOp .Is) (fun x y H Q=>y=.aQ/\Q (.bl (decide (x=.aQ))) H):=by
 intro pins s σ H x y v u Q I rx ry h
 obtain⟨rfl,q⟩:=h
 cases ry
 refine is_none_gen (a9 I q ?_)
 cases x <;>first
  |(cases rx;rfl)
  |(obtain⟨t,rfl⟩:=rx;rfl)
theorem qQ:C9 X (compareOp .IsNot) (fun x y H Q=>y=.aQ/\Q (.bl (!decide (x=.aQ))) H):=by
 intro pins s σ H x y v u Q I rx ry h
 obtain⟨rfl,q⟩:=h
 cases ry
 refine isnot_none_gen (a9 I q ?_)
 cases x <;>first
  |(cases rx;rfl)
  |(obtain⟨t,rfl⟩:=rx;rfl)
theorem aJ (b:Expr) {op:CmpOp} (h:op≠.In:=by decide) (h2:op≠.NotIn:=by decide):behindInMarks op b=false:=by
 have e1:(op==CmpOp.In)=false:=by cases op <;>first|rfl|exact absurd rfl h
 have e2:(op==CmpOp.NotIn)=false:=by cases op <;>first|rfl|exact absurd rfl h2
 cases b <;>simp [behindInMarks,e1,e2]
theorem iA {op:CmpOp} {r:R2} (ho:C9 X (compareOp op) r) (ha:PE X a ta) (hb:PE X b tb) (hm:behindInMarks op b=false):PE X (.Compare a [op] [b] pos) (tOp r ta tb):=by
 intro pins s σ H Q I h
 exact wpAny_Compare1 (XD ha hb I h fun v u s2 x y H2 I2 rx ry q=>ho pins s2 σ H2 x y v u Q I2 rx ry q) hm
def Xe (t:TE):TT:=fun σ H Q=>t σ H fun x H'=>∃k,x=.bl k/\Q k H'
theorem aK {op:CmpOp} {r:R2} (ho:C9 X (compareOp op) r) (ha:PE X a ta) (hb:PE X b tb) (hm:behindInMarks op b=false):PT X (.Compare a [op] [b] pos) (Xe (tOp r ta tb)):=by
 intro pins s σ H Q I h
 refine wpAny_isTrue_Compare1 (dq (ha pins s σ H _ I h) fun v s1 ⟨x,H1,I1,r1,q1⟩=>dq (hb pins s1 σ H1 _ I1 q1) fun u s2 ⟨y,H2,I2,r2,q2⟩=>
  dq (ho pins s2 σ H2 x y v u _ I2 r1 r2 q2) fun c s3 ⟨z,H3,I3,r3,k,e,q3⟩=>?_) hm
 subst e
 cases r3
 exact wpAny_truthy_bool ⟨H3,I3,q3⟩
def Qs (K:PySem.W.Frag) (x:V) (H:Hp) (k:Bool):Prop:=
 match x with
 | .aQ=>k=false
 | .bl b=>k=b
 | .int i=>k=(i !=0)
 | .str y=>y.length<=sizeLine/\k=((y.length:Int) !=0)
 | .NY y=>y.size<=sizeLine/\k=((y.size:Int) !=0)
 | .ref p=>(∃xs,iH K H p xs/\k=!xs.isEmpty)\/(∃xs,Pg K H p xs/\k=!xs.isEmpty)\/∃kvs,H p=some (.dK kvs)/\k=!kvs.isEmpty
 |_=>False
theorem L5 {κ:Type} {kvs:List (κ × V)} {vs:List (κ × Value)} (r:KV kvs vs):(!vs.isEmpty)=!kvs.isEmpty:=by
 cases r <;>rfl
theorem FY {xs:List V} {a8:List Value} (r:Vals xs a8):(!a8.toArray.isEmpty)=!xs.isEmpty:=by
 cases r <;>simp
theorem An:(sizeLine:Nat)<2^63:=by rw [sizeLine_eq];decide
theorem Yt:ad5 X (fun x H Q=>∃k,Qs X.K x H k/\Q k H):=by
 intro pins s σ H x v Q I rx h
 obtain⟨k,e,q⟩:=h
 have hl:=An
 have hs:sizeLine=16777216:=sizeLine_eq
 cases x with
 |aQ=>
  cases rx
  have e':k=false:=e
  subst e'
  exact truthy_none ⟨H,I,q⟩
 |bl b=>
  cases rx
  have e':k=b:=e
  subst e'
  exact wpAny_truthy_bool ⟨H,I,q⟩
 |int i=>
  obtain⟨t,rfl⟩:=rx
  have e':k=(i !=0):=e
  subst e'
  exact PySem.P.truthy_int ⟨H,I,q⟩
 |str y=>
  obtain⟨t,rfl⟩:=rx
  obtain⟨hy,e'⟩:y.length<=sizeLine/\k=((y.length:Int) !=0):=e
  subst e'
  exact PySem.P.truthy_str (by omega) ⟨H,I.tok _,q⟩
 |NY y=>
  obtain⟨t,rfl⟩:=rx
  obtain⟨hy,e'⟩:y.size<=sizeLine/\k=((y.size:Int) !=0):=e
  subst e'
  exact PySem.W.truthy_bytes (by omega) ⟨H,I.tok _,q⟩
 |ref p=>
  cases rx
  have e':(∃xs,iH X.K H p xs/\k=!xs.isEmpty)\/(∃xs,Pg X.K H p xs/\k=!xs.isEmpty)\/∃kvs,H p=some (.dK kvs)/\k=!kvs.isEmpty:=e
  rcases e' with⟨xs,hx,e'⟩|⟨xs,hx,e'⟩|⟨kvs,hx,e'⟩
  . subst e'
    obtain⟨a8,r,pl,hz⟩:=I.list hx
    have hlen:=r.length
    exact wpAny_truthy_list pl.isList (by simp only [List.size_toArray];omega) ⟨H,I.tok _,by rw [FY r];exact q⟩
  . subst e'
    obtain⟨a8,r,pl,hz⟩:=I.tuple hx
    have hlen:=r.length
    exact truthy_tuple pl (by simp only [List.size_toArray];omega) ⟨H,I.tok _,by rw [FY r];exact q⟩
  . subst e'
    obtain⟨hz,hS,vs,r,m⟩:kvs.length<=sizeLine/\(p==sysModules)=false/\∃vs,KV kvs vs/\s.heap.DictOf (aX X.prog X.w) p vs:=I.bL p _ hx
    have hlen:kvs.length=vs.length:=Paired.length r
    exact wpAny_truthy_dict hS m (by omega) ⟨H,I.tok _,by rw [L5 r];exact q⟩
 |_=>exact(show False from e).elim
theorem eg (ha:PE X a ta) (he:∀whole,isTrue a X.env whole=(do let v <-whole;standAt a.pos;holding [v] (truthy v))):
 PT X a (fun σ H Q=>ta σ H fun x H'=>∃k,Qs X.K x H' k/\Q k H'):=by
 intro pins s σ H Q I h
 exact isTrue_plain (dq (ha pins s σ H _ I h) fun v s1 ⟨x,H1,I1,r1,q1⟩=>Yt pins s1 σ H1 x v Q I1 r1 q1) (he _)
theorem Mg:C9 X (binaryOp .Add) (fun x y H Q=>∃i j,x=.str i/\y=.str j/\i.length+j.length<=sizeLine/\Q (.str (i++j)) H):=by
 intro pins s σ H x y v u Q I rx ry h
 obtain⟨i,j,rfl,rfl,hz,q⟩:=h
 obtain⟨t,rfl⟩:=rx
 obtain⟨t',rfl⟩:=ry
 exact add_str (fun t' tk=>⟨.str (i++j),H,I.tok _,⟨_,rfl⟩,q⟩) hz
theorem vals1 {x:V} {us:List Value} (r:Vals [x] us):∃u,us=[u]/\RelV x u:=by
 cases r with
 |cons r1 r2=>cases r2;exact⟨_,rfl,r1⟩
theorem vals2 {x y:V} {us:List Value} (r:Vals [x,y] us):∃u w',us=[u,w']/\RelV x u/\RelV y w':=by
 cases r with
 |cons r1 r2=>
  cases r2 with
  |cons r3 r4=>cases r4;exact⟨_,_,rfl,r1,r3⟩
theorem Pl (hc:X.calm=true):kl X (.builtin "max") (fun xs H Q=>∃i j,xs=[.int i,.int j]/\Q (.int (if j>i then j else i)) H):=by
 intro pins s σ H xs us Q I r h
 obtain⟨i,j,rfl,q⟩:=h
 obtain⟨u,w',rfl,⟨t,rfl⟩,⟨t',rfl⟩⟩:=vals2 r
 refine max_two_ints (I.ok.hd hc) fun h' tk k=>⟨_,H,I.kept k,?_,q⟩
 by_cases hj:j>i
 . rw [if_pos hj,if_pos hj];exact⟨_,rfl⟩
 . rw [if_neg hj,if_neg hj];exact⟨_,rfl⟩
theorem O8 (hc:X.calm=true):kl X (.builtin "min") (fun xs H Q=>∃i j,xs=[.int i,.int j]/\Q (.int (if j<i then j else i)) H):=by
 intro pins s σ H xs us Q I r h
 obtain⟨i,j,rfl,q⟩:=h
 obtain⟨u,w',rfl,⟨t,rfl⟩,⟨t',rfl⟩⟩:=vals2 r
 refine min_two_ints (I.ok.hd hc) fun h' tk k=>⟨_,H,I.kept k,?_,q⟩
 by_cases hj:j<i
 . rw [if_pos hj,if_pos hj];exact⟨_,rfl⟩
 . rw [if_neg hj,if_neg hj];exact⟨_,rfl⟩
theorem OA:kl X (.type "int") (fun xs H Q=>(∃i,xs=[.int i]/\Q (.int i) H)\/∃k,xs=[.bl k]/\Q (.int (if k then 1 else 0)) H):=by
 intro pins s σ H xs us Q I r h
 rcases h with⟨i,rfl,q⟩|⟨k,rfl,q⟩
 . obtain⟨u,rfl,t,rfl⟩:=vals1 r
   exact call_int_int ⟨.int i,H,I,⟨_,rfl⟩,q⟩
 . obtain⟨u,rfl,r1⟩:=vals1 r
   cases r1
   exact call_int_bool ⟨.int (if k then 1 else 0),H,I.tok _,⟨_,rfl⟩,q⟩
end
structure LJ (h:Heap) (x dx C:Addr) (mA:Str->Option Value):Prop where
 obj:h.get? x=some (PySem.W.instObj C dx)
 ns:h.Ns1 dx mA
 ne:dx≠x
theorem OO {h:Heap} {dx:Addr} {mA:Str->Option Value} (n:h.Ns1 dx mA):∃od,h.get? dx=some od/\∀name,PySem.W.lookIn name od=some (mA name):=by
 obtain⟨o,es,ep,ho,hd,hk,_,hm⟩:=n
 refine⟨o,ho,fun name=>?_⟩
 have e:=hm name
 unfold nsFind findBy at e
 rw [<-Array.find?_toList] at e
 unfold PySem.W.lookIn
 rw [hd]
 dsimp only
 split
 . rename_i y q
   rw [q] at e
   exact congrArg some e
 . rename_i q
   rw [q] at e
   have a:es.toList.any (·.refKey)=false:=by
    rw [List.any_eq_false]
    intro y hy
    obtain⟨z,t,adF⟩:=hk y (Array.mem_toList_iff.mp hy)
    simp [DictEntry.refKey,adF]
   have a':¬es.toList.any (·.refKey)=true:=by rw [a];exact Bool.false_ne_true
   rw [if_neg a']
   exact congrArg some e
theorem LJ.look {h:Heap} {x dx C:Addr} {mA:Str->Option Value} (I:LJ h x dx C mA):∃od,PySem.W.InstAt h x (PySem.W.instObj C dx) C (some od)/\∀name,PySem.W.lookIn name od=some (mA name):=
 let ⟨od,ho,hl⟩:=OO I.ns
 ⟨od,⟨I.obj,rfl,rfl,ho⟩,hl⟩
section
variable {prog:Program} {w:World} {A:Around} {E:Value->Shared->Prop} {s:Shared} {K:PySem.W.Frag} {x dx C f:Addr} {mA:Str->Option Value} {name:Str} {v:Value}
theorem get_map {expr:Bool} {Q:Value->Shared->Prop} (X:K.In s.heap) (I:LJ s.heap x dx C mA) (hg:PySem.W.plainGet K C name=true) (hh:PySem.W.hasDictIn K C=true)
 (ha:PySem.W.findIn K (.ref C) name=some none) (hv:mA name=some v) (hv':PySem.W.handedIn v=true) (h:Q v {s with toks:=s.toks+1}):
 wpAny (model prog w) A (getAttr (.ref x) name expr) Q E s:=by
 obtain⟨od,J,hl⟩:=I.look
 exact PySem.W.get_value X J (PySem.W.plainGet_of hg).1 (PySem.W.findObj_own hh ha rfl (by rw [hl,hv])) hv' h
theorem Qr {pl:Sem Bool} {Q:Value × List Value->Shared->Prop} (X:K.In s.heap) (I:LJ s.heap x dx C mA) (hg:PySem.W.plainGet K C name=true)
 (hf:PySem.W.findIn K (.ref C) name=some (some (.ref f))) (ht:PySem.W.isFn K (.ref f)=true) (hv:mA name=none) (h:Q (.ref f,[.ref x]) s):
 wpAny (model prog w) A (getMethod (.ref x) name pl) Q E s:=by
 obtain⟨od,J,hl⟩:=I.look
 exact PySem.W.method_fn X J (PySem.W.plainGet_of hg).1 (PySem.W.plainGet_of hg).2 hf (beq_iff_eq.mp ht) (by show(PySem.W.lookIn name od).map (·.isSome)=some false;rw [hl,hv];rfl) h
theorem Vy {ns:List Str} {Q:Unit->Shared->Prop} (X:K.In s.heap) (I:LJ s.heap x dx C mA)
 (hs:PySem.W.findIn K (.ref C) "__setattr__"=some (some (.builtin "object.__setattr__"))) (hp:PySem.W.plainOver K C=true) (ht:PySem.W.takerIn K C name=some none) (hh:PySem.W.hasDictIn K C=true)
 (hw:PySem.Within mA ns) (hsz:ns.length<=sizeLine)
 (h:∀h',LJ h' x dx C (fun y=>if y=name then some v else mA y)->Heap.SameBut dx s.heap h'->Q () {s with heap:=h',toks:=s.toks+2}):
 wpAny (model prog w) A (setAttr (.ref x) name v) Q E s:=by
 obtain⟨od,J,hl⟩:=I.look
 refine PySem.W.set_plain X J hs (PySem.W.osa_open (s:={s with toks:=s.toks+1}) (r:=none) X J hp ht fun b=>?_)
 obtain⟨cd,hc,Nu⟩:=PySem.W.any_some hh
 have hx:s.heap.get? x=some ⟨.ref C,some dx,.plain,#[]⟩:=I.obj
 refine wpAny_bind (wpAny_pure (wpAny_bind (wpAny_bind (wpAny_loadPart hx (wpAny_bind (PySem.W.Looks.here (s:={s with toks:=s.toks+1}) (PySem.W.looks_clsIn X hc) ?_))))))
 rw [Nu]
 refine wpAny_pure (a:=some dx) (wpAny_bind (wpAny_pure (wpAny_bind ?_)))
 refine wpAny_nsSet1 (s:={s with toks:=s.toks+1}) I.ns fun h' DV Qc=>?_
 obtain⟨oD,esD,epD,hoD,hdD,hcD⟩:=DV.count (PySem.Within.cons name v hw)
 refine wpAny_bind (wpAny_lookBehind hoD (by rw [hdD];exact pastItsLine_dict (Nat.le_trans hcD (by rw [List.length_cons];omega))) ?_)
 exact wpAny_pure (h _ ⟨(Qc.2 _ (Ne.symm I.ne)).trans I.obj,DV,I.ne⟩ Qc)
theorem QX {R:Result->Shared->Prop} {vs:List Value} {kw:List (Str × Value)} (X:K.In s.heap) (hm:PySem.W.makesIn K C=true)
 (hi:PySem.W.findIn K (.ref C) "__init__"=some (some (.ref f))) (hf:PySem.W.typeIn K (.ref f)=some (.type "function"))
 (h:codeAny (model prog w) (A.under (.builtin "type.__call__" ⟨.ref C::vs,kw⟩)) (.call (.ref f) ⟨.ref (s.heap.objs.size+1)::vs,kw⟩) (PySem.W.InitBack (s.heap.objs.size+1) R)
  {s with heap:=(s.heap.push PySem.W.emptyDict).push (PySem.W.instObj C s.heap.objs.size)}):
 codeAny (model prog w) A (.call (.ref C) ⟨vs,kw⟩) R s:=by
 obtain⟨hh,g,d,t,os⟩:=s
 exact PySem.W.make_core (PySem.W.makes_of X hm) (PySem.W.looks_findIn X hi) (fun self=>PySem.W.bind_fn X self hf) (.inl rfl) h
end
def pq (f:Str) (v:V):List (Str × V)->List (Str × V)
 |[]=>[(f,v)]
 |(g,x)::r=>if g=f then (g,v)::r else (g,x)::pq f v r
theorem Ec (f g:Str) (v:V):∀fs:List (Str × V),(pq f v fs).lookup g=if g=f then some v else fs.lookup g
 |[]=>by
  show List.lookup g [(f,v)]=_
  by_cases h:g=f
  . have hb:(g==f)=true:=beq_iff_eq.mpr h
    simp only [List.lookup,hb,if_pos h]
  . have hb:(g==f)=false:=beq_eq_false_iff_ne.mpr h
    simp only [List.lookup,hb,if_neg h]
 |(k,x)::r=>by
  have ih:=Ec f g v r
  rw [show pq f v ((k,x)::r)=(if k=f then (k,v)::r else (k,x)::pq f v r) from rfl]
  by_cases hk:k=f
  . rw [if_pos hk]
    by_cases h:g=k
    . have hb:(g==k)=true:=beq_iff_eq.mpr h
      simp only [List.lookup,hb,if_pos (h.trans hk)]
    . have hb:(g==k)=false:=beq_eq_false_iff_ne.mpr h
      simp only [List.lookup,hb,if_neg (fun e:g=f=>h (e.trans hk.symm))]
  . rw [if_neg hk]
    by_cases h:g=k
    . have hb:(g==k)=true:=beq_iff_eq.mpr h
      simp only [List.lookup,hb,if_neg (fun e:g=f=>hk (h.symm.trans e))]
    . have hb:(g==k)=false:=beq_eq_false_iff_ne.mpr h
      simp only [List.lookup,hb]
      exact ih
theorem DI (f:Str) (v:V):∀fs:List (Str × V),f∈(pq f v fs).map (·.1)/\∀g,g∈fs.map (·.1)->g∈(pq f v fs).map (·.1)
 |[]=>⟨by simp [pq],fun g h=>by simp at h⟩
 |(k,x)::r=>by
  obtain⟨i1,i2⟩:=DI f v r
  rw [show pq f v ((k,x)::r)=(if k=f then (k,v)::r else (k,x)::pq f v r) from rfl]
  by_cases hk:k=f
  . rw [if_pos hk]
    subst hk
    exact⟨by simp,fun g h=>by simpa using h⟩
  . rw [if_neg hk]
    refine⟨?_,fun g h=>?_⟩
    . rw [List.map_cons]
      exact List.mem_cons_of_mem _ i1
    . rw [List.map_cons] at h ⊢
      rcases List.mem_cons.mp h with e|e
      . exact List.mem_cons.mpr (.inl e)
      . exact List.mem_cons_of_mem _ (i2 g e)
theorem Ex (f:Str) (v:V):∀fs:List (Str × V),(pq f v fs).length<=fs.length+1
 |[]=>by simp [pq]
 |(k,x)::r=>by
  have ih:=Ex f v r
  rw [show pq f v ((k,x)::r)=(if k=f then (k,v)::r else (k,x)::pq f v r) from rfl]
  by_cases hk:k=f
  . rw [if_pos hk,List.length_cons,List.length_cons];omega
  . rw [if_neg hk,List.length_cons,List.length_cons];omega
theorem qJ.some_of {v:V} {o:Option Value} (r:qJ (some v) o):∃u,o=some u/\RelV v u:=by
 cases o with
 |none=>exact(show False from r).elim
 |some u=>exact⟨u,rfl,r⟩
theorem qJ.none_of {o:Option Value} (r:qJ none o):o=none:=by
 cases o with
 |none=>rfl
 |some u=>exact(show False from r).elim
theorem OY {v:V} {u:Value} (r:RelV v u):PySem.W.handedIn u=true:=by
 cases v with
 |aQ=>cases (show u=Value.none from r);rfl
 |bl b=>cases (show u=Value.bool b from r);rfl
 |int i=>obtain⟨t,e⟩:=(show ∃t,u=Value.int i t from r);cases e;rfl
 |str x=>obtain⟨t,e⟩:=(show ∃t,u=Value.str x t from r);cases e;rfl
 |NY b=>obtain⟨t,e⟩:=(show ∃t,u=Value.bytes b t from r);cases e;rfl
 |ZJ b=>obtain⟨t,e⟩:=(show ∃t,u=Value.float b t from r);cases e;rfl
 |ref a=>cases (show u=Value.ref a from r);rfl
 |ty n=>cases (show u=Value.type n from r);rfl
section
variable {P:Program} {w:World} {H H':Hp} {h h':Heap} {a C dx:Addr} {fs fs':List (Str × V)}
theorem Fp (bL:rJ P w H h) (e:H a=some (.ins C dx fs)):∃mA,LJ h a dx C mA/\(∀f,qJ (fs.lookup f) (mA f))/\PySem.Within mA (fs.map (·.1))/\fs.length<=1000/\H dx=some (.own a):=by
 obtain⟨d,z,ne,ob,mA,n,r,q⟩:=(show c5 P w H h a (.ins C dx fs) from bL a _ e)
 exact⟨mA,⟨ob,n,ne⟩,r,q,z,d⟩
end
structure uK (K:PySem.W.Frag) (C:Addr):Prop where
 pg:PySem.W.plainGet K C Str.empty=true
 hd:PySem.W.hasDictIn K C=true
 po:PySem.W.plainOver K C=true
 sa:PySem.W.findIn K (.ref C) "__setattr__"=some (some (.builtin "object.__setattr__"))
theorem uK.get {K:PySem.W.Frag} {C:Addr} (c:uK K C) (f:Str):PySem.W.plainGet K C f=true:=c.pg
def aE (K:PySem.W.Frag) (C:Addr) (f:Str):Prop:=PySem.W.findIn K (.ref C) f=some none
theorem aE.acu {K:PySem.W.Frag} {C:Addr} {f:Str} (n:aE K C f):PySem.W.takerIn K C f=some none:=by
 unfold PySem.W.takerIn
 rw [show PySem.W.findIn K (.ref C) f=some none from n]
 rfl
structure Con (K:PySem.W.Frag) (C:Addr) (f:Str) (v:V) (u:Value):Prop where
 at_:PySem.W.findIn K (.ref C) f=some (some u)
 rel:RelV v u
 get:PySem.W.specialIn K u "__get__"=some none
 cp:PySem.W.copiedNames.contains f=false
structure Meth (K:PySem.W.Frag) (C:Addr) (m:Str) (f:Addr):Prop where
 at_:PySem.W.findIn K (.ref C) m=some (some (.ref f))
 fn:PySem.W.isFn K (.ref f)=true
 kp:PySem.W.keepIn K (.ref f)=true
section
variable {X:Cx} {pins:List (Addr × Obj)} {σ:St} {H:Hp} {s:Shared} {a C dx:Addr} {fs:List (Str × V)} {f:Str} {v:V} {A:Around} {E:Value->Shared->Prop}
theorem LK {b:Bool} {Q:Value->Shared->Prop} (I:Inv X pins σ H s) (e:H a=some (.ins C dx fs)) (c:uK X.K C) (n:aE X.K C f) (l:fs.lookup f=some v)
 (h:∀u s',Inv X pins σ H s'->RelV v u->Q u s'):wpAny (model X.prog X.w) A (getAttr (.ref a) f b) Q E s:=by
 obtain⟨mA,O,r,_,_,_⟩:=Fp I.bL e
 obtain⟨u,hu,ru⟩:=qJ.some_of (v:=v) (o:=mA f) (by rw [<-l];exact r f)
 exact get_map I.A5 O (c.get f) c.hd n hu (OY ru) (h u _ (I.tok _) ru)
theorem F0 {m:Str} {g:Addr} {pl:Sem Bool} {Q:Value × List Value->Shared->Prop} (I:Inv X pins σ H s) (e:H a=some (.ins C dx fs)) (c:uK X.K C) (k:Meth X.K C m g) (l:fs.lookup m=none)
 (h:Q (.ref g,[.ref a]) s):wpAny (model X.prog X.w) A (getMethod (.ref a) m pl) Q E s:=by
 obtain⟨mA,O,r,_,_,_⟩:=Fp I.bL e
 have hn:mA m=none:=qJ.none_of (by rw [<-l];exact r m)
 exact Qr I.A5 O (c.get m) k.at_ k.fn hn h
theorem LZ {y:V} {u:Value} {Q:Unit->Shared->Prop} (I:Inv X pins σ H s) (e:H a=some (.ins C dx fs)) (c:uK X.K C) (n:aE X.K C f) (hl:fs.length<1000) (ry:RelV y u)
 (h:∀s',Inv X pins σ (upd H a (.ins C dx (pq f y fs))) s'->Q () s'):wpAny (model X.prog X.w) A (setAttr (.ref a) f u) Q E s:=by
 obtain⟨mA,O,r,wi,_,ho⟩:=Fp I.bL e
 have hz:(fs.map (·.1)).length<=sizeLine:=by rw [List.length_map,sizeLine_eq];omega
 refine Vy I.A5 O c.sa c.po n.acu c.hd wi hz fun h' O' sb=>h _ ?_
 have hd:∃o,h'.get? dx=some o:=let ⟨o,_,_,e',_⟩:=O'.ns;⟨o,e'⟩
 refine I.write (x:=a) (e:=dx) (by rw [e];exact True.intro) (.inr ho) (fun b q hb z=>(sb.2 b hb).trans z) hd ?_
 refine⟨by rw [ay O.ne];exact ho,?_,O.ne,O'.obj,_,O'.ns,fun g=>?_,fun g hg=>?_⟩
 . have:=Ex f y fs;omega
 . show qJ ((pq f y fs).lookup g) (if g=f then some u else mA g)
   rw [Ec]
   by_cases q:g=f
   . rw [if_pos q,if_pos q];exact ry
   . rw [if_neg q,if_neg q];exact r g
 . by_cases q:g=f
   . rw [q];exact(DI f y fs).1
   . refine(DI f y fs).2 g (wi g fun z=>hg ?_)
     show(if g=f then some u else mA g)=none
     rw [if_neg q];exact z
theorem Inv.made (I:Inv X pins σ H s):Inv X pins σ (upd (upd H s.heap.objs.size (.own (s.heap.objs.size+1))) (s.heap.objs.size+1) (.ins C s.heap.objs.size []))
 {s with heap:=(s.heap.push PySem.W.emptyDict).push (PySem.W.instObj C s.heap.objs.size)}:=by
 have e1:(s.heap.push PySem.W.emptyDict).get? s.heap.objs.size=some PySem.W.emptyDict:=Heap.get?_push_size s.heap rfl
 have e2:((s.heap.push PySem.W.emptyDict).push (PySem.W.instObj C s.heap.objs.size)).get? (s.heap.objs.size+1)=some (PySem.W.instObj C s.heap.objs.size):=by
  have:=Heap.get?_push_size (s.heap.push PySem.W.emptyDict) (o:=PySem.W.instObj C s.heap.objs.size) rfl
  rwa [Heap.size_push] at this
 have e3:(s.heap.push PySem.W.emptyDict).Ns s.heap.objs.size (fun _=>none):=⟨PySem.W.emptyDict,#[],_,e1,rfl,(fun e he=>absurd he (by simp)),fun _=>rfl⟩
 have I1:=I.laid (a:=s.heap.objs.size) (o:=.own (s.heap.objs.size+1)) (h':=s.heap.push PySem.W.emptyDict) (t':=s.toks) (fun b u q=>Heap.get?_push_of_some _ q) (Nat.le_refl _) ⟨_,e1⟩
 refine I1.laid (a:=s.heap.objs.size+1) (o:=.ins C s.heap.objs.size []) (t':=s.toks) (fun b u q=>Heap.get?_push_of_some _ q) (Nat.le_of_eq (Heap.size_push _ _)) ?_
 have ne:s.heap.objs.size≠s.heap.objs.size+1:=Nat.ne_of_lt (Nat.lt_succ_self _)
 refine⟨by rw [ay ne,ao],Nat.zero_le _,ne,e2,fun _=>none,(Heap.Ns1.of_empty e3).at fun o q=>Heap.get?_push_of_some _ q,fun _=>True.intro,fun y hy=>absurd rfl hy⟩
theorem T2 {prog:Program} {w:World} {env:Env} {e:Expr} {f:Str} {pos:Pos} {s:Shared} {Q:Value->Shared->Prop} (hb:attributeBase e f env (eval e env)=eval e env)
 (h:wpAny (model prog w) A (eval e env) (fun o s₁=>wpAny (model prog w) A (getAttr o f true) Q E s₁) E s):wpAny (model prog w) A (eval (.Attribute e f pos) env) Q E s:=
 Attribute_any_ h (by rw [arm_eval_Attribute,hb])
end
def Zm (K:PySem.W.Frag) (ta:TE) (f:Str):TE:=fun σ H Q=>ta σ H fun x H1=>∃a C dx fs v,x=.ref a/\H1 a=some (.ins C dx fs)/\uK K C/\aE K C f/\fs.lookup f=some v/\Q v H1
def abX (K:PySem.W.Frag) (ta tv:TE) (f:Str):TS:=fun D σ H=>tv σ H fun y H1=>ta σ H1 fun x H2=>∃a C dx fs,x=.ref a/\H2 a=some (.ins C dx fs)/\uK K C/\aE K C f/\fs.length<1000/\
 D.nx σ (upd H2 a (.ins C dx (pq f y fs)))
section
variable {X:Cx} {o e value:Expr} {f:Str} {pos pos' YT:Pos} {ta tv:TE}
theorem au (he:PE X e ta) (hb:attributeBase e f X.env (eval e X.env)=eval e X.env):PE X (.Attribute e f pos) (Zm X.K ta f):=by
 intro pins s σ H Q I h
 refine T2 hb (dq (he pins s σ H _ I h) fun u s1 ⟨x,H1,I1,rx,a,C,dx,fs,v,ex,ea,c,n,l,q⟩=>?_)
 subst ex
 obtain rfl:u=Value.ref a:=rx
 exact LK I1 ea c n l fun u' s2 I2 ru=>⟨v,H1,I2,ru,q⟩
theorem aY (ha:PE X o ta) (hv:PE X value tv) (hs:swapsWith value (some (.Attribute o f pos')) pos.line X.env=pure false):PS X (.Assign [.Attribute o f pos'] value pos) (abX X.K ta tv f):=by
 intro pins s σ H D I h
 refine plainObj_wpAny_Assign_Attribute (dq (hv pins s σ H _ I h) fun u s1 ⟨y,H1,I1,ry,q⟩=>dq (ha pins s1 σ H1 _ I1 q) fun ov s2 ⟨x,H2,I2,rx,a,C,dx,fs,ex,ea,c,n,l,q2⟩=>?_) hs
 subst ex
 obtain rfl:ov=Value.ref a:=rx
 exact LZ I2 ea c n l ry fun s3 I3=>⟨σ,_,I3,q2⟩
end
section
variable {X:Cx} {pins:List (Addr × Obj)} {σ:St} {H:Hp} {s:Shared} {A:Around} {E:Value->Shared->Prop} {Q:Value->Shared->Prop} {c:Value} {b:Bool}
inductive BD (K:PySem.W.Frag) (H:Hp):V->Value->Prop where
 |aQ:BD K H .aQ (.type "NoneType")
 |bl (x:Bool):BD K H (.bl x) (.type "bool")
 |int (i:Int):BD K H (.int i) (.type "int")
 |str (x:Str):BD K H (.str x) (.type "str")
 |ZJ (x:UInt64):BD K H (.ZJ x) (.type "float")
 |lst {a:Addr} {xs:List V} (e:H a=some (.lst xs)):BD K H (.ref a) (.type "list")
 |wK {a:Addr} {o:Obj} {xs:List V} (e:H a=some (.wK o (.lst xs))):BD K H (.ref a) (.type "list")
 |tup {a:Addr} {xs:List V} (e:H a=some (.tup xs)):BD K H (.ref a) (.type "tuple")
 |dK {a:Addr} {kvs:List (Key × V)} (e:H a=some (.dK kvs)):BD K H (.ref a) (.type "dict")
 |dT {a:Addr} {kvs:List (List Key × V)} (e:H a=some (.dT kvs)):BD K H (.ref a) (.type "dict")
 |ins {a C dx:Addr} {fs:List (Str × V)} (e:H a=some (.ins C dx fs)) (cl:uK K C) (ha:PySem.W.findIn K (.ref C) "__class__"=some (some (.builtin "object.__class__")))
  (hn:PySem.W.specialIn K (.builtin "object.__class__") "__get__"=some (some (.builtin "getset_descriptor.__get__"))) (TH:PySem.W.takesIn K (.builtin "object.__class__")=some true)
  (hm:PySem.W.mroIn K C (.type "object")=some true):BD K H (.ref a) (.ref C)
theorem Pw {x:V} {u t:Value} (I:Inv X pins σ H s) (rx:RelV x u) (ty:BD X.K H x t) (e:PySem.W.kitOne X.K t c=some b) (h:∀tk,Q (.bool b) {s with toks:=tk}):
 wpAny (model X.prog X.w) A (call (.builtin "isinstance") [u,c]) Q E s:=by
 cases ty with
 |aQ=>cases (show u=Value.none from rx);exact PySem.W.kia_one PySem.W.kitx_none I.A5 True.intro e (fun z=>nomatch z) h
 |bl y=>cases (show u=Value.bool y from rx);exact PySem.W.kia_one PySem.W.kitx_bool I.A5 True.intro e (fun z=>nomatch z) h
 |int i=>obtain⟨t,q⟩:=(show ∃t,u=Value.int i t from rx);cases q;exact PySem.W.kia_one PySem.W.kitx_int I.A5 True.intro e (fun z=>nomatch z) h
 |str y=>obtain⟨t,q⟩:=(show ∃t,u=Value.str y t from rx);cases q;exact PySem.W.kia_one PySem.W.kitx_str I.A5 True.intro e (fun z=>nomatch z) h
 |ZJ y=>obtain⟨t,q⟩:=(show ∃t,u=Value.float y t from rx);cases q;exact PySem.W.kia_one PySem.W.kitx_float I.A5 True.intro e (fun z=>nomatch z) h
 |@lst a xs ea=>
  cases (show u=Value.ref a from rx)
  obtain⟨_,_,n,_,h1⟩:=(show c5 X.prog X.w H s.heap a (.lst xs) from I.bL a _ ea)
  exact PySem.W.kia_one PySem.W.kitx_list I.A5 ⟨_,h1,rfl⟩ e (fun z=>nomatch z) h
 |@wK a ob xs ea=>
  cases (show u=Value.ref a from rx)
  obtain⟨_,_,_,n,_,h1⟩:=(show c5 X.prog X.w H s.heap a (.wK ob (.lst xs)) from I.bL a _ ea)
  exact PySem.W.kia_one PySem.W.kitx_list I.A5 ⟨_,h1,rfl⟩ e (fun z=>nomatch z) h
 |@tup a xs ea=>
  cases (show u=Value.ref a from rx)
  obtain⟨_,_,_,p⟩:=(show c5 X.prog X.w H s.heap a (.tup xs) from I.bL a _ ea)
  obtain⟨o,h1,h2,_⟩:=p
  exact PySem.W.kia_one PySem.W.kitx_tuple I.A5 ⟨o,h1,h2⟩ e (fun z=>nomatch z) h
 |@dK a kvs ea=>
  cases (show u=Value.ref a from rx)
  obtain⟨_,_,vs,_,p⟩:=(show c5 X.prog X.w H s.heap a (.dK kvs) from I.bL a _ ea)
  obtain⟨o,es,ep,h1,h2,_⟩:=p
  exact PySem.W.kia_one PySem.W.kitx_dict I.A5 ⟨o,h1,h2.1⟩ e (fun z=>nomatch z) h
 |@dT a kvs ea=>
  cases (show u=Value.ref a from rx)
  obtain⟨_,_,xs,_,o,es,ep,h1,h2,_⟩:=(show c5 X.prog X.w H s.heap a (.dT kvs) from I.bL a _ ea)
  exact PySem.W.kia_one PySem.W.kitx_dict I.A5 ⟨o,h1,h2.1⟩ e (fun z=>nomatch z) h
 |@ins a C dx fs ea cl ha hn TH hm=>
  cases (show u=Value.ref a from rx)
  obtain⟨mA,O,_⟩:=Fp I.bL ea
  obtain⟨od,J,_⟩:=O.look
  exact PySem.W.kia_one (PySem.W.kitx_own (cl.get _) cl.hd ha hn TH hm) I.A5 J e (fun z=>nomatch z) h
end
structure dC (k:Nat) (A:Around):Prop where
 hd:A.handled=none
 dp:A.depth+3*k+5<recursionLimit
 un:A.units+16*k+200<cLine
theorem dC.mono {j k:Nat} {A:Around} (r:dC k A) (h:j<=k):dC j A:=⟨r.hd,by have:=r.dp;omega,by have:=r.un;omega⟩
theorem dC.deeper {k:Nat} {A:Around} (r:dC (k+1) A) (env:Env):dC k (A.deeper env):=
 ⟨r.hd,by have:=r.dp;show A.depth+1+3*k+5<_;omega,by have:=r.un;show A.units+3+16*k+200<_;omega⟩
theorem Mq {A:Around} {C:Addr} {us:List Value} {kw:List (Str × Value)}:(A.under (.builtin "type.__call__" ⟨.ref C::us,kw⟩)).depth=A.depth+1:=by
 first|rfl|simp [Around.under,Code.weight,Code.isCreation,Code.isGuard,Code.isCaller,Code.frames,Code.isFrame,guardIds]
theorem MC {A:Around} {C:Addr} {us:List Value} {kw:List (Str × Value)}:(A.under (.builtin "type.__call__" ⟨.ref C::us,kw⟩)).units=A.units+1:=by
 first|rfl|simp [Around.under,Code.cUnits,Code.frames,Code.isFrame]
theorem dC.make {k:Nat} {A:Around} (r:dC (k+1) A) (C:Addr) (us:List Value) (kw:List (Str × Value)):dC k (A.under (.builtin "type.__call__" ⟨.ref C::us,kw⟩)):=
 ⟨r.hd,by have:=r.dp;rw [Mq];omega,by have:=r.un;rw [MC];omega⟩
theorem dC.depth {k:Nat} {A:Around} (r:dC k A):A.depth<recursionLimit:=by have:=r.dp;omega
theorem dC.units {k:Nat} {A:Around} (r:dC k A):A.units+64<cLine:=by have:=r.un;omega
def Ml:TA:=fun _ H Q=>Q [] H
def WB (ta:TE) (tr:TA):TA:=fun σ H Q=>ta σ H fun x H1=>tr σ H1 fun xs H2=>Q (x::xs) H2
section
variable {X:Cx} {e:Expr} {es:List Expr} {te:TE} {t:TA} {pos:Pos}
theorem ak:PA X [] Ml:=fun _ _ _ _ H Q I h=>Calls.spliced_nil ⟨[],H,I,.nil,h⟩
theorem ae (ha:PE X e te) (hr:PA X es t) (hs:starEach (e::es) X.env=(false,eval e X.env)::starEach es X.env:=by rfl):PA X (e::es) (WB te t):=by
 intro pos pins s σ H Q I h
 rw [hs]
 show wpAny _ _ (spliced ((false,eval e X.env)::backTo pos (starEach es X.env))) _ _ s
 refine Calls.spliced_cons (dq (ha pins s σ H _ I h) fun u s1 ⟨x,H1,I1,r1,q1⟩=>?_)
 exact dq (hr pos pins s1 σ H1 _ I1 q1) fun us s2 ⟨xs,H2,I2,r2,q2⟩=>⟨x::xs,H2,I2,.cons r1 r2,q2⟩
def adI (t:TA):TE:=fun σ H Q=>t σ H fun xs H1=>xs.length<=sizeLine/\∀p,H1 p=none->Q (.ref p) (upd H1 p (.tup xs))
def aeY (t:TA):TE:=fun σ H Q=>t σ H fun xs H1=>xs.length<=sizeLine/\∀p,H1 p=none->Q (.ref p) (upd H1 p (.lst xs))
theorem X4 {x1} (h:PA X es t):PE X (.Tuple es x1 pos) (adI t):=by
 intro pins s σ H Q I hq
 refine wpAny_Tuple_spliced (dq (h pos pins s σ H _ I hq) fun us s1 ⟨xs,H1,I1,r,z,q⟩=>⟨by rw [<-r.length];exact z,?_⟩)
 have hf:H1 s1.heap.objs.size=none:=I1.bL.fresh (Nat.le_refl _)
 refine⟨.ref s1.heap.objs.size,upd H1 s1.heap.objs.size (.tup xs),I1.laid (t':=s1.toks) (fun b u e=>Heap.get?_push_of_some _ e) (Nat.le_refl _) ?_,rfl,q _ hf⟩
 exact⟨z,us,r,⟨_,Heap.get?_push_size _ rfl,rfl,_,rfl⟩⟩
theorem YD (h:PA X es t):PE X (.List es pos) (aeY t):=by
 intro pins s σ H Q I hq
 refine wpAny_List_spliced (dq (h pos pins s σ H _ I hq) fun us s1 ⟨xs,H1,I1,r,z,q⟩=>⟨by rw [<-r.length];exact z,?_⟩)
 have hf:H1 s1.heap.objs.size=none:=I1.bL.fresh (Nat.le_refl _)
 refine⟨.ref s1.heap.objs.size,upd H1 s1.heap.objs.size (.lst xs),I1.laid (t':=s1.toks) (fun b u e=>Heap.get?_push_of_some _ e) (Nat.le_refl _) ?_,rfl,q _ hf⟩
 exact⟨z,us,0,r,Heap.get?_push_size _ rfl⟩
end
abbrev Sp:=List V->Hp->VK->XK->Prop
abbrev Hj:=List Env->Hp->Shared->XK->Value->Shared->Prop
structure Lc (P:Program) (w:World) (K:PySem.W.Frag) (mg:Str->Option Value) (base:Heap) (A:Around) (outer:List Env) (s:Shared) (H:Hp):Prop where
 frames:A.frames=some outer
 mod:Mod K mg base
 bs:∀b o,base.get? b=some o->s.heap.get? b=some o/\H b=none
 Qu:base.objs.size<=s.heap.objs.size
 Du:s.heap.FunFrames base outer
 Xg:∀b∈Kd outer,H b=none
 bL:rJ P w H s.heap
 bare:AllBare s.gens
def CE (outer:List Env) (P:Program) (w:World) (H:Hp) (s:Shared) (Q:VK) (u:Value) (s':Shared):Prop:=
 ∃v H',s'.os=s.os/\AllBare s'.gens/\Un (Kd outer) [] H H' s.heap s'.heap/\rJ P w H' s'.heap/\RelV v u/\Q v H'
def CR (CX:Hj) (outer:List Env) (P:Program) (w:World) (H:Hp) (s:Shared) (Q:VK) (E:XK) (r:Result) (s':Shared):Prop:=
 match r with
 | .ok (.ret u)=>CE outer P w H s Q u s'
 | .ok _=>False
 | .error e=>CX outer H s E e s'
structure aN (P:Program) (w:World) (K:PySem.W.Frag) (mg:Str->Option Value) (base:Heap) (CX:Hj) (k:Nat) (f:Addr) (fd:FuncData) (ps:List Str) (sp:Sp):Prop where
 len:∀vs H Q E,sp vs H Q E->vs.length=ps.length
 run:∀(A:Around) (outer:List Env) (s:Shared) (H:Hp) (args:Args) (us:List Value) (vs:List V) (Q:VK) (E:XK),dC k A->Lc P w K mg base A outer s H->BindsTo s fd args (ps.zip us)->Vals vs us->sp vs H Q E->
  codeAny (model P w) A (.call (.ref f) args) (CR CX outer P w H s Q E) s
theorem aN.mono {P:Program} {w:World} {K:PySem.W.Frag} {mg:Str->Option Value} {base:Heap} {CX:Hj} {j k:Nat} {f:Addr} {fd:FuncData} {ps:List Str} {sp:Sp} (F:aN P w K mg base CX j f fd ps sp) (h:j<=k):
 aN P w K mg base CX k f fd ps sp:=⟨F.len,fun A outer s H args us vs Q E hr=>F.run A outer s H args us vs Q E (hr.mono h)⟩
theorem Lc.make {P:Program} {w:World} {K:PySem.W.Frag} {mg:Str->Option Value} {base:Heap} {A:Around} {outer:List Env} {s:Shared} {H:Hp} (e:Lc P w K mg base A outer s H) (C:Addr) (us:List Value) (kw:List (Str × Value)):
 Lc P w K mg base (A.under (.builtin "type.__call__" ⟨.ref C::us,kw⟩)) outer s H:=⟨by first|exact e.frames|(simpa [Around.under,Code.envs,Code.isFrame,pushEnvs] using e.frames),e.mod,e.bs,e.Qu,e.Du,e.Xg,e.bL,e.bare⟩
section
variable {X:Cx} {pins:List (Addr × Obj)} {σ:St} {H:Hp} {s s':Shared}
theorem Inv.abg (I:Inv X pins σ H s):Lc X.prog X.w X.K X.mg X.base X.A X.stack s H:=
 ⟨I.ok.frames,I.ok.mod,I.bs,Nat.le_trans I.ok.Qu I.sz,I.stack,I.MV,I.bL,I.bare⟩
theorem Inv.after {Q:VK} {u:Value} (I:Inv X pins σ H s) (h:CE X.stack X.prog X.w H s Q u s'):EP X pins σ Q u s':=by
 obtain⟨v,H',os,bare,un,bL,r,q⟩:=h
 obtain⟨hh,g,d,t,os'⟩:=s'
 obtain rfl:os'=s.os:=os
 exact⟨v,H',I.call (h':=hh) (g':=g) (d':=d) (t':=t) (ch:=[]) un bL bare (fun b z=>absurd z (by simp)),r,q⟩
end
def Hg (sp:Sp) (dr:List V) (E:XK) (t:TA):TE:=fun σ H Q=>t σ H fun vs H1=>sp (vs++dr) H1 Q E
def Hq (C:Addr) (m:Str) (sp:Sp) (dr:List V) (E:XK) (ta:TE) (t:TA):TE:=fun σ H Q=>ta σ H fun x H1=>∃a dx fs,x=.ref a/\H1 a=some (.ins C dx fs)/\fs.lookup m=none/\
 t σ H1 fun vs H2=>sp (x::(vs++dr)) H2 Q E
def JI (C:Addr) (sp:Sp) (dr:List V) (E:XK) (t:TA):TE:=fun σ H Q=>t σ H fun vs H1=>∀x dx,H1 x=none->H1 dx=none->dx≠x->
 sp (.ref x::(vs++dr)) (upd (upd H1 dx (.own x)) x (.ins C dx [])) (fun v H2=>v=.aQ/\Q (.ref x) H2) E
def Binds (K:PySem.W.Frag) (fd:FuncData) (ps:List Str) (ds:List Value):Prop:=
 ∀(s:Shared) (us:List Value),K.In s.heap->(us++ds).length=ps.length->BindsTo s fd ⟨us,[]⟩ (ps.zip (us++ds))
theorem Binds.all {K:PySem.W.Frag} {fd:FuncData} {ps:List Str} (h:∀us:List Value,us.length=ps.length->bindArgs fd ⟨us,[]⟩=pure (ps.zip us)):Binds K fd ps []:=fun s us _ hl=>by
 rw [List.append_nil] at hl ⊢
 exact .of_eq (h us hl)
def Passes (CX:Hj) (X:Cx) (E:XK):Prop:=∀(pins:List (Addr × Obj)) (σ:St) (H:Hp) (s:Shared) (e:Value) (s':Shared),Inv X pins σ H s->CX X.stack H s E e s'->X.xe e s'
section
variable {X:Cx} {CX:Hj} {k:Nat} {f C:Addr} {fd:FuncData} {ps:List Str} {sp:Sp} {dr:List V} {ds:List Value} {E:XK} {x m:Str} {p pos apos:Pos} {e o:Expr} {es:List Expr} {ta:TE} {t:TA}
theorem IE {pins:List (Addr × Obj)} {σ:St} {H:Hp} {s:Shared} {Q:VK} {us:List Value} {vs:List V} (F:aN X.prog X.w X.K X.mg X.base CX k f fd ps sp) (hr:dC k X.A) (hb:Binds X.K fd ps ds) (hd:Vals dr ds) (hx:Passes CX X E)
 (I:Inv X pins σ H s) (r:Vals vs us) (h:sp (vs++dr) H Q E):wpAny (model X.prog X.w) X.A (call (.ref f) us) (EP X pins σ Q) X.xe s:=by
 have r2:Vals (vs++dr) (us++ds):=r.append hd
 have hl:(us++ds).length=ps.length:=by rw [<-r2.length];exact F.len _ _ _ _ h
 refine wpAny_call (codeAny_mono (F.run X.A X.stack s H ⟨us,[]⟩ (us++ds) (vs++dr) Q E hr I.abg (hb s us I.A5 hl) r2 h) fun r s' hq=>?_)
 cases r with
 |error e=>exact hx pins σ H s e s' I hq
 |ok fl=>
  cases fl with
  |ret u=>exact I.after hq
  |next=>exact False.elim hq
  |brk=>exact False.elim hq
  |cont=>exact False.elim hq
theorem UI (F:aN X.prog X.w X.K X.mg X.base CX k f fd ps sp) (hr:dC k X.A) (hg:Gl X x) (hm:X.mg x=some (.ref f)) (hk:PySem.W.keepIn X.K (.ref f)=true) (hb:Binds X.K fd ps ds) (hd:Vals dr ds) (hx:Passes CX X E)
 (ha:PA X (e::es) t) (EV:(x==("__debug__":Str))=false:=by decide) (he:starEach (e::es) X.env=(false,eval e X.env)::starEach es X.env:=by rfl) (C7:(backTo pos (starEach es X.env)).any (·.1)=false:=by rfl):
 PE X (.Call (.Name x p) (e::es) [] pos) (Hg sp dr E t):=by
 intro pins s σ H Q I h
 refine wpAny_Call_Name_kw (Fg I hg hm ?_ EV)
 refine PySem.W.callWith_K (h₀:=X.base) I.ok.mod.kin hk (dq (ha pos pins s σ H _ I h) fun us s1 ⟨vs,H1,I1,r,q⟩=>⟨I1.A5,?_⟩) he C7
 exact IE F hr hb hd hx I1 r q
theorem Wo {pl:Sem Bool} (he:PE X o ta) (c:uK X.K C) (hm:Meth X.K C m f) (F:aN X.prog X.w X.K X.mg X.base CX k f fd ps sp) (hr:dC k X.A) (hb:Binds X.K fd ps ds) (hd:Vals dr ds) (hx:Passes CX X E) (ha:PA X (e::es) t)
 (AQ:starEach (e::es) X.env=(false,eval e X.env)::starEach es X.env:=by rfl) (C7:(backTo pos (starEach es X.env)).any (·.1)=false:=by rfl)
 (ht:eval (.Call (.Attribute o m apos) (e::es) [] pos) X.env=(do
  let ov <-eval o X.env
  standAt apos.atName
  let (f,first) <-holding [ov] (getMethod ov m pl)
  callWith pos f first (backTo pos (starEach (e::es) X.env)) (backToKw pos (keywordEach [] X.env))):=by rfl):
 PE X (.Call (.Attribute o m apos) (e::es) [] pos) (Hq C m sp dr E ta t):=by
 intro pins s σ H Q I h
 refine PySem.W.methodCall_KW (pl:=pl) (dq (he pins s σ H _ I h) fun u s1 ⟨x,H1,I1,rx,a,dx,fs,ex,ea,l,q⟩=>?_) ht
 subst ex
 obtain rfl:u=Value.ref a:=rx
 refine F0 I1 ea c hm l ?_
 refine PySem.W.callWith_K (first:=[.ref a]) (h₀:=X.base) I.ok.mod.kin hm.kp (dq (ha pos pins s1 σ H1 _ I1 q) fun us s2 ⟨vs,H2,I2,r,q2⟩=>⟨I2.A5,?_⟩) AQ C7
 exact IE (us:=.ref a::us) (vs:=.ref a::vs) F hr hb hd hx I2 (.cons rfl r) q2
theorem Rg {pl:Sem Bool} (he:PE X o ta) (c:uK X.K C) (hm:Meth X.K C m f) (F:aN X.prog X.w X.K X.mg X.base CX k f fd ps sp) (hr:dC k X.A) (hb:Binds X.K fd ps ds) (hd:Vals dr ds) (hx:Passes CX X E)
 (ht:eval (.Call (.Attribute o m apos) [] [] pos) X.env=(do
  let ov <-eval o X.env
  standAt apos.atName
  let (f,first) <-holding [ov] (getMethod ov m pl)
  callWith pos f first (backTo pos (starEach [] X.env)) (backToKw pos (keywordEach [] X.env))):=by rfl):
 PE X (.Call (.Attribute o m apos) [] [] pos) (Hq C m sp dr E ta Ml):=by
 intro pins s σ H Q I h
 refine PySem.W.methodCall_KW (pl:=pl) (dq (he pins s σ H _ I h) fun u s1 ⟨x,H1,I1,rx,a,dx,fs,ex,ea,l,q⟩=>?_) ht
 subst ex
 obtain rfl:u=Value.ref a:=rx
 refine F0 I1 ea c hm l ?_
 exact PySem.W.callWith_K0 (first:=[.ref a]) I1.A5 hm.kp (IE (us:=[.ref a]) (vs:=[.ref a]) F hr hb hd hx I1 (.cons rfl .nil) q)
structure Mk (K:PySem.W.Frag) (C f:Addr):Prop where
 makes:PySem.W.makesIn K C=true
 init:PySem.W.findIn K (.ref C) "__init__"=some (some (.ref f))
 fn:PySem.W.isFn K (.ref f)=true
 kp:PySem.W.keepIn K (.ref C)=true
theorem KH {pins:List (Addr × Obj)} {σ:St} {H:Hp} {s:Shared} {Q:VK} {us:List Value} {vs:List V} (M:Mk X.K C f) (F:aN X.prog X.w X.K X.mg X.base CX k f fd ps sp) (hr:dC (k+1) X.A) (hb:Binds X.K fd ps ds) (hd:Vals dr ds)
 (hx:Passes CX X E) (I:Inv X pins σ H s) (r:Vals vs us)
 (h:∀x dx,H x=none->H dx=none->dx≠x->sp (.ref x::(vs++dr)) (upd (upd H dx (.own x)) x (.ins C dx [])) (fun v H2=>v=.aQ/\Q (.ref x) H2) E):
 wpAny (model X.prog X.w) X.A (call (.ref C) us) (EP X pins σ Q) X.xe s:=by
 have hq:=h (s.heap.objs.size+1) s.heap.objs.size (I.bL.fresh (Nat.le_succ _)) (I.bL.fresh (Nat.le_refl _)) (Nat.ne_of_lt (Nat.lt_succ_self _))
 have I2:=Inv.made (C:=C) I
 have r2:Vals (V.ref (s.heap.objs.size+1)::(vs++dr)) (Value.ref (s.heap.objs.size+1)::(us++ds)):=.cons rfl (r.append hd)
 have hl:(Value.ref (s.heap.objs.size+1)::us++ds).length=ps.length:=by
  have e:=r2.length
  rw [F.len _ _ _ _ hq] at e
  exact e.symm
 refine wpAny_call (QX (f:=f) I.A5 M.makes M.init (beq_iff_eq.mp M.fn) (codeAny_mono (F.run _ X.stack _ _ ⟨Value.ref (s.heap.objs.size+1)::us,[]⟩ (Value.ref (s.heap.objs.size+1)::(us++ds)) _ _ E (hr.make C us [])
  (I2.abg.make C us []) (hb _ (Value.ref (s.heap.objs.size+1)::us) I2.A5 hl) r2 hq) fun r s' Ye=>?_))
 cases r with
 |error e=>exact hx pins σ _ _ e s' I2 Ye
 |ok fl=>
  cases fl with
  |ret u=>
   obtain⟨v,H',I3,rv,ev,q3⟩:=I2.after Ye
   subst ev
   exact⟨rv,⟨V.ref (s.heap.objs.size+1),H',I3,rfl,q3⟩⟩
  |next=>exact False.elim Ye
  |brk=>exact False.elim Ye
  |cont=>exact False.elim Ye
theorem Wr (M:Mk X.K C f) (F:aN X.prog X.w X.K X.mg X.base CX k f fd ps sp) (hr:dC (k+1) X.A) (hg:Gl X x) (hm:X.mg x=some (.ref C)) (hb:Binds X.K fd ps ds) (hd:Vals dr ds) (hx:Passes CX X E)
 (ha:PA X (e::es) t) (EV:(x==("__debug__":Str))=false:=by decide) (he:starEach (e::es) X.env=(false,eval e X.env)::starEach es X.env:=by rfl) (C7:(backTo pos (starEach es X.env)).any (·.1)=false:=by rfl):
 PE X (.Call (.Name x p) (e::es) [] pos) (JI C sp dr E t):=by
 intro pins s σ H Q I h
 refine wpAny_Call_Name_kw (Fg I hg hm ?_ EV)
 refine PySem.W.callWith_K (h₀:=X.base) I.ok.mod.kin M.kp (dq (ha pos pins s σ H _ I h) fun us s1 ⟨vs,H1,I1,r,q⟩=>⟨I1.A5,?_⟩) he C7
 exact KH M F hr hb hd hx I1 r q
theorem QI (M:Mk X.K C f) (F:aN X.prog X.w X.K X.mg X.base CX k f fd ps sp) (hr:dC (k+1) X.A) (hg:Gl X x) (hm:X.mg x=some (.ref C)) (hb:Binds X.K fd ps ds) (hd:Vals dr ds) (hx:Passes CX X E)
 (EV:(x==("__debug__":Str))=false:=by decide):PE X (.Call (.Name x p) [] [] pos) (JI C sp dr E Ml):=by
 intro pins s σ H Q I h
 refine wpAny_Call_Name_kw (Fg I hg hm ?_ EV)
 exact PySem.W.callWith_K0 I.A5 M.kp (KH (us:=[]) M F hr hb hd hx I .nil h)
end
section
variable {X:Cx} {CX:Hj} {k:Nat} {f C:Addr} {fd:FuncData} {ps ks:List Str} {sp:Sp} {E:XK} {x m:Str} {p pos apos Y8:Pos} {e o:Expr} {es:List Expr} {kws:List Keyword} {te ta:TE} {t tk:TA} {nm:Option Str}
structure aey (K:PySem.W.Frag) (fd:FuncData) (ps ks:List Str) (g:List Value->List Value->List Value) (gV:List V->List V->List V):Prop where
 to:∀(s:Shared) (us ws:List Value),K.In s.heap->(g us ws).length=ps.length->BindsTo s fd ⟨us,ks.zip ws⟩ (ps.zip (g us ws))
 rel:∀{vs:List V} {us:List Value} {zs:List V} {ws:List Value},Vals vs us->Vals zs ws->Vals (gV vs zs) (g us ws)
variable {g:List Value->List Value->List Value} {gV:List V->List V->List V}
end
structure aw (N P:List Str) (sc:Scope):Prop where
 kind:sc.kind=.function
 co:sc.isCoroutine=false
 gen:sc.isGenerator=false
 nd:N.Nodup
 pre:N.take P.length=P
 par:∀x∈P,sc.names.lookup x=some .local\/sc.names.lookup x=some .cell
 Zh:∀y∈sc.names,y.2≠.free
theorem HX {kindOf:Str->Option NameKind} {x:Str}:∀{binds:List (Str × Value)} {m:Str->Option Value},(∀v,(x,v)∉binds)->bindL kindOf binds m x=m x
 |[],_,_=>rfl
 |(n,v)::r,m,h=>by
  unfold bindL
  rw [HX fun w hw=>h w (List.mem_cons_of_mem _ hw)]
  split
  . have:x≠n:=by rintro rfl;exact h v List.mem_cons_self
    simp [this]
  . rfl
theorem Hy {kindOf:Str->Option NameKind} {x:Str}:∀{binds:List (Str × Value)} {m:Str->Option Value},(∀v,(x,v)∉binds)->bindC kindOf binds m x=m x
 |[],_,_=>rfl
 |(n,v)::r,m,h=>by
  unfold bindC
  rw [Hy fun w hw=>h w (List.mem_cons_of_mem _ hw)]
  split
  . rfl
  . have:x≠n:=by rintro rfl;exact h v List.mem_cons_self
    simp [this]
theorem HG {kindOf:Str->Option NameKind} {x:Str} {v:Value}:∀{P:List Str} {vs:List Value} {i:Nat} {m:Str->Option Value},P.Nodup->P[i]? =some x->vs[i]? =some v->kindOf x=some .local->
 bindL kindOf (P.zip vs) m x=some v
 |[],_,_,_,_,h,_,_=>by simp at h
 |_::_,[],_,_,_,_,h,_=>by simp at h
 |p::P,w::vs,0,m,nd,h1,h2,hk=>by
  simp at h1 h2;subst h1;subst h2
  show bindL kindOf ((p,w)::P.zip vs) m p=_
  unfold bindL
  rw [HX fun v hv=>(List.nodup_cons.mp nd).1 (List.of_mem_zip hv).1,if_pos hk]
  simp
 |p::P,w::vs,i+1,m,nd,h1,h2,hk=>by
  show bindL kindOf ((p,w)::P.zip vs) m x=_
  unfold bindL
  exact HG (i:=i) (List.nodup_cons.mp nd).2 (by simpa using h1) (by simpa using h2) hk
theorem HN {kindOf:Str->Option NameKind} {x:Str} {v:Value}:∀{P:List Str} {vs:List Value} {i:Nat} {m:Str->Option Value},P.Nodup->P[i]? =some x->vs[i]? =some v->kindOf x≠some .local->
 bindC kindOf (P.zip vs) m x=some v
 |[],_,_,_,_,h,_,_=>by simp at h
 |_::_,[],_,_,_,_,h,_=>by simp at h
 |p::P,w::vs,0,m,nd,h1,h2,hk=>by
  simp at h1 h2;subst h1;subst h2
  show bindC kindOf ((p,w)::P.zip vs) m p=_
  unfold bindC
  rw [Hy fun v hv=>(List.nodup_cons.mp nd).1 (List.of_mem_zip hv).1,if_neg hk]
  simp
 |p::P,w::vs,i+1,m,nd,h1,h2,hk=>by
  show bindC kindOf ((p,w)::P.zip vs) m x=_
  unfold bindC
  exact HN (i:=i) (List.nodup_cons.mp nd).2 (by simpa using h1) (by simpa using h2) hk
def start (N:List Str) (vs:List V):St:=vs.map some++List.replicate (N.length - vs.length) none
def Ot (CX:Hj) (P:Program) (w:World) (K:PySem.W.Frag) (mg:Str->Option Value) (base:Heap) (N:List Str) (qual:Str) (scope:Scope) (f:Addr) (cd:Value) (A:Around) (outer:List Env) (s:Shared) (H:Hp) (E:XK):Cx where
 prog:=P
 w:=w
 K:=K
 mg:=mg
 base:=base
 A:=A.deeper (envOfC qual scope s.heap.objs.size f cd)
 N:=N
 ig:=s
 Mx:=H
 env:=envOfC qual scope s.heap.objs.size f cd
 outer:=outer
 stack:=envOfC qual scope s.heap.objs.size f cd::outer
 ex:=[]
 calm:=true
 fn:=fun _=>true
 pn:=[]
 xe:=fun e s'=>wpAny (model P w) (A.deeper (envOfC qual scope s.heap.objs.size f cd)) («leaving» (envOfC qual scope s.heap.objs.size f cd) e) (fun _ s''=>CX outer H s E e s'') (fun e' s''=>CX outer H s E e' s'') s'
theorem KY {sc:Scope} {n:Nat} {x:Str} (h:sc.names.lookup x=some .cell):∃c,(cellsFrom n sc.names []).lookup x=some c:=by
 have q:=PySem.W.cellsFrom_some sc.names n [] (.inl h)
 exact Option.isSome_iff_exists.mp q
theorem PN {CX:Hj} {P:Program} {w:World} {K:PySem.W.Frag} {mg:Str->Option Value} {base:Heap} {N ps:List Str} {qual:Str} {scope:Scope} {f:Addr} {cd:Value} {A:Around} {outer:List Env} {s s1:Shared} {H:Hp} {E:XK} {us:List Value} {vs:List V}
 (S:aw N ps scope) (hd:A.handled=none) (e0:Lc P w K mg base A outer s H) (hl:vs.length=ps.length) (r:Vals vs us)
 (x:InCallC s s.heap.objs.size (bindL (envOfC qual scope s.heap.objs.size f cd).kindOf (ps.zip us) fun _=>none) (cellsFrom (s.heap.objs.size+1) scope.names []) (bindC (envOfC qual scope s.heap.objs.size f cd).kindOf (ps.zip us) fun _=>none) s1):
 Inv (Ot CX P w K mg base N qual scope f cd A outer s H E) [] (start N vs) H s1:=by
 have C7:ps.length<=N.length:=by have:=congrArg List.length S.pre;rw [List.length_take] at this;omega
 obtain⟨h1,tk,rfl,hk⟩:=x.done
 have noA:∀b:Addr,b∉(Ot CX P w K mg base N qual scope f cd A outer s H E).ex:=fun b z=>absurd (show b∈([]:List Addr) from z) (by simp)
 refine⟨⟨e0.mod,S.kind,rfl,rfl,Nat.le_refl _,fun y z c h1 h2=>?_,fun y hy=>?_,fun y c _ h=>?_,fun _=>hd,Around.frames_deeper e0.frames,.inr ⟨rfl,rfl⟩,fun b z=>absurd z (noA b),e0.bs,e0.Qu,fun b _ _=>noA b,fun b z=>absurd z (noA b),e0.Du,e0.Xg⟩,
  rfl,e0.bare,Un.kept hk,⟨_,x.toInCall.ns,fun i y v h1 h2 h3=>?_⟩,fun y c h=>⟨_,x.cell y c h⟩,e0.bL.fresh (Nat.le_refl _),fun y c h=>?_,fun p hp=>absurd (show p∈([]:List (Addr × Obj)) from hp) (by simp),e0.bL.kept hk,?_⟩
 . exact name_of_addr x.apart (PySem.mem_of_lookup h1) (PySem.mem_of_lookup h2)
 . have hy:scope.names.lookup y=some .cell\/scope.names.lookup y=some .free:=hy
   rcases hy with hy|hy
   . exact KY hy
   . exact absurd rfl (S.Zh _ (PySem.mem_of_lookup hy))
 . exact Nat.le_of_lt (x.above y c (PySem.mem_of_lookup h))
 . have hi:i<vs.length:=by
    unfold start at h2
    by_cases hi:i<vs.length
    . exact hi
    . rw [List.getElem?_append_right (by simpa using hi)] at h2
      rw [List.getElem?_replicate] at h2
      split at h2 <;>cases h2
   have ha:vs[i]? =some v:=by
    unfold start at h2
    rw [List.getElem?_append_left (by simpa using hi),List.getElem?_map] at h2
    cases e:vs[i]? with
    |none=>rw [e] at h2;cases h2
    |some a=>rw [e] at h2;cases h2;rfl
   obtain⟨u,hu,rv⟩:=r.get ha
   have hp:ps[i]? =some y:=by
    rw [<-S.pre,List.getElem?_take_of_lt (by omega)];exact h1
   have ndP:ps.Nodup:=by rw [<-S.pre];exact S.nd.sublist (List.take_sublist _ _)
   refine⟨u,rv,?_⟩
   rcases S.par y (List.mem_of_getElem? hp) with k|k
   . exact .inl ⟨k,HG ndP hp hu k⟩
   . obtain⟨c,e⟩:=KY (n:=s.heap.objs.size+1) k
     refine .inr ⟨.inl k,c,e,?_⟩
     have q:=x.cell y c e
     rw [HN ndP hp hu (by show scope.names.lookup y≠_;rw [k];decide)] at q
     exact q
 . exact e0.bL.fresh (Nat.le_of_lt (x.above y c (PySem.mem_of_lookup h)))
 . unfold start
   show _=N.length
   rw [List.length_append,List.length_map,List.length_replicate]
   omega
theorem acN {CX:Hj} {P:Program} {w:World} {K:PySem.W.Frag} {mg:Str->Option Value} {base:Heap} {k:Nat} {f:Addr} {name qual:Str} {params:Arguments} {body:List Stmt} {scope:Scope} {dV kV doc pm cR ct oc:Value} {an od:Option Addr}
 {Tp:Array (Option Value)} {N ps:List Str} {sp:Sp} (lk:K.lookup f=some ⟨oc,od,.func (PySem.W.fnOf name qual params body scope dV kV doc pm an cR ct),Tp⟩) (Qp:PySem.W.codeIn K cR qual=true) (S:aw N ps scope)
 (len:∀vs H Q E,sp vs H Q E->vs.length=ps.length)
 (Ru:∀(A:Around) (outer:List Env) (s:Shared) (H:Hp) (vs:List V) (Q:VK) (E:XK),dC k (A.deeper (envOfC qual scope s.heap.objs.size f cR))->sp vs H Q E->
  ∃t,K0 (Ot CX P w K mg base N qual scope f cR A outer s H E) body t/\t {nx:=fun _ H'=>Q .aQ H',rt:=Q} (start N vs) H):
 aN P w K mg base CX (k+1) f (PySem.W.fnOf name qual params body scope dV kV doc pm an cR ct) ps sp:=by
 refine⟨len,fun A outer s H args us vs Q E hr e0 hb r TN=>?_⟩
 have hl:=len _ _ _ _ TN
 have KX:K.In s.heap:=e0.mod.kin.keeps fun b o e=>(e0.bs b o e).1
 have lim:s.heap.NoLimit:=e0.mod.nolimit.keeps fun b o e=>(e0.bs b o e).1
 have abi:∀y∈ps.zip us,scope.names.lookup y.1=some .local\/(scope.names.lookup y.1=some .cell/\((cellsFrom (s.heap.objs.size+1) scope.names []).lookup y.1).isSome=true):=fun⟨n,v⟩ hy=>by
  rcases S.par n (List.of_mem_zip hy).1 with q|q
  . exact .inl q
  . exact .inr ⟨q,PySem.W.cellsFrom_some _ _ _ (.inl q)⟩
 refine codeAny_call_function hr.depth (KX _ _ lk) rfl S.co S.gen rfl (PySem.W.codeRec_of KX Qp) (hb _ _ _ _ ?_)
 refine wpAny_newFunctionEnv_cells S.kind abi fun env he s1 x=>?_
 subst he
 refine⟨lim.keeps x.toInCall.keep,codeAny_func ?_⟩
 obtain⟨t,ht,hq⟩:=Ru A outer s H vs Q E (hr.deeper _) TN
 have I:Inv (Ot CX P w K mg base N qual scope f cR A outer s H E) [] (start N vs) H s1:=PN S hr.hd e0 hl r x
 refine wpAny_mono (ht [] s1 (start N vs) H _ I hq) (fun fl s' hs=>?_) fun e s' hs=>hs
 have fin:∀{σ':St} {H':Hp} {v:V} {u:Value},Inv (Ot CX P w K mg base N qual scope f cR A outer s H E) [] σ' H' s'->RelV v u->Q v H'->CE outer P w H s Q u s':=
  fun {σ' H' v u} J rv q=>⟨v,H',J.os,J.bare,J.base,J.bL,rv,q⟩
 cases fl with
 |ret u=>
  obtain⟨v,σ',H',J,rv,q⟩:=hs
  exact fin J rv q
 |next=>
  obtain⟨σ',H',J,q⟩:=hs
  exact fin (v:=V.aQ) (u:=Value.none) J rfl q
 |brk=>
  obtain⟨_,_,_,q⟩:=hs
  exact False.elim q
 |cont=>
  obtain⟨_,_,_,q⟩:=hs
  exact False.elim q
section
variable {X:Cx} {x:Str} {p pos:Pos} {e:Expr} {es:List Expr} {t:TA} {id T:String} {r:List V->Hp->VK->Prop}
def tCB (r:List V->Hp->VK->Prop) (t:TA):TE:=fun σ H Q=>t σ H fun vs H1=>r vs H1 Q
theorem cm (hc:kl X (.builtin id) r) (hg:Gl X x) (hm:X.mg x=none) (hv:bootBuiltins x=some (.builtin id)) (ha:PA X (e::es) t) (hn:x≠"__name__":=by decide) (EV:(x==("__debug__":Str))=false:=by decide)
 (he:starEach (e::es) X.env=(false,eval e X.env)::starEach es X.env:=by rfl) (C7:(backTo pos (starEach es X.env)).any (·.1)=false:=by rfl):PE X (.Call (.Name x p) (e::es) [] pos) (tCB r t):=by
 intro pins s σ H Q I h
 refine wpAny_Call_Name_kw (AH I hg hm hv ?_ hn EV)
 exact PyProof.Rows.callWith_builtin1 (dq (ha pos pins s σ H _ I h) fun us s1 ⟨vs,H1,I1,r1,q1⟩=>hc pins s1 σ H1 vs us Q I1 r1 q1) he C7
theorem OD (hc:kl X (.type T) r) (hg:Gl X x) (hm:X.mg x=none) (hv:bootBuiltins x=some (.type T)) (ha:PA X (e::es) t) (hn:x≠"__name__":=by decide) (EV:(x==("__debug__":Str))=false:=by decide)
 (he:starEach (e::es) X.env=(false,eval e X.env)::starEach es X.env:=by rfl) (C7:(backTo pos (starEach es X.env)).any (·.1)=false:=by rfl):PE X (.Call (.Name x p) (e::es) [] pos) (tCB r t):=by
 intro pins s σ H Q I h
 refine wpAny_Call_Name_kw (AH I hg hm hv ?_ hn EV)
 exact PyProof.Rows.callWith_type1 (dq (ha pos pins s σ H _ I h) fun us s1 ⟨vs,H1,I1,r1,q1⟩=>hc pins s1 σ H1 vs us Q I1 r1 q1) he C7
end
end L2
namespace HT
open PySem PyProof.Rows
section
open PySem.SeqAt
open PySem.AutoSeq1 (wpAny_loadPart')
open PySem.MeetsSeq PySem.MeetsSeq2 PySem.MeetsSeq3
end
section
variable {prog:Program} {w:World} {A:Around} {E:Value->Shared->Prop} {s:Shared}
end
end HT
namespace L2
open PySem PySem.Spec PyProof.Rows
abbrev TO:=St->Hp->(Option Int->Hp->Prop)->Prop
section
variable {X:Cx} {e:Expr} {te:TE} {lo hi:Option Expr} {tl th:TO} {pos p2:Pos}
end
def UJ (n:Nat) (i:Int):Option Nat:=if 0<=i then (if i<n then some i.toNat else none) else if -(n:Int)<=i then some (i+n).toNat else none
def JG {α:Type} (xs:List α) (i:Int):Option α:=(UJ xs.length i).bind fun j=>xs[j]?
theorem Ng {n:Nat} {i:Int} {j:Nat} (h:UJ n i=some j):seqIndex? i n=some j/\j<n/\-(n:Int)<=i/\i<n:=by
 unfold UJ at h
 by_cases h0:0<=i
 . rw [if_pos h0] at h
   by_cases h1:i<n
   . rw [if_pos h1] at h
     have e:i.toNat=j:=Option.some.inj h
     exact⟨by rw [seqIndex_of h0 h1,e],by omega,by omega,h1⟩
   . rw [if_neg h1] at h;cases h
 . rw [if_neg h0] at h
   by_cases h1:-(n:Int)<=i
   . rw [if_pos h1] at h
     have e:(i+n).toNat=j:=Option.some.inj h
     exact⟨by rw [seqIndex_neg (by omega) h1,e],by omega,h1,by omega⟩
   . rw [if_neg h1] at h;cases h
theorem Ig {α:Type} {xs:List α} {i:Int} {v:α} (h:JG xs i=some v):∃j,seqIndex? i xs.length=some j/\xs[j]? =some v/\j<xs.length/\-(xs.length:Int)<=i/\i<xs.length:=by
 unfold JG at h
 cases e:UJ xs.length i with
 |none=>rw [e] at h;cases h
 |some j=>
  rw [e] at h
  obtain⟨h1,h2,h3,h4⟩:=Ng e
  exact⟨j,h1,h,h2,h3,h4⟩
theorem N2 {α:Type} {xs:List α} {j:Nat} {v:α} (h:xs[j]? =some v):JG xs (j:Int)=some v:=by
 have hj:j<xs.length:=(List.getElem?_eq_some_iff.mp h).1
 have e:UJ xs.length (j:Int)=some j:=by
  unfold UJ
  rw [if_pos (by omega),if_pos (by omega)];simp
 unfold JG;rw [e];exact h
def Vr (b:Expr):Prop:=∀o i,subscripted b false o i=operate [o,i] (getItem o i)
def Qq (X:Cx) (r:R2):Prop:=
 ∀(value slice:Expr) (pins:List (Addr × Obj)) (s:Shared) (σ:St) (H:Hp) (x y:V) (v u:Value) (Q:VK),Inv X pins σ H s->RelV x v->RelV y u->r x y H Q->
  subscripted slice false v u=operate [v,u] (getItem v u)->wpAny (model X.prog X.w) X.A (subscriptTail value slice v u) (EP X pins σ Q) X.xe s
def MtR (X:Cx) (id:String) (r:V->List V->Hp->VK->Prop):Prop:=
 ∀(pins:List (Addr × Obj)) (s:Shared) (σ:St) (H:Hp) (x:V) (xs:List V) (v:Value) (us:List Value) (Q:VK),Inv X pins σ H s->RelV x v->Vals xs us->r x xs H Q->
  wpAny (model X.prog X.w) X.A (call (.builtin id) (v::us)) (EP X pins σ Q) X.xe s
section
variable {X:Cx} {a b:Expr} {ta tb:TE} {pos:Pos}
theorem Qq.or {r r':R2} (h:Qq X r) (h':Qq X r'):Qq X (fun x y H Q=>r x y H Q\/r' x y H Q):=by
 intro value slice pins s σ H x y v u Q I rx ry q hs
 rcases q with q|q
 . exact h value slice pins s σ H x y v u Q I rx ry q hs
 . exact h' value slice pins s σ H x y v u Q I rx ry q hs
theorem bB {r:R2} (hr:Qq X r) (ha:PE X a ta) (hb:PE X b tb) (hs:Vr b):PE X (.Subscript a b pos) (tOp r ta tb):=by
 intro pins s σ H Q I h
 exact Subscript_ (XD ha hb I h fun v u s2 x y H2 I2 rx ry q=>hr a b pins s2 σ H2 x y v u Q I2 rx ry q (hs _ _))
def Yg (K:PySem.W.Frag):R2:=fun x y H Q=>∃p xs i v,x=.ref p/\y=.int i/\iH K H p xs/\JG xs i=some v/\Q v H
def abL (K:PySem.W.Frag):R2:=fun x y H Q=>∃p xs i v,x=.ref p/\y=.int i/\Pg K H p xs/\JG xs i=some v/\Q v H
def ZL:R2:=fun x y H Q=>∃z i c,x=.str z/\y=.int i/\z.length<=sizeLine/\JG z.cps.toList i=some c/\Q (.str ⟨#[c]⟩) H
theorem NT:Qq X (Yg X.K):=by
 intro value slice pins s σ H x y v u Q I rx ry h hs
 obtain⟨p,xs,i,z,rfl,rfl,hq,he,q⟩:=h
 cases rx
 obtain⟨t,rfl⟩:=ry
 obtain⟨a8,r,pl,hz⟩:=I.list hq
 obtain⟨j,h1,h2,h3,h4,h5⟩:=Ig he
 obtain⟨w,ew,OG⟩:=r.get h2
 have hl:=r.length
 have hn:=An
 have fin:EP X pins σ Q w s:=⟨z,H,I,OG,q⟩
 by_cases h0:0<=i
 . have hj:i.toNat=j:=by
    rw [seqIndex_of h0 h5] at h1
    exact Option.some.inj h1
   exact item_listR pl.isList h0 (by omega) (by rw [hj];simpa using ew) fin hs
 . have hj:(i+(a8.toArray.size:Int)).toNat=j:=by
    rw [seqIndex_neg (by omega) h4] at h1
    rw [List.size_toArray,<-hl]
    exact Option.some.inj h1
   exact subscriptTail_builtinR (x:=w) pl.isList.typeIs slot_list_getitem.lookup
    (wpAny_getItem_list_neg (Q:=fun r s'=>r=w/\EP X pins σ Q r s') pl.isList (by omega) (by rw [List.size_toArray] <;>omega) (by omega) (by rw [hj];simpa using ew) ⟨rfl,fin⟩) hs
theorem Z6:Qq X (abL X.K):=by
 intro value slice pins s σ H x y v u Q I rx ry h hs
 obtain⟨p,xs,i,z,rfl,rfl,hq,he,q⟩:=h
 cases rx
 obtain⟨t,rfl⟩:=ry
 obtain⟨a8,r,pl,hz⟩:=I.tuple hq
 obtain⟨j,h1,h2,h3,h4,h5⟩:=Ig he
 obtain⟨w,ew,OG⟩:=r.get h2
 have hl:=r.length
 have hn:=An
 have fin:EP X pins σ Q w s:=⟨z,H,I,OG,q⟩
 exact subscriptTail_builtinR (x:=w) pl.typeIs slot_tuple_getitem.lookup
  (getItem_tuple (j:=j) (Q:=fun r s'=>r=w/\EP X pins σ Q r s') pl (by omega) (by omega) (by rw [List.size_toArray,<-hl];exact h1) (by simpa using ew) ⟨rfl,fin⟩) hs
theorem YY:Qq X ZL:=by
 intro value slice pins s σ H x y v u Q I rx ry h hs
 obtain⟨z,i,c,rfl,rfl,hz,he,q⟩:=h
 obtain⟨t,rfl⟩:=rx
 obtain⟨t',rfl⟩:=ry
 obtain⟨j,h1,h2,h3,h4,h5⟩:=Ig he
 have hl:z.cps.toList.length=z.length:=by simp [Str.length]
 rw [hl] at h1 h4 h5
 have hn:=An
 exact tail_any (typeIs_str s z t) slot_str_getitem.lookup (getItem_str (c:=c) (by
  have e1:decide (i< -(2^63:Int))=false:=decide_eq_false (by omega)
  have e2:decide (i≥2^63)=false:=decide_eq_false (by omega)
  rw [e1,e2,Bool.or_false]) (by rw [h1];simpa using h2) ⟨.str ⟨#[c]⟩,H,I.tok _,⟨_,rfl⟩,q⟩) hs
def rIx (K:PySem.W.Frag):R2:=fun x y H Q=>Yg K x y H Q\/abL K x y H Q\/ZL x y H Q
theorem XA:Qq X (rIx X.K):=NT.or (Z6.or YY)
theorem LO (a8:List Value) (n j:Nat) (u:Value):Obj.mapSeq (·.setIfInBounds j u) {cls:=.type "list",data:=.seq a8.toArray n}={cls:=.type "list",data:=.seq (a8.set j u).toArray n}:=by
 simp [Obj.mapSeq]
theorem Inv.lst {pins:List (Addr × Obj)} {σ:St} {H:Hp} {s:Shared} {p:Addr} {xs:List V} (I:Inv X pins σ H s) (h:H p=some (.lst xs)):
 ∃(a8:List Value) (n:Nat),Vals xs a8/\s.heap.get? p=some {cls:=.type "list",data:=.seq a8.toArray n}/\xs.length<=sizeLine:=by
 obtain⟨z,a8,n,r,e⟩:=I.bL p _ h
 exact⟨a8,n,r,e,z⟩
theorem Inv.X2 {pins:List (Addr × Obj)} {σ:St} {H:Hp} {s:Shared} {p:Addr} {xs ys:List V} {a8 its':List Value} {n n':Nat} {f:Obj->Obj} (I:Inv X pins σ H s) (h:H p=some (.lst xs))
 (ho:s.heap.get? p=some {cls:=.type "list",data:=.seq a8.toArray n}) (hf:f {cls:=.type "list",data:=.seq a8.toArray n}={cls:=.type "list",data:=.seq its'.toArray n'}) (r:Vals ys its') (hz:ys.length<=sizeLine) (t:Nat):
 Inv X pins σ (upd H p (.lst ys)) {s with heap:=s.heap.update p f,toks:=t}:=by
 have e:(s.heap.update p f).get? p=some {cls:=.type "list",data:=.seq its'.toArray n'}:=by
  rw [Heap.get?_update_self f ho (by rw [hf] <;>rfl),hf]
 refine I.write (x:=p) (e:=p) (by rw [h];trivial) (.inl rfl) (fun b u hb q=>(Heap.get?_update_other _ _ (Ne.symm hb)).trans q) ⟨_,e⟩ ?_
 exact⟨hz,its',n',r,e⟩
def WD:V->V->V->Hp->(Hp->Prop)->Prop:=fun o i v H Q=>∃p xs k j,o=.ref p/\i=.int k/\H p=some (.lst xs)/\UJ xs.length k=some j/\Q (upd H p (.lst (xs.set j v)))
theorem set_list:aaS X WD:=by
 intro pins s σ H o i v ov iv u Q I ro ri rv h
 obtain⟨p,xs,k,j,rfl,rfl,hp,hj,q⟩:=h
 cases ro
 obtain⟨t,rfl⟩:=ri
 obtain⟨a8,n,r,ho,hz⟩:=I.lst hp
 obtain⟨h1,h2,h3,h4⟩:=Ng hj
 have hl:=r.length
 have hn:=An
 have I':Inv X pins σ (upd H p (.lst (xs.set j v))) {s with heap:=s.heap.update p (Obj.mapSeq (·.setIfInBounds j u))}:=
  I.X2 hp ho (LO a8 n j u) (r.set rv j) (by rw [List.length_set];exact hz) s.toks
 by_cases h0:0<=k
 . have hk:k.toNat=j:=by
    rw [seqIndex_of h0 h4] at h1
    exact Option.some.inj h1
   exact PySem.W.ki_setAt ho h0 (by omega) (by rw [List.size_toArray,<-hl];exact h4) (by rw [hk];exact⟨_,I',q⟩)
 . have hk:(k+(a8.toArray.size:Int)).toNat=j:=by
    rw [seqIndex_neg (by omega) h3] at h1
    rw [List.size_toArray,<-hl]
    exact Option.some.inj h1
   exact PySem.W.ki_setBack ho (by omega) (by rw [List.size_toArray,<-hl];exact h3) (by omega) (by rw [hk];exact⟨_,I',q⟩)
theorem rD:kl X (.builtin "len") (fun xs H Q=>∃p ys,xs=[.ref p]/\(iH X.K H p ys\/Pg X.K H p ys)/\Q (.int ys.length) H):=by
 intro pins s σ H xs us Q I r h
 obtain⟨p,ys,rfl,hq,q⟩:=h
 obtain⟨u,rfl,rx⟩:=vals1 r
 cases rx
 have hn:=An
 rcases hq with hq|hq
 . obtain⟨a8,r',pl,hz⟩:=I.list hq
   have hlen:=r'.length
   exact Calls.call_len_list pl.isList (by simp only [List.size_toArray] <;>omega) ⟨.int ys.length,H,I.tok _,⟨s.toks+1,by rw [List.size_toArray,hlen]⟩,q⟩
 . obtain⟨a8,r',pl,hz⟩:=I.tuple hq
   have hlen:=r'.length
   exact len_tuple pl (by simp only [List.size_toArray] <;>omega) ⟨.int ys.length,H,I.tok _,⟨s.toks+1,by rw [List.size_toArray,hlen]⟩,q⟩
theorem IU:kl X (.builtin "len") (fun xs H Q=>∃z,xs=[.str z]/\z.length<=sizeLine/\Q (.int z.length) H):=by
 intro pins s σ H xs us Q I r h
 obtain⟨z,rfl,hz,q⟩:=h
 obtain⟨u,rfl,t,rfl⟩:=vals1 r
 have hn:=An
 exact len_str (by omega) ⟨.int z.length,H,I.tok _,⟨_,rfl⟩,q⟩
def tyV (K:PySem.W.Frag) (T:String) (x:V) (H:Hp):Prop:=match x with
 | .str _=>T="str"
 | .int _=>T="int"
 | .ref p=>(T="list"/\∃xs,iH K H p xs)\/(T="tuple"/\∃o,K.lookup p=some o/\o.cls=.type "tuple"/\o.dict=none)\/
  (T="dict"/\((∃kvs,H p=some (.dK kvs))\/∃kvs,H p=some (.dT kvs)))\/(T="set"/\∃S n,H p=some (.set S n))
 |_=>False
theorem Mf {pins:List (Addr × Obj)} {σ:St} {H:Hp} {s:Shared} {T:String} {x:V} {v:Value} (I:Inv X pins σ H s) (r:RelV x v) (ty:tyV X.K T x H):
 s.TypeIs v T/\∀a,v=.ref a->∃ob,s.heap.get? a=some ob/\ob.dict=none:=by
 cases x with
 |str z=>
  obtain⟨t,rfl⟩:=r
  cases (show T="str" from ty)
  exact⟨typeIs_str s z t,fun _ e=>nomatch e⟩
 |int i=>
  obtain⟨t,rfl⟩:=r
  cases (show T="int" from ty)
  exact⟨typeIs_int s i t,fun _ e=>nomatch e⟩
 |ref p=>
  cases r
  rcases ty with⟨rfl,xs,hq⟩|⟨rfl,o,hk,hc,hd⟩|⟨rfl,hk⟩|⟨rfl,S,n,hk⟩
  . obtain⟨a8,_,pl,_⟩:=I.list hq
    refine⟨pl.isList.typeIs,fun a e=>?_⟩
    cases e
    obtain⟨o,n,e,c,hd,_⟩:=pl
    exact⟨o,e,hd⟩
  . refine⟨⟨o,I.A5 p o hk,hc⟩,fun a e=>?_⟩
    cases e
    exact⟨o,I.A5 _ o hk,hd⟩
  . have z:∃o,s.heap.get? p=some o/\o.ExactDict:=by
     rcases hk with⟨kvs,hk⟩|⟨kvs,hk⟩
     . obtain⟨_,_,_,_,o,_,_,e,ex,_⟩:=I.bL p _ hk
       exact⟨o,e,ex⟩
     . obtain⟨_,_,_,_,o,_,_,e,ex,_⟩:=I.bL p _ hk
       exact⟨o,e,ex⟩
    obtain⟨o,e,ex⟩:=z
    refine⟨⟨o,e,ex.1⟩,fun a e2=>?_⟩
    cases e2
    exact⟨o,e,ex.2.1⟩
  . obtain⟨o,_,_,_,e,ex,_⟩:=I.bL p _ hk
    refine⟨⟨o,e,ex.1⟩,fun a e2=>?_⟩
    cases e2
    exact⟨o,e,ex.2.1⟩
 |_=>exact False.elim ty
def tBM (K:PySem.W.Frag) (T:String) (r:V->List V->Hp->VK->Prop) (to:TE) (t:TA):TE:=fun σ H Q=>to σ H fun x H1=>tyV K T x H1/\t σ H1 fun xs H2=>r x xs H2 Q
variable {o e:Expr} {es:List Expr} {to:TE} {t:TA} {name:Str} {apos gX:Pos} {T id:String} {r:V->List V->Hp->VK->Prop}
theorem Kc (pa:PlainAttrs T) (slot:Slot T name id) (hty:typeOf (.builtin id)=pure (.type "method_descriptor")) (hm:MtR X id r) (ho:PE X o to) (ha:PA X (e::es) t)
 (Ks:attributeBase o name X.env (eval o X.env)=eval o X.env:=by rfl)
 (adM:((backTo gX (starEach (e::es) X.env)).all (fun x=>!x.1)&&(backToKw gX (keywordEach [] X.env)).all (fun x=>x.1.isSome)
  &&decide ((e::es).length+([]:List Keyword).length+(if ([]:List Keyword).isEmpty then 0 else 1)<30))=true:=by rfl)
 (hline:(apos.endLine==gX.line)=true:=by rfl) (hs:starEach (e::es) X.env=(false,eval e X.env)::starEach es X.env:=by rfl) (XI:(backTo gX (starEach es X.env)).any (·.1)=false:=by rfl):
 PE X (.Call (.Attribute o name apos) (e::es) [] gX) (tBM X.K T r to t):=by
 intro pins s σ H Q I h
 refine wpAny_Call_method_late Ks adM hline rfl (dq (ho pins s σ H _ I h) fun v s1 ⟨x,H1,I1,r1,ty,q1⟩=>?_)
 obtain⟨h1,h2⟩:=Mf I1 r1 ty
 refine⟨T,id,pa,slot,hty,h1,h2,?_⟩
 have hA:=ha gX pins s1 σ H1 _ I1 q1
 rw [hs] at hA ⊢
 refine Calls.callWith_builtin (by show(false||(backTo gX (starEach es X.env)).any (·.1))=false;rw [XI] <;>rfl) (Calls.evalArgs_plain ?_)
 exact dq hA fun us s2 ⟨vs,H2,I2,r2,q2⟩=>hm pins s2 σ H2 x vs v us Q I2 r1 r2 q2
end
def MtM (X:Cx) (id:String) (r:V->List V->Hp->VK->Prop):Prop:=
 ∀(pins:List (Addr × Obj)) (s:Shared) (σ:St) (H:Hp) (x:V) (xs:List V) (v:Value) (us:List Value) (Q:VK),Inv X pins σ H s->RelV x v->Vals xs us->r x xs H Q->
  wpAny (model X.prog X.w) X.A (call (.builtin id) (v::us)) (EP X pins σ Q) X.xe s
theorem Vals.one:∀{x:V} {us:List Value},Vals [x] us->∃u,us=[u]/\RelV x u
 |_,_,.cons r .nil=>⟨_,rfl,r⟩
section
variable {X:Cx} {pins:List (Addr × Obj)} {σ:St} {H:Hp} {s:Shared} {l b:Addr} {xs ys zs:List V}
theorem Inv.adX {a8 its':List Value} {n:Nat} {f:Array Value->Array Value} {t':Nat} (I:Inv X pins σ H s) (hH:H l=some (.lst xs))
 (e:s.heap.get? l=some {cls:=.type "list",data:=.seq a8.toArray n}) (hf:f a8.toArray=its'.toArray) (hv:Vals ys its') (hz:ys.length<=sizeLine):
 Inv X pins σ (upd H l (.lst ys)) {s with heap:=s.heap.update l (Obj.mapSeq f),toks:=t'}:=by
 have q:=PySem.IsL.update e f
 rw [hf] at q
 refine I.write (x:=l) (e:=l) (by rw [hH];exact trivial) (.inl rfl) (fun b' u hb hu=>(Heap.get?_update_other s.heap (Obj.mapSeq f) (Ne.symm hb)).trans hu) ⟨_,q⟩ ?_
 exact⟨hz,its',_,hv,q⟩
theorem Inv.adL {a8:List Value} {t':Nat} (I:Inv X pins σ H s) (hv:Vals ys a8) (hz:ys.length<=sizeLine):
 Inv X pins σ (upd H s.heap.objs.size (.lst ys)) {s with heap:=s.heap.push {cls:=.type "list",data:=.seq a8.toArray},toks:=t'}:=
 I.laid (fun _ _ q=>Heap.get?_push_of_some _ q) (Nat.le_refl _) ⟨hz,a8,0,hv,Heap.get?_push_size _ rfl⟩
theorem Inv.fresh (I:Inv X pins σ H s):H s.heap.objs.size=none:=I.bL.fresh (Nat.le_refl _)
theorem Inv.VF (I:Inv X pins σ H s) (hH:H l=some (.lst xs)):xs.length<=sizeLine/\∃(a8:List Value) (n:Nat),Vals xs a8/\xs.length=a8.length/\s.heap.get? l=some {cls:=.type "list",data:=.seq a8.toArray n}:=by
 obtain⟨z,a8,n,r,e⟩:=I.bL l _ hH
 exact⟨z,a8,n,r,r.length,e⟩
theorem QS {n:Nat} (h:n<=sizeLine):Builtin.List.listTooLong n=false:=by
 unfold Builtin.List.listTooLong
 exact decide_eq_false (by omega)
end
section
variable {X:Cx}
def NX:V->List V->Hp->VK->Prop:=fun x vs H Q=>∃l b xs zs,x=.ref l/\vs=[.ref b]/\H l=some (.lst xs)/\H b=some (.lst zs)/\xs.length+zs.length<=sizeLine/\Q .aQ (upd H l (.lst (xs++zs)))
theorem Hs:MtM X "list.extend" NX:=by
 intro pins s σ H x vs v us Q I rx rv h
 obtain⟨l,b,xs,zs,rfl,rfl,hH,hB,hz,q⟩:=h
 cases rx
 obtain⟨u,rfl,ru⟩:=rv.one
 cases ru
 obtain⟨z,a8,n,r,hl,e⟩:=I.VF hH
 obtain⟨z2,Ik,n2,r2,hl2,e2⟩:=I.VF hB
 have hsz:a8.toArray.size+Ik.toArray.size<=sizeLine:=by rw [List.size_toArray,List.size_toArray];omega
 have acz:¬(!a8.toArray.isEmpty&&Builtin.List.listTooLong (a8.toArray.size+Ik.toArray.size))=true:=by
  rw [QS hsz,Bool.and_false]
  exact Bool.false_ne_true
 refine call_meets F.slot_list_extend ⟨_,e,rfl⟩ F.entry_list_extend (F.args_list_extend_2 _ _)
  (AutoSeq1.list_extend_list_list_0 l a8.toArray n b Ik.toArray n2 acz (by rw [List.size_toArray];omega) (by omega)) ⟨e,e2,?_⟩
 refine⟨.aQ,_,I.adX (its':=a8++Ik) hH e (by simp) (r.append r2) ?_,rfl,q⟩
 rw [List.length_append]
 omega
def abt:R2:=fun x y H Q=>∃l b xs zs,x=.ref l/\y=.ref b/\H l=some (.lst xs)/\H b=some (.lst zs)/\xs.length+zs.length<=sizeLine/\∀p,H p=none->Q (.ref p) (upd H p (.lst (xs++zs)))
theorem XT:C9 X (binaryOp .Add) abt:=by
 intro pins s σ H x y v u Q I rx ry h
 obtain⟨l,b,xs,zs,rfl,rfl,hH,hB,hz,q⟩:=h
 cases rx
 cases ry
 obtain⟨z,a8,n,r,hl,e⟩:=I.VF hH
 obtain⟨z2,Ik,n2,r2,hl2,e2⟩:=I.VF hB
 refine PySem.P.add_list e e2 ?_ (by rw [List.size_toArray,List.size_toArray];omega)
 have ea:a8.toArray++Ik.toArray=(a8++Ik).toArray:=by simp
 rw [ea]
 exact⟨.ref _,_,I.adL (t':=s.toks) (r.append r2) (by rw [List.length_append];omega),rfl,q _ I.fresh⟩
end
section
variable {prog:Program} {w:World} {A:Around} {E:Value->Shared->Prop} {s:Shared}
set_option maxRecDepth 100000 in
end
section
variable {X:Cx}
end
section
variable {κ:Type} [DecidableEq κ]
def oj (kvs:List (κ × V)) (k:κ):Option V:=(kvs.find? fun kv=>decide (kv.1=k)).map (·.2)
def putK (kvs:List (κ × V)) (k:κ) (v:V):List (κ × V):=
 if (kvs.any fun kv=>decide (kv.1=k))=true then kvs.map (fun kv=>if kv.1=k then (kv.1,v) else kv) else kvs++[(k,v)]
def sM (kvs:List (κ × V)) (k:κ):List (κ × V):=kvs.filter fun kv=>decide (kv.1≠k)
theorem x5 {p:κ × V} {r:List (κ × V)} {k:κ} (e:p.1=k):oj (p::r) k=some p.2:=by simp [oj,List.find?_cons,e]
theorem pB {p:κ × V} {r:List (κ × V)} {k:κ} (e:¬p.1=k):oj (p::r) k=oj r k:=by simp [oj,List.find?_cons,e]
theorem GH (k:κ):∀kvs:List (κ × V),(kvs.any fun kv=>decide (kv.1=k))=(oj kvs k).isSome
 |[]=>rfl
 |p::r=>by
  rw [List.any_cons]
  by_cases e:p.1=k
  . simp only [x5 e,decide_eq_true e,Bool.true_or,Option.isSome_some]
  . rw [pB e,decide_eq_false e,Bool.false_or];exact GH k r
theorem Eh (kvs:List (κ × V)) (k:κ) (v:V):(putK kvs k v).length<=kvs.length+1:=by
 unfold putK
 split
 . rw [List.length_map];omega
 . rw [List.length_append,List.length_cons,List.length_nil];omega
theorem qJ.qC {o:Option V} {u:Option Value} (r:qJ o u):o.isSome=u.isSome:=by
 cases o with
 |none=>cases u with
  |none=>rfl
  |some _=>exact(show False from r).elim
 |some _=>cases u with
  |none=>exact(show False from r).elim
  |some _=>rfl
theorem qJ.getD {o:Option V} {u:Option Value} {d:V} {d':Value} (r:qJ o u) (rd:RelV d d'):RelV (o.getD d) (u.getD d'):=by
 cases o with
 |none=>cases u with
  |none=>exact rd
  |some _=>exact(show False from r).elim
 |some _=>cases u with
  |none=>exact(show False from r).elim
  |some _=>exact r
theorem KV.val {kvs:List (κ × V)} {vs:List (κ × Value)} (r:KV kvs vs) (k:κ):qJ (oj kvs k) (valueAt vs k):=by
 unfold KV at r
 induction r with
 |nil=>exact True.intro
 |@cons p q ps qs h t ih=>
  obtain⟨h1,h2⟩:=h
  by_cases e:p.1=k
  . have e':q.1=k:=h1.symm.trans e
    have b:valueAt (q::qs) k=some q.2:=by simp [valueAt,List.find?_cons,e']
    rw [x5 e,b];exact h2
  . have e':¬q.1=k:=fun z=>e (h1.trans z)
    have b:valueAt (q::qs) k=valueAt qs k:=by simp [valueAt,List.find?_cons,e']
    rw [pB e,b];exact ih
theorem KV.any {kvs:List (κ × V)} {vs:List (κ × Value)} (r:KV kvs vs) (k:κ):(kvs.any fun kv=>decide (kv.1=k))=vs.any fun kv=>decide (kv.1=k):=by
 unfold KV at r
 induction r with
 |nil=>rfl
 |cons h t ih=>rw [List.any_cons,List.any_cons,ih,h.1]
theorem KV.repl {kvs:List (κ × V)} {vs:List (κ × Value)} (r:KV kvs vs) (k:κ) {y:V} {u:Value} (ry:RelV y u):
 KV (kvs.map fun kv=>if kv.1=k then (kv.1,y) else kv) (vs.map fun kv=>if kv.1=k then (kv.1,u) else kv):=by
 unfold KV at r ⊢
 induction r with
 |nil=>exact .nil
 |@cons p q ps qs h t ih=>
  rw [List.map_cons,List.map_cons]
  refine .cons ?_ ih
  obtain⟨h1,h2⟩:=h
  by_cases e:p.1=k
  . rw [if_pos e,if_pos (h1.symm.trans e)];exact⟨h1,ry⟩
  . rw [if_neg e,if_neg (fun z=>e (h1.trans z))];exact⟨h1,h2⟩
theorem KV.put {kvs:List (κ × V)} {vs:List (κ × Value)} (r:KV kvs vs) (k:κ) {y:V} {u:Value} (ry:RelV y u):KV (putK kvs k y) (stored vs k u):=by
 unfold putK stored
 rw [r.any k]
 by_cases e:(vs.any fun kv=>decide (kv.1=k))=true
 . rw [if_pos e,if_pos e];exact r.repl k ry
 . rw [if_neg e,if_neg e];exact Paired.snoc r ⟨rfl,ry⟩
theorem KV.drop {kvs:List (κ × V)} {vs:List (κ × Value)} (r:KV kvs vs) (k:κ):KV (sM kvs k) (without vs k):=by
 unfold KV at r ⊢
 unfold sM without
 induction r with
 |nil=>exact .nil
 |@cons p q ps qs h t ih=>
  obtain⟨h1,h2⟩:=h
  rw [List.filter_cons,List.filter_cons]
  by_cases e:p.1=k
  . have a:¬decide (p.1≠k)=true:=by simp [e]
    have b:¬decide (q.1≠k)=true:=by simp [h1.symm.trans e]
    rw [if_neg a,if_neg b];exact ih
  . have e':¬q.1=k:=fun z=>e (h1.trans z)
    have a:decide (p.1≠k)=true:=by simp [e]
    have b:decide (q.1≠k)=true:=by simp [e']
    rw [if_pos a,if_pos b];exact .cons ⟨h1,h2⟩ ih
theorem KV.length {kvs:List (κ × V)} {vs:List (κ × Value)} (r:KV kvs vs):kvs.length=vs.length:=Paired.length r
theorem S2 (kvs:List (κ × V)) (k:κ):(sM kvs k).length<=kvs.length:=List.length_filter_le _ _
end
theorem Gs {P:Program} {w:World} {k:Key} {u:Value} (r:RelV (kV k) u):(aX P w).is k u=true:=by
 cases k with
 |inl i=>obtain⟨t,e⟩:=(show ∃t,u=Value.int i t from r);subst e;exact Ko P w i t
 |inr x=>obtain⟨t,e⟩:=(show ∃t,u=Value.str x t from r);subst e;exact J5 P w x t
theorem HE {P:Program} {w:World}:∀{ks:List Key} {us:List Value},Vals (ks.map kV) us->ItemsAre (aX P w) ks us
 |[],_,r=>by rw [List.map_nil] at r;cases r;exact .nil
 |k::ks,_,r=>by
  rw [List.map_cons] at r
  cases r with
  |cons h t=>exact .cons (Gs h) (HE t)
abbrev KT (H:Hp):List (List Key × V)->List (List Key × Addr × Value)->Prop:=Paired fun p q=>p.1=q.1/\H q.2.1=some (.tup (p.1.map kV))/\RelV p.2 q.2.2
theorem KT.val {H:Hp} {kvs:List (List Key × V)} {xs:List (List Key × Addr × Value)} (r:KT H kvs xs) (k:List Key):qJ (oj kvs k) ((atKey xs k).map (·.2)):=by
 induction r with
 |nil=>exact True.intro
 |@cons p q ps qs h t ih=>
  obtain⟨h1,_,h2⟩:=h
  by_cases e:p.1=k
  . have e':q.1=k:=h1.symm.trans e
    have b:atKey (q::qs) k=some q.2:=by simp [atKey,List.find?_cons,e']
    rw [x5 e,b];exact h2
  . have e':¬q.1=k:=fun z=>e (h1.trans z)
    have b:atKey (q::qs) k=atKey qs k:=by simp [atKey,List.find?_cons,e']
    rw [pB e,b];exact ih
theorem KT.repl {H:Hp} {kvs:List (List Key × V)} {xs:List (List Key × Addr × Value)} (r:KT H kvs xs) (k:List Key) {y:V} {u:Value} (ry:RelV y u):
 KT H (kvs.map fun kv=>if kv.1=k then (kv.1,y) else kv) (xs.map (putAt k u)):=by
 induction r with
 |nil=>exact .nil
 |@cons p q ps qs h t ih=>
  rw [List.map_cons,List.map_cons]
  refine .cons ?_ ih
  obtain⟨h1,h2,h3⟩:=h
  unfold putAt
  by_cases e:p.1=k
  . rw [if_pos e,if_pos (h1.symm.trans e)];exact⟨h1,h2,ry⟩
  . rw [if_neg e,if_neg (fun z=>e (h1.trans z))];exact⟨h1,h2,h3⟩
theorem KT.put {H:Hp} {kvs:List (List Key × V)} {xs:List (List Key × Addr × Value)} (r:KT H kvs xs) (k:List Key) {b:Addr} {y:V} {u:Value} (hb:H b=some (.tup (k.map kV))) (ry:RelV y u):
 KT H (putK kvs k y) (storedH xs k b u):=by
 have e:(kvs.any fun kv=>decide (kv.1=k))=(atKey xs k).isSome:=by
  rw [GH,(r.val k).qC,Option.isSome_map]
 unfold putK storedH
 rw [e]
 by_cases q:(atKey xs k).isSome=true
 . rw [if_pos q,if_pos q];exact r.repl k ry
 . rw [if_neg q,if_neg q];exact Paired.snoc r ⟨rfl,hb,ry⟩
theorem KT.keeps {H H':Hp} {kvs:List (List Key × V)} {xs:List (List Key × Addr × Value)} (r:KT H kvs xs) (ht:∀b ys,H b=some (.tup ys)->H' b=some (.tup ys)):KT H' kvs xs:=
 Paired.ZZ r fun _ _ z=>⟨z.1,ht _ _ z.2.1,z.2.2⟩
section
variable {P:Program} {w:World} {H:Hp} {h:Heap} {a:Addr}
theorem Xa {u:HO} (ok:rJ P w H h) (e:Rd H a u):c5 P w H h a u:=e.ok ok
theorem GJ {kvs:List (Key × V)} (ok:rJ P w H h) (e:Rd H a (.dK kvs)):kvs.length<=sizeLine/\(a==sysModules)=false/\∃vs,KV kvs vs/\h.DictOf (aX P w) a vs:=
 show c5 P w H h a (.dK kvs) from Xa ok e
theorem WT {kvs:List (Key × V)} (ok:rJ P w H h) (e:H a=some (.dK kvs)):kvs.length<=sizeLine/\(a==sysModules)=false/\∃vs,KV kvs vs/\h.DictOf (aX P w) a vs:=GJ ok (.inl e)
theorem Ds {ks:List Key} (ok:rJ P w H h) (e:H a=some (.tup (ks.map kV))):(tupleKind (aX P w)).is h ks a:=by
 obtain⟨_,a8,r,o,h1,h2,n,h3⟩:=(show c5 P w H h a (.tup (ks.map kV)) from ok a _ e)
 exact⟨o,a8.toArray,n,h1,h2,h3,by simpa using HE r⟩
theorem Gf {kvs:List (List Key × V)} (ok:rJ P w H h) (e:Rd H a (.dT kvs)):kvs.length<=sizeLine/\(a==sysModules)=false/\
 ∃xs,KT H kvs xs/\h.DictOfH (tupleKind (aX P w)) a xs:=by
 obtain⟨z,y,xs,r,o,es,ep,h1,h2,h3,h4,h5⟩:=(show c5 P w H h a (.dT kvs) from Xa ok e)
 refine⟨z,y,xs,r,o,es,ep,h1,h2,h3,h4,fun x hx=>?_,h5⟩
 have all:∀{l:List (List Key × V)} {m:List (List Key × Addr × Value)},KT H l m->∀x∈m,(tupleKind (aX P w)).is h x.1 x.2.1:=by
  intro l m q
  induction q with
  |nil=>intro x hx;exact nomatch hx
  |@cons p q ps qs hq t ih=>
   intro x hx
   rcases List.mem_cons.mp hx with e|hx
   . subst e
     exact Ds ok (by rw [<-hq.1];exact hq.2.1)
   . exact ih x hx
 exact all r x hx
theorem aaR {kvs:List (List Key × V)} (ok:rJ P w H h) (e:H a=some (.dT kvs)):kvs.length<=sizeLine/\(a==sysModules)=false/\
 ∃xs,KT H kvs xs/\h.DictOfH (tupleKind (aX P w)) a xs:=Gf ok (.inl e)
end
def jb (H:Hp) (a:Addr) (y:V) (r:Option V):Prop:=
 (∃kvs k,Rd H a (.dK kvs)/\y=kV k/\r=oj kvs k)\/∃kvs k b,Rd H a (.dT kvs)/\y=.ref b/\H b=some (.tup (k.map kV))/\r=oj kvs k
def Je (H:Hp) (a:Addr) (y v:V) (H':Hp):Prop:=
 (∃kvs k,H a=some (.dK kvs)/\y=kV k/\kvs.length<sizeLine/\H'=upd H a (.dK (putK kvs k v)))\/
 ∃kvs k b,H a=some (.dT kvs)/\y=.ref b/\H b=some (.tup (k.map kV))/\kvs.length<sizeLine/\H'=upd H a (.dT (putK kvs k v))
theorem jb.k {H:Hp} {a:Addr} {kvs:List (Key × V)} {k:Key} (e:H a=some (.dK kvs)):jb H a (kV k) (oj kvs k):=.inl ⟨kvs,k,.inl e,rfl,rfl⟩
theorem Je.k {H:Hp} {a:Addr} {kvs:List (Key × V)} {k:Key} {v:V} (e:H a=some (.dK kvs)) (hl:kvs.length<sizeLine):Je H a (kV k) v (upd H a (.dK (putK kvs k v))):=.inl ⟨kvs,k,e,rfl,hl,rfl⟩
section
variable {X:Cx} {pins:List (Addr × Obj)} {σ:St} {H:Hp} {s:Shared} {a:Addr} {y v:V} {u r:Value} {o:Option V} {A:Around} {E:Value->Shared->Prop}
theorem Inv.big (I:Inv X pins σ H s):sysModules<s.heap.objs.size:=by
 have h:mainGlobals<s.heap.objs.size:=(I.mod.glob.keeps I.bk).lt
 exact Nat.lt_trans (by decide) h
theorem PK {Q:Value->Shared->Prop} (hu:A.units+1<cLine) (I:Inv X pins σ H s) (g:jb H a y (some v)) (ry:RelV y u) (h:∀w' s',Inv X pins σ H s'->RelV v w'->Q w' s'):
 wpAny (model X.prog X.w) A (getItem (.ref a) u) Q E s:=by
 rcases g with⟨kvs,k,e,ey,l⟩|⟨kvs,k,b,e,ey,eb,l⟩
 . subst ey
   obtain⟨z,hd,vs,rel,dd⟩:=GJ I.bL e
   obtain⟨w',hw,OG⟩:=qJ.some_of (v:=v) (o:=valueAt vs k) (by rw [l];exact rel.val k)
   exact wpAny_getItem_of (Gs ry) dd.mapOf hw (h w' _ (I.tok _) OG)
 . subst ey
   cases (show u=Value.ref b from ry)
   obtain⟨z,hd,xs,rel,dd⟩:=Gf I.bL e
   obtain⟨w',hw,OG⟩:=qJ.some_of (v:=v) (o:=(atKey xs k).map (·.2)) (by rw [l];exact rel.val k)
   obtain⟨p,hp,Qm⟩:=Option.map_eq_some_iff.mp hw
   refine wpAny_getItem_heap (tupleKind_room_in1 hu) (Ds I.bL eb) dd hp ?_
   rw [Qm]
   exact h w' _ (I.tok _) OG
theorem afc {Q:Value->Shared->Prop} (hu:A.units+1<cLine) (I:Inv X pins σ H s) (g:jb H a y o) (ry:RelV y u) (h:∀s',Inv X pins σ H s'->Q (.bool o.isSome) s'):
 wpAny (model X.prog X.w) A (compareOp .In u (.ref a)) Q E s:=by
 rcases g with⟨kvs,k,e,ey,l⟩|⟨kvs,k,b,e,ey,eb,l⟩
 . subst ey
   obtain⟨z,hd,vs,rel,dd⟩:=GJ I.bL e
   refine wpAny_in_of (Gs ry) hd dd.mapOf ?_
   rw [<-(rel.val k).qC,<-l]
   exact h _ (I.tok _)
 . subst ey
   cases (show u=Value.ref b from ry)
   obtain⟨z,hd,xs,rel,dd⟩:=Gf I.bL e
   refine wpAny_in_heap (tupleKind_room_in1 hu) (Ds I.bL eb) hd dd ?_
   have q:=(rel.val k).qC
   rw [Option.isSome_map] at q
   rw [<-q,<-l]
   exact h _ (I.tok _)
theorem UZ {Q:Value->Shared->Prop} (hu:A.units+1<cLine) (I:Inv X pins σ H s) (g:jb H a y o) (ry:RelV y u) (h:∀s',Inv X pins σ H s'->Q (.bool (!o.isSome)) s'):
 wpAny (model X.prog X.w) A (compareOp .NotIn u (.ref a)) Q E s:=by
 rcases g with⟨kvs,k,e,ey,l⟩|⟨kvs,k,b,e,ey,eb,l⟩
 . subst ey
   obtain⟨z,hd,vs,rel,dd⟩:=GJ I.bL e
   refine wpAny_notIn_of (Gs ry) hd dd.mapOf ?_
   rw [<-(rel.val k).qC,<-l]
   exact h _ (I.tok _)
 . subst ey
   cases (show u=Value.ref b from ry)
   obtain⟨z,hd,xs,rel,dd⟩:=Gf I.bL e
   refine wpAny_notIn_heap (tupleKind_room_in1 hu) (Ds I.bL eb) hd dd ?_
   have q:=(rel.val k).qC
   rw [Option.isSome_map] at q
   rw [<-q,<-l]
   exact h _ (I.tok _)
theorem Jg {h':Heap} {t':Nat} {ob:HO} (I:Inv X pins σ H s) (mu:Mut (H a)) (hs:Heap.SameBut a s.heap h') (he:∃q,h'.get? a=some q) (new:c5 X.prog X.w (upd H a ob) h' a ob):
 Inv X pins σ (upd H a ob) {s with heap:=h',toks:=t'}:=
 I.write (x:=a) (e:=a) mu (.inl rfl) (fun b q hb z=>(hs.2 b hb).trans z) he new
theorem S0 {P:Program} {w:World} {H':Hp} {h':Heap} {kvs:List (Key × V)} {vs:List (Key × Value)} (z:kvs.length<=sizeLine) (hd:(a==sysModules)=false) (rel:KV kvs vs) (dd:h'.DictOf (aX P w) a vs):
 c5 P w H' h' a (.dK kvs):=⟨z,hd,vs,rel,dd⟩
theorem Qb {H':Hp} {Q:Unit->Shared->Prop} (hu:A.units+1<cLine) (I:Inv X pins σ H s) (g:Je H a y v H') (ry:RelV y u) (rv:RelV v r) (h:∀s',Inv X pins σ H' s'->Q () s'):
 wpAny (model X.prog X.w) A (setItem (.ref a) u r) Q E s:=by
 rcases g with⟨kvs,k,e,ey,l,eH⟩|⟨kvs,k,b,e,ey,eb,l,eH⟩
 . subst ey eH
   obtain⟨z,hd,vs,rel,dd⟩:=WT I.bL e
   have hz:vs.length<=sizeLine:=by rw [<-rel.length];exact z
   have hl:(putK kvs k v).length<=sizeLine:=by have:=Eh kvs k v;omega
   refine wpAny_setItem_pairs (hsz:=hz) (Gs ry) dd fun h' Y3 hs=>h _ ?_
   have he:∃q,h'.get? a=some q:=let ⟨q,_,_,hq,_⟩:=Y3;⟨q,hq⟩
   exact Jg I (by rw [e];exact True.intro) hs he (S0 hl hd (rel.put k rv) Y3)
 . subst ey eH
   cases (show u=Value.ref b from ry)
   obtain⟨z,hd,xs,rel,dd⟩:=aaR I.bL e
   have hz:xs.length<=sizeLine:=by rw [<-Paired.length rel];exact z
   have hl:(putK kvs k v).length<=sizeLine:=by have:=Eh kvs k v;omega
   refine wpAny_setItem_heap (hsz:=hz) (tupleKind_room_in1 hu) (Ds I.bL eb) dd fun h' Y3 hs=>h _ ?_
   obtain⟨q,es,ep,hq,h2,h3,h4,_,h5⟩:=Y3
   refine Jg I (by rw [e];exact True.intro) hs ⟨q,hq⟩ ⟨hl,hd,_,(rel.put k eb rv).keeps fun c ys ec=>?_,q,es,ep,hq,h2,h3,h4,h5⟩
   rw [ay (lj ec e (fun z=>nomatch z))]
   exact ec
end
section
variable {X:Cx} {pins:List (Addr × Obj)} {σ:St} {H:Hp} {s:Shared} {a:Addr} {kvs:List (Key × V)} {k:Key} {u:Value} {A:Around} {E:Value->Shared->Prop}
theorem ab7 {v:V} {more:List Value} {Q:Value->Shared->Prop} (I:Inv X pins σ H s) (e:H a=some (.dK kvs)) (ry:RelV (kV k) u) (l:oj kvs k=some v) (hm:more=[]\/∃x,more=[x])
 (h:∀w' s',Inv X pins σ (upd H a (.dK (sM kvs k))) s'->RelV v w'->Q w' s'):wpAny (model X.prog X.w) A (call (.builtin "dict.pop") (.ref a::u::more)) Q E s:=by
 obtain⟨z,hd,vs,rel,dd⟩:=WT I.bL e
 obtain⟨w',hw,OG⟩:=qJ.some_of (v:=v) (o:=valueAt vs k) (by rw [<-l];exact rel.val k)
 have hp:(keyPart u).isSome=true:=by
  cases k with
  |inl i=>obtain⟨t,q⟩:=(show ∃t,u=Value.int i t from ry);subst q;rfl
  |inr x=>obtain⟨t,q⟩:=(show ∃t,u=Value.str x t from ry);subst q;rfl
 have ha:argsOk "dict.pop" ⟨.ref a::u::more,[]⟩:=by
  rcases hm with q|⟨x,q⟩
  . subst q;exact PySem.F.args_dict_pop_2 _ _
  . subst q;exact PySem.F.args_dict_pop_3 _ _ _
 refine call_meetsIn PySem.F.slot_dict_pop dd.typeIs PySem.F.entry_dict_pop ha (meets_dict_pop_there (aX X.prog X.w) a (Gs ry) more hm hp)
  ⟨vs,w',dd,by rw [<-rel.length];exact z,hw,fun h' Y3 hs=>h w' _ ?_ OG⟩
 have he:∃q,h'.get? a=some q:=let ⟨q,_,_,hq,_⟩:=Y3;⟨q,hq⟩
 exact Jg I (by rw [e];exact True.intro) hs he (S0 (Nat.le_trans (S2 kvs k) z) hd (rel.drop k) Y3)
end
def aco (i:Expr):Prop:=∀ov iv,subscripted i false ov iv=operate [ov,iv] (getItem ov iv)
theorem Um {prog:Program} {w:World} {A:Around} {E:Value->Shared->Prop} {s:Shared} {env:Env} {value slice:Expr} {pos:Pos} {T id:String} {Q:Value->Shared->Prop}
 (hl:typeLookup (.type T) "__getitem__"=pure (some (.builtin id))) (hs:aco slice)
 (h:wpAny (model prog w) A (eval value env) (fun o s₁=>wpAny (model prog w) A (eval slice env) (fun i s₂=>s₂.TypeIs o T/\wpAny (model prog w) A (getItem o i) Q E s₂) E s₁) E s):
 wpAny (model prog w) A (eval (.Subscript value slice pos) env) Q E s:=by
 refine Subscript_ (wpAny_mono h (fun o s₁ h₁=>wpAny_mono h₁ (fun i s₂ h₂=>?_) fun _ _ x=>x) fun _ _ x=>x)
 obtain⟨hT,h₂⟩:=h₂
 unfold subscriptTail
 refine wpAny_bind ?_
 rw [getitemInPython_of_ne hT.not_modules]
 refine wpAny_bind (wpAny_specialOf hT hl ?_)
 have fin:wpAny (model prog w) A (subscripted slice false o i) (fun r s₃=>wpAny (model prog w) A (letTemporaryGo value o r>>=fun _=>pure r) Q E s₃) E s₂:=by
  rw [hs o i]
  exact wpAny_operating (wpAny_mono h₂ (fun r s₃ h₃=>wpAny_bind (wpAny_letTemporaryGo (wpAny_pure h₃))) fun _ _ x=>x)
 first
  |exact wpAny_pure (wpAny_bind fin)
  |exact wpAny_bind (wpAny_pure (wpAny_bind fin))
  |exact wpAny_bind fin
theorem Kt {X:Cx} {pins:List (Addr × Obj)} {σ:St} {H:Hp} {s:Shared} {a:Addr} {y:V} {o:Option V} (I:Inv X pins σ H s) (g:jb H a y o):s.TypeIs (.ref a) "dict":=by
 rcases g with⟨kvs,k,e,_,_⟩|⟨kvs,k,b,e,_,_,_⟩
 . obtain⟨_,_,vs,_,dd⟩:=GJ I.bL e
   exact dd.typeIs
 . obtain⟨_,_,xs,_,dd⟩:=Gf I.bL e
   exact dd.typeIs
def Wy (td ty:TE):TE:=fun σ H Q=>td σ H fun x H1=>ty σ H1 fun y H2=>∃a v,x=.ref a/\jb H2 a y (some v)/\Q v H2
def abK (ty td:TE):TE:=fun σ H Q=>ty σ H fun y H1=>td σ H1 fun x H2=>∃a o,x=.ref a/\jb H2 a y o/\Q (.bl o.isSome) H2
def M5 (ty td:TE):TE:=fun σ H Q=>ty σ H fun y H1=>td σ H1 fun x H2=>∃a o,x=.ref a/\jb H2 a y o/\Q (.bl (!o.isSome)) H2
def Xo (td ty tv:TE):TS:=fun D σ H=>tv σ H fun v H1=>td σ H1 fun x H2=>ty σ H2 fun y H3=>∃a H4,x=.ref a/\Je H3 a y v H4/\D.nx σ H4
section
variable {X:Cx} {o i e value:Expr} {pos pos' YT:Pos} {td ty tv:TE}
theorem Nq (hu:X.A.units+1<cLine) (ho:PE X o td) (hi:PE X i ty) (hs:aco i):PE X (.Subscript o i pos) (Wy td ty):=by
 intro pins s σ H Q I h
 refine Um PySem.F.slot_dict_getitem.lookup hs (dq (ho pins s σ H _ I h) fun u s1 ⟨x,H1,I1,rx,q1⟩=>dq (hi pins s1 σ H1 _ I1 q1) fun iv s2 ⟨y,H2,I2,ry,a,v,ex,g,q2⟩=>?_)
 subst ex
 obtain rfl:u=Value.ref a:=rx
 exact⟨Kt I2 g,PK hu I2 g ry fun w' s3 I3 OG=>⟨v,H2,I3,OG,q2⟩⟩
theorem SR (hu:X.A.units+1<cLine) (hi:PE X i ty) (ho:PE X o td):PC X .In i o (abK ty td):=by
 intro pins s σ H Q I h
 refine dq (hi pins s σ H _ I h) fun iv s1 ⟨y,H1,I1,ry,q1⟩=>dq (ho pins s1 σ H1 _ I1 q1) fun u s2 ⟨x,H2,I2,rx,a,ov,ex,g,q2⟩=>?_
 subst ex
 obtain rfl:u=Value.ref a:=rx
 exact afc hu I2 g ry fun s3 I3=>⟨.bl ov.isSome,H2,I3,rfl,q2⟩
theorem PX (hu:X.A.units+1<cLine) (hi:PE X i ty) (ho:PE X o td):PC X .NotIn i o (M5 ty td):=by
 intro pins s σ H Q I h
 refine dq (hi pins s σ H _ I h) fun iv s1 ⟨y,H1,I1,ry,q1⟩=>dq (ho pins s1 σ H1 _ I1 q1) fun u s2 ⟨x,H2,I2,rx,a,ov,ex,g,q2⟩=>?_
 subst ex
 obtain rfl:u=Value.ref a:=rx
 exact UZ hu I2 g ry fun s3 I3=>⟨.bl (!ov.isSome),H2,I3,rfl,q2⟩
theorem NS (hu:X.A.units+1<cLine) (ho:PE X o td) (hi:PE X i ty) (hv:PE X value tv) (hs:swapsWith value (some (.Subscript o i pos')) pos.line X.env=pure false):
 PS X (.Assign [.Subscript o i pos'] value pos) (Xo td ty tv):=by
 intro pins s σ H D I h
 refine wpAny_Assign_Subscript (dq (hv pins s σ H _ I h) fun r s1 ⟨v,H1,I1,rv,q1⟩=>dq (ho pins s1 σ H1 _ I1 q1) fun u s2 ⟨x,H2,I2,rx,q2⟩=>dq (hi pins s2 σ H2 _ I2 q2) fun iv s3 ⟨y,H3,I3,ry,a,H4,ex,g,q3⟩=>?_) hs
 subst ex
 obtain rfl:u=Value.ref a:=rx
 exact Qb hu I3 g ry rv fun s4 I4=>⟨σ,H4,I4,q3⟩
end
theorem Tg {P:Program} {w:World} {H:Hp} (h:Heap) (hb:sysModules<h.objs.size):c5 P w H (h.push {cls:=.type "dict",data:=.dict #[]}) h.objs.size (.dK []):=
 ⟨Nat.zero_le _,beq_eq_false_iff_ne.mpr (Ne.symm (Nat.ne_of_lt hb)),[],.nil,Heap.DictOf.new h⟩
def Rz:TE:=fun _ H Q=>∀p,H p=none->Q (.ref p) (upd H p (.dK []))
section
variable {X:Cx} {pos:Pos}
theorem Bj:PE X (.Dict [] [] pos) Rz:=fun pins s σ H Q I h=>
 wpAny_Dict_empty ⟨.ref s.heap.objs.size,_,I.laid (a:=s.heap.objs.size) (o:=.dK []) (t':=s.toks) (fun _ _ q=>Heap.get?_push_of_some _ q) (Nat.le_refl _) (Tg s.heap I.big),rfl,h _ (I.bL.fresh (Nat.le_refl _))⟩
end
structure M1 (X:Cx) (o:Expr) (m:Str) (apos:Pos) (e:Expr) (gX:Pos):Prop where
 base:attributeBase o m X.env (eval o X.env)=eval o X.env
 few:((backTo gX (starEach [e] X.env)).all (fun x=>!x.1)&&(backToKw gX (keywordEach [] X.env)).all (fun x=>x.1.isSome)
  &&decide (([e]:List Expr).length+([]:List Keyword).length+(if ([]:List Keyword).isEmpty then 0 else 1)<30))=true
 line:(apos.endLine==gX.line)=true
 trees:backTo gX (starEach [e] X.env)=[(false,eval e X.env)]
structure M2 (X:Cx) (o:Expr) (m:Str) (apos:Pos) (e f:Expr) (gX:Pos):Prop where
 base:attributeBase o m X.env (eval o X.env)=eval o X.env
 few:((backTo gX (starEach [e,f] X.env)).all (fun x=>!x.1)&&(backToKw gX (keywordEach [] X.env)).all (fun x=>x.1.isSome)
  &&decide (([e,f]:List Expr).length+([]:List Keyword).length+(if ([]:List Keyword).isEmpty then 0 else 1)<30))=true
 line:(apos.endLine==gX.line)=true
 trees:backTo gX (starEach [e,f] X.env)=[(false,eval e X.env),(false,eval f X.env)]
def IsD (H:Hp) (a:Addr):Prop:=(∃kvs,Rd H a (.dK kvs))\/∃kvs,Rd H a (.dT kvs)
theorem XF {X:Cx} {pins:List (Addr × Obj)} {σ:St} {H:Hp} {s:Shared} {a:Addr} (I:Inv X pins σ H s) (d:IsD H a):
 s.TypeIs (.ref a) "dict"/\(∀b,Value.ref a=.ref b->∃ob,s.heap.get? b=some ob/\ob.dict=none)/\(a==sysModules)=false:=by
 rcases d with⟨kvs,e⟩|⟨kvs,e⟩
 . obtain⟨_,hd,vs,_,dd⟩:=GJ I.bL e
   refine⟨dd.typeIs,fun b q=>?_,hd⟩
   cases q
   obtain⟨ob,_,_,h1,h2,_⟩:=dd
   exact⟨ob,h1,h2.2.1⟩
 . obtain⟨_,hd,xs,_,dd⟩:=Gf I.bL e
   refine⟨dd.typeIs,fun b q=>?_,hd⟩
   cases q
   obtain⟨ob,_,_,h1,h2,_⟩:=dd
   exact⟨ob,h1,h2.2.1⟩
section
variable {X:Cx} {pins:List (Addr × Obj)} {σ:St} {H:Hp} {s:Shared} {a:Addr} {y d:V} {u r:Value} {o:Option V} {A:Around} {E:Value->Shared->Prop}
theorem XS {Q:Value->Shared->Prop} (hu:A.units+1<cLine) (I:Inv X pins σ H s) (g:jb H a y o) (ry:RelV y u) (h:∀w' s',Inv X pins σ H s'->RelV (o.getD .aQ) w'->Q w' s'):
 wpAny (model X.prog X.w) A (call (.builtin "dict.get") [.ref a,u]) Q E s:=by
 rcases g with⟨kvs,k,e,ey,l⟩|⟨kvs,k,b,e,ey,eb,l⟩
 . subst ey
   obtain⟨z,hd,vs,rel,dd⟩:=GJ I.bL e
   refine call_meetsIn PySem.F.slot_dict_get dd.typeIs PySem.F.entry_dict_get (PySem.F.args_dict_get_2 _ _) (meets_dict_get (aX X.prog X.w) a (Gs ry) hd) ⟨_,dd.mapOf,h _ _ (I.tok _) ?_⟩
   rw [l]
   exact(rel.val k).getD rfl
 . subst ey
   cases (show u=Value.ref b from ry)
   obtain⟨z,hd,xs,rel,dd⟩:=Gf I.bL e
   refine call_meetsIn PySem.F.slot_dict_get dd.typeIs PySem.F.entry_dict_get (PySem.F.args_dict_get_2 _ _) (meetsH_dict_get (tupleKind (aX X.prog X.w)) a b hd) ⟨tupleKind_room_in1 hu,k,xs,Ds I.bL eb,dd,h _ _ (I.tok _) ?_⟩
   rw [l]
   exact(rel.val k).getD rfl
end
def QD (td ty:TE):TE:=fun σ H Q=>td σ H fun x H1=>∃a,x=.ref a/\IsD H1 a/\ty σ H1 fun y H2=>∃o,jb H2 a y o/\Q (o.getD .aQ) H2
section
variable {X:Cx} {o e f:Expr} {apos gX:Pos} {td ty tx:TE}
theorem Sr (hu:X.A.units+1<cLine) (ho:PE X o td) (he:PE X e ty) (m:M1 X o "get" apos e gX):PE X (.Call (.Attribute o "get" apos) [e] [] gX) (QD td ty):=by
 intro pins s σ H Q I h
 refine wpAny_Call_method m.base m.few m.line PySem.F.plainAttrs_dict PySem.F.slot_dict_get PySem.F.type_dict_get (dq (ho pins s σ H _ I h) fun u s1 ⟨x,H1,I1,rx,a,ex,d,q1⟩=>?_)
 subst ex
 obtain rfl:u=Value.ref a:=rx
 obtain⟨t1,t2,_⟩:=XF I1 d
 refine⟨t1,t2,?_⟩
 rw [m.trees]
 refine Calls.callWith_builtin rfl (Calls.evalArgs_plain (Calls.spliced_cons (dq (he pins s1 σ H1 _ I1 q1) fun iv s2 ⟨y,H2,I2,ry,ov,g,q2⟩=>Calls.spliced_nil ?_)))
 exact XS hu I2 g ry fun w' s3 I3 OG=>⟨_,H2,I3,OG,q2⟩
end
section
variable {X:Cx} {pins:List (Addr × Obj)} {σ:St} {H:Hp} {s:Shared} {a:Addr} {kvs:List (Key × V)} {A:Around} {E:Value->Shared->Prop}
end
section
variable {X:Cx} {pins:List (Addr × Obj)} {σ:St} {H:Hp} {s:Shared} {a:Addr} {y:V} {u:Value} {A:Around} {E:Value->Shared->Prop}
end
end L2
namespace Att
open PySem PySem.W PySem.Calls PyProof.Rows
theorem E9 {P:Params} {h:Heap}:∀(ns:List Int) (vs:List Value),WellAll P h vs (ns.map WData.int)->IntsAre vs ns:=by
 intro ns
 induction ns with
 |nil=>
  intro vs w
  rw [List.map_nil] at w
  cases w
  exact .nil
 |cons n ns ih=>
  intro vs w
  rw [List.map_cons] at w
  cases w with
  |cons a b=>
   cases a
   exact .cons _ _ (ih _ b)
theorem Pa {l:OpenLaw} {n:Nat} (hn:l.most=some n) {P:Params} {h:Heap} {args:List WData} {vals:List Value}
 (Ub:l.row.toRowW.claim.pre args=true) (hwl:WellAll P h vals args):
 ∃a vs ns,vals=[Value.ref a]/\args=[WData.list (ns.map WData.int)]/\h.get? a=some {cls:=.type "list",data:=.seq vs.toArray}/\IntsAre vs ns/\ns.length<=n:=by
 have hsh:WShape.hasAll [] args [.list .int]=true:=(pre_splitW Ub).1
 have hc:l.pre.holds [] {args:=args}=true:=(pre_splitW Ub).2
 obtain⟨d,r,rfl,h1,h2⟩:=hasAllW_cons hsh
 obtain rfl:=hasAllW_nil h2
 obtain⟨xs,rfl,h3⟩:=hasW_list h1
 obtain⟨ns,rfl⟩:=items_int h3
 have hlen:ns.length<=n:=by
  unfold OpenLaw.pre at hc
  have h4:(WTm.not (.lt (.lit (.int (n:Int))) (.len (.arg 0)))).holds [] {args:=[.list (ns.map .int)]}=true:=by
   have h4:=(holds_andW hc).1
   rw [hn] at h4
   exact h4
  have h5:=condW_of h4 (w_not (w_lt w_lit (w_len_list (w_arg rfl))))
  rw [List.length_map] at h5
  refine Nat.le_of_not_lt fun q=>?_
  have q':(n:Int)<((ns.length:Nat):Int):=by omega
  first
   |(rw [decide_eq_true q'] at h5;exact absurd h5 (by decide))
   |(simp at h5;omega)
 cases hwl with
 |cons w1 w2=>
  cases w2
  cases w1 with
  |list ho XH=>exact⟨_,_,ns,rfl,rfl,ho,E9 ns _ XH,hlen⟩
theorem Oy (l:OpenLaw) (args:List WData):l.row.toRowW.claim.post args (.bool true) args=true:=
 postW_of (r:=l.row.toRowW) (X:=(true==true))
  (show WShape.has [] (.bool true) .bool=true by first|rfl|decide|simp [WShape.has,WShape.arms,WShape.armsAll])
  (show(WTm.eq .res (.lit (.bool true))).value [] {args:=args,res:=some (.bool true),after:=args}=some (.bool (true==true)) from w_eq_bool (w_res rfl) w_lit) rfl
theorem KC {l:OpenLaw} {n:Nat} {q:Program} {loose:List Str} {XP:(Str->Option Value)->Heap->Prop} {YP:World->Heap->Prop} {d:DefRec}
 (hn:l.most=some n) (hdf:d.params.defaults=[])
 (call:∀(w:World) (ig s₁:Shared) (mg mb:Str->Option Value) (fa:Addr) (o:Obj) (pm cd doc:Value) (a:Addr) (vs:List Value) (ns:List Int),
  Ground q loose [] XP w ig mg mb s₁.heap->YP w s₁.heap->
  s₁.heap.get? fa=some o->o.data=.func (docDef d.name d.params d.body d.scope pm cd doc)->s₁.heap.CodeRec cd d.name->mg d.name=some (.ref fa)->
  s₁.heap.get? a=some {cls:=.type "list",data:=.seq vs.toArray}->IntsAre vs ns->ns.length<=n->s₁.gens=#[]->
  codeAny (model l.prog w) callerA (.call (.ref fa) ⟨[.ref a],[]⟩) (fun r s'=>r=.ok (.ret (.bool true))/\OldK s₁.heap s'.heap/\s'.os=s₁.os/\AllBare s'.gens) s₁):
 WalkO q loose XP YP l.row.toRowW d [] (fun f vs=>PySem.call f vs):=by
 intro w ig s₁ mg mb G Y fa o pm cd doc dV kV ho hd Qp hD hmg hg args vals as Ub Zu hrd hwl hlo
 obtain rfl:dV=.none:=Dflts.none hD hdf
 obtain rfl:kV=.none:=Dflts.noKw hD
 obtain⟨a,vs,ns,rfl,rfl,Yw,hints,hlen⟩:=Pa hn Ub hwl
 refine enter_call (codeAny_mono (call w ig s₁ mg mb fa o pm cd doc a vs ns G Y ho (fd_plain hd) Qp hmg Yw hints hlen hg) fun r s' hq=>?_)
 obtain⟨rfl,h2,h3,h4⟩:=hq
 exact⟨.inl ⟨.bool true,.bool true,[],rfl,fun _=>rfl,.bool true,Oy l _,fun _=>⟨List.Pairwise.nil,fun _ hm=>(nomatch hm)⟩⟩,h2,h3,h4⟩
section
variable {prog:Program} {w:World} {A:Around} {E:Value->Shared->Prop} {s:Shared} {K:Frag}
end
end Att
namespace L2
open PySem PySem.Spec PyProof.Rows
theorem HD:∀{vs:List Value} {ns:List Int},IntsAre vs ns->Vals (ns.map V.int) vs
 |_,_,.nil=>.nil
 |_,_,.cons n t h=>.cons ⟨t,rfl⟩ (HD h)
def VQ (H:Hp):Prop:=∀b,H b=none\/∃o xs,H b=some (.wK o (.lst xs))
theorem S9 {P:Program} {w:World} {K:PySem.W.Frag} {mg mb:Str->Option Value} {CX:Hj} {k:Nat} {fa a:Addr} {fd:FuncData} {x:Str} {sp:Sp} {s₁:Shared} {vs:List Value} {ns:List Int}
 (KX:K.In s₁.heap) (hns:s₁.heap.Ns mainGlobals mg) (hb:s₁.heap.Ns builtinsNs mb) (hbb:∀x:Str,x≠"__name__"->mb x=bootBuiltins x) (afy:s₁.heap.NoLimit) (hg:s₁.gens=#[])
 (ha:s₁.heap.get? a=some {cls:=.type "list",data:=.seq vs.toArray}) (hi:IntsAre vs ns) (hl:ns.length<=sizeLine) (hr:dC k callerA)
 (F:∀base:Heap,K.In base->base.Ns mainGlobals mg->aN P w K mg base CX k fa fd [x] sp) (aca:∀(s:Shared) (u:Value),BindsTo s fd ⟨[u],[]⟩ [(x,u)])
 (TN:∀H:Hp,VQ H->iH K H a (ns.map V.int)->sp [.ref a] H (fun v _=>v=.bl true) fun _ _ _=>False)
 (hCX:∀H e s',CX [] H s₁ (fun _ _ _=>False) e s'->False):
 codeAny (model P w) callerA (.call (.ref fa) ⟨[.ref a],[]⟩) (fun r s'=>r=.ok (.ret (.bool true))/\OldK s₁.heap s'.heap/\s'.os=s₁.os/\AllBare s'.gens) s₁:=by
 have rv:=HD hi
 have aez:=hi.length
 have core:∀H:Hp,VQ H->iH K H a (ns.map V.int)->rJ P w H s₁.heap->(∀b,H b≠none->b=a)->(H a≠none->K.lookup a=none)->
  codeAny (model P w) callerA (.call (.ref fa) ⟨[.ref a],[]⟩) (fun r s'=>r=.ok (.ret (.bool true))/\OldK s₁.heap s'.heap/\s'.os=s₁.os/\AllBare s'.gens) s₁:=by
  intro H hO hS bL hA hK
  have Nv:∀{b:Addr} {o:Obj},s₁.heap.get? b=some o->H b=none->(II s₁.heap H).get? b=some o:=fun e n=>RK e n
  have noA:∀{b:Addr} {o:Obj} {es:Array DictEntry} {ep:Nat},s₁.heap.get? b=some o->o.data=.dict es ep->H b=none:=fun {b o es ep} e d=>by
   cases q:H b with
   |none=>rfl
   |some u=>
    have e':b=a:=hA b (by rw [q];simp)
    subst e'
    rw [ha] at e;cases e
    have d':Data.seq vs.toArray _=Data.dict es ep:=d
    cases d'
  have nsK:∀{b:Addr} {m:Str->Option Value},s₁.heap.Ns b m->(II s₁.heap H).Ns b m:=fun {b m} ⟨o,es,ep,e,d,r⟩=>⟨o,es,ep,Nv e (noA e d),d,r⟩
  have hKb:K.In (II s₁.heap H):=fun b o e=>Nv (KX b o e) (by
   cases q:H b with
   |none=>rfl
   |some u=>
    have e':b=a:=hA b (by rw [q];simp)
    subst e'
    rw [hK (by rw [q];simp)] at e;cases e)
  have hM:Mod K mg (II s₁.heap H):=⟨hKb,nsK hns,⟨mb,nsK hb,hbb⟩,let ⟨mc,h1,h2⟩:=afy;⟨mc,nsK h1,h2⟩⟩
  have e0:Lc P w K mg (II s₁.heap H) callerA [] s₁ H:=⟨rfl,hM,fun b o e=>UY e,Nat.le_of_eq (Qf _ _),trivial,fun b hb=>absurd (show b∈([]:List Addr) from hb) (by simp),bL,.of_eq hg⟩
  refine codeAny_mono ((F _ hKb (nsK hns)).run callerA [] s₁ H ⟨[.ref a],[]⟩ [.ref a] [.ref a] _ _ hr e0 (aca s₁ (.ref a)) (.cons rfl .nil) (TN H hO hS)) fun r s' h=>?_
  cases r with
  |error e=>exact(hCX H e s' h).elim
  |ok fl=>
   cases fl with
   |next=>exact False.elim h
   |brk=>exact False.elim h
   |cont=>exact False.elim h
   |ret u=>
    obtain⟨v,H',os,bare,un,afs,r',q⟩:=h
    have q':v=.bl true:=q
    subst q'
    obtain rfl:u=Value.bool true:=r'
    refine⟨rfl,OldK.of_keep fun b o e=>?_,os,bare⟩
    cases q:H b with
    |none=>exact un.keep b o e q (by intro z;exact absurd (show b∈([]:List Addr) from z) (by simp)) (by simp)
    |some u=>
     rcases hO b with z|⟨ob,xs,z⟩
     . rw [q] at z;cases z
     . have z2:=un.yk b ob _ z
       obtain⟨e1,_⟩:=bL b _ z
       obtain⟨e2,_⟩:=afs b _ z2
       rw [e] at e1;cases e1
       exact e2
 cases hk:K.lookup a with
 |some o=>
  have e:=KX a o hk
  rw [ha] at e
  cases e
  refine core (fun _=>none) (fun _=>.inl rfl) (.inr ⟨_,vs.toArray,_,hk,rfl,rfl,rfl,by rw [List.size_toArray,aez];exact hl,by simpa using rv⟩) (fun b u z=>by have z':(none:Option HO)=some u:=z;cases z') (fun b z=>absurd rfl z) fun z=>absurd rfl z
 |none=>
  refine core (fun b=>if b=a then some (.wK {cls:=.type "list",data:=.seq vs.toArray} (.lst (ns.map V.int))) else none) (fun b=>?_) (.inl (.inr ⟨{cls:=.type "list",data:=.seq vs.toArray},if_pos rfl⟩)) (fun b u z=>?_) (fun b z=>?_) fun _=>hk
  . by_cases hb:b=a
    . exact .inr ⟨_,_,if_pos hb⟩
    . exact .inl (if_neg hb)
  . by_cases hb:b=a
    . have z':=(if_pos hb).symm.trans z
      cases z'
      subst hb
      exact⟨ha,by rw [List.length_map];exact hl,vs,_,rv,ha⟩
    . have z':=(if_neg hb).symm.trans z
      cases z'
  . by_cases hb:b=a
    . exact hb
    . exact absurd (if_neg hb) z
abbrev KOf {K:PySem.W.Frag} {h:Heap} (_:K.In h):PySem.W.Frag:=K
theorem VZ {l:PySem.W.OpenLaw} {n k:Nat} {q:Program} {loose:List Str} {XP:(Str->Option Value)->Heap->Prop} {YP:World->Heap->Prop} {d:DefRec} {K:Params->PySem.W.Frag} {CX:World->Hj} {sp:World->Sp} {x:Str}
 (hn:l.most=some n) (DV:n<=sizeLine) (hdf:d.params.defaults=[]) (hr:dC k callerA)
 (hY:∀(w:World) (h:Heap),YP w h->(K w.params).In h)
 (F:∀(w:World) (mg:Str->Option Value) (fa:Addr) (h:Heap),(K w.params).In h->h.Ns mainGlobals mg->mg d.name=some (.ref fa)->
  ∃fd:FuncData,(∀(s:Shared) (u:Value),BindsTo s fd ⟨[u],[]⟩ [(x,u)])/\
   ∀base:Heap,(K w.params).In base->base.Ns mainGlobals mg->aN l.prog w (K w.params) mg base (CX w) k fa fd [x] (sp w))
 (TN:∀(w:World) (H:Hp) (a:Addr) (ns:List Int),ns.length<=n->VQ H->iH (K w.params) H a (ns.map V.int)->sp w [.ref a] H (fun v _=>v=.bl true) fun _ _ _=>False)
 (hCX:∀(w:World) (H:Hp) (s:Shared) (e:Value) (s':Shared),CX w [] H s (fun _ _ _=>False) e s'->False):
 PySem.W.WalkO q loose XP YP l.row.toRowW d [] (fun f vs=>PySem.call f vs):=by
 refine Att.KC hn hdf fun w ig s₁ mg mb fa o pm cd doc a vs ns G Y ho hd Qp hmg Yw hints hlen hg=>?_
 have KX:=hY w _ Y
 obtain⟨fd,hb,hF⟩:=F w mg fa _ KX G.T.g hmg
 exact S9 KX G.T.g G.T.b G.T.builtins G.T.nolimit hg Yw hints (Nat.le_trans hlen DV) hr hF hb (fun H hO hS=>TN w H a ns hlen hO hS) fun H e s'=>hCX w H s₁ e s'
theorem Sx {l:PySem.W.OpenLaw} {n k:Nat} {q:Program} {loose:List Str} {XP:(Str->Option Value)->Heap->Prop} {YP:World->Heap->Prop} {d:DefRec} {K:Params->PySem.W.Frag} {CX:Hj} {sp:PySem.W.Frag->Sp} {x:Str}
 (hn:l.most=some n) (DV:n<=sizeLine) (hdf:d.params.defaults=[]) (hr:dC k callerA)
 (hY:∀(w:World) (h:Heap),YP w h->(K w.params).In h)
 (F:∀(w:World) (mg:Str->Option Value) (fa:Addr) (h:Heap),(K w.params).In h->h.Ns mainGlobals mg->mg d.name=some (.ref fa)->
  ∃fd:FuncData,(∀(s:Shared) (u:Value),BindsTo s fd ⟨[u],[]⟩ [(x,u)])/\
   ∀base:Heap,(K w.params).In base->base.Ns mainGlobals mg->aN l.prog w (K w.params) mg base CX k fa fd [x] (sp (K w.params)))
 (TN:∀(K:PySem.W.Frag) (H:Hp) (a:Addr) (ns:List Int),ns.length<=n->VQ H->iH K H a (ns.map V.int)->sp K [.ref a] H (fun v _=>v=.bl true) fun _ _ _=>False)
 (hCX:∀(H:Hp) (s:Shared) (e:Value) (s':Shared),CX [] H s (fun _ _ _=>False) e s'->False):
 PySem.W.WalkO q loose XP YP l.row.toRowW d [] (fun f vs=>PySem.call f vs):=
 VZ (K:=K) (CX:=fun _=>CX) (sp:=fun w=>sp (K w.params)) hn DV hdf hr hY F (fun w H a ns h1 h2 h3=>TN (K w.params) H a ns h1 h2 h3) fun _ H s e s'=>hCX H s e s'
def inClass (s:Stmt) (j:Nat):Stmt:=match s with
 | .ClassDef _ _ _ body _ _ _ _ _ _ _=>body.getD j (.Pass ⟨0,0,0,0⟩)
 |_=>.Pass ⟨0,0,0,0⟩
def BW (s:Stmt):Arguments:=match s with
 | .FunctionDef _ a _ _ _ _ _ _ _ _=>a
 |_=>{posonlyargs:=[],args:=[],vararg:=none,kwonlyargs:=[],kw_defaults:=[],kwarg:=none,defaults:=[]}
def yb (s:Stmt):List Stmt:=match s with
 | .FunctionDef _ _ b _ _ _ _ _ _ _=>b
 |_=>[]
def aj (s:Stmt):Scope:=match s with
 | .FunctionDef _ _ _ _ _ _ sc _ _ _=>sc
 |_=>{kind:=.function,names:=[],isGenerator:=false,isCoroutine:=false}
abbrev fF:Hj:=fun _ _ _ _ _ _=>False
abbrev E0:XK:=fun _ _ _=>False
theorem HC {X:Cx}:Passes fF X E0:=fun _ _ _ _ _ _ _ h=>h.elim
structure Fun (K:PySem.W.Frag) (x qual:Str) (st:Stmt) (f:Addr) (fd:FuncData):Prop where
 ex:∃(oc:Value) (od:Option Addr) (kV doc pm:Value) (an:Option Addr) (cR ct:Value) (Tp:Array (Option Value)),
  fd=PySem.W.fnOf x qual (BW st) (yb st) (aj st) .none kV doc pm an cR ct/\K.lookup f=some ⟨oc,od,.func fd,Tp⟩/\PySem.W.codeIn K cR qual=true
 kp:PySem.W.keepIn K (.ref f)=true
section
variable {P:Program} {w:World} {K:PySem.W.Frag} {mg:Str->Option Value} {base:Heap}
end
theorem Er {A:Around} {k:Nat} (hr:dC k A):A.units+1<cLine:=Nat.lt_of_le_of_lt (Nat.add_le_add_left (by decide:1<=64) _) hr.units
section
variable {X:Cx}
theorem pv (i:Nat) {x:Str} {pos:Pos} (hN:X.N[i]? =some x:=by rfl) (hv:Vis X.env.scope x:=by first|exact Or.inl rfl|exact Or.inr (Or.inl rfl)|exact Or.inr (Or.inr rfl)) (hd:(x==("__debug__":Str))=false:=by decide)
 (Qp:(x==("__classdict__":Str))=false:=by decide):PE X (.Name x pos) (Zv i):=Z5 hN hv hd Qp
end
theorem afe {A B:Prop} (h:B):if false=true then A else B:=by
 rw [if_neg Bool.false_ne_true]
 exact h
theorem adS {A B:Prop} (h:A):if true=true then A else B:=by
 rw [if_pos rfl]
 exact h
def ax (H H':Hp):Prop:=∀b o,H b=some o->H' b=some o
theorem ax.refl (H:Hp):ax H H:=fun _ _ h=>h
theorem ax.trans {H H1 H2:Hp} (a:ax H H1) (b:ax H1 H2):ax H H2:=fun c o h=>b c o (a c o h)
theorem ax.seq {K:PySem.W.Frag} {H H':Hp} {a:Addr} {xs:List V} (e:ax H H') (h:iH K H a xs):iH K H' a xs:=by
 rcases h with(h|⟨o,h⟩)|h
 . exact .inl (.inl (e _ _ h))
 . exact .inl (.inr ⟨o,e _ _ h⟩)
 . exact .inr h
section
variable {κ:Type} [DecidableEq κ]
end
section
variable {X:Cx}
def NP (i j:Int):Prop:=i.natAbs<2^2000/\j.natAbs<2^2000
theorem NP.ok {i j:Int} (h:NP i j):IntMulOk i j:=by
 have h1:Builtin.Int.intBits i<=2000:=PyProof.Rows.intBits_le h.1
 have h2:Builtin.Int.intBits j<=2000:=PyProof.Rows.intBits_le h.2
 have h3:Builtin.Int.intTooBig ((Builtin.Int.intBits i+Builtin.Int.intBits j:Nat):Int)=false:=by
  unfold Builtin.Int.intTooBig
  have:(bitsLine:Nat)=134217728:=rfl
  refine decide_eq_false ?_
  omega
 unfold IntMulOk
 have h4:Builtin.Int.intTooBig (Builtin.Int.intBits i+Builtin.Int.intBits j)=false:=by
  have e:((Builtin.Int.intBits i:Int)+(Builtin.Int.intBits j:Int))=((Builtin.Int.intBits i+Builtin.Int.intBits j:Nat):Int):=by omega
  rw [e];exact h3
 rw [h4]
 simp
theorem md:C9 X (binaryOp .Mult) (rI NP fun i j=>.int (i*j)):=opI fun _ _ _ _ _ _ _ hc q=>mul_int q hc.ok
def WN (_ j:Int):Prop:=0<j/\j.natAbs<2^2000
theorem bN:C9 X (binaryOp .FloorDiv) (rI WN fun i j=>.int (i / j)):=opI fun i j _ _ _ _ _ hc q=>by
 have e:i.fdiv j=i / j:=Int.fdiv_eq_ediv_of_nonneg _ (Int.le_of_lt hc.1)
 have hl:j.natAbs.log2<9000:=by
  have h0:j.natAbs≠0:=by have:=hc.1;omega
  have h2:j.natAbs.log2<2000:=(Nat.log2_lt h0).mpr hc.2
  omega
 refine floordiv_int (by have:=hc.1;omega) ?_ (.inl (PyProof.noPylong_of_log2 hl))
 rw [e];exact q
inductive Y2:V->Value->Prop where
 |ty (n:String):Y2 (.ty n) (.type n)
 |ref (C:Addr):Y2 (.ref C) (.ref C)
def Uu (K:PySem.W.Frag):List V->Hp->VK->Prop:=fun xs H Q=>∃x c cv t b,xs=[x,c]/\Y2 c cv/\BD K H x t/\PySem.W.kitOne K t cv=some b/\Q (.bl b) H
theorem Ci:kl X (.builtin "isinstance") (Uu X.K):=by
 intro pins s σ H xs us Q I r h
 obtain⟨x,c,cv,t,b,rfl,hc,ty,e,q⟩:=h
 obtain⟨u,w',rfl,r1,r2⟩:=vals2 r
 have ew:w'=cv:=by cases hc <;>exact r2
 subst ew
 exact Pw I r1 ty e fun tk=>⟨.bl b,H,I.tok tk,rfl,q⟩
structure Kf (K:PySem.W.Frag) (C:Addr) (m:Str) (f:Addr):Prop where
 ga:PySem.W.specialIn K (.ref C) "__getattribute__"=some (some (.builtin "type.__getattribute__"))
 rd:PySem.W.readsIn K C (.type "type")=true
 fd:PySem.W.findCls K (.ref C) (.type "type") m=some (.val (.ref f))
 kp:PySem.W.keepIn K (.ref f)=true
theorem Us {CX:Hj} {k:Nat} {f C:Addr} {fd:FuncData} {ps:List Str} {sp:Sp} {dr:List V} {ds:List Value} {E:XK} {x m:Str} {p pos apos:Pos} {e:Expr} {es:List Expr} {t:TA} {pl:Sem Bool}
 (hg:Gl X x) (hm:X.mg x=some (.ref C)) (B:Kf X.K C m f) (F:aN X.prog X.w X.K X.mg X.base CX k f fd ps sp) (hr:dC k X.A) (hb:Binds X.K fd ps ds) (hd:Vals dr ds) (hx:Passes CX X E) (ha:PA X (e::es) t)
 (EV:(x==("__debug__":Str))=false:=by decide)
 (AQ:starEach (e::es) X.env=(false,eval e X.env)::starEach es X.env:=by rfl) (C7:(backTo pos (starEach es X.env)).any (·.1)=false:=by rfl)
 (ht:eval (.Call (.Attribute (.Name x p) m apos) (e::es) [] pos) X.env=(do
  let ov <-eval (.Name x p) X.env
  standAt apos.atName
  let (f,first) <-holding [ov] (getMethod ov m pl)
  callWith pos f first (backTo pos (starEach (e::es) X.env)) (backToKw pos (keywordEach [] X.env))):=by rfl):
 PE X (.Call (.Attribute (.Name x p) m apos) (e::es) [] pos) (Hg sp dr E t):=by
 intro pins s σ H Q I h
 refine PySem.W.methodCall_KW (pl:=pl) (Fg I hg hm ?_ EV) ht
 refine PySem.W.method_cls I.A5 B.ga ?_
 refine PySem.W.cls_value I.A5 B.rd B.fd rfl ?_
 have I':Inv X pins σ H {s with toks:=s.toks+1}:=I.tok _
 refine PySem.W.callWith_K (first:=[]) (h₀:=X.base) I.ok.mod.kin B.kp (dq (ha pos pins _ σ H _ I' h) fun us s2 ⟨vs,H2,I2,r,q2⟩=>⟨I2.A5,?_⟩) AQ C7
 exact IE F hr hb hd hx I2 r q2
end
mutual
inductive wY (K:PySem.W.Frag) (H:Hp):V->PyData->Prop where
 |aQ:wY K H .aQ .none
 |bl (b:Bool):wY K H (.bl b) (.bool b)
 |int (i:Int):wY K H (.int i) (.int i)
 |str (x:Str):wY K H (.str x) (.str x)
 |tup {a:Addr} {xs:List V} {ds:List PyData} (h:Pg K H a xs) (r:iL K H xs ds):wY K H (.ref a) (.tuple ds)
 |lst {a:Addr} {xs:List V} {ds:List PyData} (h:iH K H a xs) (r:iL K H xs ds):wY K H (.ref a) (.list ds)
inductive iL (K:PySem.W.Frag) (H:Hp):List V->List PyData->Prop where
 |nil:iL K H [] []
 |cons {x:V} {d:PyData} {xs:List V} {ds:List PyData} (h:wY K H x d) (r:iL K H xs ds):iL K H (x::xs) (d::ds)
end
theorem Pg.keeps {K:PySem.W.Frag} {H H':Hp} {a:Addr} {xs:List V} (e:ax H H') (h:Pg K H a xs):Pg K H' a xs:=by
 rcases h with(h|⟨o,h⟩)|h
 . exact .inl (.inl (e _ _ h))
 . exact .inl (.inr ⟨o,e _ _ h⟩)
 . exact .inr h
mutual
theorem wY.keeps {K:PySem.W.Frag} {H H':Hp} (e:ax H H'):∀{v:V} {d:PyData},wY K H v d->wY K H' v d
 |_,_,.aQ=>.aQ
 |_,_,.bl b=>.bl b
 |_,_,.int i=>.int i
 |_,_,.str x=>.str x
 |_,_,.tup h r=>.tup (Pg.keeps e h) (iL.keeps e r)
 |_,_,.lst h r=>.lst (ax.seq e h) (iL.keeps e r)
theorem iL.keeps {K:PySem.W.Frag} {H H':Hp} (e:ax H H'):∀{vs:List V} {ds:List PyData},iL K H vs ds->iL K H' vs ds
 |_,_,.nil=>.nil
 |_,_,.cons h r=>.cons (wY.keeps e h) (iL.keeps e r)
end
section
variable {X:Cx} {pins:List (Addr × Obj)} {σ:St} {H:Hp} {s:Shared}
mutual
theorem wY.reads (I:Inv X pins σ H s):∀{v:V} {d:PyData} {u:Value},wY X.K H v d->RelV v u->∃as,Reads s.heap u d as
 |_,_,_,.aQ,r=>by cases r;exact⟨_,.none⟩
 |_,_,_,.bl b,r=>by cases r;exact⟨_,.bool b⟩
 |_,_,_,.int i,r=>by obtain⟨t,rfl⟩:=r;exact⟨_,.int i t⟩
 |_,_,_,.str x,r=>by obtain⟨t,rfl⟩:=r;exact⟨_,.str x t⟩
 |_,_,_,.tup h q,r=>by
  cases r
  obtain⟨a8,rv,⟨o,h1,h2,n,h3⟩,_⟩:=I.tuple h
  obtain⟨as,ra⟩:=iL.reads I q rv
  exact⟨_,.tuple h1 h2 h3 (by simpa using ra)⟩
 |_,_,_,.lst h q,r=>by
  cases r
  obtain⟨a8,rv,⟨o,n,h1,h2,_,h3⟩,_⟩:=I.list h
  obtain⟨as,ra⟩:=iL.reads I q rv
  exact⟨_,.list h1 h2 h3 (by simpa using ra)⟩
theorem iL.reads (I:Inv X pins σ H s):∀{vs:List V} {ds:List PyData} {us:List Value},iL X.K H vs ds->Vals vs us->∃as,ReadsAll s.heap us ds as
 |_,_,_,.nil,r=>by cases r;exact⟨_,.nil⟩
 |_,_,_,.cons h q,r=>by
  cases r with
  |cons r1 r2=>
   obtain⟨as,ra⟩:=wY.reads I h r1
   obtain⟨bs,rb⟩:=iL.reads I q r2
   exact⟨_,.cons ra rb⟩
end
end
section
variable {X:Cx}
def acQ (K:PySem.W.Frag) (f:Bool->Bool):R2:=fun x y H Q=>∃d e,wY K H x d/\wY K H y e/\d.canLay0=true/\e.canLay0=true/\d.depth<=8/\Q (.bl (f (PyData.eqv d e))) H
theorem Ys (hu:X.A.units+8<cLine):C9 X (compareOp .Eq) (acQ X.K id):=by
 intro pins s σ H x y v u Q I rx ry h
 obtain⟨d,e,hd,he,c1,c2,hn,q⟩:=h
 obtain⟨as,ra⟩:=hd.reads I rx
 obtain⟨bs,rb⟩:=he.reads I ry
 exact SeqAt.compareEq_reads ra rb c1 c2 (by have:=Nat.min_le_left d.depth e.depth;omega) ⟨.bl _,H,I,rfl,q⟩
theorem aag (hu:X.A.units+8<cLine):C9 X (compareOp .NotEq) (acQ X.K not):=by
 intro pins s σ H x y v u Q I rx ry h
 obtain⟨d,e,hd,he,c1,c2,hn,q⟩:=h
 obtain⟨as,ra⟩:=hd.reads I rx
 obtain⟨bs,rb⟩:=he.reads I ry
 exact SeqAt.compareNe_reads ra rb c1 c2 (by have:=Nat.min_le_left d.depth e.depth;omega) ⟨.bl _,H,I,rfl,q⟩
end
structure dE (P:Program) (w:World) (K:PySem.W.Frag) (mg:Str->Option Value) (base:Heap) (k:Nat) (f:Addr) (ps:List Str) (dr:List V) (sp:Sp):Prop where
 ex:∃(fd:FuncData) (ds:List Value),aN P w K mg base fF k f fd ps sp/\Binds K fd ps ds/\Vals dr ds
section
variable {X:Cx} {k:Nat} {f C:Addr} {ps:List Str} {sp:Sp} {dr:List V} {x m:Str} {p pos apos:Pos} {e o:Expr} {es:List Expr} {ta:TE} {t:TA}
theorem T7 (c:dE X.prog X.w X.K X.mg X.base k f ps dr sp) (hr:dC k X.A) (hg:Gl X x) (hm:X.mg x=some (.ref f)) (hk:PySem.W.keepIn X.K (.ref f)=true)
 (ha:PA X (e::es) t) (EV:(x==("__debug__":Str))=false:=by decide) (he:starEach (e::es) X.env=(false,eval e X.env)::starEach es X.env:=by rfl) (C7:(backTo pos (starEach es X.env)).any (·.1)=false:=by rfl):
 PE X (.Call (.Name x p) (e::es) [] pos) (Hg sp dr E0 t):=by
 obtain⟨fd,ds,F,hb,hd⟩:=c.ex
 exact UI F hr hg hm hk hb hd HC ha EV he C7
theorem V4 {pl:Sem Bool} (he:PE X o ta) (c:uK X.K C) (hm:Meth X.K C m f) (F:dE X.prog X.w X.K X.mg X.base k f ps dr sp) (hr:dC k X.A) (ha:PA X (e::es) t)
 (AQ:starEach (e::es) X.env=(false,eval e X.env)::starEach es X.env:=by rfl) (C7:(backTo pos (starEach es X.env)).any (·.1)=false:=by rfl)
 (ht:eval (.Call (.Attribute o m apos) (e::es) [] pos) X.env=(do
  let ov <-eval o X.env
  standAt apos.atName
  let (f,first) <-holding [ov] (getMethod ov m pl)
  callWith pos f first (backTo pos (starEach (e::es) X.env)) (backToKw pos (keywordEach [] X.env))):=by rfl):
 PE X (.Call (.Attribute o m apos) (e::es) [] pos) (Hq C m sp dr E0 ta t):=by
 obtain⟨fd,ds,F,hb,hd⟩:=F.ex
 exact Wo he c hm F hr hb hd HC ha AQ C7 ht
theorem Q9 {pl:Sem Bool} (he:PE X o ta) (c:uK X.K C) (hm:Meth X.K C m f) (F:dE X.prog X.w X.K X.mg X.base k f ps dr sp) (hr:dC k X.A)
 (ht:eval (.Call (.Attribute o m apos) [] [] pos) X.env=(do
  let ov <-eval o X.env
  standAt apos.atName
  let (f,first) <-holding [ov] (getMethod ov m pl)
  callWith pos f first (backTo pos (starEach [] X.env)) (backToKw pos (keywordEach [] X.env))):=by rfl):
 PE X (.Call (.Attribute o m apos) [] [] pos) (Hq C m sp dr E0 ta Ml):=by
 obtain⟨fd,ds,F,hb,hd⟩:=F.ex
 exact Rg he c hm F hr hb hd HC ht
theorem UL (M:Mk X.K C f) (F:dE X.prog X.w X.K X.mg X.base k f ps dr sp) (hr:dC (k+1) X.A) (hg:Gl X x) (hm:X.mg x=some (.ref C))
 (ha:PA X (e::es) t) (EV:(x==("__debug__":Str))=false:=by decide) (he:starEach (e::es) X.env=(false,eval e X.env)::starEach es X.env:=by rfl) (C7:(backTo pos (starEach es X.env)).any (·.1)=false:=by rfl):
 PE X (.Call (.Name x p) (e::es) [] pos) (JI C sp dr E0 t):=by
 obtain⟨fd,ds,F,hb,hd⟩:=F.ex
 exact Wr M F hr hg hm hb hd HC ha EV he C7
theorem VH {pl:Sem Bool} (hg:Gl X x) (hm:X.mg x=some (.ref C)) (B:Kf X.K C m f) (F:dE X.prog X.w X.K X.mg X.base k f ps dr sp) (hr:dC k X.A) (ha:PA X (e::es) t)
 (EV:(x==("__debug__":Str))=false:=by decide)
 (AQ:starEach (e::es) X.env=(false,eval e X.env)::starEach es X.env:=by rfl) (C7:(backTo pos (starEach es X.env)).any (·.1)=false:=by rfl)
 (ht:eval (.Call (.Attribute (.Name x p) m apos) (e::es) [] pos) X.env=(do
  let ov <-eval (.Name x p) X.env
  standAt apos.atName
  let (f,first) <-holding [ov] (getMethod ov m pl)
  callWith pos f first (backTo pos (starEach (e::es) X.env)) (backToKw pos (keywordEach [] X.env))):=by rfl):
 PE X (.Call (.Attribute (.Name x p) m apos) (e::es) [] pos) (Hg sp dr E0 t):=by
 obtain⟨fd,ds,F,hb,hd⟩:=F.ex
 exact Us hg hm B F hr hb hd HC ha EV AQ C7 ht
end
structure a7 (K:PySem.W.Frag) (x qual:Str) (st:Stmt) (f:Addr) (dV:Value) (fd:FuncData):Prop where
 ex:∃(oc:Value) (od:Option Addr) (kV doc pm:Value) (an:Option Addr) (cR ct:Value) (Tp:Array (Option Value)),
  fd=PySem.W.fnOf x qual (BW st) (yb st) (aj st) dV kV doc pm an cR ct/\K.lookup f=some ⟨oc,od,.func fd,Tp⟩/\PySem.W.codeIn K cR qual=true
theorem NB {K:PySem.W.Frag} {x qual:Str} {st:Stmt} {f:Addr} {oc:Value} {od an:Option Addr} {Tp:Array (Option Value)} {dV kV doc pm cR ct:Value} (l:K.lookup f=some ⟨oc,od,.func (PySem.W.fnOf x qual (BW st) (yb st) (aj st) dV kV doc pm an cR ct),Tp⟩)
 (c:PySem.W.codeIn K cR qual=true):a7 K x qual st f dV (PySem.W.fnOf x qual (BW st) (yb st) (aj st) dV kV doc pm an cR ct):=⟨⟨oc,od,kV,doc,pm,an,cR,ct,Tp,rfl,l,c⟩⟩
section
variable {P:Program} {w:World} {K:PySem.W.Frag} {mg:Str->Option Value} {base:Heap}
theorem a7.ok {x qual:Str} {st:Stmt} {f:Addr} {dV:Value} {fd:FuncData} {N ps:List Str} {k:Nat} {sp:Sp} (F:a7 K x qual st f dV fd) (S:aw N ps (aj st)) (len:∀vs H Q E,sp vs H Q E->vs.length=ps.length)
 (Ru:∀(cR:Value) (A:Around) (outer:List Env) (s:Shared) (H:Hp) (vs:List V) (Q:VK) (E:XK),dC k (A.deeper (envOfC qual (aj st) s.heap.objs.size f cR))->sp vs H Q E->
  ∃t,K0 (Ot fF P w K mg base N qual (aj st) f cR A outer s H E).nox (yb st) t/\t {nx:=fun _ H'=>Q .aQ H',rt:=Q} (start N vs) H):aN P w K mg base fF (k+1) f fd ps sp:=by
 obtain⟨oc,od,kV,doc,pm,an,cR,ct,Tp,rfl,lk,Qp⟩:=F.ex
 refine acN lk Qp S len fun A outer s H vs Q E hr TN=>?_
 obtain⟨t,h,q⟩:=Ru cR A outer s H vs Q E hr TN
 exact⟨t,h.nox,q⟩
theorem a7.binds {x qual:Str} {st:Stmt} {f:Addr} {dV:Value} {fd:FuncData} {ps:List Str} {ds:List Value} (F:a7 K x qual st f dV fd)
 (h:∀(kV doc pm:Value) (an:Option Addr) (cR ct:Value),Binds K (PySem.W.fnOf x qual (BW st) (yb st) (aj st) dV kV doc pm an cR ct) ps ds):Binds K fd ps ds:=by
 obtain⟨oc,od,kV,doc,pm,an,cR,ct,Tp,rfl,lk,Qp⟩:=F.ex
 exact h kV doc pm an cR ct
end
structure DQ (K:PySem.W.Frag) (T:Addr) (items:Array Value):Prop where
 ex:∃(o:Obj) (n:Nat),K.lookup T=some o/\o.data=.seq items n
structure acD (K:PySem.W.Frag) (C:Addr):Prop where
 ha:PySem.W.findIn K (.ref C) "__class__"=some (some (.builtin "object.__class__"))
 hn:PySem.W.specialIn K (.builtin "object.__class__") "__get__"=some (some (.builtin "getset_descriptor.__get__"))
 ht:PySem.W.takesIn K (.builtin "object.__class__")=some true
 hm:PySem.W.mroIn K C (.type "object")=some true
section
variable {σ:St} {H:Hp} {Q:VK} {D:Ends} {K:PySem.W.Frag}
theorem YS (h:D.nx σ H):RB D σ H:=h
theorem acG {te:TE} (h:te σ H D.rt):acy te D σ H:=h
theorem ZX {te:TE} (h:te σ H fun _ H1=>D.nx σ H1):WO te D σ H:=h
theorem acZ {c:TT} {t u:TS} (h:c σ H fun b H1=>if b=true then t D σ H1 else u D σ H1):acv c t u D σ H:=h
theorem ac1 {te:TE} {i:Nat} (h:te σ H fun x H1=>D.nx (σ.set i (some x)) H1):Qa te (fR i) D σ H:=h
theorem KU {i:Nat} {v:V} (e:σ[i]? =some (some v)) (h:Q v H):Zv i σ H Q:=⟨v,e,h⟩
theorem r_c {v:V} (h:Q v H):tC v σ H Q:=h
theorem adY {r:R2} {ta tb:TE} (h:ta σ H fun x H1=>tb σ H1 fun y H2=>r x y H2 Q):tOp r ta tb σ H Q:=h
theorem afA {g:Int->Int->V} {i j:Int} (h:Q (g i j) H):UR g (.int i) (.int j) H Q:=⟨i,j,rfl,rfl,h⟩
theorem r_i {C:Int->Int->Prop} {g:Int->Int->V} {i j:Int} (c:C i j) (h:Q (g i j) H):rI C g (.int i) (.int j) H Q:=⟨i,j,rfl,rfl,c,h⟩
theorem XW {t:TE} {Q:Bool->Hp->Prop} (h:t σ H fun x H'=>∃k,x=.bl k/\Q k H'):Xe t σ H Q:=h
theorem aci {t u:TT} {Q:Bool->Hp->Prop} (h:t σ H fun c H1=>if c=true then u σ H1 Q else Q false H1):abf t u σ H Q:=h
theorem aeq {t u:TT} {Q:Bool->Hp->Prop} (h:t σ H fun c H1=>if c=true then Q true H1 else u σ H1 Q):tOr t u σ H Q:=h
theorem abM {t:TT} {Q:Bool->Hp->Prop} (h:t σ H fun c H1=>Q (!c) H1):abp t σ H Q:=h
theorem Yv {ta tb:TE} (h:ta σ H fun x H1=>∃c,x=.bl c/\if c=true then tb σ H1 Q else Q (.bl false) H1):Wt ta tb σ H Q:=h
theorem ac0 {ta tb:TE} (h:ta σ H fun x H1=>∃c,x=.bl c/\if c=true then Q (.bl true) H1 else tb σ H1 Q):aaJ ta tb σ H Q:=h
theorem Zw {ta:TE} (h:ta σ H fun x H1=>∃c,x=.bl c/\Q (.bl (!c)) H1):W0 ta σ H Q:=h
theorem abF {t:TT} {ta tb:TE} (h:t σ H fun c H1=>if c=true then ta σ H1 Q else tb σ H1 Q):tIf t ta tb σ H Q:=h
theorem afn {b:Bool} {R:Bool->Prop} (h:R b):∃k,V.bl b=.bl k/\R k:=⟨b,rfl,h⟩
theorem ab3 {Q:List V->Hp->Prop} (h:Q [] H):Ml σ H Q:=h
theorem Ya {ta:TE} {tr:TA} {Q:List V->Hp->Prop} (h:ta σ H fun x H1=>tr σ H1 fun xs H2=>Q (x::xs) H2):WB ta tr σ H Q:=h
theorem ad6 {r:List V->Hp->VK->Prop} {t:TA} (h:t σ H fun vs H1=>r vs H1 Q):tCB r t σ H Q:=h
theorem Vi {C:Addr} {m:Str} {dx p:Addr} {fs:List (Str × V)} {R:Prop} (hp:H p=some (.ins C dx fs)) (hl:fs.lookup m=none) (h:R):∃a dx fs,V.ref p=.ref a/\H a=some (.ins C dx fs)/\fs.lookup m=none/\R:=⟨p,dx,fs,rfl,hp,hl,h⟩
theorem Xw {ta:TE} {f:Str} (h:ta σ H fun x H1=>∃a C dx fs v,x=.ref a/\H1 a=some (.ins C dx fs)/\uK K C/\aE K C f/\fs.lookup f=some v/\Q v H1):Zm K ta f σ H Q:=h
theorem SV {A B:Prop} (h:A):if true=true then A else B:=by rw [if_pos rfl];exact h
theorem Ow {A B:Prop} (h:B):if false=true then A else B:=by rw [if_neg Bool.false_ne_true];exact h
end
section
variable {X:Cx} {e:Expr} {es:List Expr}
theorem PE.or {t u:TE} (h1:PE X e t) (h2:PE X e u):PE X e (fun σ H Q=>t σ H Q\/u σ H Q):=fun pins s σ H Q I h=>h.elim (h1 pins s σ H Q I) (h2 pins s σ H Q I)
theorem PE.weak {t u:TE} (h1:PE X e t) (h:∀σ H Q,u σ H Q->t σ H Q):PE X e u:=fun pins s σ H Q I q=>h1 pins s σ H Q I (h σ H Q q)
def mA (t:TA):TA:=fun σ H Q=>∃Q':List V->Hp->Prop,t σ H Q'/\∀v H',Q' v H'->Q v H'
theorem PA.m {t:TA} (h:PA X es t):PA X es (mA t):=fun pos pins s σ H Q I ⟨Q',q,m⟩=>dq (h pos pins s σ H Q' I q) fun _ _ ⟨v,H',I',r,z⟩=>⟨v,H',I',r,m v H' z⟩
end
def aev:Key->PyData
 | .inl i=>.int i
 | .inr x=>.str x
mutual
inductive Dv (H:Hp):V->PyData->Prop where
 |aQ:Dv H .aQ .none
 |bl (b:Bool):Dv H (.bl b) (.bool b)
 |int (i:Int):Dv H (.int i) (.int i)
 |str (x:Str):Dv H (.str x) (.str x)
 |tup {a:Addr} {xs:List V} {ds:List PyData} (h:H a=some (.tup xs)) (r:cK H xs ds):Dv H (.ref a) (.tuple ds)
 |lst {a:Addr} {xs:List V} {ds:List PyData} (h:Rd H a (.lst xs)) (r:cK H xs ds):Dv H (.ref a) (.list ds)
 |dct {a:Addr} {kvs:List (Key × V)} {ds:List (PyData × PyData)} (h:H a=some (.dK kvs)) (r:VS H kvs ds):Dv H (.ref a) (.dict ds)
inductive VS (H:Hp):List (Key × V)->List (PyData × PyData)->Prop where
 |nil:VS H [] []
 |cons {k:Key} {x:V} {d:PyData} {xs:List (Key × V)} {ds:List (PyData × PyData)} (h:Dv H x d) (r:VS H xs ds):VS H ((k,x)::xs) ((aev k,d)::ds)
inductive cK (H:Hp):List V->List PyData->Prop where
 |nil:cK H [] []
 |cons {x:V} {d:PyData} {xs:List V} {ds:List PyData} (h:Dv H x d) (r:cK H xs ds):cK H (x::xs) (d::ds)
end
mutual
theorem Dv.has {K:PySem.W.Frag} {H:Hp}:∀{v:V} {d:PyData},Dv H v d->d.canLay0=true->wY K H v d
 |_,_,.aQ,_=>.aQ
 |_,_,.bl b,_=>.bl b
 |_,_,.int i,_=>.int i
 |_,_,.str x,_=>.str x
 |_,_,.tup h r,c=>.tup (.of h) (cK.has r (by simpa [PyData.canLay0] using c))
 |_,_,.lst h r,c=>.lst (.inl h) (cK.has r (by simpa [PyData.canLay0] using c))
 |_,_,.dct h r,c=>by simp [PyData.canLay0] at c
theorem cK.has {K:PySem.W.Frag} {H:Hp}:∀{v:List V} {d:List PyData},cK H v d->PyData.canLayAll0 d=true->iL K H v d
 |_,_,.nil,_=>.nil
 |_,_,.cons h r,c=>by
  have c':=c
  simp only [PyData.canLayAll0,Bool.and_eq_true] at c'
  exact .cons (Dv.has h c'.1) (cK.has r c'.2)
end
theorem ax.rd {H H':Hp} {a:Addr} {u:HO} (e:ax H H') (h:Rd H a u):Rd H' a u:=by
 rcases h with h|⟨o,h⟩
 . exact .inl (e _ _ h)
 . exact .inr ⟨o,e _ _ h⟩
mutual
theorem Dv.keeps {H H':Hp} (e:ax H H'):∀{v:V} {d:PyData},Dv H v d->Dv H' v d
 |_,_,.aQ=>.aQ
 |_,_,.bl b=>.bl b
 |_,_,.int i=>.int i
 |_,_,.str x=>.str x
 |_,_,.tup h r=>.tup (e _ _ h) (cK.keeps e r)
 |_,_,.lst h r=>.lst (e.rd h) (cK.keeps e r)
 |_,_,.dct h r=>.dct (e _ _ h) (VS.keeps e r)
theorem VS.keeps {H H':Hp} (e:ax H H'):∀{v:List (Key × V)} {d:List (PyData × PyData)},VS H v d->VS H' v d
 |_,_,.nil=>.nil
 |_,_,.cons h r=>.cons (Dv.keeps e h) (VS.keeps e r)
theorem cK.keeps {H H':Hp} (e:ax H H'):∀{v:List V} {d:List PyData},cK H v d->cK H' v d
 |_,_,.nil=>.nil
 |_,_,.cons h r=>.cons (Dv.keeps e h) (cK.keeps e r)
end
theorem cK.length {H:Hp}:∀{xs:List V} {ds:List PyData},cK H xs ds->xs.length=ds.length
 |_,_,.nil=>rfl
 |_,_,.cons _ r=>by simp [cK.length r]
theorem cK.get {H:Hp}:∀{xs:List V} {ds:List PyData} {i:Nat} {d:PyData},cK H xs ds->ds[i]? =some d->∃x,xs[i]? =some x/\Dv H x d
 |_,_,_,_,.nil,e=>by simp at e
 |_,_,0,_,.cons h _,e=>by simp at e;subst e;exact⟨_,rfl,h⟩
 |_,_,i+1,x,.cons _ r,e=>by
  obtain⟨d,h1,h2⟩:=cK.get (i:=i) (d:=x) r (by simpa using e)
  exact⟨d,by simpa using h1,h2⟩
theorem cK.append {H:Hp}:∀{xs ys:List V} {ds es:List PyData},cK H xs ds->cK H ys es->cK H (xs++ys) (ds++es)
 |_,_,_,_,.nil,s=>s
 |_,_,_,_,.cons r t,s=>.cons r (cK.append t s)
theorem Dv.int_inv {H:Hp} {v:V} {i:Int} (h:Dv H v (.int i)):v=.int i:=by cases h;rfl
theorem Dv.NI {H:Hp} {v:V} (h:Dv H v .none):v=.aQ:=by cases h;rfl
theorem Dv.str_inv {H:Hp} {v:V} {i:Str} (h:Dv H v (.str i)):v=.str i:=by cases h;rfl
def E1 (H:Hp) (d:PyData) (Q:VK):Prop:=match d with
 | .none=>Q .aQ H
 | .bool b=>Q (.bl b) H
 | .int i=>Q (.int i) H
 | .str x=>Q (.str x) H
 |d=>∀v,Dv H v d->Q v H
theorem E1.use {H:Hp} {d:PyData} {Q:VK} (g:E1 H d Q) {v:V} (h:Dv H v d):Q v H:=by
 cases h with
 |aQ=>exact g
 |bl b=>exact g
 |int i=>exact g
 |str x=>exact g
 |tup h r=>exact g _ (.tup h r)
 |lst h r=>exact g _ (.lst h r)
 |dct h r=>exact g _ (.dct h r)
theorem Nj {H:Hp} {xs:List V} {ds:List PyData} {i:Int} {d:PyData} (r:cK H xs ds) (h:JG ds i=some d):∃x,JG xs i=some x/\Dv H x d:=by
 unfold JG at h ⊢
 rw [r.length]
 cases e:UJ ds.length i with
 |none=>rw [e] at h;simp at h
 |some j=>
  rw [e] at h
  have h':ds[j]? =some d:=by simpa using h
  obtain⟨x,h1,h2⟩:=r.get h'
  exact⟨x,by simpa using h1,h2⟩
def Nh (H:Hp) (v:V) (ds:List PyData):Prop:=Dv H v (.tuple ds)\/Dv H v (.list ds)
def abH:R2:=fun x y H Q=>∃ds i d,y=.int i/\Nh H x ds/\JG ds i=some d/\E1 H d Q
theorem VU {K:PySem.W.Frag} {x y:V} {H:Hp} {Q:VK} (h:abH x y H Q):rIx K x y H Q:=by
 obtain⟨ds,i,d,rfl,hs,hi,g⟩:=h
 rcases hs with hs|hs
 . cases hs with
   |tup h r=>
    obtain⟨v,h1,h2⟩:=Nj r hi
    exact .inr (.inl ⟨_,_,i,v,rfl,rfl,.of h,h1,g.use h2⟩)
 . cases hs with
   |lst h r=>
    obtain⟨v,h1,h2⟩:=Nj r hi
    exact .inl ⟨_,_,i,v,rfl,rfl,.inl h,h1,g.use h2⟩
section
variable {X:Cx}
def Xx:R2:=fun x y H Q=>abH x y H Q\/ZL x y H Q
theorem adQ:Qq X Xx:=fun value slice pins s σ H x y v u Q I r1 r2 h=>XA value slice pins s σ H x y v u Q I r1 r2 (h.elim VU fun z=>.inr (.inr z))
def WG:List V->Hp->VK->Prop:=fun xs H Q=>(∃v ds,xs=[v]/\Nh H v ds/\Q (.int (ds.length:Nat)) H)\/∃z,xs=[.str z]/\z.length<=sizeLine/\Q (.int (z.length:Nat)) H
theorem Pu:kl X (.builtin "len") WG:=fun pins s σ H xs us Q I r h=>by
 rcases h with⟨v,ds,rfl,hs,q⟩|h
 . rcases hs with hs|hs
   . cases hs with
     |tup h t=>exact rD pins s σ H _ us Q I r ⟨_,_,rfl,.inr (.of h),by rw [t.length];exact q⟩
   . cases hs with
     |lst h t=>exact rD pins s σ H _ us Q I r ⟨_,_,rfl,.inl (.inl h),by rw [t.length];exact q⟩
 . exact IU pins s σ H _ us Q I r h
def tyN:PyData->String
 | .none=>"NoneType"| .bool _=>"bool"| .int _=>"int"| .str _=>"str"| .list _=>"list"| .tuple _=>"tuple"| .dict _=>"dict"
def QZ (t n:String):Option Bool:=if ((Value.type t)==(Value.type n))=true then some true else if PySem.W.kitMeta n=true then (PySem.fastBuiltinMro t).map (·.contains (.type n)) else none
theorem QB {K:PySem.W.Frag} {t n:String} {b:Bool} (h:QZ t n=some b):PySem.W.kitOne K (.type t) (.type n)=some b:=h
def Xz (t n:String):Bool:=t==n||(t=="bool"&&n=="int")
theorem Pt:(["NoneType","bool","int","str","list","tuple","dict"].all fun t=>["int","bool","str","list","tuple","dict"].all fun n=>QZ t n==some (Xz t n))=true:=by decide+kernel
theorem QG {t n:String} (ht:t∈["NoneType","bool","int","str","list","tuple","dict"]) (hn:n∈["int","bool","str","list","tuple","dict"]):QZ t n=some (Xz t n):=by
 have h:=List.all_eq_true.mp (List.all_eq_true.mp Pt t ht) n hn
 exact beq_iff_eq.mp h
theorem Wa (d:PyData):tyN d∈["NoneType","bool","int","str","list","tuple","dict"]:=by
 cases d <;>simp [tyN]
theorem Dv.ty {K:PySem.W.Frag} {H:Hp} {v:V} {d:PyData} (h:Dv H v d):BD K H v (.type (tyN d)):=by
 cases h with
 |aQ=>exact .aQ
 |bl b=>exact .bl b
 |int i=>exact .int i
 |str x=>exact .str x
 |tup h r=>exact .tup h
 |lst h r=>
  rcases h with h|⟨o,h⟩
  . exact .lst h
  . exact .wK h
 |dct h r=>exact .dK h
theorem Ro {K:PySem.W.Frag} {H:Hp} {v:V} {d:PyData} {n:String} {Q:VK} (h:Dv H v d) (hn:n∈["int","bool","str","list","tuple","dict"]) (q:Q (.bl (Xz (tyN d) n)) H):Uu K [v,.ty n] H Q:=
 ⟨v,.ty n,.type n,_,_,rfl,.ty n,h.ty,QB (QG (Wa d) hn),q⟩
def Rr (K:PySem.W.Frag) (f:Bool->Bool):R2:=fun x y H Q=>(U4 x y=true/\Q (.bl (f (decide (x=y)))) H)\/∃d e,Dv H x d/\Dv H y e/\d.canLay0=true/\e.canLay0=true/\d.depth<=8/\Q (.bl (f (PyData.eqv d e))) H
theorem ip (hu:X.A.units+8<cLine):C9 X (compareOp .Eq) (Rr X.K id):=fun pins s σ H x y v u Q I rx ry h=>by
 rcases h with h|⟨d,e,h1,h2,h3,h4,h5,h6⟩
 . exact ack pins s σ H x y v u Q I rx ry h
 . exact Ys hu pins s σ H x y v u Q I rx ry ⟨d,e,h1.has h3,h2.has h4,h3,h4,h5,h6⟩
theorem IB (hu:X.A.units+8<cLine):C9 X (compareOp .NotEq) (Rr X.K not):=fun pins s σ H x y v u Q I rx ry h=>by
 rcases h with h|⟨d,e,h1,h2,h3,h4,h5,h6⟩
 . exact acJ pins s σ H x y v u Q I rx ry h
 . exact aag hu pins s σ H x y v u Q I rx ry ⟨d,e,h1.has h3,h2.has h4,h3,h4,h5,h6⟩
variable {es:List Expr} {t:TA} {pos:Pos}
def Zk (xs:List V) (H1:Hp) (Q:VK):Prop:=xs.length<=sizeLine/\∃ds,cK H1 xs ds/\∀p H2,ax H1 H2->H1 p=none->H2 p=some (.tup xs)->Dv H2 (.ref p) (.tuple ds)->Q (.ref p) H2
def Uw (xs:List V) (H1:Hp) (Q:VK):Prop:=xs.length<=sizeLine/\∃ds,cK H1 xs ds/\∀p H2,ax H1 H2->H1 p=none->H2 p=some (.lst xs)->cK H2 xs ds->Dv H2 (.ref p) (.list ds)->Q (.ref p) H2
def Xp (t:TA):TE:=fun σ H Q=>t σ H fun xs H1=>Zk xs H1 Q
theorem eG {x1} (h:PA X es t):PE X (.Tuple es x1 pos) (Xp t):=PE.weak (X4 h.m) fun σ H Q q=>⟨_,q,fun xs H1 ⟨hl,ds,hd,k⟩=>⟨hl,fun p hp=>by
 have sm:ax H1 (upd H1 p (.tup xs)):=fun b u e=>by rw [ay (aA e hp)];exact e
 exact k p _ sm hp ao (.tup ao (hd.keeps sm))⟩⟩
def WR (t:TA):TE:=fun σ H Q=>t σ H fun xs H1=>Uw xs H1 Q
theorem fw (h:PA X es t):PE X (.List es pos) (WR t):=PE.weak (YD h.m) fun σ H Q q=>⟨_,q,fun xs H1 ⟨hl,ds,hd,k⟩=>⟨hl,fun p hp=>by
 have sm:ax H1 (upd H1 p (.lst xs)):=fun b u e=>by rw [ay (aA e hp)];exact e
 exact k p _ sm hp ao (hd.keeps sm) (.lst (.of ao) (hd.keeps sm))⟩⟩
variable {st:Stmt} {rest:List Stmt}
def Zb (t u:TS):TS:=fun D σ H=>∃R:St->Hp->Prop,t {D with nx:=R} σ H/\∀σ' H',R σ' H'->u D σ' H'
theorem af {t u:TS} (h1:PS X st t) (h2:K0 X rest u):K0 X (st::rest) (Zb t u):=by
 intro pins s σ H D I ⟨R,h,k⟩
 refine wpAny_execs_cons (dq (h1 pins s σ H {D with nx:=R} I h) fun f s1 q=>?_)
 cases f with
 |next=>
  obtain⟨σ',H',I',q⟩:=q
  exact h2 pins s1 σ' H' D I' (k _ _ q)
 |ret v=>exact q
 |brk=>exact q
 |cont=>exact q
end
section
variable {σ:St} {H:Hp} {Q:VK} {D:Ends} {K:PySem.W.Frag}
theorem YB {t u:TS} (h:t {D with nx:=u D} σ H):Zb t u D σ H:=⟨u D,h,fun _ _ z=>z⟩
theorem aae {t:TA} (h:t σ H fun xs H1=>Zk xs H1 Q):Xp t σ H Q:=h
theorem Yz {xs:List V} {ds:List PyData} (hl:xs.length<=sizeLine) (hd:cK H xs ds) (k:∀v H2,ax H H2->Dv H2 v (.tuple ds)->Q v H2):Zk xs H Q:=⟨hl,ds,hd,fun p H2 s _ _ d=>k (.ref p) H2 s d⟩
theorem Y4 {t:TA} (h:t σ H fun xs H1=>Uw xs H1 Q):WR t σ H Q:=h
theorem acK {f:Bool->Bool} {x y:V} (e:U4 x y=true) (h:Q (.bl (f (decide (x=y)))) H):Rr K f x y H Q:=.inl ⟨e,h⟩
theorem W8 {f:Bool->Bool} {x y:V} {d e:PyData} (h1:Dv H x d) (h2:Dv H y e) (h3:d.canLay0=true) (h4:e.canLay0=true) (h5:d.depth<=8) (h:Q (.bl (f (PyData.eqv d e))) H):Rr K f x y H Q:=.inr ⟨d,e,h1,h2,h3,h4,h5,h⟩
theorem aaQ {x:V} {ds:List PyData} {i:Int} {d:PyData} (hs:Nh H x ds) (hi:JG ds i=some d) (g:E1 H d Q):Xx x (.int i) H Q:=.inl ⟨ds,i,d,rfl,hs,hi,g⟩
theorem UG {i:Int} (h:Q (.int i) H):E1 H (.int i) Q:=h
theorem Wm (h:Q .aQ H):E1 H .none Q:=h
theorem T9 {i:Str} (h:Q (.str i) H):E1 H (.str i) Q:=h
theorem aaf {i:Bool} (h:Q (.bl i) H):E1 H (.bool i) Q:=h
theorem T4 {ds:List PyData} (h:∀v,Dv H v (.tuple ds)->Q v H):E1 H (.tuple ds) Q:=h
theorem acw {b:Bool} {A B:Prop} (h1:b=true->A) (h2:b=false->B):if b=true then A else B:=by
 cases b
 . exact afe (h2 rfl)
 . exact adS (h1 rfl)
end
theorem dC.JF {k:Nat} {A:Around} (r:dC k A):A.units+8<cLine:=Nat.lt_of_le_of_lt (by omega) r.units
theorem ax.at {H H':Hp} {a:Addr} {o:HO} (s:ax H H') (h:H a=some o):H' a=some o:=s a o h
theorem bS {H:Hp} {t:Addr} {o:HO} (h:H t=none):ax H (upd H t o):=fun b u e=>by rw [ay (aA e h)];exact e
section
variable {σ:St} {H:Hp} {Q:VK} {D:Ends} {K:PySem.W.Frag}
theorem V8 {v:V} {R:St->Hp->Prop} {rt:VK} {bk ct:St->Hp->Prop} (h:rt v H):(Ends.mk R rt bk ct).rt v H:=h
end
def isInt:PyData->Bool| .int _=>true| .bool _=>true|_=>false
def isBool:PyData->Bool| .bool _=>true|_=>false
def isStr:PyData->Bool| .str _=>true|_=>false
def abw:PyData->Bool| .list _=>true|_=>false
def isTup:PyData->Bool| .tuple _=>true|_=>false
def acI:PyData->Bool| .dict _=>true|_=>false
section
variable {K:PySem.W.Frag} {H:Hp} {v:V} {d:PyData} {Q:VK}
theorem PF (h:Dv H v d) (q:Q (.bl (isInt d)) H):Uu K [v,.ty "int"] H Q:=Ro h (by decide) (by cases d <;>exact q)
theorem Mp (h:Dv H v d) (q:Q (.bl (isBool d)) H):Uu K [v,.ty "bool"] H Q:=Ro h (by decide) (by cases d <;>exact q)
def kL (H:Hp) (v:V) (C:Addr) (fs:List (Str × V)):Prop:=∃p dx,v=.ref p/\H p=some (.ins C dx fs)
theorem kL.keeps {H H':Hp} {C:Addr} {fs:List (Str × V)} (s:ax H H') (h:kL H v C fs):kL H' v C fs:=by
 obtain⟨p,dx,rfl,e⟩:=h;exact⟨p,dx,rfl,s _ _ e⟩
theorem Yq {R:V->Prop} {C:Addr} {fs:List (Str × V)} {f:Str} {x:V} (hp:kL H v C fs) (c:uK K C) (n:aE K C f) (l:fs.lookup f=some x) (h:R x):
 ∃a C dx fs x,v=.ref a/\H a=some (.ins C dx fs)/\uK K C/\aE K C f/\fs.lookup f=some x/\R x:=by
 obtain⟨p,dx,rfl,e⟩:=hp
 exact⟨p,C,dx,fs,x,rfl,e,c,n,l,h⟩
theorem IL {C:Addr} {m:Str} {fs:List (Str × V)} {R:Prop} (hp:kL H v C fs) (hl:fs.lookup m=none) (h:R):∃a dx fs,v=.ref a/\H a=some (.ins C dx fs)/\fs.lookup m=none/\R:=by
 obtain⟨p,dx,rfl,e⟩:=hp
 exact⟨p,dx,fs,rfl,e,hl,h⟩
end
def look (f:Str):List (Str × V)->Option V
 |[]=>none
 |(g,v)::r=>if f=g then some v else look f r
theorem EJ (f:Str):∀fs:List (Str × V),fs.lookup f=look f fs
 |[]=>rfl
 |(g,v)::r=>by
  show(match f==g with|true=>some v|false=>r.lookup f)=if f=g then some v else look f r
  by_cases h:f=g
  . subst h;rw [if_pos rfl,beq_self_eq_true]
  . rw [if_neg h,beq_eq_false_iff_ne.mpr h];exact EJ f r
section
variable {X:Cx}
def RL (K:PySem.W.Frag):R2:=fun x y H Q=>Xx x y H Q\/Yg K x y H Q
theorem fP:Qq X (RL X.K):=fun value slice pins s σ H x y v u Q I r1 r2 h=>h.elim (adQ value slice pins s σ H x y v u Q I r1 r2) (NT value slice pins s σ H x y v u Q I r1 r2)
def Wu (K:PySem.W.Frag):List V->Hp->VK->Prop:=fun xs H Q=>WG xs H Q\/∃p ys,xs=[.ref p]/\iH K H p ys/\Q (.int ys.length) H
theorem HL:kl X (.builtin "len") (Wu X.K):=fun pins s σ H xs us Q I r h=>by
 rcases h with h|⟨p,ys,e,hl,q⟩
 . exact Pu pins s σ H xs us Q I r h
 . exact rD pins s σ H xs us Q I r ⟨p,ys,e,.inl hl,q⟩
end
section
variable {σ:St} {H:Hp} {Q:VK} {D:Ends} {K:PySem.W.Frag}
theorem Xq {x:V} {ds:List PyData} {i:Int} {d:PyData} (hs:Nh H x ds) (hi:JG ds i=some d) (g:E1 H d Q):RL K x (.int i) H Q:=.inl (aaQ hs hi g)
theorem Xl {p:Addr} {xs:List V} {i:Int} {v:V} (hs:iH K H p xs) (hi:JG xs i=some v) (g:Q v H):RL K (.ref p) (.int i) H Q:=.inr ⟨p,xs,i,v,rfl,rfl,hs,hi,g⟩
theorem Z7 {p:Addr} {xs:List V} (hs:iH K H p xs) (h:Q (.int xs.length) H):Wu K [.ref p] H Q:=.inr ⟨p,xs,rfl,hs,h⟩
theorem YF {ta tv:TE} {f:Str} (h:tv σ H fun y H1=>ta σ H1 fun x H2=>∃a C dx fs,x=.ref a/\H2 a=some (.ins C dx fs)/\uK K C/\aE K C f/\fs.length<1000/\D.nx σ (upd H2 a (.ins C dx (pq f y fs)))):abX K ta tv f D σ H:=h
theorem Vg {p C dx:Addr} {fs fs':List (Str × V)} {f:Str} {y:V} (hp:H p=some (.ins C dx fs)) (c:uK K C) (n:aE K C f) (hl:fs.length<1000) (e:pq f y fs=fs') (h:D.nx σ (upd H p (.ins C dx fs'))):
 ∃a C dx fs,V.ref p=.ref a/\H a=some (.ins C dx fs)/\uK K C/\aE K C f/\fs.length<1000/\D.nx σ (upd H a (.ins C dx (pq f y fs))):=⟨p,C,dx,fs,rfl,hp,c,n,hl,by rw [e];exact h⟩
def Dw (C:Addr) (pre:List V->Prop) (fs:List V->List (Str × V)):Sp:=fun vs H Q _=>∃p dx args,vs=.ref p::args/\pre args/\H p=some (.ins C dx [])/\Q .aQ (upd H p (.ins C dx (fs args)))
theorem UQ {C:Addr} {pre:List V->Prop} {fs:List V->List (Str × V)} {args:List V} {E:XK} (hp:pre args) (k:∀v H2,ax H H2->kL H2 v C (fs args)->Q v H2):
 ∀x dx,H x=none->H dx=none->dx≠x->Dw C pre fs (.ref x::args) (upd (upd H dx (.own x)) x (.ins C dx [])) (fun v H2=>v=.aQ/\Q (.ref x) H2) E:=by
 intro x dx hx hd ne
 refine⟨x,dx,args,rfl,hp,ao,rfl,k _ _ (fun b u e=>?_) ⟨x,dx,rfl,ao⟩⟩
 rw [ay (aA e hx),ay (aA e hx),ay (aA e hd)]
 exact e
theorem Rj {R:V->Prop} {C dx p:Addr} {fs:List (Str × V)} {f:Str} {v:V} (hp:H p=some (.ins C dx fs)) (c:uK K C) (n:aE K C f) (l:fs.lookup f=some v) (h:R v):
 ∃a C dx fs v,V.ref p=.ref a/\H a=some (.ins C dx fs)/\uK K C/\aE K C f/\fs.lookup f=some v/\R v:=⟨p,C,dx,fs,v,rfl,hp,c,n,l,h⟩
theorem afp {R:Prop} (h:R):V.aQ=V.aQ/\R:=⟨rfl,h⟩
end
theorem bg {i:Int} (h1:-(10^200)<i) (h2:i<10^200):i.natAbs<2^2000:=by
 have:(10:Nat)^200<2^2000:=by decide+kernel
 have h3:i.natAbs<10^200:=by
  have e:((10:Nat)^200:Nat)=((10:Int)^200).toNat:=by decide+kernel
  rw [e]
  generalize (10:Int)^200=m at h1 h2 ⊢
  omega
 exact Nat.lt_trans h3 this
theorem aaT {i j:Int} (h1:-(10^200)<i/\i<10^200) (h2:-(10^200)<j/\j<10^200):NP i j:=⟨bg h1.1 h1.2,bg h2.1 h2.2⟩
theorem abb {i j:Int} (h1:0<j) (h2:j<10^200):WN i j:=⟨h1,bg (Int.lt_trans (by decide) h1) h2⟩
def cell (ns:List Int) (k:Nat):Int:=ns.getD k 0
def K4 (K:PySem.W.Frag):Sp:=fun vs H Q _=>∃l ns k,vs=[.ref l,.int k]/\iH K H l (ns.map V.int)/\0<=k/\Q (.int (cell ns k.toNat)) H
theorem YR {K:PySem.W.Frag} {H:Hp} {Q:VK} {E:XK} {l:Addr} {ns:List Int} {k:Int} (h:iH K H l (ns.map V.int)) (hk:0<=k) (q:Q (.int (cell ns k.toNat)) H):K4 K [.ref l,.int k] H Q E:=⟨l,ns,k,rfl,h,hk,q⟩
theorem M3 {ns:List Int} {k:Int} (h0:0<=k) (h:k<(ns.map V.int).length):JG (ns.map V.int) k=some (.int (cell ns k.toNat)):=by
 obtain⟨n,rfl⟩:=Int.eq_ofNat_of_zero_le h0
 refine N2 ?_
 have hn:n<ns.length:=by simpa using h
 simp [cell,hn,List.getD_eq_getElem?_getD]
theorem V6 {ns:List Int} {k:Int} (h0:0<=k) (h:¬k<(ns.map V.int).length):cell ns k.toNat=0:=by
 have:ns.length<=k.toNat:=by simp at h;omega
 simp [cell,List.getD_eq_getElem?_getD,this]
def Gh (sp:Sp) (vs:List V) (H:Hp) (Q:VK) (E:XK):Prop:=∃ws,vs=ws/\sp ws H Q E
theorem JM (sp:Sp) (vs:List V) (H:Hp) (Q:VK) (E:XK):Gh sp vs H Q E=sp vs H Q E:=propext ⟨fun⟨_,e,h⟩=>e▸h,fun h=>⟨vs,rfl,h⟩⟩
def Gq (sp:Sp) (dr:List V) (E:XK) (t:TA):TE:=fun σ H Q=>t σ H fun vs H1=>Gh sp (vs++dr) H1 Q E
theorem HY (sp:Sp) (dr:List V) (E:XK) (t:TA):Gq sp dr E t=Hg sp dr E t:=by
 funext σ H Q;unfold Gq Hg;congr 1;funext vs H1;exact JM _ _ _ _ _
def GC (C:Addr) (m:Str) (sp:Sp) (dr:List V) (E:XK) (ta:TE) (t:TA):TE:=fun σ H Q=>ta σ H fun x H1=>∃a dx fs,x=.ref a/\H1 a=some (.ins C dx fs)/\fs.lookup m=none/\
 t σ H1 fun vs H2=>Gh sp (x::(vs++dr)) H2 Q E
theorem HJ (C:Addr) (m:Str) (sp:Sp) (dr:List V) (E:XK) (ta:TE) (t:TA):GC C m sp dr E ta t=Hq C m sp dr E ta t:=by
 funext σ H Q;unfold GC Hq;congr 1;funext x H1
 have:∀H2:Hp,(fun vs H2=>Gh sp (x::(vs++dr)) H2 Q E)=fun vs H2=>sp (x::(vs++dr)) H2 Q E:=fun _=>by funext vs H2;exact JM _ _ _ _ _
 rw [this H1]
def DZ (C:Addr) (sp:Sp) (vs:List V) (H1:Hp) (Q:VK) (E:XK):Prop:=∃ws,vs=ws/\∀x dx,H1 x=none->H1 dx=none->dx≠x->
 sp (.ref x::ws) (upd (upd H1 dx (.own x)) x (.ins C dx [])) (fun v H2=>v=.aQ/\Q (.ref x) H2) E
def Gj (C:Addr) (sp:Sp) (dr:List V) (E:XK) (t:TA):TE:=fun σ H Q=>t σ H fun vs H1=>DZ C sp (vs++dr) H1 Q E
theorem HP (C:Addr) (sp:Sp) (dr:List V) (E:XK) (t:TA):Gj C sp dr E t=JI C sp dr E t:=by
 funext σ H Q;unfold Gj JI DZ;congr 1;funext vs H1
 exact propext ⟨fun⟨_,e,h⟩=>by subst e;exact h,fun h=>⟨_,rfl,h⟩⟩
section
variable {X:Cx} {k:Nat} {f C:Addr} {ps:List Str} {sp:Sp} {dr:List V} {x m:Str} {p pos apos:Pos} {e o:Expr} {es:List Expr} {ta:TE} {t:TA}
theorem bz (c:dE X.prog X.w X.K X.mg X.base k f ps dr sp) (hr:dC k X.A) (hg:Gl X x) (hm:X.mg x=some (.ref f)) (hk:PySem.W.keepIn X.K (.ref f)=true)
 (ha:PA X (e::es) t) (EV:(x==("__debug__":Str))=false:=by decide) (he:starEach (e::es) X.env=(false,eval e X.env)::starEach es X.env:=by rfl) (C7:(backTo pos (starEach es X.env)).any (·.1)=false:=by rfl):
 PE X (.Call (.Name x p) (e::es) [] pos) (Gq sp dr E0 t):=by rw [HY];exact T7 c hr hg hm hk ha EV he C7
theorem aI {pl:Sem Bool} (he:PE X o ta) (c:uK X.K C) (hm:Meth X.K C m f) (F:dE X.prog X.w X.K X.mg X.base k f ps dr sp) (hr:dC k X.A) (ha:PA X (e::es) t)
 (AQ:starEach (e::es) X.env=(false,eval e X.env)::starEach es X.env:=by rfl) (C7:(backTo pos (starEach es X.env)).any (·.1)=false:=by rfl)
 (ht:eval (.Call (.Attribute o m apos) (e::es) [] pos) X.env=(do
  let ov <-eval o X.env
  standAt apos.atName
  let (f,first) <-holding [ov] (getMethod ov m pl)
  callWith pos f first (backTo pos (starEach (e::es) X.env)) (backToKw pos (keywordEach [] X.env))):=by rfl):
 PE X (.Call (.Attribute o m apos) (e::es) [] pos) (GC C m sp dr E0 ta t):=by rw [HJ];exact V4 he c hm F hr ha AQ C7 ht
theorem dG {pl:Sem Bool} (he:PE X o ta) (c:uK X.K C) (hm:Meth X.K C m f) (F:dE X.prog X.w X.K X.mg X.base k f ps dr sp) (hr:dC k X.A)
 (ht:eval (.Call (.Attribute o m apos) [] [] pos) X.env=(do
  let ov <-eval o X.env
  standAt apos.atName
  let (f,first) <-holding [ov] (getMethod ov m pl)
  callWith pos f first (backTo pos (starEach [] X.env)) (backToKw pos (keywordEach [] X.env))):=by rfl):
 PE X (.Call (.Attribute o m apos) [] [] pos) (GC C m sp dr E0 ta Ml):=by rw [HJ];exact Q9 he c hm F hr ht
theorem x8 (M:Mk X.K C f) (F:dE X.prog X.w X.K X.mg X.base k f ps dr sp) (hr:dC (k+1) X.A) (hg:Gl X x) (hm:X.mg x=some (.ref C))
 (ha:PA X (e::es) t) (EV:(x==("__debug__":Str))=false:=by decide) (he:starEach (e::es) X.env=(false,eval e X.env)::starEach es X.env:=by rfl) (C7:(backTo pos (starEach es X.env)).any (·.1)=false:=by rfl):
 PE X (.Call (.Name x p) (e::es) [] pos) (Gj C sp dr E0 t):=by rw [HP];exact UL M F hr hg hm ha EV he C7
theorem JA {pl:Sem Bool} (hg:Gl X x) (hm:X.mg x=some (.ref C)) (B:Kf X.K C m f) (F:dE X.prog X.w X.K X.mg X.base k f ps dr sp) (hr:dC k X.A) (ha:PA X (e::es) t)
 (EV:(x==("__debug__":Str))=false:=by decide)
 (AQ:starEach (e::es) X.env=(false,eval e X.env)::starEach es X.env:=by rfl) (C7:(backTo pos (starEach es X.env)).any (·.1)=false:=by rfl)
 (ht:eval (.Call (.Attribute (.Name x p) m apos) (e::es) [] pos) X.env=(do
  let ov <-eval (.Name x p) X.env
  standAt apos.atName
  let (f,first) <-holding [ov] (getMethod ov m pl)
  callWith pos f first (backTo pos (starEach (e::es) X.env)) (backToKw pos (keywordEach [] X.env))):=by rfl):
 PE X (.Call (.Attribute (.Name x p) m apos) (e::es) [] pos) (Gq sp dr E0 t):=by rw [HY];exact VH hg hm B F hr ha EV AQ C7 ht
end
section
variable {σ:St} {H:Hp} {Q:VK} {D:Ends} {K:PySem.W.Frag}
theorem UT {sp:Sp} {dr:List V} {E:XK} {t:TA} (h:t σ H fun vs H1=>Gh sp (vs++dr) H1 Q E):Gq sp dr E t σ H Q:=h
theorem LN {sp:Sp} {vs ws:List V} {E:XK} (e:vs=ws) (h:sp ws H Q E):Gh sp vs H Q E:=⟨ws,e,h⟩
theorem Ic {C:Addr} {m:Str} {sp:Sp} {dr:List V} {E:XK} {ta:TE} {t:TA} (h:ta σ H fun x H1=>∃a dx fs,x=.ref a/\H1 a=some (.ins C dx fs)/\fs.lookup m=none/\t σ H1 fun vs H2=>Gh sp (x::(vs++dr)) H2 Q E):GC C m sp dr E ta t σ H Q:=h
theorem Wd {C:Addr} {sp:Sp} {dr:List V} {E:XK} {t:TA} (h:t σ H fun vs H1=>DZ C sp (vs++dr) H1 Q E):Gj C sp dr E t σ H Q:=h
theorem Bx {C:Addr} {pre:List V->Prop} {fs:List V->List (Str × V)} {us args:List V} {E:XK} (e:us=args) (hp:pre args) (k:∀v H2,ax H H2->kL H2 v C (fs args)->Q v H2):DZ C (Dw C pre fs) us H Q E:=⟨args,e,UQ hp k⟩
theorem Z1 {b:Bool} {R:Bool->Prop} (h:R b):∃k,Qs K (.bl b) H k/\R k:=⟨b,rfl,h⟩
end
theorem RV {n:Nat} (h:Nat.ble n 64=true):n<=sizeLine:=Nat.le_trans (Nat.le_of_ble_eq_true h) (by decide)
theorem Ux {H:Hp} {d:PyData} {Q:VK} (h:∀v,Dv H v d->Q v H):E1 H d Q:=by
 cases d with
 |none=>exact h _ .aQ
 |bool b=>exact h _ (.bl b)
 |int i=>exact h _ (.int i)
 |str x=>exact h _ (.str x)
 |list l=>exact h
 |tuple l=>exact h
 |dict l=>exact h
section
variable {X:Cx} {st:Stmt} {rest:List Stmt}
def Ww (t u:TS):TS:=Zb t u
theorem cP {t u:TS} (h1:PS X st t) (h2:K0 X rest u):K0 X (st::rest) (Ww t u):=af h1 h2
end
section
variable {σ:St} {H:Hp} {Q:VK} {D:Ends} {K:PySem.W.Frag}
theorem gg {t u:TS} (R:St->Hp->Prop) (h:t {D with nx:=R} σ H) (k:∀σ' H',R σ' H'->u D σ' H'):Ww t u D σ H:=⟨R,h,k⟩
theorem aad {xs:List V} {ds:List PyData} (hl:xs.length<=sizeLine) (hd:cK H xs ds) (k:∀p H2,ax H H2->H p=none->H2 p=some (.lst xs)->cK H2 xs ds->Dv H2 (.ref p) (.list ds)->Q (.ref p) H2):Uw xs H Q:=⟨hl,ds,hd,k⟩
def YL (K:PySem.W.Frag) (x:V) (g:TG) (tb:TS) (D:Ends) (σ:St) (H1:Hp):Prop:=∃a,x=.ref a/\(∃xs,iH K H1 a xs)/\∃W:Nat->Nat->St->Hp->Prop,(∃m,W 0 m σ H1)/\∀i m σ H,W i m σ H->
 ((S8 K a).stop i H/\D.nx σ H)\/((S8 K a).go i H/\∃N:St->Hp->Prop,(∀σ' H',N σ' H'->∃m',m'<m/\W (i+1) m' σ' H')/\∀x H',(S8 K a).ZS i H x H'->g x σ H' fun σ2 H2=>tb {D with nx:=N,ct:=N,bk:=D.nx} σ2 H2)
theorem abO {tl:TE} {g:TG} {tb:TS} (h:tl σ H fun x H1=>YL K x g tb D σ H1):X6 (R3 K tl) g tb D σ H:=h
theorem forL {a:Addr} {xs:List V} {g:TG} {tb:TS} (hl:iH K H a xs) (Pv:Nat->St->Hp->Prop) (h0:Pv 0 σ H) (hk:∀i σ H,i<=xs.length->Pv i σ H->iH K H a xs)
 (hs:∀i x σ H,xs[i]? =some x->Pv i σ H->g x σ H fun σ2 H2=>tb {D with nx:=Pv (i+1),ct:=Pv (i+1),bk:=D.nx} σ2 H2) (hd:∀σ H,Pv xs.length σ H->D.nx σ H):YL K (.ref a) g tb D σ H:=
 ⟨a,rfl,⟨xs,hl⟩,RJ Pv h0 hk hs hd⟩
def aeA (lo:Int) (n:Nat) (g:TG) (tb:TS) (D:Ends) (σ:St) (H1:Hp):Prop:=∃W:Nat->Nat->St->Hp->Prop,(∃m,W 0 m σ H1)/\∀i m σ H,W i m σ H->
 ((Ql lo n).stop i H/\D.nx σ H)\/((Ql lo n).go i H/\∃N:St->Hp->Prop,(∀σ' H',N σ' H'->∃m',m'<m/\W (i+1) m' σ' H')/\∀x H',(Ql lo n).ZS i H x H'->g x σ H' fun σ2 H2=>tb {D with nx:=N,ct:=N,bk:=D.nx} σ2 H2)
theorem VM {ta:TA} {g:TG} {tb:TS} (h:ta σ H fun vs H1=>∃j:Int,vs=[.int j]/\-(2^62)<=j/\j<2^62/\aeA 0 j.toNat g tb D σ H1):X6 (W9 ta) g tb D σ H:=h
theorem Yu {j:Int} {R:Int->Prop} (h1:-(2^62)<=j) (h2:j<2^62) (h:R j):∃i:Int,[V.int j]=[.int i]/\-(2^62)<=i/\i<2^62/\R i:=⟨j,rfl,h1,h2,h⟩
end
section
variable {X:Cx}
def W3:List V->Hp->VK->Prop:=fun xs H Q=>∃i j,xs=[.int i,.int j]/\∀k,(k=i\/k=j)->k<=i->k<=j->Q (.int k) H
theorem HF (hc:X.calm=true):kl X (.builtin "min") W3:=fun pins s σ H xs us Q I r ⟨i,j,e,h⟩=>O8 hc pins s σ H xs us Q I r ⟨i,j,e,by
 split
 . exact h _ (.inr rfl) (by omega) (by omega)
 . exact h _ (.inl rfl) (by omega) (by omega)⟩
def WW:List V->Hp->VK->Prop:=fun xs H Q=>∃i j,xs=[.int i,.int j]/\∀k,(k=i\/k=j)->i<=k->j<=k->Q (.int k) H
theorem x9 (hc:X.calm=true):kl X (.builtin "max") WW:=fun pins s σ H xs us Q I r ⟨i,j,e,h⟩=>Pl hc pins s σ H xs us Q I r ⟨i,j,e,by
 split
 . exact h _ (.inr rfl) (by omega) (by omega)
 . exact h _ (.inl rfl) (by omega) (by omega)⟩
def WM:R2:=fun x y H Q=>∃i j,x=.int i/\y=.int j/\0<j/\(0<=i % j->i % j<j->Q (.int (i % j)) H)
theorem cq:C9 X (binaryOp .Mod) WM:=fun pins s σ H x y v u Q I rx ry ⟨i,j,e1,e2,hj,h⟩=>ZR pins s σ H x y v u Q I rx ry ⟨i,j,e1,e2,hj,h (Int.emod_nonneg _ (by omega)) (Int.emod_lt_of_pos _ hj)⟩
end
section
variable {σ:St} {H:Hp} {Q:VK} {D:Ends} {K:PySem.W.Frag}
theorem XE {i j:Int} (h:∀k,(k=i\/k=j)->k<=i->k<=j->Q (.int k) H):W3 [.int i,.int j] H Q:=⟨i,j,rfl,h⟩
theorem aai {i j:Int} (h:∀k,(k=i\/k=j)->i<=k->j<=k->Q (.int k) H):WW [.int i,.int j] H Q:=⟨i,j,rfl,h⟩
theorem aah {i j:Int} (hj:0<j) (h:0<=i % j->i % j<j->Q (.int (i % j)) H):WM (.int i) (.int j) H Q:=⟨i,j,rfl,rfl,hj,h⟩
end
theorem aN.ex {ι:Type} {P:Program} {w:World} {K:PySem.W.Frag} {mg:Str->Option Value} {base:Heap} {CX:Hj} {k:Nat} {f:Addr} {fd:FuncData} {ps:List Str} {sp:ι->Sp} (h:∀i,aN P w K mg base CX k f fd ps (sp i)):
 aN P w K mg base CX k f fd ps (fun vs H Q E=>∃i,sp i vs H Q E):=
 ⟨fun vs H Q E ⟨i,q⟩=>(h i).len vs H Q E q,fun A outer s H args us vs Q E hr he hb hv ⟨i,q⟩=>(h i).run A outer s H args us vs Q E hr he hb hv q⟩
section
variable {σ:St} {H:Hp} {Q:VK} {D:Ends} {K:PySem.W.Frag}
def W5 (Pv:Nat->St->Hp->Prop) (m:Nat) (tb:TS) (D:Ends) (σ:St) (H1:Hp):Prop:=∃N:St->Hp->Prop,(∀σ' H',N σ' H'->∃m',m'<m/\Pv m' σ' H')/\tb {D with nx:=N,ct:=N,bk:=D.nx} σ H1
theorem aac {Pv:Nat->St->Hp->Prop} {m:Nat} {tb:TS} (h:tb {D with nx:=fun σ' H'=>∃m',m'<m/\Pv m' σ' H',ct:=fun σ' H'=>∃m',m'<m/\Pv m' σ' H',bk:=D.nx} σ H):W5 Pv m tb D σ H:=⟨_,fun _ _ h=>h,h⟩
theorem N3 {c:TT} {tb:TS} (Pv:Nat->St->Hp->Prop) (h0:∃m,Pv m σ H) (hs:∀m σ H,Pv m σ H->c σ H fun b H1=>if b=true then W5 Pv m tb D σ H1 else D.nx σ H1):SM c tb D σ H:=⟨Pv,h0,hs⟩
end
end L2
namespace L2
theorem Ud {n:Nat} (h:Nat.blt n 1000=true):n<1000:=by
 unfold Nat.blt at h
 exact Nat.le_of_ble_eq_true h
end L2
namespace L2
open PySem PySem.Spec PyProof.Rows
section
variable {X:Cx}
end
section
variable {σ:St} {H:Hp} {Q:VK} {D:Ends} {K:PySem.W.Frag}
end
theorem Yj {H:Hp} {Q:VK} {i j p:Int} (c:XQ i j) (e:i^j.toNat=p) (h:Q (.int p) H):rI XQ (fun i j=>.int (i^j.toNat)) (.int i) (.int j) H Q:=⟨i,j,rfl,rfl,c,by show Q (.int (i^j.toNat)) H;rw [e];exact h⟩
section
variable {X:Cx} {e:Expr}
def YC (t u:TE):TE:=fun σ H Q=>t σ H Q\/u σ H Q
theorem Mz {t u:TE} (h1:PE X e t) (h2:PE X e u):PE X e (YC t u):=PE.or h1 h2
end
section
variable {σ:St} {H:Hp} {Q:VK} {D:Ends} {K:PySem.W.Frag}
theorem WC {t u:TE} (h:t σ H Q):YC t u σ H Q:=.inl h
theorem abP {t u:TE} (h:u σ H Q):YC t u σ H Q:=.inr h
end
end L2
namespace L2
end L2
namespace L2
open PySem PySem.Spec PyProof.Rows PySem.W
structure Swo (lt:Nat->Nat->Bool):Prop where
 irr:∀a,lt a a=false
 asy:∀a b,lt a b=true->lt b a=false
 TL:∀a b c,lt a b=false->lt b c=false->lt a c=false
section
variable {lt:Nat->Nat->Bool} {n:Nat} {S:Shared->Prop} {cmp:Nat->Nat->(Bool->Shared->Prop)->Shared->Prop}
def Up (lt:Nat->Nat->Bool) (p:Array Nat) (k:Nat):Prop:=∀i j,i<j->j<k->lt (p.getD j 0) (p.getD i 0)=false
def Down (lt:Nat->Nat->Bool) (p:Array Nat) (k:Nat):Prop:=∀i j,i<j->j<k->lt (p.getD i 0) (p.getD j 0)=false
def Alike (lt:Nat->Nat->Bool) (p:Array Nat) (a b:Nat):Prop:=∀i j,a<=i->i<b->a<=j->j<b->lt (p.getD i 0) (p.getD j 0)=false
structure Ix (n:Nat) (p:Array Nat):Prop where
 sz:p.size=n
 pm:p.toList.Perm (List.range n)
theorem Ix.low {p:Array Nat} (h:Ix n p) {i:Nat} (hi:i<n):p.getD i 0<n:=by
 have hi':i<p.size:=by rw [h.sz];exact hi
 have e:p.getD i 0=p[i]:=by simp [Array.getD,hi']
 rw [e]
 have:p[i]∈p.toList:=by simp
 exact List.mem_range.mp (h.pm.mem_iff.mp this)
theorem Ix.perm {p q:Array Nat} (h:Ix n p) (hq:q.Perm p):Ix n q:=⟨hq.size_eq.trans h.sz,(Array.perm_iff_toList_perm.mp hq).trans h.pm⟩
theorem iI {p:Array Nat} {i j:Nat} (hj:j<=p.size) (k:Nat):(kas_rev p i j).getD k 0=if i<=k/\k<j then p.getD (i+j - 1 - k) 0 else p.getD k 0:=by
 unfold kas_rev
 rw [Array.getD_eq_getD_getElem?,getElem?_mirror_all hj k]
 by_cases h:i<=k/\k<j
 . rw [if_pos h,if_pos h,Array.getD_eq_getD_getElem?]
 . rw [if_neg h,if_neg h,Array.getD_eq_getD_getElem?]
theorem Ga {p:Array Nat} (h:Ix n p) (i j:Nat):Ix n (kas_rev p i j):=h.perm (mirror_perm _ _ _ _)
theorem JO {p:Array Nat} {k d:Nat} (hk:k<p.size) (hd:d<=k) (i:Nat):(bubble p k d).getD i 0=if i=k - d then p.getD k 0 else if k - d<i/\i<=k then p.getD (i - 1) 0 else p.getD i 0:=by
 rw [Array.getD_eq_getD_getElem?,getElem?_bubble hk d hd i]
 by_cases h:i=k - d
 . rw [if_pos h,if_pos h,Array.getD_eq_getD_getElem?]
 . rw [if_neg h,if_neg h]
   by_cases h2:k - d<i/\i<=k
   . rw [if_pos h2,if_pos h2,Array.getD_eq_getD_getElem?]
   . rw [if_neg h2,if_neg h2,Array.getD_eq_getD_getElem?]
def Yi (n:Nat) (lt:Nat->Nat->Bool) (S:Shared->Prop) (cmp:Nat->Nat->(Bool->Shared->Prop)->Shared->Prop):Prop:=
 ∀i j C s,i<n->j<n->S s->(∀s',S s'->C (lt i j) s')->cmp i j C s
variable (w:Swo lt) (ha:Yi n lt S cmp)
include w ha
theorem Mt {p:Array Nat} (hp:Ix n p) {Q:Nat->Shared->Prop}:∀(f k:Nat),1<=k->k+f<=n->Up lt p k->(∀m s,S s->k<=m->m<=k+f->Up lt p m->(m=k+f\/(m<k+f/\lt (p.getD m 0) (p.getD (m - 1) 0)=true))->Q m s)->∀s,S s->(kas_asc p f k).kasWp cmp Q s
 |0,k,_,_,hu,hq,s,hs=>hq k s hs (Nat.le_refl _) (Nat.le_refl _) hu (.inl rfl)
 |f+1,k,h1,hf,hu,hq,s,hs=>by
  refine ha _ _ _ _ (hp.low (by omega)) (hp.low (by omega)) hs fun s' K3=>?_
  cases e:lt (p.getD k 0) (p.getD (k - 1) 0) with
  |true=>exact hq k s' K3 (Nat.le_refl _) (by omega) hu (.inr ⟨by omega,e⟩)
  |false=>
   refine Mt hp f (k+1) (by omega) (by omega) (fun i j Et hj=>?_) (fun m s hs a b c d=>hq m s hs (by omega) (by omega) c (by rcases d with d|d;exact .inl (by omega);exact .inr ⟨by omega,d.2⟩)) s' K3
   by_cases Y0:j<k
   . exact hu i j Et Y0
   . have:j=k:=by omega
     subst this
     by_cases hi:i=j - 1
     . rw [hi];exact e
     . exact w.TL _ _ _ e (hu i (j - 1) (by omega) (by omega))
theorem Fl {Q:Array Nat × Nat × Nat->Shared->Prop}:∀(f:Nat) (p:Array Nat) (k q:Nat),Ix n p->k+f<=n->q+1<=k->Down lt p k->Alike lt p (k - (q+1)) k->
 (∀p' k' q' s,S s->Ix n p'->k<=k'->k'<=k+f->q'+1<=k'->Down lt p' k'->Alike lt p' (k' - (q'+1)) k'->Q (p',k',q') s)->∀s,S s->(kas_desc f p k q).kasWp cmp Q s
 |0,p,k,q,hp,_,h1,hd,hl,hq,s,hs=>hq p k q s hs hp (Nat.le_refl _) (Nat.le_refl _) h1 hd hl
 |f+1,p,k,q,hp,hf,h1,hd,hl,hq,s,hs=>by
  refine ha _ _ _ _ (hp.low (by omega)) (hp.low (by omega)) hs fun s' K3=>?_
  cases e:lt (p.getD k 0) (p.getD (k - 1) 0) with
  |true=>
   have LW:∀i,i<k->lt (p.getD i 0) (p.getD k 0)=false:=fun i hi=>by
    by_cases h:i=k - 1
    . rw [h];exact w.asy _ _ e
    . exact w.TL _ _ _ (hd i (k - 1) (by omega) (by omega)) (w.asy _ _ e)
   by_cases h0:q>0
   . simp only [if_true,if_pos h0]
     have hk:k<=p.size:=by rw [hp.sz];omega
     refine Fl f _ (k+1) 0 (Ga hp _ _) (by omega) (by omega) (fun i j Et hj=>?_) (fun i j a b c d=>?_) (fun p' k' q' s hs a b c d e f=>hq p' k' q' s hs a (by omega) (by omega) d e f) s' K3
     . rw [iI hk,iI hk]
       by_cases Y0:j=k
       . subst Y0
         rw [if_neg (show ¬(j - (q+1)<=j/\j<j) by omega)]
         by_cases hi:j - (q+1)<=i/\i<j
         . rw [if_pos hi];exact LW _ (by omega)
         . rw [if_neg hi];exact LW _ Et
       . by_cases hi:k - (q+1)<=i/\i<k
         . rw [if_pos hi,if_pos (show k - (q+1)<=j/\j<k by omega)]
           exact hl _ _ (by omega) (by omega) (by omega) (by omega)
         . rw [if_neg hi]
           by_cases Xr:k - (q+1)<=j/\j<k
           . rw [if_pos Xr];exact hd _ _ (by omega) (by omega)
           . rw [if_neg Xr];exact hd _ _ Et (by omega)
     . have:i=k:=by omega
       have:j=k:=by omega
       subst_vars
       exact w.irr _
   . simp only [if_true,if_neg h0]
     refine Fl f _ (k+1) 0 hp (by omega) (by omega) (fun i j Et hj=>?_) (fun i j a b c d=>?_) (fun p' k' q' s hs a b c d e f=>hq p' k' q' s hs a (by omega) (by omega) d e f) s' K3
     . by_cases Y0:j=k
       . subst Y0;exact LW _ Et
       . exact hd _ _ Et (by omega)
     . have:i=k:=by omega
       have:j=k:=by omega
       subst_vars
       exact w.irr _
  |false=>
   simp only [Bool.false_eq_true,if_false]
   refine ha _ _ _ _ (hp.low (by omega)) (hp.low (by omega)) K3 fun s2 Qc=>?_
   cases e2:lt (p.getD (k - 1) 0) (p.getD k 0) with
   |true=>simp only [if_true];exact hq p k q s2 Qc hp (Nat.le_refl _) (by omega) h1 hd hl
   |false=>
    simp only [Bool.false_eq_true,if_false]
    refine Fl f _ (k+1) (q+1) hp (by omega) (by omega) (fun i j Et hj=>?_) (fun i j a b c d=>?_) (fun p' k' q' s hs a b c d e f=>hq p' k' q' s hs a (by omega) (by omega) d e f) s2 Qc
    . by_cases Y0:j=k
      . subst Y0
        by_cases h:i=j - 1
        . rw [h];exact e2
        . exact w.TL _ _ _ (hd i (j - 1) (by omega) (by omega)) e2
      . exact hd _ _ Et (by omega)
    . by_cases hi:i=k
      . by_cases hj:j=k
        . rw [hi,hj];exact w.irr _
        . rw [hi];exact w.TL _ _ _ e (hl _ _ (by omega) (by omega) (by omega) (by omega))
      . by_cases hj:j=k
        . rw [hj];exact w.TL _ _ _ (hl _ _ (by omega) (by omega) (by omega) (by omega)) e2
        . exact hl _ _ (by omega) (by omega) (by omega) (by omega)
theorem Km {Q:Nat × Array Nat->Shared->Prop} {p:Array Nat} {k:Nat} (hp:Ix n p) (h1:1<=k) (hk:k<=n) (hd:Down lt p k) (hq:∀m p' s,S s->Ix n p'->1<=m->m<=n->Up lt p' m->Q (m,p') s) (s:Shared) (hs:S s):(kas_tail3 k n p).kasWp cmp Q s:=by
 unfold kas_tail3
 rw [KasT.kasWp_bind]
 have QL:k<=p.size:=by rw [hp.sz];exact hk
 refine Mt w ha (Ga hp 0 k) (n - k) k h1 (by omega) (fun i j Et hj=>?_) (fun m s hs a b c _=>hq m _ s hs (Ga hp _ _) (by omega) (by omega) c) s hs
 rw [iI QL,iI QL,if_pos (by omega),if_pos (by omega)]
 exact hd _ _ (by omega) (by omega)
theorem Ez {Q:Nat × Array Nat->Shared->Prop} {p:Array Nat} {k:Nat} (hp:Ix n p) (h1:1<=k) (hk:k+1<=n) (hd:Down lt p (k+1)) (hq:∀m p' s,S s->Ix n p'->1<=m->m<=n->Up lt p' m->Q (m,p') s) (s:Shared) (hs:S s):(kas_descPart k n p).kasWp cmp Q s:=by
 unfold kas_descPart
 rw [KasT.kasWp_bind]
 refine Fl w ha _ p (k+1) 0 hp (by omega) (by omega) hd (fun i j a b c d=>?_) (fun p' k' q' s hs hp' a b c Nu hl=>?_) s hs
 . have:i=k:=by omega
   have:j=k:=by omega
   subst_vars
   exact w.irr _
 . by_cases h0:q'>0
   . simp only [if_pos h0]
     have QL:k'<=p'.size:=by rw [hp'.sz];omega
     refine Km w ha (Ga hp' _ _) (by omega) (by omega) (fun i j Et hj=>?_) hq s hs
     rw [iI QL,iI QL]
     by_cases hi:k' - (q'+1)<=i/\i<k'
     . rw [if_pos hi,if_pos (by omega)];exact hl _ _ (by omega) (by omega) (by omega) (by omega)
     . rw [if_neg hi]
       by_cases Xr:k' - (q'+1)<=j/\j<k'
       . rw [if_pos Xr];exact Nu _ _ (by omega) (by omega)
       . rw [if_neg Xr];exact Nu _ _ Et (by omega)
   . simp only [if_neg h0]
     exact Km w ha hp' (by omega) (by omega) Nu hq s hs
theorem Tj {Q:Nat × Array Nat->Shared->Prop} {p:Array Nat} (hn:1<=n) (hp:Ix n p) (hq:∀m p' s,S s->Ix n p'->1<=m->m<=n->Up lt p' m->Q (m,p') s) (s:Shared) (hs:S s):(kas_count n p).kasWp cmp Q s:=by
 unfold kas_count
 rw [KasT.kasWp_bind]
 refine Mt w ha hp (n - 1) 1 (Nat.le_refl _) (by omega) (fun i j _ _=>by omega) (fun m s hs a b hu hc=>?_) s hs
 by_cases hm:(m==n)=true
 . simp only [if_pos hm];exact hq m p s hs hp a (by have:=beq_iff_eq.mp hm;omega) hu
 . simp only [if_neg hm]
   have ZW:m≠n:=fun z=>hm (beq_iff_eq.mpr z)
   have fq:m<n:=by omega
   have Qh:lt (p.getD m 0) (p.getD (m - 1) 0)=true:=by
    rcases hc with hc|hc
    . omega
    . exact hc.2
   by_cases h1:m>1
   . simp only [if_pos h1]
     refine ha _ _ _ _ (hp.low (by omega)) (hp.low (by omega)) hs fun s2 Qc=>?_
     cases e:lt (p.getD 0 0) (p.getD (m - 1) 0) with
     |true=>simp only [if_true];exact hq m p s2 Qc hp a (by omega) hu
     |false=>
      simp only [Bool.false_eq_true,if_false]
      have hk:m<=p.size:=by rw [hp.sz];omega
      have al:∀i j,i<m->j<m->lt (p.getD i 0) (p.getD j 0)=false:=fun i j hi hj=>by
       have h1:lt (p.getD i 0) (p.getD 0 0)=false:=by
        by_cases h:i=0
        . rw [h];exact w.irr _
        . exact hu 0 i (by omega) hi
       have h2:lt (p.getD i 0) (p.getD (m - 1) 0)=false:=w.TL _ _ _ h1 e
       by_cases h:j=m - 1
       . rw [h];exact h2
       . exact w.TL _ _ _ h2 (hu j (m - 1) (by omega) (by omega))
      refine Ez w ha (Ga hp _ _) a (by omega) (fun i j Et hj=>?_) hq s2 Qc
      rw [iI hk,iI hk,if_pos (by omega)]
      by_cases hjm:j<m
      . rw [if_pos (by omega)];exact al _ _ (by omega) (by omega)
      . rw [if_neg (by omega)]
        have:j=m:=by omega
        subst this
        exact w.TL _ _ _ (al _ (j - 1) (by omega) (by omega)) (w.asy _ _ Qh)
   . simp only [if_neg h1]
     refine Ez w ha hp a (by omega) (fun i j Et hj=>?_) hq s hs
     have h1:m=1:=by omega
     have hi:i=m - 1:=by omega
     have hj:j=m:=by omega
     rw [hi,hj]
     exact w.asy _ _ Qh
theorem F4 {p:Array Nat} {k:Nat} (hp:Ix n p) (hk:k<n) (hu:Up lt p k) {Q:Nat->Shared->Prop}:∀(f l r:Nat),l<=r->r<=k->r - l<=f->(∀i,i<l->lt (p.getD k 0) (p.getD i 0)=false)->(∀i,r<=i->i<k->lt (p.getD k 0) (p.getD i 0)=true)->
 (∀l s,S s->l<=k->(∀i,i<l->lt (p.getD k 0) (p.getD i 0)=false)->(∀i,l<=i->i<k->lt (p.getD k 0) (p.getD i 0)=true)->Q l s)->∀s,S s->(kas_place p k f l r).kasWp cmp Q s
 |0,l,r,hlr,hr,hf,h1,h2,hq,s,hs=>hq l s hs (by omega) h1 (fun i a b=>h2 i (by omega) b)
 |f+1,l,r,hlr,hr,hf,h1,h2,hq,s,hs=>by
  unfold kas_place
  by_cases h:l≥r
  . rw [if_pos h];exact hq l s hs (by omega) h1 (fun i a b=>h2 i (by omega) b)
  . rw [if_neg h]
    refine ha _ _ _ _ (hp.low hk) (hp.low (by omega)) hs fun s' K3=>?_
    cases e:lt (p.getD k 0) (p.getD ((l+r) / 2) 0) with
    |true=>
     simp only [if_true]
     refine F4 hp hk hu f l ((l+r) / 2) (by omega) (by omega) (by omega) h1 (fun i a b=>?_) hq s' K3
     by_cases hi:i=(l+r) / 2
     . rw [hi];exact e
     . cases e3:lt (p.getD k 0) (p.getD i 0) with
       |true=>rfl
       |false=>rw [w.TL _ _ _ e3 (hu ((l+r) / 2) i (by omega) b)] at e;exact e
    |false=>
     simp only [Bool.false_eq_true,if_false]
     refine F4 hp hk hu f ((l+r) / 2+1) r (by omega) (by omega) (by omega) (fun i a=>?_) h2 hq s' K3
     by_cases hi:i=(l+r) / 2
     . rw [hi];exact e
     . exact w.TL _ _ _ e (hu i ((l+r) / 2) (by omega) (by omega))
theorem SD {Q:Array Nat->Shared->Prop}:∀(f:Nat) (p:Array Nat) (k:Nat),Ix n p->k+f=n->Up lt p k->(∀p' s,S s->Ix n p'->Up lt p' n->Q p' s)->∀s,S s->(kas_bin f p k).kasWp cmp Q s
 |0,p,k,hp,hf,hu,hq,s,hs=>by
  have:k=n:=by omega
  subst this
  exact hq p s hs hp hu
 |f+1,p,k,hp,hf,hu,hq,s,hs=>by
  unfold kas_bin
  rw [KasT.kasWp_bind]
  refine F4 w ha hp (by omega) hu k 0 k (by omega) (Nat.le_refl _) (by omega) (fun i h=>by omega) (fun i a b=>by omega) (fun l s hs hl h1 h2=>?_) s hs
  have hk:k<p.size:=by rw [hp.sz];omega
  refine SD f _ (k+1) (hp.perm (bubble_perm _ _ _)) (by omega) (fun i j Et hj=>?_) hq s hs
  rw [JO hk (by omega),JO hk (by omega)]
  have el:k - (k - l)=l:=by omega
  rw [el]
  by_cases hjl:j=l
  . rw [if_pos hjl,if_neg (by omega),if_neg (by omega)];exact h1 i (by omega)
  . rw [if_neg hjl]
    by_cases hil:i=l
    . rw [if_pos hil,if_pos (by omega)];exact w.asy _ _ (h2 _ (by omega) (by omega))
    . rw [if_neg hil]
      by_cases G8:l<i/\i<=k
      . rw [if_pos G8,if_pos (by omega)];exact hu _ _ (by omega) (by omega)
      . rw [if_neg G8]
        by_cases Xr:l<j/\j<=k
        . rw [if_pos Xr];exact hu _ _ (by omega) (by omega)
        . rw [if_neg Xr];exact hu _ _ Et (by omega)
theorem MZ {Q:Array Nat->Shared->Prop} (hn:1<=n) (hq:∀p' s,S s->Ix n p'->Up lt p' n->Q p' s) (s:Shared) (hs:S s):(kas_sort n).kasWp cmp Q s:=by
 unfold kas_sort
 rw [KasT.kasWp_bind]
 refine Tj w ha hn ⟨by simp,by simp⟩ (fun m p' s hs hp h1 hm hu=>?_) s hs
 by_cases h:m<n
 . simp only [if_pos h]
   have:max m 1=m:=by omega
   rw [this]
   exact SD w ha _ p' m hp (by omega) hu hq s hs
 . simp only [if_neg h]
   have:m=n:=by omega
   subst this
   exact hq p' s hs hp hu
end
section
variable {X:Cx} {pins:List (Addr × Obj)} {σ:St} {H H':Hp} {s:Shared} {a:Addr}
theorem Inv.J2 {f:Obj->Obj} (I:Inv X pins σ H s) (fa:ve X pins H a):Inv X pins σ H {s with heap:=s.heap.update a f}:=
 I.turned (t':=s.toks) (fun b o hb e=>by rw [Heap.get?_update_ne _ _ _ _ hb];exact e) fa.1 fa.2.1 fa.2.2.2.1 fa.2.2.2.2.1 fa.2.2.2.2.2
theorem Inv.D9 {o:Obj} (I:Inv X pins σ H s):Inv X pins σ H {s with heap:=s.heap.push o}:=I.kept (t':=s.toks) fun b u e=>Heap.get?_push_of_some _ e
theorem Inv.MY {acc:List V} {a8:List Value} {n:Nat} (I:Inv X pins σ H s) (fa:ve X pins H a) (G3:X.ig.heap.objs.size<=a) (hl:acc.length<=sizeLine) (r:Vals acc a8) (hd:s.heap.get? a=some {cls:=.type "list",data:=.seq a8.toArray n}):
 Inv X pins σ (upd H a (.lst acc)) s:=by
 have ne:∀b u,H b=some u->b≠a:=fun b u e=>aA e fa.1
 have old:∀b o,X.ig.heap.get? b=some o->b≠a:=fun b o e=>Nat.ne_of_lt (Nat.lt_of_lt_of_le (Heap.lt_size e) G3)
 have U:=I.base
 refine⟨I.ok,I.os,I.bare,⟨U.keep,U.slot,fun b o e n hx=>?_,U.there,fun b xs e=>?_,fun b o u e=>?_,fun b ps e=>?_⟩,I.loc,I.cell,?_,fun x c e=>?_,fun p hp=>?_,fun b u e=>?_,I.len⟩
 . rw [ay (old b o e)];exact U.free b o e n hx
 . rw [ay (ne b _ (U.Cy b xs e))];exact U.Cy b xs e
 . rw [ay (ne b _ (U.yk b o u e))];exact U.yk b o u e
 . obtain⟨more,q⟩:=U.E4 b ps e
   exact⟨more,by rw [ay (ne b _ q)];exact q⟩
 . rw [ay (Ne.symm fa.2.1)];exact I.free
 . rw [ay (fa.2.2.2.2.1 x c e)];exact I.mH x c e
 . obtain⟨e1,e2,e3⟩:=I.pin p hp
   exact⟨e1,by rw [ay (fa.2.2.2.2.2 p hp)];exact e2,e3⟩
 . by_cases hb:b=a
   . subst hb
     rw [ao] at e
     cases e
     exact⟨hl,a8,n,r,hd⟩
   . rw [ay hb] at e
     exact(I.bL b u e).Jh (fun c v _ q=>q) (fun c q=>by rw [ay (ne c _ q)];exact q) fun c xs q=>by rw [ay (ne c _ q)];exact q
end
def A4 (a b:Str):Bool:=decide (a.cps.toList<b.cps.toList)
def jx (a b:Int × Str):Bool:=decide (a.1<b.1)||(decide (a.1=b.1)&&A4 a.2 b.2)
theorem Jw (a:Str):A4 a a=false:=decide_eq_false (List.lt_irrefl _)
theorem NQ {a b:Str} (h:A4 a b=true):A4 b a=false:=decide_eq_false (List.lt_asymm (of_decide_eq_true h))
theorem Im {a b c:Str} (h:A4 a b=false) (h2:A4 b c=false):A4 a c=false:=by
 unfold A4 at*
 have TF:b.cps.toList<=a.cps.toList:=List.not_lt.mp (of_decide_eq_false h)
 have Zd:c.cps.toList<=b.cps.toList:=List.not_lt.mp (of_decide_eq_false h2)
 exact decide_eq_false (List.not_lt.mpr (List.le_trans Zd TF))
theorem Vq {a b:Str} (h:a.cps.toList=b.cps.toList):a=b:=by
 cases a;cases b
 simp only at h
 rw [Array.toList_inj.mp h]
theorem VA {a b:Str} (h:A4 a b=false) (h2:A4 b a=false):a=b:=by
 unfold A4 at*
 have TF:b.cps.toList<=a.cps.toList:=List.not_lt.mp (of_decide_eq_false h)
 have Zd:a.cps.toList<=b.cps.toList:=List.not_lt.mp (of_decide_eq_false h2)
 exact Vq (List.le_antisymm Zd TF)
theorem R8 {a b:Int × Str}:jx a b=true↔a.1<b.1\/(a.1=b.1/\A4 a.2 b.2=true):=by
 unfold jx;simp
theorem j8 {a b:Int × Str}:jx a b=false↔¬a.1<b.1/\(a.1=b.1->A4 a.2 b.2=false):=by
 unfold jx;simp
theorem Kg (a:Int × Str):jx a a=false:=j8.mpr ⟨by omega,fun _=>Jw _⟩
theorem RH {a b:Int × Str} (h:jx a b=true):jx b a=false:=by
 rcases R8.mp h with h|⟨h,h2⟩
 . exact j8.mpr ⟨by omega,fun _=>by omega⟩
 . exact j8.mpr ⟨by omega,fun _=>NQ h2⟩
theorem QJ {a b c:Int × Str} (h:jx a b=false) (h2:jx b c=false):jx a c=false:=by
 obtain⟨h1,h3⟩:=j8.mp h
 obtain⟨h4,h5⟩:=j8.mp h2
 refine j8.mpr ⟨by omega,fun e=>?_⟩
 exact Im (h3 (by omega)) (h5 (by omega))
section
variable {prog:Program} {w:World} {A:Around} {E:Value->Shared->Prop} {s:Shared}
theorem Wg {x y:Addr} {i j:Int} {t u t2 u2:Tok} {c d:Str} {Q:Bool->Shared->Prop} (hx:IsTup s.heap x #[.int i t,.str c t2]) (hy:IsTup s.heap y #[.int j u,.str d u2]) (h:Q (jx (i,c) (j,d)) s):
 wpAny (model prog w) A (keyLt' (tuples' true) (.ref x) (.ref y)) Q E s:=by
 obtain⟨ox,hox,cx,nx,dx⟩:=hx
 obtain⟨oy,hoy,cy,ny,dy⟩:=hy
 refine kat_lt hox dx hoy dy ?_
 refine kat_cons (wpAny_eqBool_int ?_)
 by_cases e:i=j
 . rw [show(i==j)=true from beq_iff_eq.mpr e]
   refine kat_yes (kat_cons (wpAny_eqBool_str ?_))
   by_cases e2:c=d
   . rw [decide_eq_true e2]
     refine kat_yes (kat_nil ?_)
     have:jx (i,c) (j,d)=false:=by rw [e,e2];exact Kg _
     rw [this] at h
     exact h
   . rw [decide_eq_false e2]
     refine kat_no (kat_one _ _ (lt_str ?_))
     have:jx (i,c) (j,d)=A4 c d:=by unfold jx;simp [e]
     rw [this] at h
     exact h
 . rw [show(i==j)=false from beq_eq_false_iff_ne.mpr e]
   refine kat_no (oneLt_int ?_)
   have:jx (i,c) (j,d)=decide (i<j):=by unfold jx;simp [e]
   rw [this] at h
   exact h
end
def Nb {α:Type} (lt:α->α->Bool) (kf:V->α) (ys xs:List V):Prop:=ys.Perm xs/\ys.Pairwise fun x y=>lt (kf y) (kf x)=false
section
variable {X:Cx} {pins:List (Addr × Obj)} {σ:St} {H:Hp} {s:Shared} {k:Nat} {f:Addr} {fd:FuncData} {ps:List Str} {sp:Sp} {kf:V->Int × Str} {A:Around}
structure aiq (X:Cx) (pins:List (Addr × Obj)) (σ:St) (H:Hp) (kf:V->Int × Str) (a kS:Addr) (oa:Obj) (xs:List V) (s':Shared):Prop where
 mk::
 ex:∃H' us e ys,Inv X pins σ H' s'/\ax H H'/\H' a=none/\H' kS=none/\s'.heap.get? a=some oa/\s'.heap.get? kS=some (seqObj "list" (List.toArray us) e)/\Vals ys us/\cK H' ys (xs.map fun v=>.tuple [.int (kf v).1,.str (kf v).2])
theorem J7 {xs:List V} {p:Array Nat} {α:Type} {lt:α->α->Bool} {kf:V->α} (hp:Ix xs.length p) (hu:Up (fun i j=>lt (kf (xs.getD i .aQ)) (kf (xs.getD j .aQ))) p xs.length):Nb lt kf (p.toList.map fun i=>xs.getD i .aQ) xs:=by
 refine⟨?_,?_⟩
 . have h:=hp.pm.map fun i=>xs.getD i .aQ
   have e:(List.range xs.length).map (fun i=>xs.getD i .aQ)=xs:=by
    refine List.ext_getElem? fun i=>?_
    rw [List.getElem?_map]
    by_cases hi:i<xs.length
    . rw [List.getElem?_range hi];simp [hi]
    . rw [List.getElem?_eq_none (by simpa using hi),List.getElem?_eq_none (by simpa using hi)];rfl
   rw [e] at h
   exact h
 . rw [List.pairwise_map,List.pairwise_iff_getElem]
   intro i j hi hj Et
   have hsz:p.toList.length=xs.length:=by simp [hp.sz]
   have:=hu i j Et (by omega)
   have gi:p.getD i 0=p.toList[i]:=by simp [Array.getD,show i<p.size by rw [hp.sz];omega]
   have gj:p.getD j 0=p.toList[j]:=by simp [Array.getD,show j<p.size by rw [hp.sz];omega]
   rw [gi,gj] at this
   exact this
theorem yc:∀{xs:List V} {us:List Value} (i:Nat),Vals xs us->RelV (xs.getD i .aQ) (us.getD i Value.none)
 |_,_,_,.nil=>rfl
 |_,_,0,.cons r _=>r
 |_,_,i+1,.cons _ t=>by simpa using yc i t
theorem DR {xs:List V} {us:List Value} (r:Vals xs us):∀l:List Nat,Vals (l.map fun i=>xs.getD i .aQ) (l.map fun i=>us.getD i Value.none)
 |[]=>.nil
 |i::l=>.cons (yc i r) (DR r l)
theorem JH {H:Hp} {g:V->PyData}:∀{ys:List V} {xs:List V} {i:Nat},cK H ys (xs.map g)->i<xs.length->Dv H (ys.getD i .aQ) (g (xs.getD i .aQ))
 |_,[],_,_,h=>by simp at h
 |_,_::_,0,.cons h _,_=>h
 |_,_::_,i+1,.cons _ t,hi=>by simpa using JH (i:=i) t (by simpa using hi)
def NC (X:Cx) (pins:List (Addr × Obj)) (σ:St) (H:Hp) {α:Type} (lt:α->α->Bool) (kf:V->α) (xs:List V) (Q:VK):Prop:=
 ∀a ys H',ax H H'->H a=none->H' a=none->Nb lt kf ys xs->Q (.ref a) (upd H' a (.lst ys))
theorem OW {H':Hp} {s':Shared} {xs ys:List V} {us:List Value} {A:Around} (I:Inv X pins σ H' s') (rv:Vals ys us) (dv:cK H' ys (xs.map fun v=>.tuple [.int (kf v).1,.str (kf v).2])):
 Yi xs.length (fun i j=>jx (kf (xs.getD i .aQ)) (kf (xs.getD j .aQ))) (fun z=>z=s') (kas_ask X.prog X.w A (tuples' true) us):=by
 intro i j C z hi hj hz hC
 subst hz
 have one:∀i,i<xs.length->∃x t t2,us.getD i Value.none=.ref x/\IsTup z.heap x #[.int (kf (xs.getD i .aQ)).1 t,.str (kf (xs.getD i .aQ)).2 t2]:=fun i hi=>by
  have d:=JH dv hi
  have r:=yc i rv
  generalize ys.getD i .aQ=y at d r
  generalize us.getD i Value.none=u at r
  cases d with
  |tup h q=>
   have r':u=.ref _:=r
   obtain⟨a8,rr,tt,_⟩:=I.tuple (.of h)
   cases q with
   |cons h1 q=>
    cases q with
    |cons h2 q=>
     cases q
     cases h1;cases h2
     cases rr with
     |cons r1 rr=>
      cases rr with
      |cons r2 rr=>
       cases rr
       obtain⟨t1,rfl⟩:=r1
       obtain⟨t2,rfl⟩:=r2
       exact⟨_,t1,t2,r',tt⟩
 obtain⟨x,t,t2,e1,hx⟩:=one i hi
 obtain⟨y,u,u2,e2,hy⟩:=one j hj
 show wpAny (model X.prog X.w) A (keyLt' (tuples' true) (us.getD i Value.none) (us.getD j Value.none)) C (fun _ _=>False) z
 rw [e1,e2]
 exact Wg hx hy (hC _ rfl)
theorem Fv {H':Hp} {s':Shared}:∀{xs ys:List V} {us:List Value},Inv X pins σ H' s'->Vals ys us->cK H' ys (xs.map fun v=>.tuple [.int (kf v).1,.str (kf v).2])->
 ∃fs,KatTups s'.heap us fs/\fs.length=us.length/\∀v∈fs,Looks (model X.prog X.w) s'.heap (typeOf v) (.type "int")
 |[],_,_,I,rv,dv=>by
  cases dv
  cases rv
  exact⟨[],trivial,rfl,fun _ z=>nomatch z⟩
 |x::xs,_,_,I,rv,dv=>by
  cases dv with
  |cons d dv=>
   cases rv with
   |cons r rv=>
    obtain⟨fs,h1,h2,h3⟩:=Fv I rv dv
    cases d with
    |tup h q=>
     obtain⟨a8,rr,tt,_⟩:=I.tuple (.of h)
     cases q with
     |cons q1 q=>
      cases q with
      |cons q2 q=>
       cases q
       cases q1;cases q2
       cases rr with
       |cons r1 rr=>
        cases rr with
        |cons r2 rr=>
         cases rr
         obtain⟨t1,rfl⟩:=r1
         obtain⟨t2,rfl⟩:=r2
         cases r
         obtain⟨o,ho,hc,n,hd⟩:=tt
         refine⟨_::fs,KatTups.cons ho hc hd rfl h1,by simp [h2],fun v hv=>?_⟩
         rcases List.mem_cons.mp hv with rfl|hv
         . exact .now
         . exact h3 v hv
end
section
variable {X:Cx} {pins:List (Addr × Obj)} {σ:St} {H:Hp} {s:Shared} {k:Nat} {f:Addr} {fd:FuncData} {ps:List Str} {sp:Sp} {kf:V->Int × Str} {A:Around}
end
section
variable {X:Cx} {k:Nat} {f:Addr} {ps:List Str} {sp:Sp} {e:Expr} {t:TA} {x:Str} {p p2 pos Y8:Pos}
end
end L2
namespace L2
open PySem PySem.Spec PyProof.Rows
theorem Fs {scope:Scope} {env:Env} (h:∀x∈scope.names,x.2=.free->∃c,env.cells.lookup x.1=some c):
 ∃cl,closureFor scope env=pure cl/\(∀x c,cl.lookup x=some c->env.cells.lookup x=some c)/\∀x∈scope.names,x.2=.free->∃c,cl.lookup x.1=some c:=by
 have key:∀(l:List (Str × NameKind)) (acc:List (Str × Addr)),(∀x∈l,x.2=.free->∃c,env.cells.lookup x.1=some c)->(∀x c,acc.lookup x=some c->env.cells.lookup x=some c)->
  ∃cl,(forIn l acc (fun(x:Str × NameKind) (r:List (Str × Addr))=>(match x with
   |(name,kind)=>if (kind==NameKind.free)=true then (do let c <-cellOf env name;pure (ForInStep.yield ((name,c)::r))) else pure (ForInStep.yield r):Sem (ForInStep (List (Str × Addr))))):Sem _)=pure cl/\
   (∀x c,cl.lookup x=some c->env.cells.lookup x=some c)/\(∀x∈l,x.2=.free->∃c,cl.lookup x.1=some c)/\∀x,(∃c,acc.lookup x=some c)->∃c,cl.lookup x=some c:=by
  intro l
  induction l with
  |nil=>intro acc _ ha;exact⟨acc,rfl,ha,fun _ z=>(nomatch z),fun _ z=>z⟩
  |cons p r ih=>
   intro acc hl ha
   obtain⟨n,k⟩:=p
   rw [List.forIn_cons]
   by_cases hk:k=.free
   . subst hk
     obtain⟨c,hc⟩:=hl (n,.free) List.mem_cons_self rfl
     have HR:cellOf env n=pure c:=by unfold cellOf;rw [hc]
     obtain⟨cl,e,h1,h2,h3⟩:=ih ((n,c)::acc) (fun x hx=>hl x (List.mem_cons_of_mem _ hx)) (fun x d hd=>by
      rw [List.lookup_cons] at hd
      by_cases hx:x=n
      . subst hx;rw [beq_self_eq_true] at hd;cases hd;exact hc
      . rw [beq_eq_false_iff_ne.mpr hx] at hd;exact ha x d hd)
     refine⟨cl,?_,h1,fun x hx hf=>?_,fun x ⟨d,hd⟩=>h3 x ?_⟩
     . simp only [beq_self_eq_true,if_true,HR]
       exact e
     . rcases List.mem_cons.mp hx with rfl|hx
       . exact h3 n ⟨c,by rw [List.lookup_cons,beq_self_eq_true]⟩
       . exact h2 x hx hf
     . rw [List.lookup_cons]
       by_cases hx:x=n
       . subst hx;rw [beq_self_eq_true];exact⟨c,rfl⟩
       . rw [beq_eq_false_iff_ne.mpr hx];exact⟨d,hd⟩
   . obtain⟨cl,e,h1,h2,h3⟩:=ih acc (fun x hx=>hl x (List.mem_cons_of_mem _ hx)) ha
     refine⟨cl,?_,h1,fun x hx hf=>?_,h3⟩
     . have:(k==NameKind.free)=false:=by simpa using hk
       simp only [this,Bool.false_eq_true,if_false]
       exact e
     . rcases List.mem_cons.mp hx with rfl|hx
       . exact absurd hf hk
       . exact h2 x hx hf
 obtain⟨cl,e,h1,h2,_⟩:=key scope.names [] h (fun _ _ z=>by simp at z)
 refine⟨cl,?_,h1,h2⟩
 unfold closureFor
 show(forIn scope.names [] _>>=fun cs=>pure cs)=_
 refine Eq.trans (congrArg (·>>=_) e) rfl
theorem rj {env:Env} {scope:Scope} {x:Str}:(relabel scope env).names.lookup x=(scope.names.lookup x).map fun k=>if (k==NameKind.free&&env.scope.kind==.function&&env.kindOf x==some .cell)=true then .cell else k:=by
 unfold relabel
 show List.lookup x (List.map _ scope.names)=_
 generalize scope.names=l
 induction l with
 |nil=>rfl
 |cons p r ih=>
  obtain⟨n,k⟩:=p
  rw [List.map_cons]
  dsimp only
  by_cases hx:x=n
  . subst hx
    by_cases hc:(k==NameKind.free&&env.scope.kind==.function&&env.kindOf x==some .cell)=true
    . rw [if_pos hc,List.lookup_cons,List.lookup_cons,beq_self_eq_true];simp only [Option.map_some,if_pos hc]
    . rw [if_neg hc,List.lookup_cons,List.lookup_cons,beq_self_eq_true];simp only [Option.map_some,if_neg hc]
  . have hb:(x==n)=false:=beq_eq_false_iff_ne.mpr hx
    by_cases hc:(k==NameKind.free&&env.scope.kind==.function&&env.kindOf n==some .cell)=true
    . rw [if_pos hc,List.lookup_cons,List.lookup_cons,hb];exact ih
    . rw [if_neg hc,List.lookup_cons,List.lookup_cons,hb];exact ih
theorem mem_lookup {α:Type} {x:Str} {k:α}:∀{l:List (Str × α)},l.lookup x=some k->(x,k)∈l
 |[],h=>by simp at h
 |(n,j)::r,h=>by
  rw [List.lookup_cons] at h
  by_cases hx:x=n
  . subst hx;rw [beq_self_eq_true] at h;cases h;exact List.mem_cons_self
  . rw [beq_eq_false_iff_ne.mpr hx] at h;exact List.mem_cons_of_mem _ (mem_lookup h)
def lQ (X:Cx) (N:List Str) (scope:Scope) (cl:List (Str × Addr)) (C:Addr) (s:Shared) (H:Hp) (fp:List Addr):Cx:=
 {X with N:=N,ig:=s,Mx:=H,env:=compEnvC scope cl C X.env,outer:=X.stack,stack:=X.stack,ex:=fp,fn:=fun _=>false,pn:=[],xe:=fun _ _=>False}
structure ye (X:Cx) (T M:List Str) (scope:Scope):Prop where
 kind:scope.kind=.function
 cell:∀y∈scope.names,y.2≠.cell
 names:∀y∈scope.names,y.2=.local->scope.names.lookup y.1=some .local
 free:∀y∈scope.names,y.2=.free->X.env.scope.names.lookup y.1=some .cell\/X.env.scope.names.lookup y.1=some .free
 len:M.length=X.N.length
 old:∀(i:Nat) x,M[i]? =some x->X.N[i]? =some x/\scope.names.lookup x=some .free\/scope.names.lookup x=none
section
variable {X:Cx} {pins:List (Addr × Obj)} {σ:St} {H:Hp} {s:Shared} {T M:List Str} {scope:Scope} {cl:List (Str × Addr)} {fp:List Addr}
theorem acU {C:Addr} (I:Inv X pins σ H s) (hN:ye X T M scope) (h1:∀x c,cl.lookup x=some c->X.env.cells.lookup x=some c) (h2:∀x∈scope.names,x.2=.free->∃c,cl.lookup x.1=some c)
 (hC:s.heap.objs.size<=C) (hf:∀b∈fp,ve X pins H b) (hfe:∀b∈fp,b<s.heap.objs.size):(lQ X (T++M) scope cl C s H fp).Ok where
 mod:=I.ok.mod
 kind:=hN.kind
 glob:=I.ok.glob
 blt:=I.ok.blt
 above:=hC
 inj:=fun x y c e1 e2=>I.ok.inj x y c (h1 x c e1) (h1 y c e2)
 has:=fun x hx=>by
  have GX:(relabel scope X.env).names.lookup x=some .cell\/(relabel scope X.env).names.lookup x=some .free:=hx
  rw [rj] at GX
  cases e:scope.names.lookup x with
  |none=>rw [e] at GX;simp at GX
  |some k=>
   have hm:=mem_lookup e
   have hk:k=.free:=by
    rw [e] at GX
    simp only [Option.map_some,Option.some.injEq] at GX
    by_cases hf:k=.free
    . exact hf
    . have:(k==NameKind.free)=false:=by simpa using hf
      simp only [this,Bool.false_and,Bool.false_eq_true,if_false] at GX
      rcases GX with GX|GX
      . exact absurd GX (hN.cell _ hm)
      . exact GX
   exact h2 (x,k) hm hk
 cab:=fun _ _ z=>by cases z
 hd:=I.ok.hd
 frames:=I.ok.frames
 stk:=.inl rfl
 exf:=fun b hb=>⟨Nat.ne_of_lt (Nat.lt_of_lt_of_le (hfe b hb) hC),fun x c e=>(hf b hb).2.2.2.2.1 x c (h1 x c e)⟩
 bs:=I.bs
 Qu:=Nat.le_trans I.ok.Qu I.sz
 O5:=fun b o e hb=>by
  rcases (hf b hb).2.2.2.1 with z|z
  . exact I.ok.O5 b o e z
  . exact absurd (Nat.lt_of_lt_of_le (Heap.lt_size e) (Nat.le_trans I.ok.Qu z)) (Nat.lt_irrefl _)
 N9:=fun b hb z=>by
  rcases List.mem_cons.mp (I.Lj b z) with e|e
  . exact(hf b hb).2.1 e
  . exact(hf b hb).2.2.1 e
 Du:=I.stack
 Xg:=I.MV
theorem SW {C:Addr} {h₁:Heap} {tk:Nat} (I:Inv X pins σ H s) (hN:ye X T M scope) (h1:∀x c,cl.lookup x=some c->X.env.cells.lookup x=some c) (h2:∀x∈scope.names,x.2=.free->∃c,cl.lookup x.1=some c)
 (hC:s.heap.objs.size<=C) (hf:∀b∈fp,ve X pins H b) (hfe:∀b∈fp,b<s.heap.objs.size)
 {m:Str->Option Value} (hn:h₁.Ns C m) (old:∀b o,s.heap.get? b=some o->h₁.get? b=some o):
 Inv (lQ X (T++M) scope cl C s H fp) [] (List.replicate T.length none++σ) H {s with heap:=h₁,toks:=tk} where
 ok:=acU I hN h1 h2 hC hf hfe
 os:=rfl
 bare:=I.bare
 base:=Un.kept old
 loc:=by
  refine⟨m,hn,fun i x v e1 e2 e3=>?_⟩
  have e1':(T++M)[i]? =some x:=e1
  by_cases hi:i<T.length
  . rw [List.getElem?_append_left (by simpa using hi),List.getElem?_replicate,if_pos hi] at e2
    cases e2
  . have hi':T.length<=i:=Nat.le_of_not_lt hi
    rw [List.getElem?_append_right hi'] at e1'
    rw [List.getElem?_append_right (by simpa using hi'),List.length_replicate] at e2
    have vis:Vis (relabel scope X.env) x:=e3
    rcases hN.old _ x e1' with⟨hx,hfr⟩|hno
    . obtain⟨m0,G3,hl0⟩:=I.loc
      have hk:=hN.free _ (mem_lookup hfr) rfl
      have QL:X.env.scope.names.lookup x=some .cell\/X.env.scope.names.lookup x=some .free:=hk
      obtain⟨u,r,l⟩:=hl0 _ x v hx e2 (.inr QL)
      refine⟨u,r,.inr ?_⟩
      rcases l with⟨z,_⟩|⟨_,c,hc,HR⟩
      . have z':X.env.scope.names.lookup x=some .local:=z
        rw [z'] at QL;rcases QL with q|q <;>cases q
      . obtain⟨c',Qh⟩:=h2 _ (mem_lookup hfr) rfl
        have:c'=c:=by have:=h1 _ _ Qh;rw [hc] at this;exact(Option.some.inj this).symm
        subst this
        refine⟨?_,c',Qh,?_⟩
        . show(relabel scope X.env).names.lookup x=some .cell\/(relabel scope X.env).names.lookup x=some .free
          rw [rj,hfr]
          simp only [Option.map_some,Option.some.injEq]
          by_cases hc:(NameKind.free==NameKind.free&&X.env.scope.kind==.function&&X.env.kindOf x==some .cell)=true
          . left;rw [if_pos hc]
          . right;rw [if_neg hc]
        . obtain⟨o,ho,hd⟩:=HR
          exact⟨o,old _ _ ho,hd⟩
    . unfold Vis at vis
      rw [rj,hno] at vis
      simp at vis
 cell:=fun x c e=>by
  obtain⟨v,o,ho,hd⟩:=I.cell x c (h1 x c e)
  exact⟨v,o,old _ _ ho,hd⟩
 free:=I.bL.fresh hC
 mH:=fun x c e=>I.mH x c (h1 x c e)
 pin:=fun p hp=>nomatch hp
 bL:=I.bL.kept old
 len:=by
  show(List.replicate T.length none++σ).length=(T++M).length
  rw [List.length_append,List.length_append,List.length_replicate,hN.len,I.len]
theorem Wb {C D:Addr} {s':Shared} {σ':St} {H':Hp} {acc:List V} {a8:List Value} {n:Nat} (I:Inv X pins σ H s) (I':Inv (lQ X (T++M) scope cl C s H fp) [] σ' H' s')
 (hf:∀b∈fp,ve X pins H b) (hD:s.heap.objs.size<=D) (hn:H' D=none) (hl:acc.length<=sizeLine) (r:Vals acc a8) (hd:s'.heap.get? D=some {cls:=.type "list",data:=.seq a8.toArray n}):
 Inv X pins σ (upd H' D (.lst acc)) s':=by
 have U:Un (Kd X.stack) fp H H' s.heap s'.heap:=I'.base
 have neD:∀b o,s.heap.get? b=some o->b≠D:=fun b o e=>Nat.ne_of_lt (Nat.lt_of_lt_of_le (Heap.lt_size e) hD)
 have neT:∀b u,H' b=some u->b≠D:=fun b u e=>aA e hn
 refine I.acq (ch:=fp) I'.os ⟨U.keep,U.slot,fun b o e1 e2 e3=>?_,U.there,fun b xs e=>?_,fun b o u e=>?_,fun b ps e=>?_⟩ (fun b u e=>?_) I'.bare (fun b hb=>⟨(hf b hb).2.2.2.1,(hf b hb).2.1,(hf b hb).2.2.2.2.1,(hf b hb).2.2.2.2.2⟩)
 . rw [ay (neD b o e1)];exact U.free b o e1 e2 e3
 . rw [ay (neT b _ (U.Cy b xs e))];exact U.Cy b xs e
 . rw [ay (neT b _ (U.yk b o u e))];exact U.yk b o u e
 . obtain⟨more,q⟩:=U.E4 b ps e
   exact⟨more,by rw [ay (neT b _ q)];exact q⟩
 . by_cases hb:b=D
   . subst hb
     rw [ao] at e
     cases e
     exact⟨hl,a8,n,r,hd⟩
   . rw [ay hb] at e
     exact(I'.bL b u e).Jh (fun c v _ q=>q) (fun c q=>by rw [ay (neT c _ q)];exact q) fun c xs q=>by rw [ay (neT c _ q)];exact q
end
theorem LY {prog:Program} {w:World} {A:Around} {R:Result->Shared->Prop} {s:Shared} {elt target iter:Expr} {ifs:List Expr} {scope:Scope} {pos:Pos} {it acc:Value} {env:Env} (I:Nat->Shared->Prop)
 (turn:∀n s,I n s->wpAny (model prog w) A (pyNext it) (fun r s₁=>match r with
  |none=>R (.ok .next) s₁
  |some v=>wpAny (model prog w) A (letOwnedTupleGo target it v) (fun _ Wv=>wpAny (model prog w) A (assign target env v) (fun _ s₂=>
   wpAny (model prog w) A (forIn ifs true fun c r=>if r=true then do let ok <-isTrue c env (eval c env);pure (ForInStep.yield ok) else pure (ForInStep.yield r)) (fun ok s₃=>
    if ok=true then wpAny (model prog w) A (eval elt env) (fun x s₄=>
     wpAny (model prog w) A (call (.builtin "list.append") [acc,x]) (fun _ s₅=>∃m,m<n/\I m s₅) (fun _ _=>False) s₄) (fun _ _=>False) s₃
    else ∃m,m<n/\I m s₃) (fun _ _=>False) s₂) (fun _ _=>False) Wv) (fun _ _=>False) s₁) (fun _ _=>False) s)
 (n:Nat) (h:I n s):
 codeAny (model prog w) A (.compLoop (.ListComp elt [⟨target,iter,ifs,0⟩] scope pos) 0 it acc env) R s:=by
 refine codeAny_loop rfl I (fun n s hI=>?_) n h
 show wpAny _ A ((compTurn (.ListComp elt [⟨target,iter,ifs,0⟩] scope pos) 0 it acc env).onRaise (fun x=>do noteFrame x env;theTreesLotGoes x)) _ _ s
 refine wpAny_noted ?_
 rw [compTurn_list]
 refine wpAny_bind (wpAny_standAt (wpAny_bind (wpAny_mono (turn n s hI) (fun r s₁ h₁=>?_) fun _ _ h'=>h'.elim)))
 cases r with
 |none=>exact wpAny_pure h₁
 |some v=>
  refine wpAny_bind (wpAny_mono h₁ (fun _ Wv aby=>?_) fun _ _ h'=>h'.elim)
  refine wpAny_bind (wpAny_mono aby (fun _ s₂ h₂=>wpAny_bind (wpAny_mono h₂ (fun ok s₃ h₃=>?_) fun _ _ h'=>h'.elim)) fun _ _ h'=>h'.elim)
  cases ok with
  |false=>exact wpAny_pure ⟨rfl,h₃⟩
  |true=>
   exact wpAny_bind (wpAny_bind (wpAny_mono h₃ (fun x s₄ h₄=>wpAny_bind (wpAny_mono h₄ (fun _ s₅ h₅=>wpAny_pure (wpAny_pure ⟨rfl,h₅⟩)) fun _ _ h'=>h'.elim)) fun _ _ h'=>h'.elim))
def PIf (X:Cx) (ifs:List Expr) (t:TT):Prop:=
 ∀(pins:List (Addr × Obj)) (s:Shared) (σ:St) (H:Hp) (Q:Bool->Hp->Prop),Inv X pins σ H s->t σ H Q->
  wpAny (model X.prog X.w) X.A (forIn ifs true fun c r=>if r=true then do let ok <-isTrue c X.env (eval c X.env);pure (ForInStep.yield ok) else pure (ForInStep.yield r)) (TP X pins σ Q) X.xe s
def aet:TT:=fun _ H Q=>Q true H
theorem rH {X:Cx}:PIf X [] aet:=fun _ _ _ H _ I h=>wpAny_tests_nil ⟨H,I,h⟩
theorem Fn {X:Cx} {c:Expr} {t:TT} (h:PT X c t):PIf X [c] t:=fun pins s σ H Q I q=>wpAny_tests_one (h pins s σ H Q I q)
def Y6 (k:Nat) (g:TG) (tc:TT) (te:TE) (Fin:List V->Hp->Prop) (σ:St) (J:It) (H1:Hp):Prop:=
 ∃W:Nat->Nat->List V->Hp->Prop,(∃m,W 0 m [] H1)/\∀i m acc H,W i m acc H->
  (J.stop i H/\Fin acc H)\/(J.go i H/\acc.length<sizeLine/\∀x H',J.ZS i H x H'->g x (List.replicate k none++σ) H' fun σ2 H2=>tc σ2 H2 fun b H3=>
   if b=true then te σ2 H3 fun y H4=>∃m',m'<m/\W (i+1) m' (acc++[y]) H4 else ∃m',m'<m/\W (i+1) m' acc H3)
section
variable {X:Cx} {pins:List (Addr × Obj)} {σ:St} {H:Hp} {s:Shared} {T M:List Str} {scope:Scope} {cl:List (Str × Addr)} {fp:List Addr} {g:TG} {tc:TT} {te:TE} {tg elt iter:Expr} {ifs:List Expr} {pos:Pos}
theorem Inv.forget {X:Cx} {pins:List (Addr × Obj)} {σ σ':St} {H:Hp} {s:Shared} (I:Inv X pins σ' H s) (k:Nat) (hk:k+σ.length=σ'.length) (h:σ'.drop k=σ):Inv X pins (List.replicate k none++σ) H s:=by
 refine I.weak (by simp [hk]) (fun i v e=>?_)
 by_cases hi:i<k
 . rw [List.getElem?_append_left (by simpa using hi),List.getElem?_replicate,if_pos hi] at e;cases e
 . rw [List.getElem?_append_right (by simpa using hi),List.length_replicate,<-h,List.getElem?_drop] at e
   have:k+(i - k)=i:=by omega
   rw [this] at e;exact e
theorem QP {it:Addr} {tn:Nat->Heap->Prop} {J:It} {RR:Value->Addr->Result->Shared->Prop} {Fin:List V->Hp->Prop} {E:Value->Shared->Prop}
 (hN:ye X T M scope) (Hh:X.calm=true) (h1:∀x c,cl.lookup x=some c->X.env.cells.lookup x=some c) (h2:∀x∈scope.names,x.2=.free->∃c,cl.lookup x.1=some c)
 (hg:∀cl C s H fp,PG (lQ X (T++M) scope cl C s H fp) tg g) (hgk:∀v H Q,g v (List.replicate T.length none++σ) H Q->g v (List.replicate T.length none++σ) H fun σ2 H2=>Q σ2 H2/\T.length+σ.length=σ2.length/\σ2.drop T.length=σ)
 (hc:∀cl C s H fp,PIf (lQ X (T++M) scope cl C s H fp) ifs tc) (he:∀cl C s H fp,PE (lQ X (T++M) scope cl C s H fp) elt te)
 (I:Inv X pins σ H s) (Tn:Turn X.prog X.w X.K tg J fp it tn) (st:tn 0 s.heap) (hf:∀b∈fp,ve X pins H b) (hW:Y6 T.length g tc te Fin σ J H)
 (hR:∀D C s' H' acc m,s.heap.objs.size<=D->s.heap.objs.size<=C->C≠D->s'.heap.Ns C m->H' C=none->H' D=none->Inv X pins σ (upd H' D (.lst acc)) s'->Fin acc H'->RR (.ref D) C (.ok .next) s'):
 wpAny (model X.prog X.w) X.A (newList []) (fun acc s₃=>wpAny (model X.prog X.w) X.A (newFunctionEnv scope X.env.globals cl [] X.env.qual none .none (some X.env)) (fun acP s₄=>
  codeAny (model X.prog X.w) X.A (.compStart (.ListComp elt [⟨tg,iter,ifs,0⟩] scope pos) 0 (.ref it) acc {acP with scope:=relabel scope X.env}) (RR acc acP.locals) s₄) E s₃) E s:=by
 refine wpAny_newObj_type (wpAny_newFunctionEnv hN.cell (by intro y hy;simp at hy) (fun h₁ MQ Io=>?_) hN.kind)
 dsimp only at MQ Io ⊢
 generalize hH2:s.heap.push {cls:=.type "list",dict:=none,data:=.seq ([]:List Value).toArray}=H2 at MQ Io ⊢
 have hC:H2.objs.size=s.heap.objs.size+1:=by rw [<-hH2,Heap.size_push]
 have hDC:s.heap.objs.size≠H2.objs.size:=by rw [hC];exact Nat.ne_of_lt (Nat.lt_succ_self _)
 have X3:s.heap.objs.size<=H2.objs.size:=by rw [hC];exact Nat.le_succ _
 have hfe:∀b∈fp,b<s.heap.objs.size:=fun b hb=>by obtain⟨o,ho,_⟩:=Tn.obj _ _ st b hb;exact Heap.lt_size ho
 have old:∀b o,s.heap.get? b=some o->h₁.get? b=some o:=fun b o e=>Io.extBut b o (Nat.ne_of_lt (Nat.lt_of_lt_of_le (Heap.lt_size e) X3)) (Heap.get?_push_of_some _ (hH2▸Heap.get?_push_of_some _ e))
 have uG:h₁.PlainList s.heap.objs.size #[]:=⟨_,Io.extBut _ _ hDC (Heap.get?_push_of_some _ (hH2▸Heap.get?_push_size _ rfl))⟩
 generalize X1:s.heap.objs.size=D at*
 generalize hCe:H2.objs.size=C at*
 have I0:Inv (lQ X (T++M) scope cl C s H fp) [] (List.replicate T.length none++σ) H {s with heap:=h₁,toks:=s.toks+([]:List (Str × Value)).length}:=
  SW I hN h1 h2 (by rw [X1];exact X3) hf (by rw [X1];exact hfe) MQ old
 have st0:tn 0 h₁:=Tn.keep _ _ _ st fun b _ o e=>old b o e
 obtain⟨W,⟨m0,w0⟩,turn⟩:=hW
 have nDf:∀b∈fp,b≠D:=fun b hb=>Nat.ne_of_lt (hfe b hb)
 have stat:∀{H':Hp} {pl:List (Addr × Obj)},(∀b∈fp,H' b=none)->(∀p∈pl,p.1=D)->∀b∈fp,ve (lQ X (T++M) scope cl C s H fp) pl H' b:=fun {H' pl} hn hp b hb=>by
  have ok:=I0.ok
  refine⟨hn b hb,(ok.exf b hb).1,ok.N9 b hb,.inl hb,(ok.exf b hb).2,fun p hq=>?_⟩
  have Ye:p∈pl:=hq
  rw [hp p Ye];exact Ne.symm (nDf b hb)
 have loop:codeAny (model X.prog X.w) X.A (.compLoop (.ListComp elt [⟨tg,iter,ifs,0⟩] scope pos) 0 (.ref it) (.ref D) (compEnvC scope cl C X.env)) (RR (.ref D) C) {s with heap:=h₁,toks:=s.toks+([]:List (Str × Value)).length}:=by
  refine LY (fun n s'=>∃i acc H' a8,Inv (lQ X (T++M) scope cl C s H fp) [] (List.replicate T.length none++σ) H' s'/\tn i s'.heap/\(∀b∈fp,H' b=none)/\s'.heap.PlainList D a8/\H' D=none/\Vals acc a8.toList/\acc.length<=sizeLine/\W i n acc H') ?_ m0
   ⟨0,[],H,#[],I0,st0,fun b hb=>(hf b hb).1,uG,I.bL.fresh (by rw [X1];exact Nat.le_refl _),.nil,Nat.zero_le _,w0⟩
  rintro n s3 ⟨i,acc,H3,a8,I3,st3,C6,⟨nn,ho⟩,hD3,hv,hlen,w3⟩
  have afa:∀{H'} {s'} {σ'} {o:Obj},Inv (lQ X (T++M) scope cl C s H fp) [] σ' H' s'->s'.heap.get? D=some o->(∀v,o.data≠.cell v)->H' D=none->Inv (lQ X (T++M) scope cl C s H fp) [(D,o)] σ' H' s':=fun {H' s' σ' o} I' e d hn=>by
   refine I'.CF fun p hp=>?_
   have e':p=(D,o):=by simpa using hp
   subst e'
   refine⟨e,hn,hDC,fun z=>?_,d⟩
   have z':D∈Kd X.stack:=z
   obtain⟨_,o',U1,_⟩:=I.stack.mem z'
   exact absurd (Heap.lt_size U1) (by rw [X1];exact Nat.lt_irrefl _)
  have I3':=afa I3 ho (fun v z=>by cases z) hD3
  rcases turn i n acc H3 w3 with⟨stop,fin⟩|⟨go,hl,step⟩
  . refine dq (Tn.done (lQ X (T++M) scope cl C s H fp) rfl rfl rfl Hh i _ s3 _ H3 _ I3' (stat C6 (by simp)) st3 stop) fun r s4 ⟨hr,I4⟩=>?_
    subst hr
    have e4:=(I4.pin (D,_) (List.mem_append_right _ List.mem_cons_self)).1
    have I4':Inv (lQ X (T++M) scope cl C s H fp) [] (List.replicate T.length none++σ) H3 s4:=I4.CF fun p hp=>nomatch hp
    obtain⟨m4,n4,_⟩:=I4'.loc
    exact hR D C s4 H3 acc m4 (Nat.le_refl _) X3 (Ne.symm hDC) n4 I4'.free hD3 (Wb I I4' hf (by rw [X1];exact Nat.le_refl _) hD3 hlen hv (by simpa using e4)) fin
  . refine dq (Tn.item (lQ X (T++M) scope cl C s H fp) rfl rfl rfl Hh i _ s3 _ H3 _ I3' (stat C6 (by simp)) st3 go) fun r s4 ⟨u,hr,h4⟩=>?_
    subst hr
    refine dq h4 fun _ s5 ⟨x,H5,I5,r5,y5,Zx,fr5⟩=>?_
    have I5':=I5.pinned (stat fr5 (by simp)) (Tn.obj _ _ Zx)
    refine dq (hg _ _ _ _ _ _ s5 _ H5 x u _ I5' r5 (hgk _ _ _ (step x H5 y5))) fun _ s6 ⟨σ6,H6,I6,q6,q6a,q6b⟩=>?_
    refine dq (hc _ _ _ _ _ _ s6 σ6 H6 _ I6 q6) fun b s7 ⟨H7,I7,q7⟩=>?_
    have rest:∀{s8:Shared} {H8:Hp},Inv (lQ X (T++M) scope cl C s H fp) ([(D,_)]++Gm fp s5.heap) σ6 H8 s8->tn (i+1) s8.heap/\(∀b∈fp,H8 b=none)/\s8.heap.PlainList D a8/\H8 D=none/\Inv (lQ X (T++M) scope cl C s H fp) [] (List.replicate T.length none++σ) H8 s8:=fun {s8 H8} I8=>by
     refine⟨Tn.keep _ _ _ Zx fun b hb o e=>(I8.pin (b,o) (List.mem_append_right _ (List.mem_append_right _ (qZ hb e)))).1,fun b hb=>?_,⟨nn,(I8.pin (D,_) (List.mem_append_right _ (List.mem_append_left _ List.mem_cons_self))).1⟩,(I8.pin (D,_) (List.mem_append_right _ (List.mem_append_left _ List.mem_cons_self))).2.1,(I8.forget T.length q6a q6b).CF fun p hp=>nomatch hp⟩
     obtain⟨o,e,d⟩:=Tn.obj _ _ Zx b hb
     exact(I8.pin (b,o) (List.mem_append_right _ (List.mem_append_right _ (qZ hb e)))).2.1
    cases b with
    |false=>
     obtain⟨m',hm,w7⟩:=q7
     obtain⟨a1,a2,a3,a4,a5⟩:=rest I7
     exact⟨m',hm,i+1,acc,H7,a8,a5,a1,a2,a3,a4,hv,hlen,w7⟩
    |true=>
     refine dq (he _ _ _ _ _ _ s7 σ6 H7 _ I7 q7) fun y s8 ⟨yv,H8,I8,r8,m',hm,w8⟩=>?_
     obtain⟨a1,a2,a3,a4,a5⟩:=rest I8
     have hsz:a8.size<=sizeLine:=by have:=hv.length;simp at this;omega
     refine wpAny_list_append_plain (hsz:=hsz) a3 fun h9 hl9 hs9=>?_
     refine⟨m',hm,i+1,acc++[yv],H8,a8.push y,?_,?_,a2,hl9,a4,?_,by simp;omega,w8⟩
     . exact a5.turned (t':=s8.toks) (it:=D) (fun b o hb e=>(hs9.2 b hb).trans e) a4 hDC (.inr (by show s.heap.objs.size<=D;rw [X1];exact Nat.le_refl _)) (fun x c e z=>by
        obtain⟨v,o,ho,_⟩:=I.cell x c (h1 x c e)
        exact absurd (Heap.lt_size ho) (by rw [X1,z];exact Nat.lt_irrefl _)) (fun p hp=>nomatch hp)
     . exact Tn.keep _ _ _ a1 fun b hb o e=>(hs9.2 b (nDf b hb)).trans e
     . simpa using Vals.append hv (.cons r8 .nil)
 exact codeAny_compStart_list loop (Tn.self _ _ _ _ _ st0 loop)
end
def UB (k:Nat) (g:TG):Prop:=∀v (τ σ:St) H Q,τ.length=k->g v (τ++σ) H Q->g v (τ++σ) H fun σ2 H2=>Q σ2 H2/\∃τ',τ'.length=k/\σ2=τ'++σ
def Nr (k:Nat) (g:OM):Prop:=∀vs (τ σ:St) H Q,τ.length=k->g vs (τ++σ) H Q->g vs (τ++σ) H fun σ2 H2=>Q σ2 H2/\∃τ',τ'.length=k/\σ2=τ'++σ
theorem fA {k i:Nat} (h:i<k):UB k (fR i):=fun v τ σ H Q hl q=>by
 have e:(τ++σ).set i (some v)=τ.set i (some v)++σ:=List.set_append_left _ _ (by omega)
 exact⟨q,τ.set i (some v),by simp [hl],e⟩
theorem HI {k:Nat}:Nr k RW:=fun vs τ σ H Q hl ⟨e,q⟩=>⟨e,q,τ,hl,rfl⟩
theorem qU {k i:Nat} {u:OM} (h:i<k) (h2:Nr k u):Nr k (jS (fR i) u):=fun vs τ σ H Q hl ⟨v,r,e,q⟩=>by
 have e1:(τ++σ).set i (some v)=τ.set i (some v)++σ:=List.set_append_left _ _ (by omega)
 refine⟨v,r,e,?_⟩
 show u r ((τ++σ).set i (some v)) H _
 rw [e1]
 have q':u r ((τ++σ).set i (some v)) H Q:=q
 rw [e1] at q'
 exact h2 r _ σ H Q (by simp [hl]) q'
theorem KR {K:PySem.W.Frag} {k n:Nat} {u:OM} (h:Nr k u):UB k (QQ K n u):=fun v τ σ H Q hl ⟨a,xs,e,hq,hn,q⟩=>⟨a,xs,e,hq,hn,h xs τ σ H Q hl q⟩
def HW (Q:VK) (acc:List V) (H:Hp):Prop:=∀p,H p=none->Q (.ref p) (upd H p (.lst acc))
def tLC (k:Nat) (wi:TI) (g:TG) (tc:TT) (te:TE):TE:=fun σ H Q=>wi σ H fun J H1=>Y6 k g tc te (HW Q) σ J H1
section
variable {X:Cx} {T M:List Str} {scope:Scope} {g:TG} {tc:TT} {te:TE} {wi:TI} {tg elt iter:Expr} {ifs:List Expr} {pos:Pos}
theorem D5 (hN:ye X T M scope) (Hh:X.calm=true) (hi:PI X tg iter wi) (hg:∀cl C s H fp,PG (lQ X (T++M) scope cl C s H fp) tg g) (hgo:UB T.length g)
 (hc:∀cl C s H fp,PIf (lQ X (T++M) scope cl C s H fp) ifs tc) (he:∀cl C s H fp,PE (lQ X (T++M) scope cl C s H fp) elt te)
 (hs:∀x,foldedSetIterable iter X.env x=pure x:=by intro _;rfl):PE X (.ListComp elt [⟨tg,iter,ifs,0⟩] scope pos) (tLC T.length wi g tc te):=by
 intro pins s σ H Q I h
 obtain⟨cl,hcl,h1,h2⟩:=Fs (scope:=scope) (env:=X.env) fun x hx hf=>I.ok.has x.1 (hN.free x hx hf)
 rw [eval_ListComp]
 refine wpAny_comprehension_free (use:=none) rfl hs hcl hN.kind hN.names (dq (hi pins s σ H _ I h) fun xv s1 TF=>dq TF fun itv s2 Zd=>?_)
 obtain⟨it,fp,tn,J,H2,e,I2,Tn,st,hf,hW⟩:=Zd
 subst e
 refine QP (RR:=fun acc C=>compPost (model X.prog X.w) X.A X.xe none (EP X pins σ Q) acc C) hN Hh h1 h2 hg (fun v H Q q=>?_) hc he I2 Tn st hf hW ?_
 . have:=hgo v (List.replicate T.length none) σ H Q (by simp) q
   refine(by
    have e:(fun(σ2:St) (H2:Hp)=>Q σ2 H2/\T.length+σ.length=σ2.length/\σ2.drop T.length=σ)=fun σ2 H2=>Q σ2 H2/\∃τ':St,τ'.length=T.length/\σ2=τ'++σ:=by
     funext σ2 H2
     refine propext ⟨fun⟨a,b,c⟩=>⟨a,σ2.take T.length,by rw [List.length_take];omega,by rw [<-c,List.take_append_drop]⟩,fun⟨a,τ',b,c⟩=>⟨a,by rw [c,List.length_append,b],by rw [c,<-b,List.drop_left]⟩⟩
    rw [e];exact this)
 . intro D C s' H' acc m hD hC AV hn hHC hHD Ib fin
   refine⟨m,hn,fun h' K3=>⟨.ref D,_,?_,rfl,fin D hHD⟩⟩
   exact Ib.turned (t':=s'.toks) (it:=C) (fun b o hb e=>(K3.2 b hb).trans e) (by rw [ay AV];exact hHC) (Nat.ne_of_gt (Nat.lt_of_lt_of_le I2.lt hC)) (.inr (Nat.le_trans I2.sz hC)) (fun x c e z=>by
    obtain⟨v,q⟩:=I2.cell x c e
    exact absurd (Nat.lt_of_lt_of_le q.lt (by rw [z];exact hC)) (Nat.lt_irrefl _)) (fun p hp z=>absurd (Nat.lt_of_lt_of_le (Heap.lt_size (I2.pin p hp).1) (by rw [z];exact hC)) (Nat.lt_irrefl _))
theorem RN {i:Nat} {y:Str} {py abh:Pos} (tH:X.N.Nodup) (hi':X.N[i]? =some y) (hy:Loc X.env.scope y) (hN:ye X T M scope) (Hh:X.calm=true) (hi:PI X tg iter wi) (hg:∀cl C s H fp,PG (lQ X (T++M) scope cl C s H fp) tg g) (hgo:UB T.length g)
 (hc:∀cl C s H fp,PIf (lQ X (T++M) scope cl C s H fp) ifs tc) (he:∀cl C s H fp,PE (lQ X (T++M) scope cl C s H fp) elt te)
 (Nc:swapsWith (.ListComp elt [⟨tg,iter,ifs,0⟩] scope pos) (some (.Name y py)) abh.line X.env=pure true)
 (hs:∀x,foldedSetIterable iter X.env x=pure x:=by intro _;rfl) (hf':X.fn y=true\/X.env.scope.names.lookup y=some .local:=by first|exact .inl rfl|exact .inr rfl|assumption):
 PS X (.Assign [.Name y py] (.ListComp elt [⟨tg,iter,ifs,0⟩] scope pos) abh) (Qa (tLC T.length wi g tc te) (fR i)):=by
 intro pins s σ H D' I h
 have h:tLC T.length wi g tc te σ H fun x H1=>D'.nx (σ.set i (some x)) H1:=h
 obtain⟨cl,hcl,h1,h2⟩:=Fs (scope:=scope) (env:=X.env) fun x hx hf=>I.ok.has x.1 (hN.free x hx hf)
 rw [exec_Assign_Name_used _ _ _ _ Nc]
 refine wpAny_bind (wpAny_standAt (wpAny_bind ?_))
 show wpAny _ X.A (do let _ <-comprehension (.ListComp elt [⟨tg,iter,ifs,0⟩] scope pos) scope X.env _ (newList []) false (eval iter X.env) (some (assign (.Name y py) X.env))) _ _ s
 refine wpAny_bind (wpAny_mono (wpAny_comprehension_free (use:=some (assign (.Name y py) X.env)) (Q:=fun _ s'=>SP X pins D' .next s') rfl hs hcl hN.kind hN.names
  (dq (hi pins s σ H _ I h) fun xv s1 TF=>dq TF fun itv s2 Zd=>?_)) (fun _ s' hq=>wpAny_pure (wpAny_pure hq)) fun _ _ e=>e)
 obtain⟨it,fp,tn,J,H2,e,I2,Tn,st,hf,hW⟩:=Zd
 subst e
 refine QP (RR:=fun acc C=>compPost (model X.prog X.w) X.A X.xe (some (assign (.Name y py) X.env)) (fun _ s'=>SP X pins D' .next s') acc C) hN Hh h1 h2 hg (fun v H Q q=>?_) hc he I2 Tn st hf hW ?_
 . have:=hgo v (List.replicate T.length none) σ H Q (by simp) q
   refine(by
    have e:(fun(σ2:St) (H2:Hp)=>Q σ2 H2/\T.length+σ.length=σ2.length/\σ2.drop T.length=σ)=fun σ2 H2=>Q σ2 H2/\∃τ':St,τ'.length=T.length/\σ2=τ'++σ:=by
     funext σ2 H2
     refine propext ⟨fun⟨a,b,c⟩=>⟨a,σ2.take T.length,by rw [List.length_take];omega,by rw [<-c,List.take_append_drop]⟩,fun⟨a,τ',b,c⟩=>⟨a,by rw [c,List.length_append,b],by rw [c,<-b,List.drop_left]⟩⟩
    rw [e];exact this)
 . intro D C s' H' acc m hD hC AV hn hHC hHD Ib fin
   show wpAny _ X.A (assign (.Name y py) X.env (.ref D)) _ _ _
   refine wpAny_assign_Name (Hk Ib tH hi' hy (v:=.ref D) rfl (fun s3 I3 ⟨a,sb,ha⟩=>?_) hf')
   have hCL:C≠X.env.locals:=Nat.ne_of_gt (Nat.lt_of_lt_of_le I2.lt hC)
   have hCc:∀x c,X.env.cells.lookup x=some c->c≠C:=fun x c e z=>by
    obtain⟨v,q⟩:=I2.cell x c e
    exact absurd (Nat.lt_of_lt_of_le q.lt (by rw [z];exact hC)) (Nat.lt_irrefl _)
   have hCa:C≠a:=by
    rcases ha with rfl|ha
    . exact hCL
    . exact Ne.symm (hCc _ _ ha)
   refine⟨m,hn.sameBut sb hCa,fun h' K3=>⟨_,_,?_,fin D hHD⟩⟩
   exact I3.turned (t':=s3.toks) (it:=C) (fun b o hb e=>(K3.2 b hb).trans e) (by rw [ay AV];exact hHC) hCL (.inr (Nat.le_trans I2.sz hC)) hCc (fun p hp z=>absurd (Nat.lt_of_lt_of_le (Heap.lt_size (I2.pin p hp).1) (by rw [z];exact hC)) (Nat.lt_irrefl _))
end
end L2
namespace L2
open PySem PySem.Spec PyProof.Rows PySem.W
mutual
def C8:PyData->Bool
 | .none=>true
 | .bool _=>true
 | .int _=>true
 | .str _=>true
 | .tuple ds=>cu ds
 | .list _=>false
 | .dict _=>false
def cu:List PyData->Bool
 |[]=>true
 |d::ds=>C8 d&&cu ds
end
theorem gf:∀{ds:List PyData},cu ds=true↔∀d∈ds,C8 d=true
 |[]=>by simp [cu]
 |d::ds=>by simp [cu,gf (ds:=ds)]
theorem GU {ds es:List PyData} (h1:cu ds=true) (h2:cu es=true):cu (ds++es)=true:=by
 rw [gf] at*
 intro d hd
 rcases List.mem_append.mp hd with h|h
 . exact h1 d h
 . exact h2 d h
theorem iu {α:Type} {f:α->PyData} (h:∀x,C8 (f x)=true) (xs:List α):cu (xs.map f)=true:=by
 rw [gf]
 intro d hd
 obtain⟨x,_,rfl⟩:=List.mem_map.mp hd
 exact h x
structure Mv (S:List Addr) (H H':Hp):Prop where
 kp:∀a o,a∉S->H a=some o->H' a=some o
 tp:∀a xs,H a=some (.tup xs)->H' a=some (.tup xs)
 dm:∀a,H' a=none->H a=none
theorem Mv.refl {S:List Addr} {H:Hp}:Mv S H H:=⟨fun _ _ _ h=>h,fun _ _ h=>h,fun _ h=>h⟩
theorem ax.mv {S:List Addr} {H H':Hp} (s:ax H H'):Mv S H H':=⟨fun a o _ h=>s a o h,fun a xs h=>s a _ h,fun a h=>by
 cases e:H a with
 |none=>rfl
 |some o=>rw [s a o e] at h;cases h⟩
theorem Mv.trans {S:List Addr} {H H1 H2:Hp} (m:Mv S H H1) (m2:Mv S H1 H2):Mv S H H2:=⟨fun a o n h=>m2.kp a o n (m.kp a o n h),fun a xs h=>m2.tp a xs (m.tp a xs h),fun a h=>m.dm a (m2.dm a h)⟩
theorem Mv.step {S S1:List Addr} {H H1 H2:Hp} (m:Mv S H H1) (m2:Mv S1 H1 H2) (hs:∀a∈S1,a∈S\/H a=none):Mv S H H2:=by
 refine⟨fun a o n h=>?_,fun a xs h=>m2.tp a xs (m.tp a xs h),fun a h=>m.dm a (m2.dm a h)⟩
 refine m2.kp a o (fun z=>?_) (m.kp a o n h)
 rcases hs a z with q|q
 . exact n q
 . rw [q] at h;cases h
theorem Mv.Sq {S:List Addr} {H H1 H2:Hp} (m:Mv S H H1) (s:ax H1 H2):Mv S H H2:=m.trans s.mv
theorem Mv.at {S:List Addr} {H H':Hp} {a:Addr} {o:HO} (m:Mv S H H') (n:a∉S) (h:H a=some o):H' a=some o:=m.kp a o n h
theorem Mv.none {S:List Addr} {H H':Hp} {a:Addr} (m:Mv S H H') (h:H' a=none):H a=none:=m.dm a h
theorem ax.none {H H':Hp} {a:Addr} (m:ax H H') (h:H' a=none):H a=none:=(m.mv (S:=[])).dm a h
theorem Mv.bq {H:Hp} {p:Addr} {o u:HO} (h:H p=some u) (nt:∀xs,u≠.tup xs):Mv [p] H (upd H p o):=⟨fun a v n e=>by
 rw [ay (fun z=>n (by simp [z]))];exact e,fun a xs e=>by
 rw [ay (fun z=>by subst z;rw [h] at e;exact nt xs (Option.some.inj e))];exact e,fun a e=>by
 by_cases z:a=p
 . subst z;rw [ao] at e;cases e
 . rw [ay z] at e;exact e⟩
mutual
theorem Dv.Dc {H H':Hp} (t:∀a xs,H a=some (.tup xs)->H' a=some (.tup xs)):∀{v:V} {d:PyData},Dv H v d->C8 d=true->Dv H' v d
 |_,_,.aQ,_=>.aQ
 |_,_,.bl b,_=>.bl b
 |_,_,.int i,_=>.int i
 |_,_,.str x,_=>.str x
 |_,_,.tup h r,c=>.tup (t _ _ h) (cK.Dc t r (by simpa [C8] using c))
 |_,_,.lst h r,c=>by simp [C8] at c
 |_,_,.dct h r,c=>by simp [C8] at c
theorem cK.Dc {H H':Hp} (t:∀a xs,H a=some (.tup xs)->H' a=some (.tup xs)):∀{v:List V} {d:List PyData},cK H v d->cu d=true->cK H' v d
 |_,_,.nil,_=>.nil
 |_,_,.cons h r,c=>by
  have c':=c
  simp only [cu,Bool.and_eq_true] at c'
  exact .cons (Dv.Dc t h c'.1) (cK.Dc t r c'.2)
end
theorem Mv.dat {S:List Addr} {H H':Hp} {v:V} {d:PyData} (m:Mv S H H') (i:C8 d=true) (h:Dv H v d):Dv H' v d:=h.Dc m.tp i
theorem Mv.Zt {S:List Addr} {H H':Hp} {v:List V} {d:List PyData} (m:Mv S H H') (i:cu d=true) (h:cK H v d):cK H' v d:=h.Dc m.tp i
def c9 (H:Hp) (p:Addr) (ds:List PyData):Prop:=∃xs,H p=some (.lst xs)/\cK H xs ds/\cu ds=true
theorem c9.dv {H:Hp} {p:Addr} {ds:List PyData} (h:c9 H p ds):Dv H (.ref p) (.list ds):=let ⟨_,e,d,_⟩:=h;.lst (.of e) d
theorem c9.keeps {H H':Hp} {p:Addr} {ds:List PyData} (s:ax H H') (h:c9 H p ds):c9 H' p ds:=let ⟨xs,e,d,i⟩:=h;⟨xs,s _ _ e,d.keeps s,i⟩
theorem c9.mv {S:List Addr} {H H':Hp} {p:Addr} {ds:List PyData} (m:Mv S H H') (n:p∉S) (h:c9 H p ds):c9 H' p ds:=let ⟨xs,e,d,i⟩:=h;⟨xs,m.at n e,m.Zt i d,i⟩
theorem Jj {H:Hp} {p:Addr} {xs:List V} {ds:List PyData} (hn:H p=none) (d:cK H xs ds) (i:cu ds=true):c9 (upd H p (.lst xs)) p ds:=⟨xs,ao,d.keeps (bS hn),i⟩
theorem small {n m:Nat} (h:n<=m) (hm:m<=4000:=by decide):n<=sizeLine:=Nat.le_trans h (Nat.le_trans hm (by decide))
theorem qX {n:Nat} (h:n<=4000):n<sizeLine:=Nat.lt_of_le_of_lt h (by decide)
section
variable {σ:St} {H:Hp} {Q:VK} {D:Ends} {K:PySem.W.Frag} {p:Addr} {ds:List PyData}
theorem aeQ {T:String} {r:V->List V->Hp->VK->Prop} {to:TE} {t:TA} (h:to σ H fun x H1=>tyV K T x H1/\t σ H1 fun xs H2=>r x xs H2 Q):tBM K T r to t σ H Q:=h
theorem ab4 {R:Prop} (hp:c9 H p ds) (h:R):tyV K "list" (.ref p) H/\R:=let ⟨xs,e,_,_⟩:=hp;⟨.inl ⟨rfl,xs,iH.of e⟩,h⟩
theorem Yr {xs:List V} (hl:xs.length<=sizeLine) (hd:cK H xs ds) (hi:cu ds=true) (k:∀p H2,ax H H2->H p=none->c9 H2 p ds->Q (.ref p) H2):Uw xs H Q:=
 ⟨hl,ds,hd,fun p H2 s n e d _=>k p H2 s n ⟨xs,e,d,hi⟩⟩
end
mutual
theorem Dv.fn {H:Hp}:∀{v:V} {d e:PyData},Dv H v d->Dv H v e->C8 d=true->d=e
 |_,_,_,.aQ,h,_=>by cases h;rfl
 |_,_,_,.bl b,h,_=>by cases h;rfl
 |_,_,_,.int i,h,_=>by cases h;rfl
 |_,_,_,.str x,h,_=>by cases h;rfl
 |_,_,_,.tup h r,h2,c=>by
  cases h2 with
  |tup h' r'=>
   have c':=(by simpa [C8] using c:cu _=true)
   rw [h] at h'
   cases h'
   rw [cK.fn r r' c']
  |lst h' r'=>
   rcases h' with h'|⟨o,h'⟩ <;>rw [h] at h' <;>cases h'
  |dct h' r'=>rw [h] at h';cases h'
 |_,_,_,.lst h r,_,c=>by simp [C8] at c
 |_,_,_,.dct h r,_,c=>by simp [C8] at c
theorem cK.fn {H:Hp}:∀{v:List V} {d e:List PyData},cK H v d->cK H v e->cu d=true->d=e
 |_,_,_,.nil,h,_=>by cases h;rfl
 |_,_,_,.cons h r,h2,c=>by
  have c':=c
  simp only [cu,Bool.and_eq_true] at c'
  cases h2 with
  |cons h' r'=>rw [Dv.fn h h' c'.1,cK.fn r r' c'.2]
end
theorem cK.perm {α:Type} {H:Hp} {g:α->PyData} {xs ys:List V} (p0:ys.Perm xs):∀{cs:List α},cK H xs (cs.map g)->∃cs':List α,cs'.Perm cs/\cK H ys (cs'.map g):=by
 have p:=p0.symm
 clear p0
 induction p with
 |nil=>intro cs h;exact⟨cs,.refl _,h⟩
 |cons x _ ih=>
  intro cs h
  cases cs with
  |nil=>cases h
  |cons c cs=>
   cases h with
   |cons h r=>
    obtain⟨cs',p',h'⟩:=ih r
    exact⟨c::cs',p'.cons c,.cons h h'⟩
 |swap x y l=>
  intro cs h
  cases cs with
  |nil=>cases h
  |cons c cs=>
   cases h with
   |cons h r=>
    cases cs with
    |nil=>cases r
    |cons c2 cs=>
     cases r with
     |cons h2 r=>exact⟨c2::c::cs,.swap c c2 cs,.cons h2 (.cons h r)⟩
 |trans _ _ ih1 ih2=>
  intro cs h
  obtain⟨c1,p1,h1⟩:=ih1 h
  obtain⟨c2,p2,h2⟩:=ih2 h1
  exact⟨c2,p2.trans p1,h2⟩
theorem cK.pairwise {α β:Type} {H:Hp} {g:α->PyData} {key:α->β} {kf:V->β} {R:β->β->Prop} (hk:∀v c,Dv H v (g c)->kf v=key c):∀{xs:List V} {cs:List α},cK H xs (cs.map g)->xs.Pairwise (fun x y=>R (kf x) (kf y))->cs.Pairwise (fun c d=>R (key c) (key d))
 |_,[],.nil,_=>.nil
 |_,c::cs,.cons h r,p=>by
  rw [List.pairwise_cons] at p ⊢
  refine⟨fun d hd=>?_,cK.pairwise hk r p.2⟩
  obtain⟨i,hi⟩:=List.getElem?_of_mem hd
  obtain⟨x,hx,hv⟩:=r.get (i:=i) (d:=g d) (by rw [List.getElem?_map,hi];rfl)
  have:=p.1 x (List.mem_of_getElem? hx)
  rw [hk _ _ h,hk _ _ hv] at this
  exact this
theorem Dv.lst_inv {H:Hp} {v:V} {ds:List PyData} (h:Dv H v (.list ds)):∃a xs,v=.ref a/\(∀K:PySem.W.Frag,iH K H a xs)/\cK H xs ds:=by
 cases h with
 |lst h r=>exact⟨_,_,rfl,fun _=>.inl h,r⟩
section
variable {σ:St} {H:Hp} {Q:VK} {D:Ends} {K:PySem.W.Frag} {p:Addr} {v:V} {ds:List PyData}
def LCT (te:TE) (N:Option V->Hp->Prop) (σ2:St) (b:Bool) (H3:Hp):Prop:=if b=true then te σ2 H3 (fun y H4=>N (some y) H4) else N none H3
theorem aa7 {k:Nat} {tl:TE} {g:TG} {tc:TT} {te:TE} (h:tl σ H fun x H1=>∃a,x=.ref a/\(∃xs,iH K H1 a xs)/\Y6 k g tc te (HW Q) σ (S8 K a) H1):tLC k (R3 K tl) g tc te σ H Q:=h
theorem Zi {k:Nat} {g:TG} {tc:TT} {te:TE} {α:Type} {cs:List α} {gd:α->PyData} (pf:α->Bool) (fd:α->PyData) (hl:Dv H v (.list (cs.map gd))) (hlen:cs.length<=4000) (hi:∀c,C8 (fd c)=true)
 (turn:∀x c H' (N:Option V->Hp->Prop),c∈cs->ax H H'->Dv H' x (gd c)->(pf c=true->∀y H4,ax H' H4->Dv H4 y (fd c)->N (some y) H4)->(pf c=false->∀H3,ax H' H3->N none H3)->
  g x (List.replicate k none++σ) H' fun σ2 H2=>tc σ2 H2 fun b H3=>LCT te N σ2 b H3)
 (kk:∀q H',ax H H'->H q=none->c9 H' q ((cs.filter pf).map fd)->Q (.ref q) H'):∃a,v=.ref a/\(∃xs,iH K H a xs)/\Y6 k g tc te (HW Q) σ (S8 K a) H:=by
 obtain⟨p,xs,rfl,e,dv⟩:=hl.lst_inv
 have hl0:iH K H p xs:=e K
 have hxl:xs.length=cs.length:=by rw [dv.length,List.length_map]
 refine⟨p,rfl,⟨xs,hl0⟩,fun i m acc H'=>i<=cs.length/\m=cs.length - i/\ax H H'/\cK H' acc (((cs.take i).filter pf).map fd),⟨cs.length,Nat.zero_le _,rfl,ax.refl _,by simpa using cK.nil⟩,?_⟩
 rintro i m acc H' ⟨uF,hm,sm,uG⟩
 have Sf:iH K H' p xs:=ax.seq sm hl0
 have hal:acc.length<=cs.length:=by
  rw [uG.length,List.length_map]
  exact Nat.le_trans (List.length_filter_le _ _) (by rw [List.length_take];omega)
 by_cases hc:i=cs.length
 . left
   refine⟨⟨xs,Sf,by omega⟩,fun q hq=>?_⟩
   rw [hc,List.take_length] at uG
   have C5:ax H (upd H' q (.lst acc)):=sm.trans (bS hq)
   exact kk q _ C5 (sm.none hq) ⟨acc,ao,uG.keeps (bS hq),iu hi _⟩
 . right
   have fq:i<cs.length:=by omega
   have Qn:i<xs.length:=by omega
   refine⟨⟨xs,xs[i],Sf,List.getElem?_eq_getElem Qn⟩,qX (by omega),fun x H2 hy=>?_⟩
   obtain⟨rfl,hy⟩:=hy
   have hx:=hy xs Sf
   have hcs:cs[i]? =some cs[i]:=List.getElem?_eq_getElem fq
   obtain⟨x',GX,hd⟩:=dv.get (i:=i) (d:=gd cs[i]) (by rw [List.getElem?_map,hcs];rfl)
   rw [hx] at GX
   cases GX
   have TH:cs.take (i+1)=cs.take i++[cs[i]]:=by rw [List.take_add_one,hcs];rfl
   exact turn x cs[i] H2 (fun o H4=>match o with|some y=>∃m',m'<m/\i+1<=cs.length/\m'=cs.length - (i+1)/\ax H H4/\cK H4 (acc++[y]) (((cs.take (i+1)).filter pf).map fd)|none=>∃m',m'<m/\i+1<=cs.length/\m'=cs.length - (i+1)/\ax H H4/\cK H4 acc (((cs.take (i+1)).filter pf).map fd))
    (List.getElem_mem fq) sm (hd.keeps sm)
    (fun hp y H4 s4 d4=>⟨cs.length - (i+1),by omega,fq,rfl,sm.trans s4,by
     rw [TH,List.filter_append,List.map_append]
     simp only [List.filter_cons,hp,if_true,List.filter_nil,List.map_cons,List.map_nil]
     exact cK.append (uG.keeps s4) (.cons d4 .nil)⟩)
    (fun hp H3 s3=>⟨cs.length - (i+1),by omega,fq,rfl,sm.trans s3,by
     rw [TH,List.filter_append,List.map_append]
     simp only [List.filter_cons,hp,Bool.false_eq_true,if_false,List.filter_nil,List.map_nil,List.append_nil]
     exact uG.keeps s3⟩)
end
def Np (scope sc:Scope) (N M:List Str):Bool:=
 (scope.kind==.function)&&scope.names.all (fun y=>y.2 !=.cell)&&scope.names.all (fun y=>y.2 !=.local||scope.names.lookup y.1==some .local)&&
  scope.names.all (fun y=>y.2 !=.free||(sc.names.lookup y.1==some .cell||sc.names.lookup y.1==some .free))&&(M.length==N.length)&&
  (M.zip N).all fun p=>(p.1==p.2&&scope.names.lookup p.1==some .free)||scope.names.lookup p.1==none
theorem SY {X:Cx} {T M:List Str} {scope:Scope} (sc:Scope) (N:List Str) (hs:X.env.scope=sc) (hN:X.N=N) (h:Np scope sc N M=true):ye X T M scope:=by
 unfold Np at h
 simp only [Bool.and_eq_true,List.all_eq_true,Bool.or_eq_true,bne_iff_ne,beq_iff_eq,ne_eq] at h
 obtain⟨⟨⟨⟨⟨h1,h2⟩,h3⟩,h4⟩,h5⟩,h6⟩:=h
 refine⟨h1,h2,fun y hy e=>?_,fun y hy e=>?_,by rw [hN];exact h5,fun i x hx=>?_⟩
 . rcases h3 y hy with z|z
   . exact absurd e z
   . exact z
 . rw [hs]
   rcases h4 y hy with z|z
   . exact absurd e z
   . exact z
 . have hi:i<M.length:=(List.getElem?_eq_some_iff.mp hx).1
   have hiN:i<N.length:=by omega
   have hz:(M.zip N)[i]? =some (x,N[i]):=by
    rw [List.getElem?_zip_eq_some]
    exact⟨hx,List.getElem?_eq_getElem hiN⟩
   rcases h6 _ (List.mem_of_getElem? hz) with⟨a,b⟩|a
   . left
     refine⟨?_,b⟩
     rw [hN,List.getElem?_eq_getElem hiN]
     have a':x=N[i]:=a
     rw [a']
   . exact .inr a
section
variable {σ:St} {H:Hp} {Q:VK} {D:Ends} {K:PySem.W.Frag} {p:Addr} {v:V} {ds:List PyData}
theorem Rb {z:Str} {i:Int} {c:Nat} (hl:z.length<=sizeLine) (hi:JG z.cps.toList i=some c) (h:Q (.str ⟨#[c]⟩) H):RL K (.str z) (.int i) H Q:=.inl (.inr ⟨z,i,c,rfl,rfl,hl,hi,h⟩)
def Xk:R2:=fun x y H Q=>∃i j,x=.str i/\y=.str j/\i.length+j.length<=sizeLine/\Q (.str (i++j)) H
theorem T1 {X:Cx}:C9 X (binaryOp .Add) Xk:=Mg
theorem Le {i j:Str} (hl:i.length+j.length<=4000) (h:Q (.str (i++j)) H):Xk (.str i) (.str j) H Q:=⟨i,j,rfl,rfl,small hl,h⟩
end
end L2
namespace L2
theorem QF {H H1 H2:Hp} (a:∀x,H1 x=none->H x=none) (b:∀x,H2 x=none->H1 x=none):∀x,H2 x=none->H x=none:=fun x h=>a x (b x h)
theorem ZG {H H':Hp} {p:PySem.Addr} (s:∀x,H' x=none->H x=none) (h:H' p=none):H p=none:=s p h
theorem ax.dm' {H H':Hp} (s:ax H H'):∀x,H' x=Option.none->H x=Option.none:=(s.mv (S:=[])).dm
end L2
namespace L2
open PySem
theorem Ua {i:Nat} {v:V} {σ:St} {H:Hp} {R:St->Hp->Prop} (h:R (σ.set i (some v)) H):fR i v σ H R:=h
theorem Mv.sq {K:PySem.W.Frag} {S:List Addr} {H H':Hp} {a:Addr} {xs:List V} (m:Mv S H H') (n:a∉S) (h:iH K H a xs):iH K H' a xs:=by
 rcases h with(h|⟨o,h⟩)|h
 . exact .inl (.inl (m.at n h))
 . exact .inl (.inr ⟨o,m.at n h⟩)
 . exact .inr h
theorem rR {te:TE} {N:Option V->Hp->Prop} {σ2:St} {b:Bool} {H3:Hp} (h1:b=true->te σ2 H3 (fun y H4=>N (some y) H4)) (h2:b=false->N none H3):LCT te N σ2 b H3:=by
 unfold LCT
 cases b with
 |true=>rw [if_pos rfl];exact h1 rfl
 |false=>rw [if_neg (by simp)];exact h2 rfl
end L2
namespace L2
open PySem PySem.Spec PyProof.Rows
section
variable {X:Cx} {K:PySem.W.Frag} {a b e:Expr} {es:List Expr} {ta:TE} {pos:Pos}
theorem EE (h:X.K=K):Qq X (RL K):=by rw [<-h];exact fP
theorem HA (h:X.K=K) (ha:PE X a ta) (he:∀whole,isTrue a X.env whole=(do let v <-whole;standAt a.pos;holding [v] (truthy v))):PT X a (fun σ H Q=>ta σ H fun x H'=>∃k,Qs K x H' k/\Q k H'):=by rw [<-h];exact eg ha he
theorem ND {k:Nat} {t:OM} {n:Nat} (h:X.K=K) (hc:X.calm=true) (hs:PGs X es t) (hn:(assignEach es X.env).length=n:=by rfl) (AQ:(assignEach es X.env).findIdx? (·.1)=none:=by rfl):PG X (.Tuple es k pos) (QQ K n t):=by rw [<-h];exact MO hc hs hn AQ
theorem rE {f:Str} (h:X.K=K) (ha:PE X a ta) (hb:attributeBase a f X.env (eval a X.env)=eval a X.env:=by rfl):PE X (.Attribute a f pos) (Zm K ta f):=by rw [<-h];exact au ha hb
end
end L2
namespace L2
open PySem PySem.Spec PyProof.Rows PySem.W
inductive qE (H:Hp):List (Key × V)->List (Str × PyData)->Prop where
 |nil:qE H [] []
 |cons {k:Str} {v:V} {d:PyData} {kvs:List (Key × V)} {m:List (Str × PyData)} (h:Dv H v d) (i:C8 d=true) (r:qE H kvs m):qE H ((.inr k,v)::kvs) ((k,d)::m)
theorem qE.Dc {H H':Hp} (t:∀a xs,H a=some (.tup xs)->H' a=some (.tup xs)):∀{kvs:List (Key × V)} {m:List (Str × PyData)},qE H kvs m->qE H' kvs m
 |_,_,.nil=>.nil
 |_,_,.cons h i r=>.cons (h.Dc t i) i (qE.Dc t r)
theorem qE.length {H:Hp}:∀{kvs:List (Key × V)} {m:List (Str × PyData)},qE H kvs m->kvs.length=m.length
 |_,_,.nil=>rfl
 |_,_,.cons _ _ r=>by simp [qE.length r]
def yj (m:List (Str × PyData)) (k:Str):Option PyData:=(m.find? fun kv=>decide (kv.1=k)).map (·.2)
def putD (m:List (Str × PyData)) (k:Str) (d:PyData):List (Str × PyData):=if (m.any fun kv=>decide (kv.1=k))=true then m.map (fun kv=>if kv.1=k then (kv.1,d) else kv) else m++[(k,d)]
def Eo (m:List (Str × PyData)) (k:Str):List (Str × PyData):=m.filter fun kv=>decide (kv.1≠k)
theorem MX {a b:Str}:((Sum.inr a:Key)=Sum.inr b)=(a=b):=propext ⟨fun h=>Sum.inr.inj h,fun h=>by rw [h]⟩
theorem qE.val {H:Hp} {k:Str}:∀{kvs:List (Key × V)} {m:List (Str × PyData)},qE H kvs m->(∀d,yj m k=some d->∃v,oj kvs (.inr k)=some v/\Dv H v d)/\(yj m k=none->oj kvs (.inr k)=none)
 |_,_,.nil=>⟨fun d h=>by simp [yj] at h,fun _=>rfl⟩
 |_,_,.cons (k:=j) h i r=>by
  obtain⟨h1,h2⟩:=qE.val (k:=k) r
  by_cases e:j=k
  . subst e
    refine⟨fun d hd=>⟨_,x5 rfl,?_⟩,fun hd=>by simp [yj] at hd⟩
    simp [yj] at hd
    subst hd;exact h
  . have e':(Sum.inr j:Key)≠.inr k:=fun z=>e (Sum.inr.inj z)
    have el:∀(d:PyData) (m:List (Str × PyData)),yj ((j,d)::m) k=yj m k:=fun d m=>by simp [yj,List.find?_cons,e]
    refine⟨fun d hd=>?_,fun hd=>?_⟩
    . rw [el] at hd
      obtain⟨v,hv,Nu⟩:=h1 d hd
      exact⟨v,by rw [pB e'];exact hv,Nu⟩
    . rw [el] at hd
      rw [pB e'];exact h2 hd
theorem qE.any {H:Hp} {k:Str}:∀{kvs:List (Key × V)} {m:List (Str × PyData)},qE H kvs m->(kvs.any fun kv=>decide (kv.1=.inr k))=m.any fun kv=>decide (kv.1=k)
 |_,_,.nil=>rfl
 |_,_,.cons h i r=>by
  simp only [List.any_cons,qE.any r,MX]
theorem qE.append {H:Hp}:∀{kvs acA:List (Key × V)} {m m':List (Str × PyData)},qE H kvs m->qE H acA m'->qE H (kvs++acA) (m++m')
 |_,_,_,_,.nil,s=>s
 |_,_,_,_,.cons h i r,s=>.cons h i (qE.append r s)
theorem qE.repl {H:Hp} {k:Str} {v:V} {d:PyData} (hv:Dv H v d) (hi:C8 d=true):∀{kvs:List (Key × V)} {m:List (Str × PyData)},qE H kvs m->qE H (kvs.map fun kv=>if kv.1=.inr k then (kv.1,v) else kv) (m.map fun kv=>if kv.1=k then (kv.1,d) else kv)
 |_,_,.nil=>.nil
 |_,_,.cons (k:=j) h i r=>by
  rw [List.map_cons,List.map_cons]
  by_cases e:j=k
  . subst e
    rw [if_pos rfl,if_pos rfl]
    exact .cons hv hi (qE.repl hv hi r)
  . rw [if_neg (fun z=>e (Sum.inr.inj z)),if_neg e]
    exact .cons h i (qE.repl hv hi r)
theorem qE.put {H:Hp} {k:Str} {v:V} {d:PyData} {kvs:List (Key × V)} {m:List (Str × PyData)} (r:qE H kvs m) (hv:Dv H v d) (hi:C8 d=true):qE H (putK kvs (.inr k) v) (putD m k d):=by
 unfold putK putD
 rw [r.any]
 by_cases h:(m.any fun kv=>decide (kv.1=k))=true
 . rw [if_pos h,if_pos h];exact r.repl hv hi
 . rw [if_neg h,if_neg h];exact r.append (.cons hv hi .nil)
theorem qE.drop {H:Hp} {k:Str}:∀{kvs:List (Key × V)} {m:List (Str × PyData)},qE H kvs m->qE H (sM kvs (.inr k)) (Eo m k)
 |_,_,.nil=>.nil
 |_,_,.cons (k:=j) h i r=>by
  by_cases e:j=k
  . subst e
    have:=qE.drop (k:=j) r
    simpa [sM,Eo] using this
  . have:=qE.drop (k:=k) r
    have e':(Sum.inr j:Key)≠.inr k:=fun z=>e (Sum.inr.inj z)
    simp only [sM,Eo,List.filter_cons] at this ⊢
    rw [if_pos (by simpa using e'),if_pos (by simpa using e)]
    exact .cons h i this
def uH (H:Hp) (p:Addr) (m:List (Str × PyData)):Prop:=∃kvs,H p=some (.dK kvs)/\qE H kvs m
theorem uH.keeps {H H':Hp} {p:Addr} {m:List (Str × PyData)} (s:ax H H') (h:uH H p m):uH H' p m:=let ⟨kvs,e,d⟩:=h;⟨kvs,s _ _ e,d.Dc fun a xs e=>s _ _ e⟩
theorem uH.mv {S:List Addr} {H H':Hp} {p:Addr} {m:List (Str × PyData)} (v:Mv S H H') (n:p∉S) (h:uH H p m):uH H' p m:=let ⟨kvs,e,d⟩:=h;⟨kvs,v.at n e,d.Dc v.tp⟩
section
variable {σ:St} {H:Hp} {Q:VK} {D:Ends} {K:PySem.W.Frag} {p:Addr} {m:List (Str × PyData)} {k:Str}
theorem Zy (h:∀p H2,ax H H2->H p=none->uH H2 p []->Q (.ref p) H2):Rz σ H Q:=fun p hp=>h p _ (bS hp) hp ⟨[],ao,.nil⟩
theorem Wi {td ty tv:TE} (h:tv σ H fun v H1=>td σ H1 fun x H2=>ty σ H2 fun y H3=>∃a H4,x=.ref a/\Je H3 a y v H4/\D.nx σ H4):Xo td ty tv D σ H:=h
theorem XO {v:V} {d:PyData} {R:Hp->Prop} (hp:uH H p m) (hl:m.length<=4000) (hv:Dv H v d) (hi:C8 d=true) (h:∀H2,Mv [p] H H2->uH H2 p (putD m k d)->R H2):∃a H4,V.ref p=.ref a/\Je H a (.str k) v H4/\R H4:=by
 obtain⟨kvs,e,dk⟩:=hp
 have mv:Mv [p] H (upd H p (.dK (putK kvs (.inr k) v))):=.bq e (by intro _ z;cases z)
 exact⟨p,_,rfl,Je.k (k:=.inr k) e (by rw [dk.length];exact qX hl),h _ mv ⟨_,ao,(dk.put hv hi).Dc mv.tp⟩⟩
theorem Vv {td ty:TE} (h:td σ H fun x H1=>ty σ H1 fun y H2=>∃a v,x=.ref a/\jb H2 a y (some v)/\Q v H2):Wy td ty σ H Q:=h
theorem XZ {d:PyData} {R:V->Prop} (hp:uH H p m) (hk:yj m k=some d) (h:E1 H d fun v _=>R v):∃a v,V.ref p=.ref a/\jb H a (.str k) (some v)/\R v:=by
 obtain⟨kvs,e,dk⟩:=hp
 obtain⟨v,hv,hd⟩:=(dk.val (k:=k)).1 d hk
 exact⟨p,v,rfl,by rw [<-hv];exact jb.k (k:=.inr k) e,h.use hd⟩
theorem XM {td ty:TE} (h:ty σ H fun y H1=>td σ H1 fun x H2=>∃a o,x=.ref a/\jb H2 a y o/\Q (.bl o.isSome) H2):abK ty td σ H Q:=h
theorem VW {td ty:TE} (h:ty σ H fun y H1=>td σ H1 fun x H2=>∃a o,x=.ref a/\jb H2 a y o/\Q (.bl (!o.isSome)) H2):M5 ty td σ H Q:=h
theorem acT (hp:uH H p m) (k:Str):∃o,jb H p (.str k) o/\o.isSome=(yj m k).isSome:=by
 obtain⟨kvs,e,dk⟩:=hp
 refine⟨oj kvs (.inr k),jb.k (k:=.inr k) e,?_⟩
 obtain⟨h1,h2⟩:=dk.val (k:=k)
 cases hl:yj m k with
 |none=>rw [h2 hl];rfl
 |some d=>obtain⟨v,hv,_⟩:=h1 d hl;rw [hv];rfl
theorem acL {R:Option V->Prop} (hp:uH H p m) (h:∀o:Option V,o.isSome=(yj m k).isSome->R o):∃a o,V.ref p=.ref a/\jb H a (.str k) o/\R o:=by
 obtain⟨o,g,e⟩:=acT hp k
 exact⟨p,o,rfl,g,h o e⟩
def ow:Option Int->V|none=>.aQ|some i=>.int i
def owD:Option Int->PyData|none=>.none|some i=>.int i
theorem abo {H:Hp} (o:Option Int):Dv H (ow o) (owD o):=by cases o;exact .aQ;exact .int _
theorem NA (o:Option Int):C8 (owD o)=true:=by cases o <;>rfl
end
end L2
namespace L2
theorem aeS {t:TE} {σ:St} {H:Hp} {Q:Bool->Hp->Prop} (h:t σ H fun x H'=>∃k,x=.bl k/\Q k H'):tB t σ H Q:=h
end L2
namespace L2
open PySem
theorem aa0 {Hb:Hp} {σ:St} {H:Hp} {D:Ends} {K:PySem.W.Frag} {v:V} {α:Type} {cs:List α} {gd:α->PyData} {g:TG} {tb:TS} (hl:Dv Hb v (.list (cs.map gd))) (Pv:Nat->St->Hp->Prop) (h0:Pv 0 σ H) (hk:∀i σ H',i<=cs.length->Pv i σ H'->∀a xs,v=.ref a->iH K Hb a xs->iH K H' a xs)
 (hs:∀i c x σ H',cs[i]? =some c->Pv i σ H'->(C8 (gd c)=true->(∀a xs,Hb a=some (.tup xs)->H' a=some (.tup xs))->Dv H' x (gd c))->(ax Hb H'->Dv H' x (gd c))->g x σ H' fun σ2 H2=>tb {D with nx:=Pv (i+1),ct:=Pv (i+1),bk:=D.nx} σ2 H2) (hd:∀σ H',Pv cs.length σ H'->D.nx σ H'):YL K v g tb D σ H:=by
 obtain⟨p,xs,rfl,e,dv⟩:=hl.lst_inv
 have hxl:xs.length=cs.length:=by rw [dv.length,List.length_map]
 refine forL (hk 0 σ H (Nat.zero_le _) h0 p xs rfl (e K)) Pv h0 (fun i σ H' hi hp=>hk i σ H' (by omega) hp p xs rfl (e K)) (fun i x σ H' hx hp=>?_) (fun σ H' hp=>hd σ H' (by rw [<-hxl];exact hp))
 have hi:i<cs.length:=by have:=(List.getElem?_eq_some_iff.mp hx).1;omega
 obtain⟨x',GX,Nu⟩:=dv.get (i:=i) (d:=gd cs[i]) (by rw [List.getElem?_map,List.getElem?_eq_getElem hi];rfl)
 rw [hx] at GX
 cases GX
 exact hs i cs[i] x σ H' (List.getElem?_eq_getElem hi) hp (fun im t=>Nu.Dc t im) (fun s=>Nu.keeps s)
end L2
namespace L2
open PySem PySem.Spec PyProof.Rows PySem.W
section
variable {X:Cx} {tg:Expr}
section
variable {σ:St} {H:Hp} {Q:VK} {D:Ends} {K:PySem.W.Frag}
end
end
end L2
namespace L2
open PySem
section
variable {H:Hp} {Q:VK} {K:PySem.W.Frag}
end
end L2
namespace L2
open PySem PySem.Spec PyProof.Rows PySem.W
section
variable {X:Cx}
end
section
variable {σ:St} {H:Hp} {Q:VK} {D:Ends} {K:PySem.W.Frag} {p:Addr} {ds:List PyData}
theorem Rt {q:Addr} {es:List PyData} (hp:c9 H p ds) (hq:c9 H q es) (hl:ds.length+es.length<=4000) (k:∀r H',ax H H'->H r=none->c9 H' r (ds++es)->Q (.ref r) H'):abt (.ref p) (.ref q) H Q:=by
 obtain⟨xs,e,dv,im⟩:=hp
 obtain⟨zs,e2,dv2,im2⟩:=hq
 refine⟨p,q,xs,zs,rfl,rfl,e,e2,by rw [dv.length,dv2.length];exact small hl,fun r hr=>?_⟩
 exact k r _ (bS hr) hr (Jj hr (dv.append dv2) (GU im im2))
end
end L2
namespace L2
open PySem PySem.Calls PyProof.Rows
section
variable {X:Cx} {e k:Expr} {te tk:TE} {pos p2:Pos}
end
section
variable {X:Cx}
end
section
variable {K:PySem.W.Frag} {σ:St} {H:Hp} {Q:VK} {p:Addr} {ds:List PyData}
end
end L2
namespace L2
open PySem PySem.Spec PyProof.Rows PySem.W
section
variable {X:Cx}
def TK (ss:List Str):Prop:=ss.Pairwise fun a b=>A4 b a=false
theorem B9:∀(r:List Str) (p:Str),risingS p r=true->(∀x∈r,A4 x p=false)/\TK r
 |[],_,_=>⟨fun x hx=>(by cases hx),List.Pairwise.nil⟩
 |y::r,p,h=>by
  unfold risingS at h
  rw [Bool.and_eq_true] at h
  obtain⟨h1,h2⟩:=h
  have TF:A4 y p=false:=by
   have:ltCps y.cps.toList p.cps.toList=false:=by simpa using h1
   rw [ltCps_eq] at this
   exact this
  obtain⟨a,b⟩:=B9 r y h2
  refine⟨fun x hx=>?_,List.pairwise_cons.mpr ⟨a,b⟩⟩
  rcases List.mem_cons.mp hx with rfl|hx
  . exact TF
  . exact Im (a x hx) TF
theorem IW {ss:List Str} (h:sortedS ss=true):TK ss:=by
 cases ss with
 |nil=>exact List.Pairwise.nil
 |cons x r=>obtain⟨a,b⟩:=B9 r x h;exact List.pairwise_cons.mpr ⟨a,b⟩
theorem HK:∀{xs ys:List Str},xs.Perm ys->TK xs->TK ys->xs=ys
 |[],_,hp,_,_=>List.Perm.nil_eq hp
 |x::xs,[],hp,_,_=>by have:=hp.length_eq;simp at this
 |x::xs,y::ys,hp,h1,h2=>by
  have hx:=List.pairwise_cons.mp h1
  have hy:=List.pairwise_cons.mp h2
  have hxy:x=y:=by
   have m1:y∈x::xs:=hp.mem_iff.mpr List.mem_cons_self
   have m2:x∈y::ys:=hp.mem_iff.mp List.mem_cons_self
   rcases List.mem_cons.mp m1 with e|m1'
   . exact e.symm
   rcases List.mem_cons.mp m2 with e|m2'
   . exact e
   exact VA (hy.1 x m2') (hx.1 y m1')
  subst hxy
  rw [HK (List.Perm.cons_inv hp) hx.2 hy.2]
theorem Hm:∀{us:List Value} {ss:List Str},StrsAre us ss->Vals (ss.map V.str) us
 |_,_,.nil=>.nil
 |_,_,.cons _ t r=>.cons ⟨t,rfl⟩ (Hm r)
theorem KJ {H:Hp}:∀(ss:List Str),cK H (ss.map V.str) (ss.map PyData.str)
 |[]=>.nil
 |x::r=>.cons (.str x) (KJ r)
theorem N7 {H:Hp}:∀{xs:List V} {ns:List Int} {us:List Value},cK H xs (ns.map PyData.int)->Vals xs us->IntsAre us ns
 |_,[],_,.nil,.nil=>.nil
 |_,_::_,_,.cons h r,.cons q t=>by
  cases h
  obtain⟨tk,rfl⟩:=q
  exact .cons _ _ (N7 r t)
end
section
variable {prog:Program} {w:World} {A:Around} {E:Value->Shared->Prop} {s:Shared} {it l:Addr} {a8:Array Value}
end
section
variable {X:Cx} {e:Expr} {te:TE} {p p2 pos aeO:Pos}
end
section
variable {K:PySem.W.Frag} {σ:St} {H:Hp} {Q:VK} {p:Addr} {ds:List PyData} {v:V}
end
section
variable {P:Program} {w:World} {H:Hp} {h:Heap} {d:Addr} {o:Obj} {kvs:List (Key × V)}
theorem rJ.wK (ok:rJ P w H h) (hd:H d=some (.dK kvs)) (ho:h.get? d=some o):rJ P w (upd H d (.wK o (.dK kvs))) h:=by
 intro b u q
 by_cases hb:b=d
 . subst hb
   rw [ao] at q
   cases q
   exact⟨ho,ok b _ hd⟩
 . rw [ay hb] at q
   refine(ok b u q).Jh (fun c v _ r=>r) (fun c r=>?_) fun c xs r=>?_
   . rw [ay (lj r hd (by intro z;cases z))];exact r
   . rw [ay (lj r hd (by intro z;cases z))];exact r
theorem rJ.ZT (ok:rJ P w H h) (hd:H d=some (.wK o (.dK kvs))):rJ P w (upd H d (.dK kvs)) h:=by
 intro b u q
 by_cases hb:b=d
 . subst hb
   rw [ao] at q
   cases q
   exact(ok b _ hd).2
 . rw [ay hb] at q
   refine(ok b u q).Jh (fun c v _ r=>r) (fun c r=>?_) fun c xs r=>?_
   . rw [ay (lj r hd (by intro z;cases z))];exact r
   . rw [ay (lj r hd (by intro z;cases z))];exact r
end
section
variable {X:Cx} {pins:List (Addr × Obj)} {σ:St} {H:Hp} {s:Shared} {d:Addr} {o:Obj} {kvs:List (Key × V)}
theorem Inv.freeze (I:Inv X pins σ H s) (hd:H d=some (.dK kvs)) (ho:s.heap.get? d=some o):Inv X pins σ (upd H d (.wK o (.dK kvs))) s:=by
 have u:Un X.fs [] H (upd H d (.wK o (.dK kvs))) s.heap s.heap:={
  keep:=fun b u e n _ _=>e
  slot:=fun b u e n _ _=>⟨u.slots,e⟩
  free:=fun b u e n _=>by rw [ay (Ne.symm (aA hd n))];exact n
  there:=fun b u e _=>⟨u,e⟩
  Cy:=fun b xs e=>by rw [ay (lj e hd (by intro z;cases z))];exact e
  yk:=fun b u v e=>by rw [ay (lj e hd (by intro z;cases z))];exact e
  E4:=fun b ps e=>⟨#[],by rw [ay (lj e hd (by intro z;cases z)),e];simp⟩}
 exact I.un (h':=s.heap) (t':=s.toks) u (I.bL.wK hd ho)
theorem Inv.ZT (I:Inv X pins σ H s) (hd:H d=some (.wK o (.dK kvs))) (h0:∀u v,X.Mx d≠some (.wK u v)):Inv X pins σ (upd H d (.dK kvs)) s:=by
 have nn:∀b,H b=none->upd H d (.dK kvs) b=none:=fun b n=>by rw [ay (Ne.symm (aA hd n))];exact n
 refine⟨I.ok,I.os,I.bare,⟨I.base.keep,I.base.slot,fun b u e n x=>nn b (I.base.free b u e n x),I.base.there,fun b xs e=>?_,fun b u v e=>?_,fun b ps e=>?_⟩,I.loc,I.cell,nn _ I.free,fun x c e=>nn c (I.mH x c e),fun p hp=>?_,I.bL.ZT hd,I.len⟩
 . have z:=I.base.Cy b xs e
   rw [ay (lj z hd (by intro q;cases q))];exact z
 . have z:=I.base.yk b u v e
   have hb:b≠d:=fun q=>h0 u v (q▸e)
   rw [ay hb];exact z
 . obtain⟨m,z⟩:=I.base.E4 b ps e
   exact⟨m,by rw [ay (lj z hd (by intro q;cases q))];exact z⟩
 . obtain⟨a1,a2,a3⟩:=I.pin p hp
   exact⟨a1,nn _ a2,a3⟩
theorem Inv.abq (I:Inv X pins σ H s) (hd:H d=some (.dK kvs)):∀u v,X.Mx d≠some (.wK u v):=fun u v z=>by
 have:=I.base.yk d u v z
 rw [hd] at this
 cases this
def W7 (t:TE):TE:=fun σ H Q=>∃d kvs,H d=some (.dK kvs)/\t σ H fun v H'=>(∃o,H' d=some (.wK o (.dK kvs)))/\Q v (upd H' d (.dK kvs))
theorem Uk {e:Expr} {t:TE} (h:PE X e t):PE X e (W7 t):=by
 intro pins s σ H Q I ⟨d,kvs,hd,ht⟩
 have h0:=I.abq hd
 exact dq (h pins s σ H _ I ht) fun v s1 ⟨x,H1,I1,r,⟨o,ho⟩,q⟩=>⟨x,_,I1.ZT ho h0,r,q⟩
end
theorem NW {P:Program} {w:World} {H:Hp} {h:Heap} {d:Addr} {o:Obj} {kvs:List (Key × V)} {es:Array DictEntry} {ep:Nat} (ok:rJ P w H h) (hd:H d=some (.wK o (.dK kvs))) (he:o.data=.dict es ep):(d==sysModules)=false/\∃vs,KV kvs vs/\h.DictAt (aX P w) d vs ep:=by
 obtain⟨ho,_,hs,vs,kv,o2,es2,ep2,a1,a2,a3,a4⟩:=ok d _ hd
 rw [ho] at a1
 cases a1
 rw [he] at a3
 cases a3
 exact⟨hs,vs,kv,_,_,ho,a2,he,a4⟩
theorem AK {α β:Type} {F:α->β->Prop}:∀{xs:List α} {ys:List β},Paired F xs ys->∀{i:Nat} {x:α},xs[i]? =some x->∃y,ys[i]? =some y/\F x y
 |_,_,.nil,i,x,h=>by simp at h
 |_,_,.cons r t,0,x,h=>by
  have e:=Option.some.inj h
  exact⟨_,rfl,e▸r⟩
 |_,_,.cons r t,i+1,x,h=>by
  obtain⟨y,e,q⟩:=AK t (i:=i) (by simpa using h)
  exact⟨y,by simpa using e,q⟩
theorem KQ {k:Key} {v:Value} (h:FQ k v=true):RelV (kV k) v:=by
 rcases cC h with⟨i,t,rfl,rfl⟩|⟨x,t,rfl,rfl⟩
 . exact⟨t,rfl⟩
 . exact⟨t,rfl⟩
def DRd (H:Hp) (p:Addr) (m:List (Str × PyData)):Prop:=∃kvs,Rd H p (.dK kvs)/\qE H kvs m
theorem uH.rd {H:Hp} {p:Addr} {m:List (Str × PyData)} (h:uH H p m):DRd H p m:=let ⟨kvs,e,d⟩:=h;⟨kvs,.inl e,d⟩
theorem qE.Vo {H:Hp}:∀{kvs:List (Key × V)} {m:List (Str × PyData)},qE H kvs m->∀{i:Nat} {kv:Key × V},kvs[i]? =some kv->∃k d,m[i]? =some (k,d)/\kv.1=.inr k/\Dv H kv.2 d
 |_,_,.nil,i,kv,h=>by simp at h
 |_,_,.cons (k:=k) (d:=d) hv _ r,0,kv,h=>by
  have e:=(Option.some.inj h).symm
  subst e
  exact⟨k,d,rfl,rfl,hv⟩
 |_,_,.cons _ _ r,i+1,kv,h=>by
  obtain⟨k,d,e,q⟩:=qE.Vo r (i:=i) (by simpa using h)
  exact⟨k,d,by simpa using e,q⟩
section
variable {σ:St} {H:Hp} {Q:VK} {K:PySem.W.Frag} {p:Addr} {m:List (Str × PyData)} {k:Str}
end
section
variable {X:Cx}
def S5:V->List V->Hp->VK->Prop:=fun x vs H Q=>∃a kvs k v,x=.ref a/\vs=[kV k]/\H a=some (.dK kvs)/\oj kvs k=some v/\Q v (upd H a (.dK (sM kvs k)))
theorem JB:MtM X "dict.pop" S5:=by
 intro pins s σ H x vs v us Q I rx rv h
 obtain⟨a,kvs,k,y,rfl,rfl,hH,hv,q⟩:=h
 cases rx
 obtain⟨u,rfl,ru⟩:=rv.one
 exact ab7 I hH ru hv (.inl rfl) fun w' s' I' r=>⟨y,_,I',r,q⟩
end
section
variable {σ:St} {H:Hp} {Q:VK} {K:PySem.W.Frag} {p:Addr} {m:List (Str × PyData)} {k:Str}
theorem Wz {R:Prop} (hp:uH H p m) (h:R):tyV K "dict" (.ref p) H/\R:=let ⟨kvs,e,_⟩:=hp;⟨.inr (.inr (.inl ⟨rfl,.inl ⟨kvs,e⟩⟩)),h⟩
theorem QY {d:PyData} (hp:uH H p m) (hk:yj m k=some d) (h:∀v H2,Mv [p] H H2->uH H2 p (Eo m k)->Q v H2):S5 (.ref p) [.str k] H Q:=by
 obtain⟨kvs,e,dk⟩:=hp
 obtain⟨v,hv,hd⟩:=(dk.val (k:=k)).1 d hk
 have mv:Mv [p] H (upd H p (.dK (sM kvs (.inr k)))):=.bq e (by intro _ z;cases z)
 refine⟨p,kvs,.inr k,v,rfl,rfl,e,hv,h v _ mv ⟨_,ao,dk.drop.Dc mv.tp⟩⟩
end
section
variable {σ:St} {H:Hp} {Q:VK} {K:PySem.W.Frag} {p:Addr}
end
section
variable {X:Cx}
end
theorem MI {h:Heap} {o u:Obj} {b:Addr} (e:(h.push o).get? b=some u) (n:b≠h.objs.size):h.get? b=some u:=by
 obtain⟨e1,e2⟩:=Heap.get?_some_iff.mp e
 refine Heap.get?_some_iff.mpr ⟨?_,e2⟩
 cases h
 simpa [Heap.push,Array.getElem?_push,n] using e1
section
variable {prog:Program} {w:World} {K:Type} [DecidableEq K] {knd:KeyKind prog w K} {A:Around} {E:Value->Shared->Prop} {s:Shared} {d:Addr} {kvs:List (K × Value)} {ep:Nat}
end
section
variable {X:Cx}
theorem MA {P:Program} {w:World} {kvs:List (Key × V)} {vs:List (Key × Value)} {acc:Array Value} (kv:KV kvs vs) (h:ItemsOf (fun i v=>∃k x,vs[i]? =some (k,x)/\(aX P w).is k v=true) acc vs.length):Vals (kvs.map fun kv=>kV kv.1) acc.toList:=by
 obtain⟨h0,h1⟩:=h
 have key:∀(kvs:List (Key × V)) (vs:List (Key × Value)),KV kvs vs->∀l:List Value,l.length=vs.length->(∀(i:Nat) (v:Value),l[i]? =some v->∃k x,vs[i]? =some (k,x)/\(aX P w).is k v=true)->Vals (kvs.map fun kv=>kV kv.1) l:=by
  intro kvs vs r
  induction r with
  |nil=>
   intro l hl _
   cases l with
   |nil=>exact .nil
   |cons=>simp at hl
  |cons r t ih=>
   intro l hl hi
   cases l with
   |nil=>simp at hl
   |cons v l=>
    refine .cons ?_ (ih l (by simpa using hl) fun i v e=>?_)
    . obtain⟨k,x,e,hk⟩:=hi 0 v rfl
      have e':=Option.some.inj e
      dsimp only
      rw [r.1,e']
      exact KQ hk
    . exact hi (i+1) v (by simpa using e)
 exact key kvs vs kv acc.toList (by simpa using h0) fun i v e=>h1 i v (by simpa using e)
end
section
variable {σ:St} {H:Hp} {Q:VK} {p:Addr} {m:List (Str × PyData)}
end
theorem yl:entryFor table "dict_itemiterator.__iter__"=some Builtin.«dict_keyiterator.__iter__»:=
 PySem.W.kcp_entry
def Iti (d:Addr) (o:Obj) (kvs:List (Key × V)):It:=⟨fun i H=>i<kvs.length/\H d=some (.wK o (.dK kvs)),fun i H v H'=>∃t kv,kvs[i]? =some kv/\v=.ref t/\H t=none/\H'=upd H t (.tup [kV kv.1,kv.2]),fun i H=>i=kvs.length/\H d=some (.wK o (.dK kvs))⟩
theorem L4 {P:Program} {w:World} {K:PySem.W.Frag} {elts:List Expr} {x1} {pos:Pos} {it d:Addr} {o:Obj} {kvs:List (Key × V)} {es:Array DictEntry} {ep:Nat} (he:o.data=.dict es ep) (AV:d≠it):
 Turn P w K (.Tuple elts x1 pos) (Iti d o kvs) [it] it (fun i h=>∃ok ov,IsItemIter h it d i kvs.length ep ok ov) where
 mem:=by simp
 obj:=fun i h st b hb=>by
  have e:b=it:=by simpa using hb
  subst e
  obtain⟨ok,ov,e⟩:=st
  exact⟨_,e,fun v z=>by cases z⟩
 keep:=fun i h h' st k=>let ⟨ok,ov,e⟩:=st;⟨ok,ov,k it (by simp) _ e⟩
 item:=by
  intro X hP hw hK hc i pins s σ H E I hf st hg
  subst hP hw hK
  obtain⟨f0,f1,f2,f3,f4,f5⟩:=hf it (by simp)
  obtain⟨hi,hd⟩:=hg
  obtain⟨_,vs,kv,da⟩:=NW I.bL hd he
  have hl:vs.length=kvs.length:=kv.length.symm
  obtain⟨ok,ov,st⟩:=st
  obtain⟨q,hq⟩:∃q,kvs[i]? =some q:=⟨_,List.getElem?_eq_getElem hi⟩
  obtain⟨⟨k,v⟩,hy,hy2⟩:=AK kv hq
  have hil:it<s.heap.objs.size:=Heap.lt_size st
  have hn:H s.heap.objs.size=none:=I.bL.fresh (Nat.le_refl _)
  refine wpAny_pyNext_items_item (knd:=aX X.prog X.w) (by rw [hl];exact st) da hy fun key h' hk hit ht hz kk=>?_
  rw [hl] at hit
  refine⟨_,rfl,wpAny_letOwnedTupleGo_items (s:={s with heap:=h'}) hit fun h2 aeb sb=>?_⟩
  have I1:Inv X pins σ (upd H s.heap.objs.size (.tup [kV q.1,q.2])) {s with heap:=s.heap.push {cls:=.type "tuple",data:=.seq #[key,v]}}:=
   I.laid (t':=s.toks) (fun b u e=>Heap.get?_push_of_some _ e) (Nat.le_refl _) (show c5 X.prog X.w _ _ _ (.tup [kV q.1,q.2]) from⟨by rw [sizeLine_eq];simp,[key,v],.cons (by rw [hy2.1];exact KQ hk) (.cons hy2.2 .nil),IsTup.new _ _⟩)
  have U3:upd H s.heap.objs.size (.tup [kV q.1,q.2]) it=none:=by rw [ay (Nat.ne_of_lt hil)];exact f0
  have I2:Inv X pins σ (upd H s.heap.objs.size (.tup [kV q.1,q.2])) {s with heap:=h2}:=by
   refine Inv.turned (s:={s with heap:=s.heap.push {cls:=.type "tuple",data:=.seq #[key,v]}}) (h':=h2) (t':=s.toks) (it:=it) I1 (fun b u hb e=>?_) U3 f1 f3 f4 f5
   by_cases hbn:b=s.heap.objs.size
   . subst hbn
     have e0:(s.heap.push {cls:=.type "tuple",data:=.seq #[key,v]}).get? s.heap.objs.size=some {cls:=.type "tuple",data:=.seq #[key,v]}:=Heap.get?_push_size _ rfl
     have e1:=e0.symm.trans e
     cases e1
     exact(sb.2 _ hb).trans ht
   . exact(sb.2 _ hb).trans (kk b u hb (MI e hbn))
  refine⟨.ref s.heap.objs.size,_,I2,rfl,⟨_,q,hq,rfl,hn,rfl⟩,⟨_,_,aeb⟩,fun b hb=>?_⟩
  have e:b=it:=by simpa using hb
  rw [e]
  exact U3
 done:=by
  intro X hP hw hK hc i pins s σ H E I hf st hg
  subst hP hw hK
  obtain⟨f0,f1,f2,f3,f4,f5⟩:=hf it (by simp)
  obtain⟨hi,hd⟩:=hg
  obtain⟨_,vs,kv,da⟩:=NW I.bL hd he
  have hl:vs.length=kvs.length:=kv.length.symm
  obtain⟨ok,ov,st⟩:=st
  refine wpAny_pyNext_items_end (knd:=aX X.prog X.w) (I.ok.hd hc) (by rw [hl];exact st) da (by rw [hi,<-hl];simp) fun h' hx=>⟨rfl,I.turned (t':=s.toks) (fun b u hb e=>hx b u hb e) f0 f1 f3 f4 f5⟩
 self:=fun A i s Q E st q=>by
  obtain⟨ok,ov,st⟩:=st
  have hT:s.TypeIs (.ref it) "dict_itemiterator":=⟨_,st,rfl⟩
  refine wpAny_pyIter_slot hT F.slot_dict_itemiterator_iter (wpAny_call_entry F.slot_dict_itemiterator_iter hT yl ?_ (F.args_dict_itemiterator_iter_1 _))
  show wpAny _ _ (ret (.ref it)) _ _ s
  exact wpAny_pure ⟨_,rfl,"dict_itemiterator",_,hT,F.slot_dict_itemiterator_next.lookup,q⟩
def RD (tl:TE):TI:=fun σ H R=>tl σ H fun v H1=>∃d kvs,v=.ref d/\H1 d=some (.dK kvs)/\∀o,R (Iti d o kvs) (upd H1 d (.wK o (.dK kvs)))
theorem SF {X:Cx} {elts:List Expr} {x1} {YT:Pos} {l:Expr} {tl:TE} {apos gX:Pos} (hl:PE X l tl)
 (Ks:attributeBase l "items" X.env (eval l X.env)=eval l X.env:=by rfl) (hline:(apos.endLine==gX.line)=true:=by rfl):PI X (.Tuple elts x1 YT) (.Call (.Attribute l "items" apos) [] [] gX) (RD tl):=by
 intro pins s σ H R I h
 refine wpAny_Call_method0_late Ks hline (dq (hl pins s σ H _ I h) fun v s1 ⟨y,H1,I1,r1,q1⟩=>?_)
 obtain⟨d,kvs,rfl,hd,q⟩:=q1
 obtain⟨h1,h2⟩:=Mf I1 (T:="dict") r1 (.inr (.inr (.inl ⟨rfl,.inl ⟨kvs,hd⟩⟩)))
 cases r1
 refine⟨"dict","dict.items",PySem.F.plainAttrs_dict,PySem.F.slot_dict_items,PySem.F.type_dict_items,h1,h2,Calls.callWith_builtin rfl (PySem.evalArgs_none ?_)⟩
 obtain⟨_,hs,vs,kv,o,es,ep,ho,a2,a3,a4⟩:=(show c5 X.prog X.w H1 s1.heap d (.dK kvs) from I1.bL d _ hd)
 have da:s1.heap.DictAt (aX X.prog X.w) d vs ep:=⟨o,es,ho,a2,a3,a4⟩
 have fq:d<s1.heap.objs.size:=Heap.lt_size ho
 have hlen:vs.length=kvs.length:=kv.length.symm
 refine call_meetsIn PySem.F.slot_dict_items da.dictOf.typeIs PySem.F.entry_dict_items (PySem.F.args_dict_items_1 _) (meets_dict_items (aX X.prog X.w) d hs) ⟨⟨vs,da.dictOf⟩,?_⟩
 refine wpAny_pyIter_items (v:=s1.heap.objs.size) ⟨_,Heap.get?_push_size _ rfl,rfl,rfl⟩ (da.push _) ?_
 have I2:=I1.freeze hd ho
 have hsz:(s1.heap.push {cls:=.type "dict_items",data:=.fields #[.ref d]}).objs.size=s1.heap.objs.size+1:=Heap.size_push ..
 refine⟨_,[_],_,_,_,rfl,I2.kept (t':=s1.toks) fun b u e=>Heap.get?_push_of_some _ (Heap.get?_push_of_some _ e),L4 a3 (Nat.ne_of_lt (by rw [hsz];exact Nat.lt_succ_of_lt fq)),⟨_,_,by rw [<-hlen];exact Heap.get?_push_size _ rfl⟩,fun b hb=>?_,q o⟩
 have e:b=(s1.heap.push {cls:=.type "dict_items",data:=.fields #[.ref d]}).objs.size:=by simpa using hb
 subst e
 exact I2.Jc (by rw [hsz];exact Nat.le_succ _) (I2.bL.fresh (by rw [hsz];exact Nat.le_succ _))
section
variable {σ:St} {H:Hp} {D:Ends} {p:Addr} {m:List (Str × PyData)} {g:TG} {tb:TS}
end
section
variable {σ:St} {H:Hp} {K:PySem.W.Frag}
theorem L8 {x:V} {i j:Nat} {d1 d2:PyData} {R:St->Hp->Prop} (hd:Dv H x (.tuple [d1,d2])) (h:∀v1 v2,Dv H v1 d1->Dv H v2 d2->R ((σ.set i (some v1)).set j (some v2)) H):
 QQ K 2 (jS (fR i) (jS (fR j) RW)) x σ H R:=by
 cases hd with
 |tup ha r=>
  cases r with
  |cons h1 r=>
   cases r with
   |cons h2 r=>
    cases r
    exact⟨_,_,rfl,.of ha,rfl,_,_,rfl,_,_,rfl,rfl,h _ _ h1 h2⟩
end
end L2
namespace L2
open PySem
def UpA (xs:Array Nat):Prop:=∀i j,(hi:i<xs.size)->(hj:j<xs.size)->i<j->xs[i]<xs[j]
structure Good (t:SetTable):Prop where
 up:UpA t.place
 nd:t.dummies=#[]
section
variable {prog:Program} {w:World} {A:Around} {E:Value->Shared->Prop} {s:Shared}
end
section
variable {prog:Program} {w:World} {A:Around} {E:Value->Shared->Prop} {s:Shared}
end
set_option maxRecDepth 100000
section
variable {prog:Program} {w:World} {A:Around} {E:Value->Shared->Prop} {s:Shared} {it a:Addr} {o:Obj} {es:Array (Int × Value)} {ep:Nat} {t:SetTable}
end
section
variable {prog:Program} {w:World} {A:Around} {E:Value->Shared->Prop} {s:Shared} {it a:Addr} {o:Obj} {es:Array (Int × Value)} {ep:Nat} {t:SetTable}
end
section
variable {prog:Program} {w:World} {A:Around} {E:Value->Shared->Prop} {s:Shared} {it a:Addr} {o:Obj} {es:Array (Int × Value)} {ep:Nat} {t:SetTable}
end
end L2
namespace L2
open PySem PySem.Spec PyProof.Rows
section
variable {prog:Program} {w:World} {A:Around} {R:Result->Shared->Prop} {it y:Addr} {fp wr:List Addr} {G:Array GenState->Array GenState->Prop} {n:Nat} {Pv:Nat->Value->Prop} {St:Nat->Shared->Prop}
end
section
variable {prog:Program} {w:World} {A:Around} {E:Value->Shared->Prop} {s:Shared}
set_option maxRecDepth 100000 in
set_option maxHeartbeats 3200000 in
end
section
variable {prog:Program} {w:World} {A:Around} {E:Value->Shared->Prop} {s:Shared} {a:Addr} {S:Int->Bool} {n:Nat}
end
end L2
namespace L2
open PySem PySem.Spec PyProof.Rows PySem.W
section
variable {X:Cx} {e:Expr} {te:TE} {p p2 pos aeO:Pos}
end
section
variable {σ:St} {H:Hp} {Q:VK} {v:V}
end
section
variable {X:Cx}
end
section
variable {σ:St} {H:Hp} {Q:VK} {K:PySem.W.Frag} {p:Addr} {m:List (Str × PyData)}
end
def Tr (h:Heap) (a T:Addr) (c:Value):Prop:=∃oe vs oT ts,h.get? a=some oe/\oe.cls=c/\oe.dict=none/\oe.data=.fields vs/\vs[1]? =some (.ref T)/\T≠a/\h.get? T=some oT/\oT.data=.fields ts/\ts[3]? =some .none/\vs[2]? =some .none
structure Lv (l:List Env) (S:List Addr) (h h':Heap):Prop where
 keep:∀b o,b∉Kd l->b∉S->h.get? b=some o->h'.get? b=some o
 slot:∀b o,b∈Kd l->h.get? b=some o->∃sl,h'.get? b=some {o with slots:=sl}
section
variable {M:Model} {A:Around} {E:Value->Shared->Prop} {s:Shared} {env:Env} {outer:List Env} {L a T:Addr} {c:Value} {base:Heap} {Q:Unit->Shared->Prop}
end
def CXR (P:Program) (w:World):Hj:=fun outer H s E e s'=>∃a T C H',e=.ref a/\s'.os=s.os/\AllBare s'.gens/\Un (Kd outer) [] H H' s.heap s'.heap/\rJ P w H' s'.heap/\Tr s'.heap a T (.ref C)/\s.heap.get? a=none/\s.heap.get? T=none/\H' a=none/\H' T=none/\E (.ref C) none H'
section
variable {P:Program} {w:World} {K:PySem.W.Frag} {mg:Str->Option Value} {base:Heap} {N:List Str} {qual:Str} {scope:Scope} {f:Addr} {cd:Value} {A:Around} {outer:List Env} {s0:Shared} {H0:Hp} {E:XK} {CX:Hj} {pins:List (Addr × Obj)} {σ:St} {H:Hp} {s:Shared}
end
section
variable {K:PySem.W.Frag} {h:Heap} {C:Addr} {bmB:List Value} {newId:String}
def XG (h:Heap) (C:Addr) (bmB:List Value) (newId:String):Prop:=∃(bm:List Value) (N:Addr) (nm q:Str) (bs:List Value) (hd:Bool) (sn:List Str) (sub:List Value) (ab:Bool) (col:Option Bool) (dd:Option Addr) (k0 k1 k2 k3 k5:Option Value) (mN:Str->Option Value),
 h.get? C=some (excClassObj nm q C N bs bm hd sn sub ab col dd k0 k1 k2 k3 k5 newId)/\h.Ns N mN/\mN "__init__"=none/\OwnTail h bmB bm
theorem Zr (X:K.In h) (q:excIn K C bmB newId=true):XG h C bmB newId:=by
 unfold excIn at q
 split at q
 . rename_i dd cd sl ho
   split at q
   . rename_i C' bm k0 k1 k2 k3 n k5 hm hs
     simp only [Bool.and_eq_true,beq_iff_eq,Bool.not_eq_true'] at q
     obtain⟨⟨⟨⟨⟨rfl,rfl⟩,acF⟩,ht⟩,bL⟩,U3⟩:=q
     obtain⟨nm,bs,mro,ns,qn,hd,sn,sub,ab,col,del⟩:=cd
     dsimp only at hm acF bL U3
     subst hm acF
     obtain⟨l⟩:=sl
     dsimp only at hs
     subst hs
     exact⟨bm,ns,nm,qn,bs,hd,sn,sub,ab,col,dd,k0,k1,k2,k3,k5,_,X _ _ ho,.of_isNs (isNs_of_in X bL),nsMap_none_of_in X bL U3,tail_of_in X ht⟩
   . cases q
 . cases q
end
abbrev veB:List Value:=[.type "ValueError",.type "Exception",.type "BaseException",.type "object"]
def Zo (K:PySem.W.Frag) (C:Addr):Prop:=excIn K C veB "ValueError.__new__"=true
section
variable {X:Cx} {pins:List (Addr × Obj)} {σ:St} {H:Hp} {s:Shared}
abbrev Cx.hand (X:Cx) (a:Addr):Cx:={X with A:=X.A.mark (some (.ref a)),calm:=false,xe:=fun _ _=>False}
end
section
variable {M:Model} {A:Around} {E:Value->Shared->Prop}
end
structure TyE (K:PySem.W.Frag) (C:Addr):Prop where
 ga:PySem.W.findIn K (.ref C) "__getattribute__"=some (some (.builtin "BaseException.__getattribute__"))
 gn:PySem.W.findIn K (.ref C) "__getattr__"=some none
 mb:PySem.W.mroIn K C (.type "BaseException")=some true
 hd:PySem.W.hasDictIn K C=true
 ty:acD K C
section
variable {X:Cx}
end
section
variable {P:Program} {w:World} {K:PySem.W.Frag} {mg:Str->Option Value} {base:Heap}
structure ag4 (P:Program) (w:World) (K:PySem.W.Frag) (mg:Str->Option Value) (base:Heap) (k:Nat) (f:Addr) (ps:List Str) (dr:List V) (sp:Sp):Prop where
 ex:∃(fd:FuncData) (ds:List Value),aN P w K mg base (CXR P w) k f fd ps sp/\Binds K fd ps ds/\Vals dr ds
end
section
variable {X:Cx} {k:Nat} {f:Addr} {ps:List Str} {sp:Sp} {dr:List V} {E:XK} {x:Str} {p pos:Pos} {e:Expr} {es:List Expr} {t:TA}
end
section
variable {σ:St} {H:Hp} {Q:VK} {D:Ends} {K:PySem.W.Frag} {E:XK} {C:Addr} {ta:TA}
end
section
variable {X:Cx}
end
section
variable {σ:St} {H:Hp} {Q:VK} {D:Ends} {K:PySem.W.Frag}
end
section
variable {X:Cx} {pins:List (Addr × Obj)} {σ:St} {H:Hp} {s:Shared} {h':Heap}
end
section
variable {X:Cx}
end
section
variable {σ:St} {H:Hp} {Q:VK}
end
section
variable {σ:St} {H:Hp} {Q:VK} {K:PySem.W.Frag} {v:V}
end
end L2
namespace L2
open PySem
section
variable {H:Hp} {Q:VK} {K:PySem.W.Frag}
end
end L2
namespace L2
open PySem PySem.Spec PyProof.Rows PySem.W
theorem Ia (num:Nat->Int):∀k,argBest (fun i j=>decide (num i<num j)) k<=k/\∀j,j<=k->num (argBest (fun i j=>decide (num i<num j)) k)<=num j
 |0=>⟨Nat.le_refl _,fun j hj=>by have:j=0:=by omega
                                 subst this;exact Int.le_refl _⟩
 |k+1=>by
  obtain⟨h1,h2⟩:=Ia num k
  unfold argBest
  by_cases h:num (k+1)<num (argBest (fun i j=>decide (num i<num j)) k)
  . rw [if_pos (decide_eq_true h)]
    refine⟨Nat.le_refl _,fun j hj=>?_⟩
    by_cases hk:j=k+1
    . subst hk;exact Int.le_refl _
    . exact Int.le_trans (Int.le_of_lt h) (h2 j (by omega))
  . rw [if_neg (by simpa using h)]
    refine⟨by omega,fun j hj=>?_⟩
    by_cases hk:j=k+1
    . subst hk;omega
    . exact h2 j (by omega)
section
variable {X:Cx}
theorem N8 {H1:Hp} {kvs:List (Key × V)} {vs:List (Key × Value)} {m:List (Str × PyData)} {ns:List Int} {i:Nat} {k:Key} {v:Value} (hlen:vs.length=kvs.length) (kv:KV kvs vs) (dk:qE H1 kvs m) (ZW:m.map (·.2)=ns.map PyData.int) (hv:vs[i]? =some (k,v)):∃t,v=.int (ns.getD i 0) t:=by
 have hnl:ns.length=kvs.length:=by
  have:=congrArg List.length ZW
  rw [List.length_map,List.length_map] at this
  rw [<-this];exact dk.length.symm
 have hi:i<kvs.length:=by rw [<-hlen];exact(List.getElem?_eq_some_iff.mp hv).1
 obtain⟨y,hy,hy2⟩:=AK kv (List.getElem?_eq_getElem hi)
 rw [hv] at hy
 cases hy
 obtain⟨k',dd,hm',hkc,hdv⟩:=dk.Vo (List.getElem?_eq_getElem hi)
 have hin:i<ns.length:=by omega
 have hdd:dd=.int (ns.getD i 0):=by
  have e1:(m.map (·.2))[i]? =some dd:=by rw [List.getElem?_map,hm'];rfl
  rw [ZW,List.getElem?_map,List.getElem?_eq_getElem hin] at e1
  rw [List.getD_eq_getElem?_getD,List.getElem?_eq_getElem hin]
  exact(Option.some.inj e1).symm
 subst hdd
 have hq:=hdv.int_inv
 have r2:=hy2.2
 rw [hq] at r2
 obtain⟨t,ht⟩:=r2
 exact⟨t,ht⟩
def SG:V->Hp->VK->Prop:=fun x H Q=>∃(p:Addr) (m:List (Str × PyData)) (ns:List Int),x=.ref p/\uH H p m/\m.map (·.2)=ns.map PyData.int/\0<ns.length/\∀k∈ns,(∀j∈ns,k<=j)->Q (.int k) H
def WH (te:TE):TE:=fun σ H Q=>te σ H fun x H1=>SG x H1 Q
theorem Uq {e:Expr} {te:TE} {p pos apos gX:Pos} (he:PE X e te) (hc:X.calm=true) (hg:Gl X "min") (hm:X.mg "min"=none)
 (Ks:attributeBase e "values" X.env (eval e X.env)=eval e X.env:=by rfl) (hline:(apos.endLine==gX.line)=true:=by rfl)
 (h2:starEach [.Call (.Attribute e "values" apos) [] [] gX] X.env=(false,eval (.Call (.Attribute e "values" apos) [] [] gX) X.env)::starEach [] X.env:=by rfl):
 PE X (.Call (.Name "min" p) [.Call (.Attribute e "values" apos) [] [] gX] [] pos) (WH te):=by
 intro pins s σ H Q I h
 refine wpAny_Call_Name_kw (AH I hg hm boot_min ?_ (by decide) (by decide))
 refine PyProof.Rows.callWith_builtin1 ?_ h2 rfl
 rw [h2]
 show wpAny _ _ (spliced ((false,eval (.Call (.Attribute e "values" apos) [] [] gX) X.env)::backTo pos (starEach [] X.env))) _ _ s
 refine Calls.spliced_cons (wpAny_Call_method0_late Ks hline (dq (he pins s σ H _ I h) fun v s1 ⟨y,H1,I1,r1,q1⟩=>?_))
 obtain⟨d,m,ns,rfl,⟨kvs,hd,dk⟩,ZW,ahy,q⟩:=q1
 obtain⟨h1,h2⟩:=Mf I1 (T:="dict") r1 (.inr (.inr (.inl ⟨rfl,.inl ⟨kvs,hd⟩⟩)))
 cases r1
 refine⟨"dict","dict.values",PySem.F.plainAttrs_dict,PySem.F.slot_dict_values,PySem.F.type_dict_values,h1,h2,Calls.callWith_builtin rfl (PySem.evalArgs_none ?_)⟩
 obtain⟨_,hs,vs,kv,o,es,ep,ho,a2,a3,a4⟩:=(show c5 X.prog X.w H1 s1.heap d (.dK kvs) from I1.bL d _ hd)
 have da:s1.heap.DictAt (aX X.prog X.w) d vs ep:=⟨o,es,ho,a2,a3,a4⟩
 have fq:d<s1.heap.objs.size:=Heap.lt_size ho
 have hlen:vs.length=kvs.length:=kv.length.symm
 refine call_meetsIn PySem.F.slot_dict_values da.dictOf.typeIs PySem.F.entry_dict_values (PySem.F.args_dict_values_1 _) (meets_dict_values (aX X.prog X.w) d hs) ⟨⟨vs,da.dictOf⟩,?_⟩
 refine Calls.spliced_nil ?_
 have hsz:(s1.heap.push {cls:=.type "dict_values",data:=.fields #[.ref d]}).objs.size=s1.heap.objs.size+1:=Heap.size_push ..
 have hA:X.A.in1.handled=none:=I1.ok.hd hc
 have hnl:ns.length=kvs.length:=by
  have:=congrArg List.length ZW
  rw [List.length_map,List.length_map] at this
  rw [<-this];exact dk.length.symm
 refine call_min_walk (wpAny_pyIter_values (v:=s1.heap.objs.size) ⟨_,Heap.get?_push_size _ rfl,rfl,rfl⟩ (da.push _) ?_)
 refine⟨_,_,_,_,_,_,fun i j=>decide (ns.getD i 0<ns.getD j 0),rfl,Walks.dictValues (knd:=aX X.prog X.w) hA _ d (Nat.ne_of_lt (by rw [hsz];exact Nat.lt_succ_of_lt fq)) vs ep,⟨⟨_,Heap.get?_push_size _ rfl,rfl,rfl⟩,(da.push _).push _⟩,?_,by omega,CmpOf.ints_lt (fun i=>ns.getD i 0) ?_,?_⟩
 . intro b hb
   rw [Heap.size_push]
   have:b=(s1.heap.push {cls:=.type "dict_values",data:=.fields #[.ref d]}).objs.size\/b=d:=by simpa using hb
   rcases this with rfl|rfl
   . exact Nat.lt_succ_self _
   . rw [hsz];exact Nat.lt_succ_of_lt (Nat.lt_succ_of_lt fq)
 . rintro i v ⟨k,hv⟩
   exact N8 hlen kv dk ZW hv
 . rintro v h' tk ⟨k,hv⟩ hk
   have b:=Ia (fun i=>ns.getD i 0) (vs.length - 1)
   generalize argBest (fun i j=>decide (ns.getD i 0<ns.getD j 0)) (vs.length - 1)=ix at b hv
   obtain⟨b1,b2⟩:=b
   obtain⟨t,rfl⟩:=N8 hlen kv dk ZW hv
   have I2:Inv X pins σ H1 {s1 with heap:=s1.heap.push {cls:=.type "dict_values",data:=.fields #[.ref d]}}:=I1.kept (t':=s1.toks) fun b o e=>Heap.get?_push_of_some _ e
   have fp:=I2.Jc (H':=H1) (Nat.le_refl _) (I2.bL.fresh (Nat.le_refl _))
   have I3:=I2.turned (t':=tk) (h':=h') (it:=(s1.heap.push {cls:=.type "dict_values",data:=.fields #[.ref d]}).objs.size) (fun b o hb e=>hk b o (by simpa using hb) (Heap.get?_push_of_some _ e)) fp.1 fp.2.1 fp.2.2.2.1 fp.2.2.2.2.1 fp.2.2.2.2.2
   have hb:ix<ns.length:=by omega
   refine⟨.int _,H1,I3,⟨t,rfl⟩,q _ ?_ ?_⟩
   . rw [List.getD_eq_getElem?_getD,List.getElem?_eq_getElem hb];exact List.getElem_mem hb
   . intro k hk
     obtain⟨j,hj,rfl⟩:=List.getElem_of_mem hk
     have:=b2 j (by omega)
     rwa [List.getD_eq_getElem?_getD (i:=j),List.getElem?_eq_getElem hj] at this
end
section
variable {σ:St} {H:Hp} {Q:VK}
theorem UP {te:TE} (h:te σ H fun x H1=>SG x H1 Q):WH te σ H Q:=h
theorem ZU {p:Addr} {m:List (Str × PyData)} {ns:List Int} (hp:uH H p m) (hm:m.map (·.2)=ns.map PyData.int) (hl:0<ns.length) (h:∀k∈ns,(∀j∈ns,k<=j)->Q (.int k) H):SG (.ref p) H Q:=⟨p,m,ns,rfl,hp,hm,hl,h⟩
end
def pairD (k:Int × Str):PyData:=.tuple [.int k.1,.str k.2]
def kfH (H:Hp):V->Int × Str
 | .ref a=>match H a with
   |some (.tup [.int i,.str x])=>(i,x)
   |_=>(0,Str.empty)
 |_=>(0,Str.empty)
theorem SK {H:Hp} {v:V} {k:Int × Str} (h:Dv H v (pairD k)):kfH H v=k:=by
 unfold pairD at h
 cases h with
 |tup ha r=>
  cases r with
  |cons h1 r=>
   cases r with
   |cons h2 r=>
    cases r
    cases h1;cases h2
    simp only [kfH,ha]
theorem M4 {H:Hp}:∀{xs:List V} {ks:List (Int × Str)},cK H xs (ks.map pairD)->cK H xs (xs.map fun v=>.tuple [.int (kfH H v).1,.str (kfH H v).2])
 |_,[],.nil=>.nil
 |_,_::_,.cons h r=>.cons (by show Dv H _ (.tuple [.int (kfH H _).1,.str (kfH H _).2]);rw [SK h];exact h) (M4 r)
section
variable {X:Cx} {pins:List (Addr × Obj)} {σ:St} {H:Hp} {s:Shared}
theorem IZ {l:Addr} {xs:List V} {kf:V->Int × Str} {Q:VK} {E:Value->Shared->Prop} (I:Inv X pins σ H s) (hl:iH X.K H l xs) (h64:xs.length<64) (dv:cK H xs (xs.map fun v=>.tuple [.int (kf v).1,.str (kf v).2])) (fin:NC X pins σ H jx kf xs Q):
 wpAny (model X.prog X.w) X.A (call (.builtin "sorted") [.ref l]) (EP X pins σ Q) E s:=by
 have hsl:(64:Nat)<=sizeLine:=by decide
 obtain⟨vs,rv,p,hz⟩:=I.list hl
 have lx:=rv.length
 refine Calls.call_function_entry kind_sorted plain_sorted entry_sorted (args_sorted1 _) ?_
 unfold Builtin.«sorted»
 refine wpAny_bind (m:=checkCount "sorted" 1 1 _) (wpAny_pure ?_)
 refine wpAny_bind (collect_list p.isList ?_ (by omega))
 refine wpAny_bind (wpAny_newList ?_ (by omega))
 have fp0:ve X pins H s.heap.objs.size:=I.Jc (Nat.le_refl _) (I.bL.fresh (Nat.le_refl _))
 have I2:Inv X pins σ H {s with heap:=(s.heap.push (seqObj "list" #[] 0)).update s.heap.objs.size (Obj.mapSeq (·++vs.toArray))}:=(I.D9 (o:=seqObj "list" #[] 0)).J2 fp0
 have hsz:((s.heap.push (seqObj "list" #[] 0)).update s.heap.objs.size (Obj.mapSeq (·++vs.toArray))).objs.size=s.heap.objs.size+1:=by rw [Heap.size_update,size_push']
 generalize hG:(s.heap.push (seqObj "list" #[] 0)).update s.heap.objs.size (Obj.mapSeq (·++vs.toArray))=h2 at I2 hsz ⊢
 have LI:(h2.push (seqObj "list" vs.toArray 0)).get? h2.objs.size=some (seqObj "list" vs.toArray 0):=Heap.get?_push_size _ rfl
 have I3:Inv X pins σ H {s with heap:=h2.push (seqObj "list" vs.toArray 0)}:=I2.D9
 have fa:ve X pins H h2.objs.size:=I2.Jc (Nat.le_refl _) (I2.bL.fresh (Nat.le_refl _))
 have G3:X.ig.heap.objs.size<=h2.objs.size:=I2.sz
 show wpAny _ _ _ _ _ {s with heap:=h2.push (seqObj "list" vs.toArray 0)}
 generalize h2.objs.size=a at*
 refine wpAny_bind (wpAny_holding (wpAny_call_entry slot_list_sort ⟨_,LI,rfl⟩ entry_list_sort ?body (args_list_sort _)))
 case body=>
  show wpAny (model X.prog X.w) X.A.in1.in1 (Builtin.«list.sort» ⟨[.ref a],[]⟩) _ _ _
  rw [list_sort_plain]
  generalize h2.push (seqObj "list" vs.toArray 0)=h3 at*
  refine wpAny_bind (listItems_at LI rfl ?_)
  refine wpAny_bind (listUpdate_at LI rfl ?_ (by rw [List.size_toArray];omega) (Nat.zero_le _))
  have I4:Inv X pins σ H {s with heap:=h3.update a (Obj.mapSeq fun _=>(#[]:Array Value))}:=I3.J2 fa
  obtain⟨e1,oa⟩:∃e1,(h3.update a (Obj.mapSeq fun _=>(#[]:Array Value))).get? a=some (seqObj "list" #[] e1):=⟨_,get?_update_seq LI fun _=>#[]⟩
  generalize h3.update a (Obj.mapSeq fun _=>(#[]:Array Value))=h4 at*
  refine wpAny_bind (seqEpoch_at oa rfl ?_)
  refine wpAny_bind (wpAny_newTuple ?_ (by show vs.length<=_;omega))
  have I5:Inv X pins σ H {s with heap:=h4.push (seqObj "tuple" vs.toArray 0)}:=I4.D9
  have oa5:(h4.push (seqObj "tuple" vs.toArray 0)).get? a=some (seqObj "list" #[] e1):=Heap.get?_push_of_some _ oa
  show wpAny _ _ _ _ _ {s with heap:=h4.push (seqObj "tuple" vs.toArray 0)}
  generalize h4.push (seqObj "tuple" vs.toArray 0)=h5 at*
  refine wpAny_bind (wpAny_newList ?_ (Nat.zero_le _))
  have I6:Inv X pins σ H {s with heap:=h5.push (seqObj "list" #[] 0)}:=I5.D9
  have Py:(h5.push (seqObj "list" #[] 0)).get? a=some (seqObj "list" #[] e1):=Heap.get?_push_of_some _ oa5
  refine wpAny_holding ?_
  show wpAny _ _ _ _ _ {s with heap:=h5.push (seqObj "list" #[] 0)}
  generalize h5.push (seqObj "list" #[] 0)=h6 at*
  dsimp only
  by_cases fq:vs.toArray.size<2
  . rw [if_pos fq,if_pos fq]
    refine wpAny_bind (wpAny_pure ?_)
    rw [StateT.run_pure]
    refine wpAny_bind (wpAny_pure ?_)
    dsimp only
    have Zc:(arrOf (SortSt.mk' general' (vs.toArray.zip vs.toArray) #[] 7 none)).map (·.2)=List.toArray vs:=by
     show(vs.toArray.zip vs.toArray).map (·.2)=List.toArray vs
     apply Array.toList_inj.mp
     simp [List.map_snd_zip]
    rw [Zc]
    refine wpAny_bind (seqEpoch_at Py rfl ?_)
    refine wpAny_bind (listUpdate_at Py rfl ?_ (Nat.zero_le _) (by show(List.toArray vs).size<=_;rw [List.size_toArray];omega))
    simp only [bne_self_eq_false,Bool.false_eq_true,if_false]
    have I7:=(I6.J2 (f:=Obj.mapSeq fun _=>List.toArray vs) fa).MY fa G3 (by rw [rv.length];omega) rv (get?_update_seq Py fun _=>List.toArray vs)
    refine wpAny_pure ⟨_,rfl,wpAny_pure ⟨_,rfl,.ref a,_,I7,rfl,fin a xs H (ax.refl _) fa.1 fa.1 ⟨List.Perm.refl _,?_⟩⟩⟩
    rw [List.size_toArray] at fq
    match xs,lx with
    |[],_=>exact .nil
    |[_],_=>exact List.pairwise_singleton _ _
    |_::_::_,lx=>simp at lx;omega
  . rw [if_neg fq,if_neg fq]
    rw [List.size_toArray] at fq
    obtain⟨fs,k1,k2,k3⟩:=Fv I6 rv dv
    refine wpAny_bind (kat_kind k1 (by omega) k3 (by decide) ?_)
    refine wpAny_bind (wpAny_mono (kat_run (Q:=fun JE s2=>s2={s with heap:=h6}/\∃p:Array Nat,Ix xs.length p/\arrOf JE=p.map (kas_item ((List.toArray vs).zip (List.toArray vs)))/\failedOf JE=none/\Up (fun i j=>jx (kf (xs.getD i .aQ)) (kf (xs.getD j .aQ))) p xs.length)
     (G:=fun p s2=>s2={s with heap:=h6}/\Ix xs.length p/\Up (fun i j=>jx (kf (xs.getD i .aQ)) (kf (xs.getD j .aQ))) p xs.length) rfl (by omega) (by omega) (fun p JE s2 a1 a2 a3 ⟨a4,a5,a6⟩=>⟨a4,p,a5,a2,a3,a6⟩) ?_) ?_ fun _ _ z=>z)
    . rw [show vs.length=xs.length by omega]
      refine MZ (lt:=fun i j=>jx (kf (xs.getD i .aQ)) (kf (xs.getD j .aQ))) (S:=fun z=>z={s with heap:=h6}) ⟨fun _=>Kg _,fun _ _=>RH,fun _ _ _=>QJ⟩ (OW I6 rv dv) (by omega) (fun p s2 hs hp hu=>⟨hs,hp,hu⟩) _ rfl
    . rintro⟨⟨⟩,JE⟩ s2 ⟨rfl,p,hp,har,hf,hu⟩
      dsimp only
      rw [kat_snds rfl har]
      have ho:(p.toList.map fun i=>vs.getD i Value.none).length<64:=by simp [hp.sz];omega
      refine wpAny_bind (seqEpoch_at Py rfl ?_)
      refine wpAny_bind (listUpdate_at Py rfl ?_ (Nat.zero_le _) (by show(List.toArray (p.toList.map fun i=>vs.getD i Value.none)).size<=_;rw [List.size_toArray];omega))
      rw [hf]
      simp only [bne_self_eq_false,Bool.false_eq_true,if_false]
      have Fx:=DR rv p.toList
      have I7:=(I6.J2 (f:=Obj.mapSeq fun _=>List.toArray (p.toList.map fun i=>vs.getD i Value.none)) fa).MY fa G3 (by rw [Fx.length];omega) Fx (get?_update_seq Py fun _=>List.toArray (p.toList.map fun i=>vs.getD i Value.none))
      exact wpAny_pure ⟨_,rfl,wpAny_pure ⟨_,rfl,.ref a,_,I7,rfl,fin a _ H (ax.refl _) fa.1 fa.1 (J7 hp hu)⟩⟩
def RG:List V->Hp->VK->Prop:=fun xs H Q=>∃(v:V) (ks:List (Int × Str)),xs=[v]/\Dv H v (.list (ks.map pairD))/\ks.length<64/\∀q H' (Ug:List (Int × Str)),ax H H'->H q=none->Ug.Perm ks->Ug.Pairwise (fun c d=>jx d c=false)->c9 H' q (Ug.map pairD)->Q (.ref q) H'
theorem MS:kl X (.builtin "sorted") RG:=by
 intro pins s σ H xs us Q I r h
 obtain⟨v,ks,rfl,hd,hl,q⟩:=h
 obtain⟨u,rfl,ru⟩:=vals1 r
 obtain⟨p,ys,rfl,e,dv⟩:=hd.lst_inv
 cases ru
 refine IZ I (e X.K) (by rw [dv.length,List.length_map];exact hl) (M4 dv) fun a zs H' sm hn TC ord=>?_
 obtain⟨pm,pw⟩:=ord
 obtain⟨Ug,pc,dv'⟩:=dv.perm pm
 have C5:ax H (upd H' a (.lst zs)):=sm.trans (bS TC)
 exact q a _ Ug C5 hn pc (cK.pairwise (R:=fun a b=>jx b a=false) (key:=fun k=>k) (fun v c hv=>SK hv) dv' pw) ⟨zs,ao,dv'.keeps C5,iu (fun _=>rfl) _⟩
end
section
variable {σ:St} {H:Hp} {Q:VK}
theorem Ui {v:V} {ks:List (Int × Str)} (hp:Dv H v (.list (ks.map pairD))) (hl:ks.length<64) (h:∀q H' (Ug:List (Int × Str)),ax H H'->H q=none->Ug.Perm ks->Ug.Pairwise (fun c d=>jx d c=false)->c9 H' q (Ug.map pairD)->Q (.ref q) H'):RG [v] H Q:=⟨v,ks,rfl,hp,hl,h⟩
end
section
variable {σ:St} {H:Hp} {Q:VK} {K:PySem.W.Frag} {p:Addr} {m:List (Str × PyData)} {k:Str}
theorem abV {n:Nat} {tl:TE} {g:TG} {tc:TT} {te:TE} (hp:uH H p m) (htl:∀R:V->Hp->Prop,R (.ref p) H->tl σ H R) (pf:Str × PyData->Bool) (fd:Str × PyData->PyData) (hlen:m.length<=4000) (hi:∀c,C8 (fd c)=true)
 (turn:∀x c Hf H' (N:Option V->Hp->Prop),c∈m->Mv [p] H Hf->DRd Hf p m->ax Hf H'->Dv H' x (.tuple [.str c.1,c.2])->(pf c=true->∀y H4,ax H' H4->Dv H4 y (fd c)->N (some y) H4)->(pf c=false->∀H3,ax H' H3->N none H3)->
  g x (List.replicate n none++σ) H' fun σ2 H2=>tc σ2 H2 fun b H3=>LCT te N σ2 b H3)
 (kk:∀q H',ax H H'->H q=none->c9 H' q ((m.filter pf).map fd)->Q (.ref q) H'):W7 (tLC n (RD tl) g tc te) σ H Q:=by
 obtain⟨kvs,e,dk⟩:=hp
 refine⟨p,kvs,e,htl _ ⟨p,kvs,rfl,e,fun o=>?_⟩⟩
 have mv:Mv [p] H (upd H p (.wK o (.dK kvs))):=.bq e (by intro _ z;cases z)
 have rd:DRd (upd H p (.wK o (.dK kvs))) p m:=⟨kvs,.inr ⟨o,ao⟩,dk.Dc mv.tp⟩
 have hl:kvs.length=m.length:=dk.length
 refine⟨fun i j acc H'=>i<=m.length/\j=m.length - i/\ax (upd H p (.wK o (.dK kvs))) H'/\cK H' acc (((m.take i).filter pf).map fd),⟨m.length,Nat.zero_le _,rfl,ax.refl _,by simpa using cK.nil⟩,?_⟩
 rintro i j acc H' ⟨uF,rfl,sm,uG⟩
 have hfz:H' p=some (.wK o (.dK kvs)):=sm _ _ ao
 have hal:acc.length<=m.length:=by
  rw [uG.length,List.length_map]
  refine Nat.le_trans (List.length_filter_le _ _) ?_
  rw [List.length_take]
  omega
 by_cases hc:i=m.length
 . left
   refine⟨⟨by omega,hfz⟩,fun q hq=>?_⟩
   have hpq:p≠q:=aA hfz hq
   have tk:m.take i=m:=List.take_of_length_le (by omega)
   rw [tk] at uG
   have ups:upd (upd H' q (.lst acc)) p (.dK kvs) q=some (.lst acc):=by rw [ay (Ne.symm hpq),ao]
   refine⟨⟨o,by rw [ay hpq];exact hfz⟩,kk q _ (fun a u z=>?_) ?_ ⟨acc,ups,uG.Dc (fun a xs z=>?_) (iu hi _),iu hi _⟩⟩
   . by_cases ha:a=p
     . subst ha;rw [e] at z;cases z;exact ao
     . have z1:H' a=some u:=sm _ _ (by rw [ay ha];exact z)
       rw [ay ha,ay (aA z1 hq)];exact z1
   . cases hz:H q with
     |none=>rfl
     |some u=>
      have:H' q=some u:=sm _ _ (by rw [ay (Ne.symm hpq)];exact hz)
      rw [hq] at this;cases this
   . rw [ay (lj z hfz (by intro y;cases y)),ay (aA z hq)];exact z
 . right
   have fq:i<m.length:=by omega
   refine⟨⟨by omega,hfz⟩,qX (by omega),fun x H2 hy=>?_⟩
   obtain⟨t,kv,hkv,rfl,ht,rfl⟩:=hy
   obtain⟨c,d,hm,hkc,hdv⟩:=dk.Vo hkv
   have TH:m.take (i+1)=m.take i++[(c,d)]:=by rw [List.take_add_one,hm];rfl
   have smt:ax H' (upd H' t (.tup [kV kv.1,kv.2])):=bS ht
   have afh:Dv H' kv.2 d:=((dk.Dc mv.tp).Dc (fun a xs z=>sm a _ z)).Vo hkv |> fun⟨c',d',hm',_,h'⟩=>by
    rw [hm] at hm';cases hm';exact h'
   have hx:Dv (upd H' t (.tup [kV kv.1,kv.2])) (.ref t) (.tuple [.str c,d]):=by
    have e1:kV kv.1=.str c:=by rw [hkc];rfl
    rw [e1] at smt ⊢
    exact .tup ao (.cons (.str _) (.cons (afh.keeps smt) .nil))
   have C5:=sm.trans smt
   refine turn (.ref t) (c,d) _ _ (fun r H4=>match r with|some y=>∃j',j'<m.length - i/\i+1<=m.length/\j'=m.length - (i+1)/\ax (upd H p (.wK o (.dK kvs))) H4/\cK H4 (acc++[y]) (((m.take (i+1)).filter pf).map fd)|none=>∃j',j'<m.length - i/\i+1<=m.length/\j'=m.length - (i+1)/\ax (upd H p (.wK o (.dK kvs))) H4/\cK H4 acc (((m.take (i+1)).filter pf).map fd))
    (List.mem_of_getElem? hm) mv rd C5 hx (fun hb y H4 s4 d4=>⟨m.length - (i+1),by omega,fq,rfl,C5.trans s4,?_⟩) (fun hb H3 s3=>⟨m.length - (i+1),by omega,fq,rfl,C5.trans s3,?_⟩)
   . rw [TH,List.filter_append,List.map_append]
     simp only [List.filter_cons,hb,if_true,List.filter_nil,List.map_cons,List.map_nil]
     exact cK.append (uG.keeps (smt.trans s4)) (.cons d4 .nil)
   . rw [TH,List.filter_append,List.map_append]
     simp only [List.filter_cons,hb,Bool.false_eq_true,if_false,List.filter_nil,List.map_nil,List.append_nil]
     exact uG.keeps (smt.trans s3)
theorem VE {R:Bool->Prop} (hp:uH H p m) (h:R (!m.isEmpty)):∃b,Qs K (.ref p) H b/\R b:=by
 obtain⟨kvs,e,dk⟩:=hp
 refine⟨_,.inr (.inr ⟨kvs,e,rfl⟩),?_⟩
 have:kvs.isEmpty=m.isEmpty:=by
  have:=dk.length
  cases kvs <;>cases m <;>simp_all
 rw [this];exact h
theorem RZ {td ty:TE} (h:td σ H fun x H1=>∃a,x=.ref a/\IsD H1 a/\ty σ H1 fun y H2=>∃o,jb H2 a y o/\Q (o.getD .aQ) H2):QD td ty σ H Q:=h
theorem U8 {R:Addr->Prop} (hp:uH H p m) (h:R p):∃a,V.ref p=.ref a/\IsD H a/\R a:=by
 obtain⟨kvs,e,_⟩:=hp
 exact⟨p,rfl,.inl ⟨kvs,.inl e⟩,h⟩
theorem S7 (hp:uH H p m) (h1:∀d,yj m k=some d->∀v,Dv H v d->Q v H) (h2:yj m k=none->Q .aQ H):∃o,jb H p (.str k) o/\Q (o.getD .aQ) H:=by
 obtain⟨kvs,e,dk⟩:=hp
 refine⟨oj kvs (.inr k),.inl ⟨kvs,.inr k,.inl e,rfl,rfl⟩,?_⟩
 obtain⟨g1,g2⟩:=dk.val (k:=k)
 cases hl:yj m k with
 |none=>rw [g2 hl];exact h2 hl
 |some d=>obtain⟨v,hv,hd⟩:=g1 d hl;rw [hv];exact h1 d hl v hd
end
def TrD (h:Heap) (a T:Addr) (c:Value) (od:Option Addr):Prop:=∃oe vs oT ts,h.get? a=some oe/\oe.cls=c/\oe.dict=od/\oe.data=.fields vs/\vs[1]? =some (.ref T)/\T≠a/\h.get? T=some oT/\oT.data=.fields ts/\ts[3]? =some .none/\vs[2]? =some .none
section
variable {M:Model} {A:Around} {E:Value->Shared->Prop} {s:Shared} {env:Env} {outer:List Env} {L a T:Addr} {c:Value} {od:Option Addr} {base:Heap} {Q:Unit->Shared->Prop}
end
def CXD (P:Program) (w:World):Hj:=fun outer H s E e s'=>∃a T C od H',e=.ref a/\s'.os=s.os/\AllBare s'.gens/\Un (Kd outer) [] H H' s.heap s'.heap/\rJ P w H' s'.heap/\TrD s'.heap a T (.ref C) od/\s.heap.get? a=none/\s.heap.get? T=none/\H' a=none/\H' T=none/\E (.ref C) od H'
section
variable {P:Program} {w:World} {K:PySem.W.Frag} {mg:Str->Option Value} {base:Heap} {N:List Str} {qual:Str} {scope:Scope} {f:Addr} {cd:Value} {A:Around} {outer:List Env} {s0:Shared} {H0:Hp} {E:XK} {CX:Hj} {pins:List (Addr × Obj)} {σ:St} {H:Hp} {s:Shared}
end
structure aih (P:Program) (w:World) (K:PySem.W.Frag) (mg:Str->Option Value) (base:Heap) (k:Nat) (f:Addr) (ps:List Str) (dr:List V) (sp:Sp):Prop where
 ex:∃(fd:FuncData) (ds:List Value),aN P w K mg base (CXD P w) k f fd ps sp/\Binds K fd ps ds/\Vals dr ds
section
variable {X:Cx} {CX:Hj} {k:Nat} {f C:Addr} {fd:FuncData} {ps:List Str} {sp:Sp} {dr:List V} {ds:List Value} {E:St->XK} {x m:Str} {p pos apos:Pos} {e o:Expr} {es:List Expr} {ta:TE} {t:TA}
end
section
variable {P:Program} {w:World} {K:PySem.W.Frag} {mg:Str->Option Value} {base:Heap}
end
section
variable {prog:Program} {w:World} {A:Around} {E:Value->Shared->Prop} {s:Shared} {K:PySem.W.Frag} {x C:Addr} {ox:Obj} {name:Str} {v:Value} {cd:ClassData}
open Builtin.ObjectAttr in
open Builtin.ObjectAttr in
end
structure ExN (K:PySem.W.Frag) (C W fI:Addr):Prop where
 cls:∃(nm q:Str) (N:Addr) (bs:List Value) (sn:List Str) (sub:List Value) (ab:Bool) (col:Option Bool) (dd:Option Addr) (k0 k1 k2 k3 k5:Option Value),K.lookup C=some (excClassObj nm q C N bs (.ref W::veB) true sn sub ab col dd k0 k1 k2 k3 k5 "ValueError.__new__")
 up:Zo K W
 init:PySem.W.findIn K (.ref C) "__init__"=some (some (.ref fI))
 fn:PySem.W.isFn K (.ref fI)=true
 te:TyE K C
 sa:PySem.W.findIn K (.ref C) "__setattr__"=some (some (.builtin "object.__setattr__"))
 tk:PySem.W.takerIn K C "name"=some none
 nm:PySem.W.findIn K (.ref C) "name"=some none
def aea (K:PySem.W.Frag) (C:Addr):Prop:=∀h:Heap,K.In h->∃(bm:List Value) (N:Addr) (nm q:Str) (bs:List Value) (hd:Bool) (sn:List Str) (sub:List Value) (ab:Bool) (col:Option Bool) (dd:Option Addr) (k0 k1 k2 k3 k5:Option Value),
 h.get? C=some (excClassObj nm q C N bs bm hd sn sub ab col dd k0 k1 k2 k3 k5 "ValueError.__new__")/\OwnTail h veB bm
theorem Zo.o {K:PySem.W.Frag} {C:Addr} (h:Zo K C):aea K C:=fun hp X=>by
 obtain⟨bm,N,nm,q,bs,hd,sn,sub,ab,col,dd,k0,k1,k2,k3,k5,mN,hC,_,_,T⟩:=Zr X h
 exact⟨bm,N,nm,q,bs,hd,sn,sub,ab,col,dd,k0,k1,k2,k3,k5,hC,T⟩
section
variable {prog:Program} {w:World} {A:Around} {E:Value->Shared->Prop} {h:Heap} {g:Array GenState} {d:Drawn} {t:Nat} {os:OsState}
variable {nm q:Str} {C N:Addr} {bs bm bmB:List Value} {afo:Bool} {sn:List Str} {sub:List Value} {ab:Bool} {col:Option Bool} {dd:Option Addr} {k0 k1 k2 k3 k5:Option Value} {B newId aeG:String}
end
structure afT (K:PySem.W.Frag) (W:Addr):Prop where
 ga:PySem.W.specialIn K (.ref W) "__getattribute__"=some (some (.builtin "type.__getattribute__"))
 rd:PySem.W.readsIn K W (.type "type")=true
 fd:PySem.W.findCls K (.ref W) (.type "type") "__init__"=some (.val (.builtin "ValueError.__init__"))
section
variable {X:Cx} {W:Addr} {x:Str} {p pos apos:Pos} {e:Expr} {es:List Expr} {t:TA} {pl:Sem Bool}
end
def del (H:Hp) (a:Addr):Hp:=fun b=>if b=a then none else H b
section
variable {prog:Program} {w:World} {A:Around} {E:Value->Shared->Prop} {s:Shared} {env:Env}
variable {nm q:Str} {C N:Addr} {bs bm bmB:List Value} {afo:Bool} {sn:List Str} {sub:List Value} {ab:Bool} {col:Option Bool} {dd:Option Addr} {k0 k1 k2 k3 k5:Option Value} {newId:String}
end
def ClD (X:Cx) (cl:Expr) (hit:Addr->Bool->Prop):Prop:=∀(a C T:Addr) (od:Option Addr) (pins:List (Addr × Obj)) (σ:St) (H:Hp) (s:Shared) (Q:Bool->Shared->Prop) (E:Value->Shared->Prop) (b:Bool),Inv X pins σ H s->TrD s.heap a T (.ref C) od->hit C b->
 (∀h',(∀b o,s.heap.get? b=some o->h'.get? b=some o)->Q b {s with heap:=h'})->
 wpAny (model X.prog X.w) (X.hand a).A (eval cl X.env) (fun c s1=>wpAny (model X.prog X.w) (X.hand a).A (excMatches (.ref a) c) Q E s1) E s
structure HdR where
 hit:Addr->Bool->Prop
 i:Option Nat
 ts:Addr->TS
def X5 (X:Cx):Option Str->Option Nat->Prop
 |some n,some i=>X.N[i]? =some n/\X.env.scope.names.lookup n=some .local
 |none,none=>True
 |_,_=>False
inductive SJ (X:Cx):List ExceptHandler->List HdR->Prop
 |nil:SJ X [] []
 |cons {cl:Expr} {n:Option Str} {b0:Stmt} {Xf:List Stmt} {pos:Pos} {hs:List ExceptHandler} {hit:Addr->Bool->Prop} {i:Option Nat} {ts:Addr->TS} {rs:List HdR} (hc:ClD X cl hit) (hb:∀a,K0 (X.hand a) (b0::Xf) (ts a)) (hn:X5 X n i) (r:SJ X hs rs):
  SJ X (.ExceptHandler (some cl) n (b0::Xf) pos::hs) (⟨hit,i,ts⟩::rs)
section
variable {X:Cx} {pins:List (Addr × Obj)} {σ:St} {H:Hp} {a C:Addr} {od:Option Addr} {Dn:Ends}
end
section
variable {X:Cx} {e:Expr} {te:TE} {y y2:Str} {k k2:Nat} {p1 p2 p3 pos:Pos}
end
section
variable {σ:St} {H:Hp} {Q:VK} {D:Ends} {K:PySem.W.Frag} {C:Addr} {E:St->XK}
end
section
variable {X:Cx}
end
section
open PySem.SeqAt
open PySem.AutoSeq1 (wpAny_loadPart')
open PySem.MeetsSeq PySem.MeetsSeq2 PySem.MeetsSeq3
end
section
variable {X:Cx}
end
section
variable {σ:St} {H:Hp} {Q:VK} {D:Ends} {K:PySem.W.Frag}
end
section
variable {σ:St} {H:Hp} {Q:VK} {K:PySem.W.Frag}
theorem Hr {k:Nat} {g:TG} {tc:TT} {te:TE} {p:Addr} {xs:List V} (hl:iH K H p xs) (hlen:xs.length<=4000) (Pv:Nat->List V->Hp->Prop) (h0:Pv 0 [] H) (hk:∀i acc H',i<=xs.length->Pv i acc H'->iH K H' p xs/\acc.length<=xs.length)
 (turn:∀i x acc H' (N:Option V->Hp->Prop),xs[i]? =some x->Pv i acc H'->(∀y H4,Pv (i+1) (acc++[y]) H4->N (some y) H4)->(∀H4,Pv (i+1) acc H4->N none H4)->
  g x (List.replicate k none++σ) H' fun σ2 H2=>tc σ2 H2 fun b H3=>LCT te N σ2 b H3)
 (kk:∀acc H' q,Pv xs.length acc H'->H' q=none->Q (.ref q) (upd H' q (.lst acc))):∃a,V.ref p=.ref a/\(∃xs,iH K H a xs)/\Y6 k g tc te (HW Q) σ (S8 K a) H:=by
 refine⟨p,rfl,⟨xs,hl⟩,fun i m acc H'=>i<=xs.length/\m=xs.length - i/\Pv i acc H',⟨xs.length,Nat.zero_le _,rfl,h0⟩,?_⟩
 rintro i m acc H' ⟨uF,hm,hp⟩
 obtain⟨Sf,hal⟩:=hk i acc H' uF hp
 by_cases hc:i=xs.length
 . subst hc
   exact .inl ⟨⟨xs,Sf,Nat.le_refl _⟩,fun q hq=>kk acc H' q hp hq⟩
 . have Qn:i<xs.length:=by omega
   refine .inr ⟨⟨xs,xs[i],Sf,List.getElem?_eq_getElem Qn⟩,qX (by omega),fun x H2 hy=>?_⟩
   obtain⟨rfl,hy⟩:=hy
   have hx:=hy xs Sf
   exact turn i x acc H2 (fun o H4=>match o with|some y=>∃m',m'<m/\i+1<=xs.length/\m'=xs.length - (i+1)/\Pv (i+1) (acc++[y]) H4|none=>∃m',m'<m/\i+1<=xs.length/\m'=xs.length - (i+1)/\Pv (i+1) acc H4) hx hp
    (fun y H4 h=>⟨xs.length - (i+1),by omega,Qn,rfl,h⟩) fun H4 h=>⟨xs.length - (i+1),by omega,Qn,rfl,h⟩
end
section
variable {σ:St} {H:Hp} {D:Ends} {p:Addr} {m:List (Str × PyData)} {g:TG} {tb:TS}
end
section
variable {σ:St} {H:Hp} {Q:VK} {K:PySem.W.Frag} {p:Addr} {m:List (Str × PyData)} {k:Str}
end
def HS (m:List (Str × V)):List (Key × V):=m.map fun x=>(.inr x.1,x.2)
theorem Jd {k:Str}:∀{m:List (Str × V)},((HS m).any fun kv=>decide (kv.1=.inr k))=m.any fun kv=>decide (kv.1=k)
 |[]=>rfl
 |x::r=>by
  have:=Jd (k:=k) (m:=r)
  unfold HS at*
  simp only [List.map_cons,List.any_cons,this,MX]
theorem UA {m:List (Str × V)} {k:Str} {v:V} (h:k∉m.map (·.1)):putK (HS m) (.inr k) v=HS (m++[(k,v)]):=by
 unfold putK
 rw [Jd,if_neg]
 . unfold HS;rw [List.map_append];rfl
 . simp only [List.any_eq_true,not_exists,not_and]
   intro x hx e
   exact h (List.mem_map.mpr ⟨x,hx,of_decide_eq_true e⟩)
theorem Nz {k:Str}:∀{m:List (Str × V)},k∈m.map (·.1)->∃v,(k,v)∈m/\oj (HS m) (.inr k)=some v
 |[],h=>by simp at h
 |(j,v)::r,h=>by
  by_cases e:j=k
  . subst e
    exact⟨v,List.mem_cons_self,x5 rfl⟩
  . have h2:k∈r.map (·.1):=by
     rcases List.mem_cons.mp h with z|z
     . exact absurd z.symm e
     . exact z
    obtain⟨u,hu,hv⟩:=Nz h2
    exact⟨u,List.mem_cons_of_mem _ hu,by unfold HS at*;rw [List.map_cons,pB (fun z=>e (Sum.inr.inj z))];exact hv⟩
section
variable {σ:St} {H H':Hp} {Q:VK} {K:PySem.W.Frag} {p l:Addr} {ns:List Str} {f:Str->List PyData} {k:Str}
end
section
variable {H H':Hp} {P:Addr} {pos:Pos} {q:Str}
end
section
variable {prog:Program} {w:World} {A:Around} {E:Value->Shared->Prop} {s:Shared}
theorem Ka {T:String} {r d:Addr} {n:Nat} {Pk:Nat->Value->Prop} {OK:Heap->Prop} {ss:List Str} {Q:Value->Shared->Prop} (src:KdlSrc prog w T r d n Pk OK) (hh:A.handled=none) (ok:OK s.heap) (h64:n<64) (hP:∀acc:Array Value,ItemsOf Pk acc n->StrsAre acc.toList ss)
 (h:∀(h1 h':Heap) (tk e:Nat) (us:List Value) (Nx:List Str),(∀b u,s.heap.get? b=some u->h1.get? b=some u)->(∀b u,h1.get? b=some u->h'.get? b=some u)->h'.get? h1.objs.size=some {cls:=.type "list",data:=.seq us.toArray e}->StrsAre us Nx->Nx.Perm ss->sortedS Nx=true->Q (.ref h1.objs.size) {s with heap:=h',toks:=tk}):
 wpAny (model prog w) A (call (.builtin "sorted") [.ref r]) Q E s:=by
 refine Calls.call_function_entry kind_sorted plain_sorted entry_sorted (args_sorted1 _) ?_
 unfold Builtin.«sorted»
 refine wpAny_bind (m:=checkCount "sorted" 1 1 _) (wpAny_pure ?_)
 refine wpAny_bind (kdu_collect (A:=A.in1) src hh ok (by rw [sizeLine_eq];omega) fun h1 tk acc kp uG=>?_)
 have hS:=hP acc uG
 have hn:acc.toList.length<64:=by
  have e:acc.size=n:=uG.1
  rw [Array.length_toList,e];exact h64
 refine wpAny_bind (wpAny_newList ?_ (hsz:=by rw [sizeLine_eq];omega))
 generalize acc.toList=vs at*
 have LI:(h1.push (seqObj "list" vs.toArray 0)).get? h1.objs.size=some (seqObj "list" vs.toArray 0):=Heap.get?_push_size _ rfl
 refine wpAny_bind (wpAny_holding (wpAny_call_entry slot_list_sort ⟨_,LI,rfl⟩ entry_list_sort (list_sort_treeK strKind_oneLt LI hS.keysOf (fun v₁ v₂ rest e=>keyKind_strs (by rw [<-e];exact hS)) hn fun JE a1 a2=>⟨_,rfl,?_⟩) (args_list_sort _)))
 obtain⟨Nx,b1,b2,b3⟩:=sorted_out_str hS a1 a2
 obtain⟨e,he⟩:=sortedHeap_at (out:=(arrOf JE).map (·.2)) LI
 refine wpAny_pure ⟨_,rfl,h h1 _ tk e ((arrOf JE).map (·.2)).toList Nx kp (fun b u q=>?_) (by rw [Array.toArray_toList];exact he) b1 b2 b3⟩
 have fq:b<h1.objs.size:=Heap.lt_size q
 rw [sortedHeap_old (Nat.ne_of_lt fq) (by rw [size_push'];exact Nat.lt_succ_of_lt fq)]
 exact Heap.get?_push_of_some _ q
end
section
variable {X:Cx}
def Yx:V->Hp->VK->Prop:=fun x H Q=>∃(p:Addr) (kvs:List (Key × V)) (ks:List Str),x=.ref p/\H p=some (.dK kvs)/\kvs.map (fun kv=>kV kv.1)=ks.map V.str/\ks.length<64/\∀q H' ss,ax H H'->H q=none->ss.Perm ks->TK ss->c9 H' q (ss.map PyData.str)->Q (.ref q) H'
theorem HU:∀{ks:List Str} {us:List Value},Vals (ks.map V.str) us->StrsAre us ks
 |[],_,.nil=>.nil
 |_::_,_,.cons q t=>by
  obtain⟨tk,rfl⟩:=q
  exact .cons _ _ (HU t)
theorem PV {pins:List (Addr × Obj)} {σ:St} {H:Hp} {s:Shared} {Q:VK} {h1 h':Heap} {tk e:Nat} {us:List Value} {Nx:List Str} (I:Inv X pins σ H s) (k1:∀b u,s.heap.get? b=some u->h1.get? b=some u) (k2:∀b u,h1.get? b=some u->h'.get? b=some u) (he:h'.get? h1.objs.size=some {cls:=.type "list",data:=.seq us.toArray e}) (hS:StrsAre us Nx) (hl:Nx.length<64)
 (q:∀q H',ax H H'->H q=none->c9 H' q (Nx.map PyData.str)->Q (.ref q) H'):∃v H1,Inv X pins σ H1 {s with heap:=h',toks:=tk}/\RelV v (.ref h1.objs.size)/\Q v H1:=by
 have I1:=I.kept (t':=tk) (h':=h1) k1
 have hq:H h1.objs.size=none:=I1.bL.fresh (Nat.le_refl _)
 refine⟨.ref h1.objs.size,upd H h1.objs.size (.lst (Nx.map V.str)),I1.laid (t':=tk) k2 (Nat.le_refl _) ?_,rfl,q _ _ (bS hq) hq (Jj hq (KJ Nx) (iu (fun _=>rfl) _))⟩
 exact⟨by rw [List.length_map];exact Nat.le_of_lt (qX (by omega)),us,e,Hm hS,he⟩
def NU:List V->Hp->VK->Prop:=fun xs H Q=>∃v,xs=[v]/\Yx v H Q
theorem F3 (hc:X.calm=true):kl X (.builtin "sorted") NU:=by
 intro pins s σ H xs us Q I r h
 obtain⟨v,rfl,d,kvs,ks,rfl,hd,hks,hl,q⟩:=h
 obtain⟨u,rfl,ru⟩:=vals1 r
 cases ru
 obtain⟨hz,hs,vs,kv,dof⟩:=(show c5 X.prog X.w H s.heap d (.dK kvs) from I.bL d _ hd)
 obtain⟨ep,da⟩:=dof.dictAt
 have hlen:vs.length=kvs.length:=kv.length.symm
 have hml:kvs.length=ks.length:=by have:=congrArg List.length hks;rwa [List.length_map,List.length_map] at this
 refine Ka (kdl_dict (knd:=aX X.prog X.w) (kvs:=vs) (ep:=ep) hs) (I.ok.hd hc) da (by omega) (fun acc uG=>HU (hks▸MA kv uG)) fun h1 h' tk e us Nx k1 k2 he hS hp K3=>?_
 exact PV I k1 k2 he hS (by rw [hp.length_eq];exact hl) fun a H' sm hn Sf=>q a H' Nx sm hn hp (IW K3) Sf
end
section
variable {σ:St} {H:Hp} {Q:VK}
end
section
variable {σ:St} {H H':Hp} {Q:VK} {D:Ends} {K:PySem.W.Frag} {p l t:Addr} {ns:List Str} {f:Str->List Str} {b:Str->Bool} {k:Str}
end
section
variable {X:Cx}
end
section
variable {σ:St} {H:Hp} {Q:VK}
end
inductive Ri (w:World):List DictEntry->List (Str × Int)->Prop
 |nil:Ri w [] []
 |cons {es:List DictEntry} {m:List (Str × Int)} (k:Str) (t:Tok) (n:Int) (u:Tok) (r:Ri w es m):Ri w (⟨PyData.keyHash w.params k,.str k t,.int n u⟩::es) ((k,n)::m)
section
variable {X:Cx} {o i:Expr} {pos:Pos} {td ty:TE} {A:Addr} {m:List (Str × Int)}
end
section
variable {σ:St} {H:Hp} {Q:VK} {A:Addr} {m:List (Str × Int)}
end
section
variable {H:Hp} {Q:VK} {K:PySem.W.Frag} {p:Addr} {ds:List PyData}
end
def VV:TE:=fun _ _ _=>False
theorem CK {X:Cx} {e:Expr}:PE X e VV:=fun _ _ _ _ _ _ h=>h.elim
theorem Rl {te:TE} {g:TG} {D:Ends} {σ:St} {H:Hp} (h:te σ H fun x H1=>g x σ H1 D.nx):Qa te g D σ H:=h
structure Fr (cs S:List Addr) (H H':Hp):Prop where
 kp:∀x o,H x=some o->(∀kvs,o=.dK kvs->x∉S)->(∀C dx fs,o=.ins C dx fs->C∉cs)->H' x=some o
 dm:∀x,H' x=none->H x=none
def nd:PyData->Bool
 | .dict _=>false
 | .list ds=>YH ds
 | .tuple ds=>YH ds
 |_=>true
where YH:List PyData->Bool
 |[]=>true
 |d::r=>nd d&&YH r
section
variable {cs S:List Addr} {H H1 H':Hp} {p q:Addr} {v:V} {K:PySem.W.Frag}
theorem Fr.refl:Fr cs S H H:=⟨fun _ _ h _ _=>h,fun _ h=>h⟩
theorem Fr.trans (f:Fr cs S H H1) (g:Fr cs S H1 H'):Fr cs S H H':=⟨fun x o h a b=>g.kp x o (f.kp x o h a b) a b,fun x h=>f.dm x (g.dm x h)⟩
theorem ax.fr (s:ax H H'):Fr cs S H H':=⟨fun x o h _ _=>s x o h,fun _ h=>s.none h⟩
theorem Fr.step (f:Fr cs S H H1) (s:ax H1 H'):Fr cs S H H':=f.trans s.fr
theorem Fr.O2 {C dx:Addr} {fs:List (Str × V)} (m:Mv [p] H H') (h:H p=some (.ins C dx fs)) (hC:C∈cs):Fr cs S H H':=⟨fun x o e _ b=>m.kp x o (fun z=>by
 rw [List.mem_singleton.mp z,h] at e
 cases e
 exact b _ _ _ rfl hC) e,m.dm⟩
theorem Fr.dkM {kvs:List (Key × V)} (m:Mv [p] H H') (h:H p=some (.dK kvs)) (hS:p∈S):Fr cs S H H':=⟨fun x o e a _=>m.kp x o (fun z=>by
 have z:=List.mem_singleton.mp z
 subst z
 rw [h] at e
 cases e
 exact a _ rfl hS) e,m.dm⟩
theorem Fr.none (f:Fr cs S H H') (h:H' p=Option.none):H p=Option.none:=f.dm p h
theorem Fr.tup {xs:List V} (f:Fr cs S H H') (h:H p=some (.tup xs)):H' p=some (.tup xs):=f.kp p _ h (by intro _ z;cases z) (by intro _ _ _ z;cases z)
theorem Fr.rdl {xs:List V} (f:Fr cs S H H') (h:Rd H p (.lst xs)):Rd H' p (.lst xs):=by
 rcases h with h|⟨o,h⟩
 . exact .inl (f.kp p _ h (by intro _ z;cases z) (by intro _ _ _ z;cases z))
 . exact .inr ⟨o,f.kp p _ h (by intro _ z;cases z) (by intro _ _ _ z;cases z)⟩
theorem Fr.sql {xs:List V} (f:Fr cs S H H') (h:iH K H p xs):iH K H' p xs:=by
 rcases h with h|h
 . exact .inl (f.rdl h)
 . exact .inr h
theorem Fr.ins {C:Addr} {fs:List (Str × V)} (f:Fr cs S H H') (hC:C∉cs) (h:kL H v C fs):kL H' v C fs:=by
 obtain⟨p,dx,rfl,e⟩:=h
 exact⟨p,dx,rfl,f.kp p _ e (by intro _ z;cases z) (by intro _ _ _ z;cases z;exact hC)⟩
theorem Fr.lat {ds:List PyData} (f:Fr cs S H H') (h:c9 H p ds):c9 H' p ds:=by
 obtain⟨xs,e,dv,im⟩:=h
 exact⟨xs,f.kp p _ e (by intro _ z;cases z) (by intro _ _ _ z;cases z),dv.Dc (fun a xs e=>f.tup e) im,im⟩
theorem Fr.dla {m:List (Str × PyData)} (f:Fr cs S H H') (n:p∉S) (h:uH H p m):uH H' p m:=by
 obtain⟨kvs,e,d⟩:=h
 exact⟨kvs,f.kp p _ e (by intro _ _;exact n) (by intro _ _ _ z;cases z),d.Dc fun a xs e=>f.tup e⟩
theorem Fr.Dc {d:PyData} (f:Fr cs S H H') (i:C8 d=true) (h:Dv H v d):Dv H' v d:=h.Dc (fun a xs e=>f.tup e) i
mutual
theorem Dv.fr {cs S:List Addr} {H H':Hp} (f:Fr cs S H H'):∀{v:V} {d:PyData},Dv H v d->nd d=true->Dv H' v d
 |_,_,.aQ,_=>.aQ
 |_,_,.bl b,_=>.bl b
 |_,_,.int i,_=>.int i
 |_,_,.str x,_=>.str x
 |_,_,.tup h r,c=>.tup (f.tup h) (cK.fr f r c)
 |_,_,.lst h r,c=>.lst (f.rdl h) (cK.fr f r c)
 |_,_,.dct h r,c=>by cases c
theorem cK.fr {cs S:List Addr} {H H':Hp} (f:Fr cs S H H'):∀{v:List V} {d:List PyData},cK H v d->nd.YH d=true->cK H' v d
 |_,_,.nil,_=>.nil
 |_,_,.cons h r,c=>by
  have c':(nd _&&nd.YH _)=true:=c
  rw [Bool.and_eq_true] at c'
  exact .cons (Dv.fr f h c'.1) (cK.fr f r c'.2)
end
end
def rg (H:Hp) (p:Addr) (ns:List Str) (f:Str->V):Prop:=H p=some (.dK (HS (ns.map fun n=>(n,f n))))
def cn {β:Type} (f:Str->β) (k:Str) (v:β):Str->β:=fun n=>if n=k then v else f n
theorem aG {β:Type} {f:Str->β} {k:Str} {v:β}:cn f k v k=v:=if_pos rfl
theorem bT {β:Type} {f:Str->β} {k n:Str} {v:β} (h:n≠k):cn f k v n=f n:=if_neg h
section
variable {σ:St} {H H':Hp} {Q:VK} {K:PySem.W.Frag} {p:Addr} {ns:List Str} {f:Str->V} {k:Str} {v:V}
theorem rg.congr {g:Str->V} (h:rg H p ns f) (e:∀n∈ns,f n=g n):rg H p ns g:=by
 have:(ns.map fun n=>(n,f n))=ns.map fun n=>(n,g n):=List.map_congr_left fun n hn=>by rw [e n hn]
 unfold rg at*
 rw [<-this];exact h
theorem UU (h:uH H p []):rg H p [] f:=by
 obtain⟨kvs,e,d⟩:=h
 cases d
 exact e
theorem rg.keeps (s:ax H H') (h:rg H p ns f):rg H' p ns f:=s _ _ h
theorem rg.mv {S:List Addr} (m:Mv S H H') (n:p∉S) (h:rg H p ns f):rg H' p ns f:=m.kp _ _ n h
theorem rg.keys:(ns.map fun n=>(n,f n)).map (·.1)=ns:=by rw [List.map_map];exact List.map_id' _
theorem rg.val (hk:k∈ns):oj (HS (ns.map fun n=>(n,f n))) (.inr k)=some (f k):=by
 obtain⟨u,hu,e⟩:=Nz (m:=ns.map fun n=>(n,f n)) (k:=k) (by rw [rg.keys];exact hk)
 obtain⟨n,_,z⟩:=List.mem_map.mp hu
 cases z
 exact e
theorem rg.no (hk:k∉ns):oj (HS (ns.map fun n=>(n,f n))) (.inr k)=none:=by
 have h:=GH (Sum.inr k:Key) (HS (ns.map fun n=>(n,f n)))
 rw [Jd] at h
 cases e:oj (HS (ns.map fun n=>(n,f n))) (.inr k) with
 |none=>rfl
 |some u=>
  rw [e] at h
  obtain⟨x,hx,hd⟩:=List.any_eq_true.mp h
  obtain⟨n,hn,rfl⟩:=List.mem_map.mp hx
  exact absurd (of_decide_eq_true hd▸hn) hk
theorem Vx {R:Hp->Prop} (hp:rg H p ns f) (hl:ns.length<=4000) (hk:k∉ns) (h:∀H2,Mv [p] H H2->rg H2 p (ns++[k]) (cn f k v)->R H2):∃a H4,V.ref p=.ref a/\Je H a (.str k) v H4/\R H4:=by
 have mv:Mv [p] H (upd H p (.dK (putK (HS (ns.map fun n=>(n,f n))) (.inr k) v))):=.bq hp (by intro _ z;cases z)
 refine⟨p,_,rfl,Je.k (k:=.inr k) hp (by unfold HS;rw [List.length_map,List.length_map];exact qX hl),h _ mv ?_⟩
 unfold rg
 rw [ao,UA (by rw [rg.keys];exact hk)]
 have e:(ns.map fun n=>(n,f n))=ns.map fun n=>(n,cn f k v n):=List.map_congr_left fun n hn=>by rw [bT (fun z:n=k=>hk (by rw [<-z];exact hn))]
 rw [e,List.map_append,List.map_singleton,aG]
theorem Uy {R:V->Prop} (hp:rg H p ns f) (hk:k∈ns) (h:R (f k)):∃a v,V.ref p=.ref a/\jb H a (.str k) (some v)/\R v:=
 ⟨p,f k,rfl,by rw [<-rg.val hk];exact jb.k (k:=.inr k) hp,h⟩
theorem Za {R:Option V->Prop} (hp:rg H p ns f) (h:∀o:Option V,(o.isSome=true↔k∈ns)->(k∈ns->o=some (f k))->R o):∃a o,V.ref p=.ref a/\jb H a (.str k) o/\R o:=by
 by_cases hk:k∈ns
 . exact⟨p,_,rfl,by rw [<-rg.val hk];exact jb.k (k:=.inr k) hp,h (some (f k)) ⟨fun _=>hk,fun _=>rfl⟩ fun _=>rfl⟩
 . exact⟨p,_,rfl,by rw [<-rg.no (f:=f) hk];exact jb.k (k:=.inr k) hp,h none ⟨fun z=>(by cases z),fun z=>absurd z hk⟩ fun z=>absurd z hk⟩
theorem OS:sM (HS (ns.map fun n=>(n,f n))) (.inr k)=HS ((ns.filter fun x=>decide (x≠k)).map fun n=>(n,f n)):=by
 induction ns with
 |nil=>rfl
 |cons a r ih=>
  unfold HS sM at*
  rw [List.map_cons,List.map_cons,List.filter_cons,List.filter_cons,ih]
  by_cases e:a=k
  . have e1:¬decide ((Sum.inr a:Key)≠Sum.inr k)=true:=by simp [e]
    have e2:¬decide (a≠k)=true:=by simp [e]
    rw [if_neg e1,if_neg e2]
  . have e1:decide ((Sum.inr a:Key)≠Sum.inr k)=true:=by simpa using fun z:(Sum.inr a:Key)=Sum.inr k=>e (Sum.inr.inj z)
    have e2:decide (a≠k)=true:=by simpa using e
    rw [if_pos e1,if_pos e2];rfl
theorem UW (hp:rg H p ns f) (hk:k∈ns) (h:∀H2,Mv [p] H H2->rg H2 p (ns.filter fun x=>decide (x≠k)) f->Q (f k) H2):S5 (.ref p) [.str k] H Q:=by
 have mv:Mv [p] H (upd H p (.dK (sM (HS (ns.map fun n=>(n,f n))) (.inr k)))):=.bq hp (by intro _ z;cases z)
 refine⟨p,_,.inr k,f k,rfl,rfl,hp,rg.val hk,h _ mv ?_⟩
 unfold rg
 rw [ao,OS]
theorem acX {R:Prop} (hp:rg H p ns f) (h:R):tyV K "dict" (.ref p) H/\R:=⟨.inr (.inr (.inl ⟨rfl,.inl ⟨_,hp⟩⟩)),h⟩
theorem rg.acx:(HS (ns.map fun n=>(n,f n))).map (fun kv=>kV kv.1)=ns.map V.str:=by unfold HS;rw [List.map_map,List.map_map];rfl
end
section
variable {σ:St} {H:Hp} {Q:VK} {K:PySem.W.Frag}
theorem U5 {k:Nat} {ta:TA} {g:TG} {tc:TT} {te:TE} (h:ta σ H fun vs H1=>∃i j:Int,vs=[.int i,.int j]/\(-(2^62)<=i/\i<2^62/\-(2^62)<=j/\j<2^62)/\Y6 k g tc te (HW Q) σ (Ql i (j - i).toNat) H1):tLC k (Xt ta) g tc te σ H Q:=h
theorem Ve {k n:Nat} {lo:Int} {g:TG} {tc:TT} {te:TE} (hlen:n<=4000) (Pv:Nat->List V->Hp->Prop) (h0:Pv 0 [] H) (hk:∀i acc H',i<=n->Pv i acc H'->acc.length<=n)
 (turn:∀i acc H' (N:Option V->Hp->Prop),i<n->Pv i acc H'->(∀y H4,Pv (i+1) (acc++[y]) H4->N (some y) H4)->(∀H4,Pv (i+1) acc H4->N none H4)->
  g (.int (lo+(i:Int))) (List.replicate k none++σ) H' fun σ2 H2=>tc σ2 H2 fun b H3=>LCT te N σ2 b H3)
 (kk:∀acc H' q,Pv n acc H'->H' q=none->Q (.ref q) (upd H' q (.lst acc))):Y6 k g tc te (HW Q) σ (Ql lo n) H:=by
 refine⟨fun i m acc H'=>i<=n/\m=n - i/\Pv i acc H',⟨n,Nat.zero_le _,rfl,h0⟩,?_⟩
 rintro i m acc H' ⟨uF,hm,hp⟩
 have hal:=hk i acc H' uF hp
 by_cases hc:i=n
 . subst hc
   exact .inl ⟨Nat.le_refl _,fun q hq=>kk acc H' q hp hq⟩
 . refine .inr ⟨by show i<n;omega,qX (by omega),fun x H2 hy=>?_⟩
   obtain⟨rfl,rfl⟩:=hy
   exact turn i acc H2 (fun o H4=>match o with|some y=>∃m',m'<m/\i+1<=n/\m'=n - (i+1)/\Pv (i+1) (acc++[y]) H4|none=>∃m',m'<m/\i+1<=n/\m'=n - (i+1)/\Pv (i+1) acc H4) (by omega) hp
    (fun y H4 h=>⟨n - (i+1),by omega,by omega,rfl,h⟩) fun H4 h=>⟨n - (i+1),by omega,by omega,rfl,h⟩
end
section
open PySem.SeqAt
open AutoSeq1 (wpAny_loadPart')
open MeetsSeq MeetsSeq2 MeetsSeq3
theorem Jn (l b:Addr) (items Am:Array Value) (n n2:Nat) (dd dd2:Option Addr) (sl sl2:Array (Option Value)) {a c:Str} {t u:Tok} (h1:items[0]? =some (.str a t)) (h2:Am[0]? =some (.str c u)) (AV:a≠c):
 Meets (Builtin.«list.__eq__.loop» ⟨[.ref l,.ref b,rawInt 0,rawInt 0],[]⟩)
  (fun A R s=>s.heap.get? l=some {cls:=.type "list",dict:=dd,data:=.seq items n,slots:=sl}/\s.heap.get? b=some {cls:=.type "list",dict:=dd2,data:=.seq Am n2,slots:=sl2}/\R (.ok (.ret (.bool (A4 a c)))) s):=by
 intro prog w A R s h
 obtain⟨hp,g,d,tk,os⟩:=s;obtain⟨hl,hb,h⟩:=h
 wp_walk using wpAny_loadPart' hl,wpAny_loadPart' hb
 have uF:items[(0:Int).toNat]? =some (.str a t):=h1
 have G8:Am[(0:Int).toNat]? =some (.str c u):=h2
 rw [uF,G8]
 refine wpAny_bind (wpAny_eqBool_str ?_)
 rw [show decide (a=c)=false from decide_eq_false AV]
 wp_walk using wpAny_loadPart' hl,wpAny_loadPart' hb
 rw [uF,G8]
 refine wpAny_bind (richCompare_gives (op:=.Lt) (typeIs_str _ _ t) (typeIs_str _ _ u) F.slot_str_lt F.entry_str_lt (F.args_str_lt_2 _ _) (gives_str_lt _ _ t u) (fun x=>nomatch x) ?_)
 show wpAny (model prog w) A.in1 (ret (Value.bool (A4 a c))) _ _ _
 exact wpAny_pure h
theorem IJ (l:Addr) (items:Array Value) (n:Nat) (dd:Option Addr) (sl:Array (Option Value)) (k:Nat):
 ∀i:Nat,items.size - i=k->Meets (Builtin.«list.__eq__.loop» ⟨[.ref l,.ref l,rawInt i,rawInt 0],[]⟩)
  (fun A R s=>s.heap.get? l=some {cls:=.type "list",dict:=dd,data:=.seq items n,slots:=sl}/\R (.ok (.ret (.bool false))) s):=by
 induction k with
 |zero=>
  intro i hk prog w A R s h
  obtain⟨hp,g,d,tk,os⟩:=s;obtain⟨hl,h⟩:=h
  wp_walk using wpAny_loadPart' hl
  have uF:items[((i:Nat):Int).toNat]? =none:=by simp;omega
  rw [uF]
  wp_walk using wpAny_loadPart' hl
  show R (.ok (.ret (.bool (decide (items.size<items.size))))) _
  simpa using h
 |succ k ih=>
  intro i hk prog w A R s h
  obtain⟨hp,g,d,tk,os⟩:=s;obtain⟨hl,h⟩:=h
  wp_walk using wpAny_loadPart' hl
  have fq:i<items.size:=by omega
  have uF:items[((i:Nat):Int).toNat]? =some items[i]:=by simp [fq]
  have hc:((i:Int)+1)=((i+1:Nat):Int):=by push_cast;rfl
  rw [uF]
  refine wpAny_bind (EqAt.same _ prog w _ _ ?_)
  wp_walk
  rw [hc]
  exact⟨plainId_quiet plain_eq_loop _,codeAny_builtin entry_eq_loop (by
   rw [Around.under_plainId plain_eq_loop _]
   exact ih (i+1) (by omega) prog w A R _ ⟨hl,h⟩)⟩
theorem Iu (l b:Addr) (items Am:Array Value) (n n2:Nat) (dd dd2:Option Addr) (sl sl2:Array (Option Value)) {a c:Str} {t u:Tok} (h1:items[0]? =some (.str a t)) (h2:Am[0]? =some (.str c u)) (AV:a≠c):
 Meets (Builtin.«list.__lt__» ⟨[.ref l,.ref b],[]⟩)
  (fun A R s=>s.heap.get? l=some {cls:=.type "list",dict:=dd,data:=.seq items n,slots:=sl}/\s.heap.get? b=some {cls:=.type "list",dict:=dd2,data:=.seq Am n2,slots:=sl2}/\R (.ok (.ret (.bool (A4 a c)))) s):=by
 intro prog w A R s h
 obtain⟨hp,g,d,tk,os⟩:=s;obtain⟨hl,hb,h⟩:=h
 have f3:=AutoSeq1.sub_list_list
 wp_walk using wpAny_loadPart' hl,wpAny_loadPart' hb
 exact⟨plainId_quiet plain_eq_loop _,codeAny_builtin entry_eq_loop (by
  rw [Around.under_plainId plain_eq_loop _]
  exact Jn l b items Am n n2 dd dd2 sl sl2 h1 h2 AV prog w A R _ ⟨hl,hb,h⟩)⟩
theorem Ij (l:Addr) (items:Array Value) (n:Nat) (dd:Option Addr) (sl:Array (Option Value)):
 Meets (Builtin.«list.__lt__» ⟨[.ref l,.ref l],[]⟩)
  (fun A R s=>s.heap.get? l=some {cls:=.type "list",dict:=dd,data:=.seq items n,slots:=sl}/\R (.ok (.ret (.bool false))) s):=by
 intro prog w A R s h
 obtain⟨hp,g,d,tk,os⟩:=s;obtain⟨hl,h⟩:=h
 have f3:=AutoSeq1.sub_list_list
 wp_walk using wpAny_loadPart' hl
 exact⟨plainId_quiet plain_eq_loop _,codeAny_builtin entry_eq_loop (by
  rw [Around.under_plainId plain_eq_loop _]
  exact IJ l items n dd sl _ 0 rfl prog w A R _ ⟨hl,h⟩)⟩
end
theorem Kq {α β:Type} {g:α->β} {l m:List β} (h:l.Perm m):∀rs:List α,m=rs.map g->∃ns:List α,ns.Perm rs/\l=ns.map g:=by
 induction h with
 |nil=>intro rs e;cases rs with
  |nil=>exact⟨[],.nil,rfl⟩
  |cons=>cases e
 |cons x _ ih=>intro rs e;cases rs with
  |nil=>cases e
  |cons r rs=>
   injection e with e1 e2
   obtain⟨ns,p,rfl⟩:=ih rs e2
   exact⟨r::ns,p.cons r,by rw [e1];rfl⟩
 |swap x y l=>intro rs e;match rs,e with
  |r::t::rs,e=>
   injection e with e1 e2
   injection e2 with e2 e3
   exact⟨t::r::rs,.swap r t rs,by rw [e1,e2,e3];rfl⟩
 |trans _ _ ih1 ih2=>
  intro rs e
  obtain⟨ns,p,e2⟩:=ih2 rs e
  obtain⟨ns',p',e3⟩:=ih1 ns e2
  exact⟨ns',p'.trans p,e3⟩
def JL (H:Hp) (kf:V->Str) (xs:List V):Prop:=(∀v∈xs,∃a rest,v=.ref a/\H a=some (.lst (.str (kf v)::rest)))/\(xs.map kf).Nodup
section
variable {X:Cx} {pins:List (Addr × Obj)} {σ:St} {H:Hp} {s:Shared} {kf:V->Str}
theorem LU {s':Shared} {xs:List V} {us:List Value} (I:Inv X pins σ H s') (rv:Vals xs us) (hr:JL H kf xs) {i:Nat} (hi:i<xs.length):∃x t a8 n dd sl,us.getD i Value.none=.ref x/\s'.heap.get? x=some {cls:=.type "list",dict:=dd,data:=.seq a8 n,slots:=sl}/\a8[0]? =some (.str (kf (xs.getD i .aQ)) t):=by
 have hm:xs.getD i .aQ∈xs:=by rw [List.getD_eq_getElem?_getD,List.getElem?_eq_getElem hi];exact List.getElem_mem hi
 obtain⟨a,rest,e,ha⟩:=hr.1 _ hm
 have r:=yc i rv
 generalize hk:kf (xs.getD i .aQ)=k at ha ⊢
 rw [e] at r
 have r':us.getD i Value.none=.ref a:=r
 obtain⟨a8,rr,tt,_⟩:=I.list (.of ha)
 obtain⟨⟨cls,dd,data,sl⟩,ho,hc,n,hd⟩:=id tt.isList
 simp only at hc hd
 subst hc hd
 cases rr with
 |cons r1 rr=>
  obtain⟨t,rfl⟩:=r1
  exact⟨a,t,_,n,dd,sl,r',ho,rfl⟩
theorem Si {s':Shared} {xs:List V} {us:List Value} (I:Inv X pins σ H s') (rv:Vals xs us) (hr:JL H kf xs) {v:Value} (hv:v∈us):Looks (model X.prog X.w) s'.heap (typeOf v) (.type "list"):=by
 obtain⟨i,hi,rfl⟩:=List.getElem_of_mem hv
 obtain⟨x,t,a8,n,dd,sl,e,ho,_⟩:=LU I rv hr (i:=i) (by rw [rv.length];exact hi)
 rw [List.getD_eq_getElem?_getD,List.getElem?_eq_getElem hi] at e
 have e:us[i]=.ref x:=e
 rw [e]
 exact fun A Q E z hk q=>wpAny_typeOf_ref (hk _ _ ho) q
theorem SU {s':Shared} {xs:List V} {us:List Value} {A:Around} (I:Inv X pins σ H s') (rv:Vals xs us) (hr:JL H kf xs) (hu:A.units<cLine):
 Yi xs.length (fun i j=>A4 (kf (xs.getD i .aQ)) (kf (xs.getD j .aQ))) (fun z=>z=s') (kas_ask X.prog X.w A oneType' us):=by
 intro i j C z hi hj hz hC
 subst hz
 obtain⟨x,t,a8,n,dd,sl,e1,hx,f1⟩:=LU I rv hr hi
 obtain⟨y,u,Ik,n2,dd2,sl2,e2,hy,f2⟩:=LU I rv hr hj
 show wpAny (model X.prog X.w) A (keyLt' oneType' (us.getD i Value.none) (us.getD j Value.none)) C (fun _ _=>False) z
 have hq:=hC z rfl
 rw [e1,e2,keyLt'_oneType,oneLt'_eq]
 simp only [if_true]
 refine wpAny_bind (wpAny_cRoomFor hu ?_)
 by_cases Et:i=j
 . subst Et
   rw [e1] at e2
   cases e2
   rw [hx] at hy
   cases hy
   have e3:A4 (kf (xs.getD i .aQ)) (kf (xs.getD i .aQ))=false:=Jw _
   have hq:C (A4 (kf (xs.getD i .aQ)) (kf (xs.getD i .aQ))) z:=hq
   rw [e3] at hq
   refine wpAny_bind (wpAny_callSpecialIfBound?_slot ⟨_,hx,rfl⟩ F.slot_list_lt (call_meets F.slot_list_lt ⟨_,hx,rfl⟩ F.entry_list_lt (F.args_list_lt_2 _ _) (Ij x a8 n dd sl) ⟨hx,?_⟩))
   exact wpAny_truthy_bool hq
 . have AV:kf (xs.getD i .aQ)≠kf (xs.getD j .aQ):=by
    intro e
    have h1:=List.pairwise_iff_getElem.mp (List.nodup_iff_pairwise_ne.mp hr.2)
    have gi:(xs.map kf)[i]'(by rw [List.length_map];exact hi)=kf (xs.getD i .aQ):=by rw [List.getElem_map,List.getD_eq_getElem?_getD,List.getElem?_eq_getElem hi];rfl
    have gj:(xs.map kf)[j]'(by rw [List.length_map];exact hj)=kf (xs.getD j .aQ):=by rw [List.getElem_map,List.getD_eq_getElem?_getD,List.getElem?_eq_getElem hj];rfl
    rcases Nat.lt_or_gt_of_ne Et with h|h
    . exact h1 i j (by rw [List.length_map];exact hi) (by rw [List.length_map];exact hj) h (by rw [gi,gj,e])
    . exact h1 j i (by rw [List.length_map];exact hj) (by rw [List.length_map];exact hi) h (by rw [gi,gj,e])
   refine wpAny_bind (wpAny_callSpecialIfBound?_slot ⟨_,hx,rfl⟩ F.slot_list_lt (call_meets F.slot_list_lt ⟨_,hx,rfl⟩ F.entry_list_lt (F.args_list_lt_2 _ _) (Iu x y a8 Ik n n2 dd dd2 sl sl2 f1 f2 AV) ⟨hx,hy,?_⟩))
   exact wpAny_truthy_bool hq
theorem Iw {l:Addr} {xs:List V} {kf:V->Str} {Q:VK} {E:Value->Shared->Prop} (I:Inv X pins σ H s) (hl:iH X.K H l xs) (h64:xs.length<64) (hu:X.A.units+8<cLine) (hr:JL H kf xs) (fin:NC X pins σ H A4 kf xs Q):
 wpAny (model X.prog X.w) X.A (call (.builtin "sorted") [.ref l]) (EP X pins σ Q) E s:=by
 have hsl:(64:Nat)<=sizeLine:=by decide
 obtain⟨vs,rv,p,hz⟩:=I.list hl
 have lx:=rv.length
 refine Calls.call_function_entry kind_sorted plain_sorted entry_sorted (args_sorted1 _) ?_
 unfold Builtin.«sorted»
 refine wpAny_bind (m:=checkCount "sorted" 1 1 _) (wpAny_pure ?_)
 refine wpAny_bind (collect_list p.isList ?_ (by omega))
 refine wpAny_bind (wpAny_newList ?_ (by omega))
 have fp0:ve X pins H s.heap.objs.size:=I.Jc (Nat.le_refl _) (I.bL.fresh (Nat.le_refl _))
 have I2:Inv X pins σ H {s with heap:=(s.heap.push (seqObj "list" #[] 0)).update s.heap.objs.size (Obj.mapSeq (·++vs.toArray))}:=(I.D9 (o:=seqObj "list" #[] 0)).J2 fp0
 have hsz:((s.heap.push (seqObj "list" #[] 0)).update s.heap.objs.size (Obj.mapSeq (·++vs.toArray))).objs.size=s.heap.objs.size+1:=by rw [Heap.size_update,size_push']
 generalize hG:(s.heap.push (seqObj "list" #[] 0)).update s.heap.objs.size (Obj.mapSeq (·++vs.toArray))=h2 at I2 hsz ⊢
 have LI:(h2.push (seqObj "list" vs.toArray 0)).get? h2.objs.size=some (seqObj "list" vs.toArray 0):=Heap.get?_push_size _ rfl
 have I3:Inv X pins σ H {s with heap:=h2.push (seqObj "list" vs.toArray 0)}:=I2.D9
 have fa:ve X pins H h2.objs.size:=I2.Jc (Nat.le_refl _) (I2.bL.fresh (Nat.le_refl _))
 have G3:X.ig.heap.objs.size<=h2.objs.size:=I2.sz
 show wpAny _ _ _ _ _ {s with heap:=h2.push (seqObj "list" vs.toArray 0)}
 generalize h2.objs.size=a at*
 refine wpAny_bind (wpAny_holding (wpAny_call_entry slot_list_sort ⟨_,LI,rfl⟩ entry_list_sort ?body (args_list_sort _)))
 case body=>
  show wpAny (model X.prog X.w) X.A.in1.in1 (Builtin.«list.sort» ⟨[.ref a],[]⟩) _ _ _
  rw [list_sort_plain]
  generalize h2.push (seqObj "list" vs.toArray 0)=h3 at*
  refine wpAny_bind (listItems_at LI rfl ?_)
  refine wpAny_bind (listUpdate_at LI rfl ?_ (by rw [List.size_toArray];omega) (Nat.zero_le _))
  have I4:Inv X pins σ H {s with heap:=h3.update a (Obj.mapSeq fun _=>(#[]:Array Value))}:=I3.J2 fa
  obtain⟨e1,oa⟩:∃e1,(h3.update a (Obj.mapSeq fun _=>(#[]:Array Value))).get? a=some (seqObj "list" #[] e1):=⟨_,get?_update_seq LI fun _=>#[]⟩
  generalize h3.update a (Obj.mapSeq fun _=>(#[]:Array Value))=h4 at*
  refine wpAny_bind (seqEpoch_at oa rfl ?_)
  refine wpAny_bind (wpAny_newTuple ?_ (by show vs.length<=_;omega))
  have I5:Inv X pins σ H {s with heap:=h4.push (seqObj "tuple" vs.toArray 0)}:=I4.D9
  have oa5:(h4.push (seqObj "tuple" vs.toArray 0)).get? a=some (seqObj "list" #[] e1):=Heap.get?_push_of_some _ oa
  show wpAny _ _ _ _ _ {s with heap:=h4.push (seqObj "tuple" vs.toArray 0)}
  generalize h4.push (seqObj "tuple" vs.toArray 0)=h5 at*
  refine wpAny_bind (wpAny_newList ?_ (Nat.zero_le _))
  have I6:Inv X pins σ H {s with heap:=h5.push (seqObj "list" #[] 0)}:=I5.D9
  have Py:(h5.push (seqObj "list" #[] 0)).get? a=some (seqObj "list" #[] e1):=Heap.get?_push_of_some _ oa5
  refine wpAny_holding ?_
  show wpAny _ _ _ _ _ {s with heap:=h5.push (seqObj "list" #[] 0)}
  generalize h5.push (seqObj "list" #[] 0)=h6 at*
  dsimp only
  by_cases fq:vs.toArray.size<2
  . rw [if_pos fq,if_pos fq]
    refine wpAny_bind (wpAny_pure ?_)
    rw [StateT.run_pure]
    refine wpAny_bind (wpAny_pure ?_)
    dsimp only
    have Zc:(arrOf (SortSt.mk' general' (vs.toArray.zip vs.toArray) #[] 7 none)).map (·.2)=List.toArray vs:=by
     show(vs.toArray.zip vs.toArray).map (·.2)=List.toArray vs
     apply Array.toList_inj.mp
     simp [List.map_snd_zip]
    rw [Zc]
    refine wpAny_bind (seqEpoch_at Py rfl ?_)
    refine wpAny_bind (listUpdate_at Py rfl ?_ (Nat.zero_le _) (by show(List.toArray vs).size<=_;rw [List.size_toArray];omega))
    simp only [bne_self_eq_false,Bool.false_eq_true,if_false]
    have I7:=(I6.J2 (f:=Obj.mapSeq fun _=>List.toArray vs) fa).MY fa G3 (by rw [rv.length];omega) rv (get?_update_seq Py fun _=>List.toArray vs)
    refine wpAny_pure ⟨_,rfl,wpAny_pure ⟨_,rfl,.ref a,_,I7,rfl,fin a xs H (ax.refl _) fa.1 fa.1 ⟨List.Perm.refl _,?_⟩⟩⟩
    rw [List.size_toArray] at fq
    match xs,lx with
    |[],_=>exact .nil
    |[_],_=>exact List.pairwise_singleton _ _
    |_::_::_,lx=>simp at lx;omega
  . rw [if_neg fq,if_neg fq]
    rw [List.size_toArray] at fq
    refine wpAny_bind (kas_kind (T:=.type "list") (by omega) (fun v hv=>Si I6 rv hr hv) (by decide) (by decide) ?_)
    refine wpAny_bind (wpAny_mono (kat_run (Q:=fun JE s2=>s2={s with heap:=h6}/\∃p:Array Nat,Ix xs.length p/\arrOf JE=p.map (kas_item ((List.toArray vs).zip (List.toArray vs)))/\failedOf JE=none/\Up (fun i j=>A4 (kf (xs.getD i .aQ)) (kf (xs.getD j .aQ))) p xs.length)
     (G:=fun p s2=>s2={s with heap:=h6}/\Ix xs.length p/\Up (fun i j=>A4 (kf (xs.getD i .aQ)) (kf (xs.getD j .aQ))) p xs.length) rfl (by omega) (by omega) (fun p JE s2 a1 a2 a3 ⟨a4,a5,a6⟩=>⟨a4,p,a5,a2,a3,a6⟩) ?_) ?_ fun _ _ z=>z)
    . rw [show vs.length=xs.length by omega]
      refine MZ (lt:=fun i j=>A4 (kf (xs.getD i .aQ)) (kf (xs.getD j .aQ))) (S:=fun z=>z={s with heap:=h6}) ⟨fun _=>Jw _,fun _ _=>NQ,fun _ _ _=>Im⟩ (SU I6 rv hr (by show X.A.units+1+1<cLine;omega)) (by omega) (fun p s2 hs hp hu=>⟨hs,hp,hu⟩) _ rfl
    . rintro⟨⟨⟩,JE⟩ s2 ⟨rfl,p,hp,har,hf,hu⟩
      dsimp only
      rw [kat_snds rfl har]
      have ho:(p.toList.map fun i=>vs.getD i Value.none).length<64:=by simp [hp.sz];omega
      refine wpAny_bind (seqEpoch_at Py rfl ?_)
      refine wpAny_bind (listUpdate_at Py rfl ?_ (Nat.zero_le _) (by show(List.toArray (p.toList.map fun i=>vs.getD i Value.none)).size<=_;rw [List.size_toArray];omega))
      rw [hf]
      simp only [bne_self_eq_false,Bool.false_eq_true,if_false]
      have Fx:=DR rv p.toList
      have I7:=(I6.J2 (f:=Obj.mapSeq fun _=>List.toArray (p.toList.map fun i=>vs.getD i Value.none)) fa).MY fa G3 (by rw [Fx.length];omega) Fx (get?_update_seq Py fun _=>List.toArray (p.toList.map fun i=>vs.getD i Value.none))
      exact wpAny_pure ⟨_,rfl,wpAny_pure ⟨_,rfl,.ref a,_,I7,rfl,fin a _ H (ax.refl _) fa.1 fa.1 (J7 hp hu)⟩⟩
end
structure LR (H:Hp) (q:Addr) (bs:List (Addr × List PyData)):Prop where
 at':H q=some (.lst (bs.map fun b=>V.ref b.1))
 nd:(bs.map (·.1)).Nodup
 ne:q∉bs.map (·.1)
 row:∀b∈bs,c9 H b.1 b.2
section
variable {H H':Hp} {q:Addr} {bs:List (Addr × List PyData)}
theorem LR.keeps (s:ax H H') (h:LR H q bs):LR H' q bs:=⟨s _ _ h.at',h.nd,h.ne,fun b hb=>(h.row b hb).keeps s⟩
theorem LR.mv {S:List Addr} (m:Mv S H H') (n:q∉S) (na:∀b∈bs,b.1∉S) (h:LR H q bs):LR H' q bs:=⟨m.at n h.at',h.nd,h.ne,fun b hb=>(h.row b hb).mv m (na b hb)⟩
theorem LR.set {b:Addr × List PyData} {r:List PyData} (m:Mv [b.1] H H') (hr:c9 H' b.1 r) (hb:b∈bs) (h:LR H q bs):LR H' q (bs.map fun c=>if c.1=b.1 then (c.1,r) else c):=by
 have e1:(bs.map fun c=>if c.1=b.1 then (c.1,r) else c).map (·.1)=bs.map (·.1):=by
  rw [List.map_map]
  refine List.map_congr_left fun c _=>?_
  by_cases e:c.1=b.1 <;>simp [e]
 refine⟨?_,by rw [e1];exact h.nd,by rw [e1];exact h.ne,fun c hc=>?_⟩
 . have e2:((bs.map fun c=>if c.1=b.1 then (c.1,r) else c).map fun b=>V.ref b.1)=bs.map fun b=>V.ref b.1:=by
    rw [List.map_map]
    refine List.map_congr_left fun c _=>?_
    by_cases e:c.1=b.1 <;>simp [e]
   rw [e2]
   exact m.at (fun z=>h.ne (by rw [List.mem_singleton.mp z];exact List.mem_map_of_mem hb)) h.at'
 . obtain⟨d,hd,rfl⟩:=List.mem_map.mp hc
   by_cases e:d.1=b.1
   . rw [if_pos e,e];exact hr
   . rw [if_neg e];exact(h.row d hd).mv m (by simpa using e)
end
def za (r:List PyData):Str:=match r with
 | .str n::_=>n
 |_=>⟨#[]⟩
def SN:List V->Hp->VK->Prop:=fun xs H Q=>∃(q:Addr) (bs:List (Addr × List PyData)),xs=[.ref q]/\LR H q bs/\(∀b∈bs,∃n r,b.2=.str n::r)/\(bs.map fun b=>za b.2).Nodup/\bs.length<64/\∀(q':Addr) (H':Hp) (Ld:List (Addr × List PyData)),ax H H'->H q'=none->Ld.Perm bs->(Ld.map fun b=>za b.2).Pairwise (fun c d=>A4 d c=false)->LR H' q' Ld->Q (.ref q') H'
theorem Mr {X:Cx} (hu:X.A.units+8<cLine):kl X (.builtin "sorted") SN:=by
 intro pins s σ H xs us Q I r h
 obtain⟨q,bs,rfl,hL,hn,tH,hl,k⟩:=h
 obtain⟨u,rfl,ru⟩:=vals1 r
 cases ru
 let kf:V->Str:=fun v=>((bs.find? fun b=>decide (V.ref b.1=v)).map fun b=>za b.2).getD ⟨#[]⟩
 have hkf:∀b∈bs,kf (.ref b.1)=za b.2:=fun b hb=>by
  show((bs.find? fun c=>decide (V.ref c.1=V.ref b.1)).map fun b=>za b.2).getD ⟨#[]⟩=za b.2
  cases hf:bs.find? fun c=>decide (V.ref c.1=V.ref b.1) with
  |none=>exact absurd (decide_eq_true rfl) (List.find?_eq_none.mp hf b hb)
  |some c=>
   have e0:=List.find?_some hf
   have e1:V.ref c.1=V.ref b.1:=of_decide_eq_true e0
   have e2:c.1=b.1:=by injection e1
   have hc:=List.mem_of_find?_eq_some hf
   have:c=b:=by
    obtain⟨i,hi,rfl⟩:=List.getElem_of_mem hc
    obtain⟨j,hj,rfl⟩:=List.getElem_of_mem hb
    by_cases e:i=j
    . subst e;rfl
    . exfalso
      have h1:=List.pairwise_iff_getElem.mp (List.nodup_iff_pairwise_ne.mp hL.nd)
      rcases Nat.lt_or_gt_of_ne e with h|h
      . exact h1 i j (by rw [List.length_map];exact hi) (by rw [List.length_map];exact hj) h (by rw [List.getElem_map,List.getElem_map,e2])
      . exact h1 j i (by rw [List.length_map];exact hj) (by rw [List.length_map];exact hi) h (by rw [List.getElem_map,List.getElem_map,e2])
   rw [this];rfl
 have hmk:(bs.map fun b=>V.ref b.1).map kf=bs.map fun b=>za b.2:=by
  rw [List.map_map]
  exact List.map_congr_left fun b hb=>hkf b hb
 have hR:JL H kf (bs.map fun b=>V.ref b.1):=by
  refine⟨fun v hv=>?_,by rw [hmk];exact tH⟩
  obtain⟨b,hb,rfl⟩:=List.mem_map.mp hv
  obtain⟨n,r,e⟩:=hn b hb
  obtain⟨ys,ey,dv,_⟩:=hL.row b hb
  rw [e] at dv
  cases dv with
  |cons h1 dv=>
   obtain rfl:=h1.str_inv
   have ek:kf (.ref b.1)=n:=by rw [hkf b hb,e];rfl
   exact⟨b.1,_,rfl,by rw [ek];exact ey⟩
 refine Iw I (.inl (.inl hL.at')) (by rw [List.length_map];exact hl) hu hR fun a zs H' sm TC DV ord=>?_
 obtain⟨pm,pw⟩:=ord
 obtain⟨Ld,pb,ez⟩:∃Ld:List (Addr × List PyData),Ld.Perm bs/\zs=Ld.map fun b=>V.ref b.1:=by
  clear pw
  exact Kq pm bs rfl
 subst ez
 have C5:ax H (upd H' a (.lst (Ld.map fun b=>V.ref b.1))):=sm.trans (bS DV)
 refine k a _ Ld C5 TC pb ?_ ⟨ao,(pb.map _).nodup_iff.mpr hL.nd,fun z=>?_,fun b hb=>((hL.row b (pb.mem_iff.mp hb)).keeps C5)⟩
 . have e:(Ld.map fun b=>za b.2)=(Ld.map fun b=>V.ref b.1).map kf:=by
    rw [List.map_map]
    exact List.map_congr_left fun b hb=>(hkf b (pb.mem_iff.mp hb)).symm
   rw [e,List.pairwise_map]
   exact pw
 . obtain⟨b,hb,e⟩:=List.mem_map.mp z
   obtain⟨ys,ey,_⟩:=hL.row b (pb.mem_iff.mp hb)
   have e:b.1=a:=e
   rw [e,TC] at ey
   cases ey
theorem T5 {H:Hp} {Q:VK} {q:Addr} {bs:List (Addr × List PyData)} (hL:LR H q bs) (hn:∀b∈bs,∃n r,b.2=.str n::r) (tH:(bs.map fun b=>za b.2).Nodup) (hl:bs.length<64) (k:∀(q':Addr) (H':Hp) (Ld:List (Addr × List PyData)),ax H H'->H q'=none->Ld.Perm bs->(Ld.map fun b=>za b.2).Pairwise (fun c d=>A4 d c=false)->LR H' q' Ld->Q (.ref q') H'):SN [.ref q] H Q:=⟨q,bs,rfl,hL,hn,tH,hl,k⟩
section
variable {prog:Program} {w:World} {A:Around} {E:Value->Shared->Prop} {s:Shared}
theorem JY {it t:Addr} {items:Array Value} (AV:t≠it):∀(n i:Nat) (s:Shared) (Q:List Value->Shared->Prop),s.heap.IsListIter it t i->s.heap.IsList t items->i+n<=items.size->
 (∀h',h'.IsListIter it t (i+n)->Heap.SameBut it s.heap h'->Q ((items.toList.drop i).take n) {s with heap:=h'})->wpAny (model prog w) A (draw (.ref it) n) Q E s
 |0,i,s,Q,hit,_,_,hQ=>by
  show wpAny _ _ (pure []) Q E s
  exact wpAny_pure (by simpa using hQ s.heap hit (Heap.SameBut.refl ..))
 |n+1,i,s,Q,hit,ht,hle,hQ=>by
  have fq:i<items.size:=by omega
  show wpAny _ _ (pyNext (.ref it)>>=_) Q E s
  refine wpAny_bind (wpAny_pyNext_list_item hit ht (x:=items[i]) (by simp [fq]) fun h₁ Lz JQ=>?_)
  refine wpAny_bind (wpAny_holding (JY AV n (i+1) _ _ Lz (ht.at fun o e=>JQ.extBut _ o AV e) (by omega) fun h₂ YJ acH=>wpAny_pure ?_))
  have hd:items.toList.drop i=items[i]::items.toList.drop (i+1):=by simp [List.drop_eq_getElem_cons,fq]
  have:=hQ h₂ (by rw [show i+(n+1)=i+1+n by omega];exact YJ) (JQ.trans acH)
  rw [hd,List.take_succ_cons] at this
  exact this
theorem Mh {t:Addr} {items:Array Value} {Q:List Value->Shared->Prop} (hh:A.handled=none) (ht:s.heap.IsList t items)
 (hQ:∀h',Heap.ExtBut s.heap.objs.size s.heap h'->Q items.toList {s with heap:=h'}):wpAny (model prog w) A (unpackItems (.ref t) items.size none) Q E s:=by
 have fq:t≠s.heap.objs.size:=by obtain⟨o,ho,_⟩:=ht;exact Nat.ne_of_lt (Heap.lt_size ho)
 unfold unpackItems
 refine wpAny_bind ?_
 . unfold notIterableAtAll
   refine wpAny_bind (wpAny_specialOf ht.typeIs F.slot_list_iter.lookup ?_)
   refine wpAny_pure ?_
   simp only [Bool.false_eq_true,if_false]
   refine wpAny_bind (wpAny_holding (wpAny_pyIter_list ht ?_))
   have htp:(s.heap.push {cls:=.type "list_iterator",data:=.fields #[.ref t,.int 0 0]}).IsList t items:=ht.at fun o e=>Heap.get?_push_of_some _ e
   refine wpAny_bind (wpAny_holding (JY fq items.size 0 _ _ ⟨_,Heap.get?_push_size _ rfl,rfl,rfl⟩ htp (by omega) fun h₁ Lz JQ=>?_))
   have XH:List.take items.size (List.drop 0 items.toList)=items.toList:=by
    rw [List.drop_zero];exact List.take_of_length_le (by simp)
   rw [XH]
   rw [if_neg (by simp)]
   have abr:h₁.IsList t items:=htp.at fun o e=>JQ.extBut _ o fq e
   refine wpAny_bind (wpAny_holding (wpAny_pyNext_list_end hh Lz abr (by simp) fun h₂ acm=>?_))
   simp only [Option.isSome_none,Bool.false_eq_true,if_false]
   refine wpAny_pure (hQ h₂ fun b o hb e=>acm b o hb (JQ.extBut b o hb (Heap.get?_push_of_some _ e)))
end
section
variable {X:Cx} {pos:Pos}
def abN (n:Nat) (t:OM):TG:=fun v σ H Q=>∃a xs,v=.ref a/\H a=some (.lst xs)/\xs.length=n/\t xs σ H Q
theorem Z4 {es:List Expr} {k:Nat} {t:OM} {n:Nat} (hc:X.calm=true) (h:PGs X es t)
 (hn:(assignEach es X.env).length=n:=by rfl) (AQ:(assignEach es X.env).findIdx? (·.1)=none:=by rfl):PG X (.Tuple es k pos) (abN n t):=by
 intro pins s σ H v u Q I r hw
 obtain⟨a,xs,e1,hq,hl,hw⟩:=hw
 subst e1
 cases r
 obtain⟨a8,rv,ht,hz⟩:=I.list (.of hq)
 rw [arm_assign_Tuple]
 refine wpAny_bind (wpAny_standAt ?_)
 unfold unpack
 rw [show(assignEach es X.env).length=a8.toArray.size by simp [hn,<-hl,rv.length],AQ]
 refine wpAny_bind (wpAny_holding (Mh (I.ok.hd hc) ht.isList fun h' hx=>?_))
 have I1:Inv X pins σ H {s with heap:=h'}:=I.kept (t':=s.toks) fun b o e=>hx b o (Nat.ne_of_lt (Heap.lt_size e)) e
 exact h pins _ σ H xs _ Q I1 (by simpa using rv) hw
end
theorem js {H:Hp} {xs:List V} {d:PyData} {ds:List PyData} (h:cK H xs (d::ds)):∃v vs,xs=v::vs/\Dv H v d/\cK H vs ds:=by cases h with|cons h r=>exact⟨_,_,rfl,h,r⟩
theorem Ta {H:Hp} {xs:List V} (h:cK H xs []):xs=[]:=by cases h;rfl
theorem Vh {H:Hp} {σ:St} {p:Addr} {i1 i2 i3 i4 i5 i6 i7:Nat} {d1 d2 d3 d4 d5 d6 d7:PyData} {R:St->Hp->Prop} (hp:c9 H p [d1,d2,d3,d4,d5,d6,d7]) (h:∀v1 v2 v3 v4 v5 v6 v7,Dv H v1 d1->Dv H v2 d2->Dv H v3 d3->Dv H v4 d4->Dv H v5 d5->Dv H v6 d6->Dv H v7 d7->R (((((((σ.set i1 (some v1)).set i2 (some v2)).set i3 (some v3)).set i4 (some v4)).set i5 (some v5)).set i6 (some v6)).set i7 (some v7)) H):
 abN 7 (jS (fR i1) (jS (fR i2) (jS (fR i3) (jS (fR i4) (jS (fR i5) (jS (fR i6) (jS (fR i7) RW))))))) (.ref p) σ H R:=by
 obtain⟨xs,e,dv,_⟩:=hp
 obtain⟨v1,_,rfl,h1,dv⟩:=js dv
 obtain⟨v2,_,rfl,h2,dv⟩:=js dv
 obtain⟨v3,_,rfl,h3,dv⟩:=js dv
 obtain⟨v4,_,rfl,h4,dv⟩:=js dv
 obtain⟨v5,_,rfl,h5,dv⟩:=js dv
 obtain⟨v6,_,rfl,h6,dv⟩:=js dv
 obtain⟨v7,_,rfl,h7,dv⟩:=js dv
 obtain rfl:=Ta dv
 exact⟨p,_,rfl,e,rfl,_,_,rfl,_,_,rfl,_,_,rfl,_,_,rfl,_,_,rfl,_,_,rfl,_,_,rfl,rfl,h v1 v2 v3 v4 v5 v6 v7 h1 h2 h3 h4 h5 h6 h7⟩
theorem Ym {K:PySem.W.Frag} {H:Hp} {σ:St} {x:V} {i1 i2 i3 i4 i5:Nat} {d1 d2 d3 d4 d5:PyData} {R:St->Hp->Prop} (hd:Dv H x (.tuple [d1,d2,d3,d4,d5])) (h:∀v1 v2 v3 v4 v5,Dv H v1 d1->Dv H v2 d2->Dv H v3 d3->Dv H v4 d4->Dv H v5 d5->R (((((σ.set i1 (some v1)).set i2 (some v2)).set i3 (some v3)).set i4 (some v4)).set i5 (some v5)) H):
 QQ K 5 (jS (fR i1) (jS (fR i2) (jS (fR i3) (jS (fR i4) (jS (fR i5) RW))))) x σ H R:=by
 cases hd with
 |tup ha r=>
  rename_i p xs
  obtain⟨v1,_,rfl,h1,r⟩:=js r
  obtain⟨v2,_,rfl,h2,r⟩:=js r
  obtain⟨v3,_,rfl,h3,r⟩:=js r
  obtain⟨v4,_,rfl,h4,r⟩:=js r
  obtain⟨v5,_,rfl,h5,r⟩:=js r
  obtain rfl:=Ta r
  exact⟨p,_,rfl,.of ha,rfl,_,_,rfl,_,_,rfl,_,_,rfl,_,_,rfl,_,_,rfl,rfl,h v1 v2 v3 v4 v5 h1 h2 h3 h4 h5⟩
abbrev TJ (d:Value):List (Str × Value):=[("default",d)]
abbrev Qz (a8:Array Value) (c:Nat):Obj:={cls:=.type "list",dict:=none,data:=.seq a8 c,slots:=#[]}
section
variable {prog:Program} {w:World} {A:Around} {R:Result->Shared->Prop} {I S:Addr} {fp wr:List Addr} {n:Nat} {P:Nat->Value->Prop} {St:Nat->Heap->Prop} {bt:Nat->Nat->Bool}
def ab5 (P:Nat->Value->Prop) (bt:Nat->Nat->Bool) (j:Nat) (a8:Array Value):Prop:=(j=0/\a8=#[])\/∃i v,j=i+1/\P (argBest bt i) v/\a8=#[v,v]
theorem Oa {d:Value} (W:Walks prog w A.in1 I fp wr n P St) (YW:CmpOf prog w A.in1 .Lt P bt) (hSf:S∉fp):∀(k j:Nat) (s:Shared) (a8:Array Value) (c:Nat),n - j=k->j<=n->St j s.heap->ab5 P bt j a8->s.heap.get? S=some (Qz a8 c)->
 (∀v h' tk,(n=0/\v=d\/0<n/\P (argBest bt (n - 1)) v)->(∀b o,b∉wr->b≠S->s.heap.get? b=some o->h'.get? b=some o)->R (.ok (.ret v)) {s with heap:=h',toks:=tk})->
 codeAny (model prog w) A (.builtin "min.loop" ⟨[.ref I,.none,.ref S],TJ d⟩) R s:=by
 have nw:S∉wr:=fun h=>hSf (W.sub _ h)
 have nm:(toString "min"++toString ".loop":String)="min.loop":=by decide
 intro k
 induction k with
 |zero=>
  intro j s a8 c hk hj AQ hb hS fin
  obtain rfl:j=n:=by omega
  refine codeAny_builtin F.entry_min_loop ?_
  rw [Around.under_plainId F.plain_min_loop _]
  refine wpAny_bind (m:=seqItems? (.ref S)) (wpAny_seqItems hS rfl ?_)
  refine wpAny_bind (m:=tryCatch (pyNext (.ref I)) _) (wpAny_tryCatch (W.done s _ _ AQ fun h' tk kp=>?_))
  rcases hb with⟨hj0,rfl⟩|⟨i,v,hji,hv,rfl⟩
  . exact wpAny_bind (wpAny_rule (wpAny_pure (fin d h' tk (.inl ⟨hj0,rfl⟩) fun b o n1 _ e=>kp b o n1 e)))
  . refine wpAny_bind (m:=updateSeq S (fun _=>#[])) (wpAny_updateSeq (kp S _ nw hS) rfl (wpAny_bind (wpAny_letGo (wpAny_pure ?_))))
    exact fin v _ tk (.inr ⟨by omega,by rw [hji,Nat.add_sub_cancel];exact hv⟩) fun b o n1 n2 e=>(Heap.get?_update_other _ _ (Ne.symm n2)).trans (kp b o n1 e)
 |succ k ih=>
  intro j s a8 c hk hj AQ hb hS fin
  have fq:j<n:=by omega
  refine codeAny_builtin F.entry_min_loop ?_
  rw [Around.under_plainId F.plain_min_loop _]
  refine wpAny_bind (m:=seqItems? (.ref S)) (wpAny_seqItems hS rfl ?_)
  refine wpAny_bind (m:=tryCatch (pyNext (.ref I)) _) (wpAny_tryCatch (W.item j s _ _ fq AQ fun v h' tk hP aeX kp=>?_))
  have Xd:=kp S _ nw hS
  have go:∀(its':Array Value) (c':Nat) (h2:Heap),ab5 P bt (j+1) its'->h2.get? S=some (Qz its' c')->(∀b o,b≠S->h'.get? b=some o->h2.get? b=some o)->codeAny (model prog w) A (.builtin "min.loop" ⟨[.ref I,.none,.ref S],TJ d⟩) R {s with heap:=h2,toks:=tk}:=fun its' c' h2 hb' hS2 kp2=>
   ih (j+1) {s with heap:=h2,toks:=tk} its' c' (by omega) fq (W.frame _ _ _ aeX fun b hbf o e=>kp2 b o (fun z=>hSf (z▸hbf)) e) hb' hS2 fun v' h3 tk3 hv kp3=>fin v' h3 tk3 hv fun b o n1 n2 e=>kp3 b o n1 n2 (kp2 b o n2 (kp b o n1 e))
  rcases hb with⟨hj0,rfl⟩|⟨i,vb,hji,hvb,rfl⟩
  . refine wpAny_bind (m:=updateSeq S (fun _=>#[v,v])) (wpAny_updateSeq Xd rfl ?_)
    rw [nm]
    exact wpAny_pure ⟨plainId_quiet F.plain_min_loop _,go _ _ _ (.inr ⟨0,v,by omega,by rw [hj0] at hP;exact hP,rfl⟩) (Heap.get?_update_self _ Xd rfl) fun b o nb e=>(Heap.get?_update_other _ _ (Ne.symm nb)).trans e⟩
  . refine wpAny_bind (m:=tryCatch (holding [v,v] (richCompare .Lt v vb>>=_)) _) (wpAny_tryCatch (wpAny_holding (wpAny_bind (YW j (argBest bt i) v vb _ _ _ hP hvb ?_))))
    refine wpAny_bind (wpAny_holding (wpAny_truthy_bool (wpAny_bind (wpAny_letGo (wpAny_pure ?_)))))
    cases hbt:bt j (argBest bt i) with
    |true=>
     rw [if_pos rfl]
     refine wpAny_bind (m:=updateSeq S (fun _=>#[v,v])) (wpAny_updateSeq Xd rfl (wpAny_bind (wpAny_letGo ?_)))
     rw [nm]
     refine wpAny_pure ⟨plainId_quiet F.plain_min_loop _,go _ _ _ (.inr ⟨j,v,rfl,?_,rfl⟩) (Heap.get?_update_self _ Xd rfl) fun b o nb e=>(Heap.get?_update_other _ _ (Ne.symm nb)).trans e⟩
     rw [hji] at hbt hP ⊢
     rw [argBest,hbt,if_pos rfl];exact hP
    |false=>
     rw [if_neg (by decide)]
     refine wpAny_bind (wpAny_letGo ?_)
     rw [nm]
     refine wpAny_pure ⟨plainId_quiet F.plain_min_loop _,go _ _ _ (.inr ⟨j,vb,rfl,?_,rfl⟩) Xd fun b o _ e=>e⟩
     rw [hji] at hbt ⊢
     rw [argBest,hbt,if_neg (by decide)];exact hvb
end
theorem OV (d a:Value):argsOk "min" ⟨[a],TJ d⟩:=by unfold argsOk;kernel_rfl
section
variable {prog:Program} {w:World} {A:Around} {E:Value->Shared->Prop} {s:Shared}
theorem Qg {x d:Value} {Q:Value->Shared->Prop}
 (h:wpAny (model prog w) A.in1 (pyIter x) (fun it s2=>∃I fp wr n P St bt,it=.ref I/\Walks prog w A.in1 I fp wr n P St/\St 0 s2.heap/\(∀b∈fp,b<s2.heap.objs.size)/\CmpOf prog w A.in1 .Lt P bt/\
  ∀v h' tk,(n=0/\v=d\/0<n/\P (argBest bt (n - 1)) v)->(∀b o,b∉wr->s2.heap.get? b=some o->h'.get? b=some o)->Q v {s2 with heap:=h',toks:=tk}) E s):
 wpAny (model prog w) A (call (.builtin "min") [x] (TJ d)) Q E s:=by
 have nm:(toString "min"++toString ".loop":String)="min.loop":=by decide
 have ok:=OV d x
 have go:wpAny (model prog w) A.in1 (Builtin.min ⟨[x],TJ d⟩) (fun fin s'=>match fin with
  | .done f=>(match (Except.ok f:Result) with| .ok (.ret v)=>Q v s'| .ok _=>False| .error e=>E e s')
  | .again c'=>c'.quiet=true/\codeAny (model prog w) A c' (fun r s'=>match r with| .ok (.ret v)=>Q v s'| .ok _=>False| .error e=>E e s') s') E s:=by
  refine wpAny_bind (m:=Builtin.Builtins.bindParams "min" ["key","default"] 0 ⟨[],TJ d⟩) (wpAny_of_eq (show Builtin.Builtins.bindParams "min" ["key","default"] 0 ⟨[],TJ d⟩=pure [none,some d] from rfl) ?_)
  refine wpAny_bind (wpAny_pure (wpAny_bind (wpAny_mono h (fun it s2 h2=>?_) fun _ _ z=>z)))
  obtain⟨I,fp,wr,n,P,St,bt,rfl,W,AQ,hfp,YW,hQ⟩:=h2
  refine wpAny_bind (wpAny_newObj_type ?_)
  rw [nm]
  refine wpAny_pure ⟨plainId_quiet F.plain_min_loop _,Oa (S:=s2.heap.objs.size) W YW (fun hm=>Nat.lt_irrefl _ (hfp _ hm)) n 0 _ #[] _ rfl (Nat.zero_le _) (W.frame _ _ _ AQ fun b _ o e=>Heap.get?_push_of_some _ e) (.inl ⟨rfl,rfl⟩) (Heap.get?_push_size _ rfl) fun v h' tk hv kp=>?_⟩
  exact hQ v h' tk hv fun b o n1 e=>kp b o n1 (Nat.ne_of_lt (Heap.lt_size e)) (Heap.get?_push_of_some _ e)
 refine wpAny_call (codeAny_call_builtin F.plain_min F.entry_min ?_)
 simp only [checkBuiltinCall,F.kind_min]
 cases sg:Manifest.signature? "min" with
 |none=>exact wpAny_pure go
 |some g=>
  simp only [argsOk,sg] at ok
  have o2:Bind.checkArgs "min" g ⟨[x],TJ d⟩=pure ():=ok
  show wpAny _ _ (Bind.checkArgs "min" g ⟨[x],TJ d⟩) _ _ _
  rw [o2]
  exact wpAny_pure go
end
section
variable {X:Cx}
def LQ:V->V->Hp->VK->Prop:=fun x d H Q=>∃ns:List Int,Dv H x (.list (ns.map PyData.int))/\(ns=[]->Q d H)/\∀k∈ns,(∀j∈ns,k<=j)->Q (.int k) H
def SH (te td:TE):TE:=fun σ H Q=>te σ H fun x H1=>td σ H1 fun d H2=>LQ x d H2 Q
theorem Q6 {e ed:Expr} {te td:TE} {p pos Y8:Pos} (he:PE X e te) (hed:PE X ed td) (hc:X.calm=true) (hg:Gl X "min") (hm:X.mg "min"=none)
 (h2:backTo pos (starEach [e] X.env)=(false,eval e X.env)::backTo pos (starEach [] X.env):=by rfl):
 PE X (.Call (.Name "min" p) [e] [⟨some "default",ed,Y8⟩] pos) (SH te td):=by
 intro pins s σ H Q I h
 refine wpAny_Call_Name_kw (AH I hg hm boot_min ?_ (by decide) (by decide))
 refine callWith_kw ?_ h2 (by rw [h2];rfl)
 rw [h2]
 refine Calls.spliced_cons (dq (he pins s σ H _ I h) fun v s0 ⟨y,H0,I0,r1,q1⟩=>?_)
 refine Calls.spliced_nil ?_
 refine wpAny_evalAll_cons (wpAny_bind (dq (hed pins s0 σ H0 _ I0 q1) fun dv' s1 ⟨dx,H1,I1,rd,q1⟩=>?_))
 obtain⟨ns,hd,q0,q⟩:=q1
 refine wpAny_bind (wpAny_standAt (wpAny_pure (wpAny_evalAll_nil ?_)))
 obtain⟨l,ys,rfl,e1,dv⟩:=hd.lst_inv
 obtain⟨a8,rvs,pl,_⟩:=I1.list (e1 X.K)
 cases r1
 show wpAny _ _ (call (.builtin "min") [.ref l] (TJ dv')) _ _ _
 have hI:=N7 dv rvs
 have hn:a8.toArray.size=ns.length:=by rw [List.size_toArray,hI.length]
 have fq:l<s1.heap.objs.size:=by obtain⟨o,n,e1,_⟩:=pl;exact Heap.lt_size e1
 have hA:X.A.in1.handled=none:=I1.ok.hd hc
 refine Qg (wpAny_pyIter_list pl.isList ?_)
 refine⟨s1.heap.objs.size,_,_,_,_,_,fun i j=>decide (ns.getD i 0<ns.getD j 0),rfl,Walks.list hA _ l (Nat.ne_of_lt fq) a8.toArray,⟨⟨_,Heap.get?_push_size _ rfl,rfl,rfl⟩,pl.isList.at fun o e=>Heap.get?_push_of_some _ e⟩,?_,CmpOf.ints_lt (fun i=>ns.getD i 0) ?_,?_⟩
 . intro b hb
   rw [Heap.size_push]
   have:b=s1.heap.objs.size\/b=l:=by simpa using hb
   rcases this with rfl|rfl
   . exact Nat.lt_succ_self _
   . exact Nat.lt_succ_of_lt fq
 . intro i v hv
   exact hI.int_at i v (by simpa using hv)
 . intro v h' tk hP hk
   have I2:=I1.kept (t':=s1.toks) (h':=s1.heap.push {cls:=Value.type "list_iterator",data:=Data.fields #[Value.ref l,Value.int 0 0]}) fun b o e=>Heap.get?_push_of_some _ e
   have fp:=I1.Jc (H':=H1) (Nat.le_refl _) (I1.bL.fresh (Nat.le_refl _))
   have I3:=I2.turned (t':=tk) (h':=h') (it:=s1.heap.objs.size) (fun b o hb e=>hk b o (by simpa using hb) e) fp.1 fp.2.1 fp.2.2.2.1 fp.2.2.2.2.1 fp.2.2.2.2.2
   rcases hP with⟨G3,rfl⟩|⟨G3,hP⟩
   . exact⟨dx,H1,I3,rd,q0 (List.length_eq_zero_iff.mp (by omega))⟩
   . have b:=Ia (fun i=>ns.getD i 0) (a8.toArray.size - 1)
     generalize argBest (fun i j=>decide (ns.getD i 0<ns.getD j 0)) (a8.toArray.size - 1)=ix at b hP
     obtain⟨b1,b2⟩:=b
     obtain⟨t,rfl⟩:=hI.int_at ix v (by simpa using hP)
     have hb:ix<ns.length:=by omega
     refine⟨.int _,H1,I3,⟨t,rfl⟩,q _ ?_ ?_⟩
     . rw [List.getD_eq_getElem?_getD,List.getElem?_eq_getElem hb];exact List.getElem_mem hb
     . intro k hk
       obtain⟨j,hj,rfl⟩:=List.getElem_of_mem hk
       have:=b2 j (by omega)
       rwa [List.getD_eq_getElem?_getD (i:=j),List.getElem?_eq_getElem hj] at this
end
section
variable {σ:St} {H:Hp} {Q:VK}
theorem R6 {te td:TE} (h:te σ H fun x H1=>td σ H1 fun d H2=>LQ x d H2 Q):SH te td σ H Q:=h
theorem T3 {x d:V} {ns:List Int} (hp:Dv H x (.list (ns.map PyData.int))) (h0:ns=[]->Q d H) (h:∀k∈ns,(∀j∈ns,k<=j)->Q (.int k) H):LQ x d H Q:=⟨ns,hp,h0,h⟩
end
end L2
set_option maxHeartbeats 4000000
namespace My
open PySem L2
theorem ln1 {α:Type} {us:List α} (h:us.length=1):∃a,us=[a]:=by
 cases us with
 |nil=>cases h
 |cons a r=>
  cases r with
  |nil=>exact⟨a,rfl⟩
  |cons _ _=>exact absurd (Nat.succ.inj h) (Nat.succ_ne_zero _)
theorem kK {K:PySem.W.Frag} {fd:FuncData} {ps:List Str} (h:∀a:Value,bindArgs fd ⟨[a],[]⟩=pure (ps.zip [a])) (hl:ps.length=1:=by rfl):Binds K fd ps []:=.all fun us hz=>by
 obtain⟨a,rfl⟩:=ln1 (hz.trans hl)
 exact h a
theorem ln2 {α:Type} {us:List α} (h:us.length=2):∃a b,us=[a,b]:=by
 cases us with
 |nil=>cases h
 |cons a r=>
  obtain⟨b,rfl⟩:=ln1 (us:=r) (Nat.succ.inj h)
  exact⟨a,b,rfl⟩
theorem dR {K:PySem.W.Frag} {fd:FuncData} {ps:List Str} (h:∀a b:Value,bindArgs fd ⟨[a,b],[]⟩=pure (ps.zip [a,b])) (hl:ps.length=2:=by rfl):Binds K fd ps []:=.all fun us hz=>by
 obtain⟨a,b,rfl⟩:=ln2 (hz.trans hl)
 exact h a b
theorem ln3 {α:Type} {us:List α} (h:us.length=3):∃a b c,us=[a,b,c]:=by
 cases us with
 |nil=>cases h
 |cons a r=>
  obtain⟨b,c,rfl⟩:=ln2 (us:=r) (Nat.succ.inj h)
  exact⟨a,b,c,rfl⟩
theorem wa {K:PySem.W.Frag} {fd:FuncData} {ps:List Str} (h:∀a b c:Value,bindArgs fd ⟨[a,b,c],[]⟩=pure (ps.zip [a,b,c])) (hl:ps.length=3:=by rfl):Binds K fd ps []:=.all fun us hz=>by
 obtain⟨a,b,c,rfl⟩:=ln3 (hz.trans hl)
 exact h a b c
theorem ln4 {α:Type} {us:List α} (h:us.length=4):∃a b c d,us=[a,b,c,d]:=by
 cases us with
 |nil=>cases h
 |cons a r=>
  obtain⟨b,c,d,rfl⟩:=ln3 (us:=r) (Nat.succ.inj h)
  exact⟨a,b,c,d,rfl⟩
theorem Xn {K:PySem.W.Frag} {fd:FuncData} {ps:List Str} (h:∀a b c d:Value,bindArgs fd ⟨[a,b,c,d],[]⟩=pure (ps.zip [a,b,c,d])) (hl:ps.length=4:=by rfl):Binds K fd ps []:=.all fun us hz=>by
 obtain⟨a,b,c,d,rfl⟩:=ln4 (hz.trans hl)
 exact h a b c d
theorem ln5 {α:Type} {us:List α} (h:us.length=5):∃a b c d e,us=[a,b,c,d,e]:=by
 cases us with
 |nil=>cases h
 |cons a r=>
  obtain⟨b,c,d,e,rfl⟩:=ln4 (us:=r) (Nat.succ.inj h)
  exact⟨a,b,c,d,e,rfl⟩
theorem acC {K:PySem.W.Frag} {fd:FuncData} {ps:List Str} (h:∀a b c d e:Value,bindArgs fd ⟨[a,b,c,d,e],[]⟩=pure (ps.zip [a,b,c,d,e])) (hl:ps.length=5:=by rfl):Binds K fd ps []:=.all fun us hz=>by
 obtain⟨a,b,c,d,e,rfl⟩:=ln5 (hz.trans hl)
 exact h a b c d e
theorem ln6 {α:Type} {us:List α} (h:us.length=6):∃a b c d e f,us=[a,b,c,d,e,f]:=by
 cases us with
 |nil=>cases h
 |cons a r=>
  obtain⟨b,c,d,e,f,rfl⟩:=ln5 (us:=r) (Nat.succ.inj h)
  exact⟨a,b,c,d,e,f,rfl⟩
theorem aaZ {K:PySem.W.Frag} {fd:FuncData} {ps:List Str} (h:∀a b c d e f:Value,bindArgs fd ⟨[a,b,c,d,e,f],[]⟩=pure (ps.zip [a,b,c,d,e,f])) (hl:ps.length=6:=by rfl):Binds K fd ps []:=.all fun us hz=>by
 obtain⟨a,b,c,d,e,f,rfl⟩:=ln6 (hz.trans hl)
 exact h a b c d e f
def num (c:Int):Int:=if c % 3=0 then c / 3 % 7 else if c % 3=1 then c / 3 % 1000 else c / 3 % 10^39
def KZ (m:V):Prop:=m=.aQ\/∃i,m=.int i/\1<=i
def G4 (m:V) (n:Int):Int:=match m with
 | .int i=>if i<=n then i else n
 |_=>n
def G7 (m:V) (n:Int) (d:PyData):PyData:=match m with
 | .int i=>if i<=n then .none else d
 |_=>d
theorem NV {i n:Int} {d:PyData} (h:i<=n):G7 (.int i) n d=.none:=if_pos h
theorem N0 {i n:Int} {d:PyData} (h:¬i<=n):G7 (.int i) n d=d:=if_neg h
theorem N6 {i n:Int} (h:i<=n):G4 (.int i) n=i:=if_pos h
theorem NM {i n:Int} (h:¬i<=n):G4 (.int i) n=n:=if_neg h
def place (m:V) (n:Int) (d:PyData):PyData:=.tuple [.int (G4 m n),G7 m n d]
def N5:List V->List (Str × V)
 |[st,sp,wd,m]=>[("many",m),("start",st),("step",sp),("wide",wd)]
 |_=>[]
def Fm:List V->List (Str × V)
 |[st,gp,wd,m]=>[("many",m),("start",st),("gap",gp),("wide",wd)]
 |_=>[]
inductive Wk (R:Int->Int->Int × Int) (now:Int):Int->Int->Int->Int->Int->Int->Prop where
 |here {num x y:Int} (h:now<y):Wk R now num x y num x y
 |next {num x y k x' y':Int} (h:y<=now) (w:Wk R now (num+1) (R num y).1 (R num y).2 k x' y'):Wk R now num x y k x' y'
theorem Wk.inj {R:Int->Int->Int × Int} {now num x y k x' y' k2 x2 y2:Int} (h:Wk R now num x y k x' y') (g:Wk R now num x y k2 x2 y2):k=k2/\x'=x2/\y'=y2:=by
 induction h with
 |here h=>
  cases g with
  |here _=>exact⟨rfl,rfl,rfl⟩
  |next h2 _=>omega
 |next h _ ih=>
  cases g with
  |here h2=>omega
  |next _ w=>exact ih w
def steps (e span now:Int):Int:=max 0 ((now - e) / span+1)
theorem CO {e span now:Int}:0<=steps e span now:=by unfold steps;omega
theorem JT {e span now b:Int} (hs:0<span) (h:now - e<=b) (hb:0<=b):steps e span now<=b+1:=by
 unfold steps
 have:(now - e) / span<=b:=by
  by_cases h0:0<=now - e
  . exact Int.le_trans (Int.ediv_le_self _ h0) h
  . have:=Int.ediv_neg_of_neg_of_pos (show now - e<0 by omega) hs
    omega
 omega
local macro_rules|`(tactic|walk_at "same")=>`(tactic|first|(refine' ax.trans ?m ?s;(case s=>assumption);(case m=>walk_at "same"))|fail)
set_option hygiene false in
local macro_rules|`(tactic|walk_at "same")=>`(tactic|first|assumption|fail)
set_option hygiene false in
local macro_rules|`(tactic|walk_at "same")=>`(tactic|first|exact ax.refl _|fail)
local macro_rules|`(tactic|walk_at "at")=>`(tactic|first|(refine' ax.at ?s ?m;(case s=>assumption);(case m=>walk_at "at"))|fail)
set_option hygiene false in
local macro_rules|`(tactic|walk_at "at")=>`(tactic|first|exact ao|fail)
set_option hygiene false in
local macro_rules|`(tactic|walk_at "at")=>`(tactic|first|assumption|fail)
local macro_rules|`(tactic|walk_at "dat")=>`(tactic|first|(refine' Dv.keeps ?s ?m;(case s=>assumption);(case m=>walk_at "dat"))|fail)
set_option hygiene false in
local macro_rules|`(tactic|walk_at "dat")=>`(tactic|first|assumption|fail)
set_option hygiene false in
local macro_rules|`(tactic|walk_at "dat")=>`(tactic|first|exact Dv.str _|fail)
set_option hygiene false in
local macro_rules|`(tactic|walk_at "dat")=>`(tactic|first|exact Dv.bl _|fail)
set_option hygiene false in
local macro_rules|`(tactic|walk_at "dat")=>`(tactic|first|exact Dv.aQ|fail)
set_option hygiene false in
local macro_rules|`(tactic|walk_at "dat")=>`(tactic|first|exact Dv.int _|fail)
local macro_rules|`(tactic|walk_at "ins")=>`(tactic|first|(refine' kL.keeps ?s ?m;(case s=>assumption);(case m=>walk_at "ins"))|fail)
set_option hygiene false in
local macro_rules|`(tactic|walk_at "ins")=>`(tactic|first|assumption|fail)
local macro_rules|`(tactic|walk_at "dats")=>`(tactic|first|(refine' cK.keeps ?s ?m;(case s=>assumption);(case m=>walk_at "dats"))|fail)
set_option hygiene false in
local macro_rules|`(tactic|walk_at "dats")=>`(tactic|first|assumption|fail)
local macro_rules|`(tactic|walk_at "dats")=>`(tactic|first|(refine' cK.cons ?m ?s;(case m=>walk_at "dat");(case s=>walk_at "dats"))|fail)
set_option hygiene false in
local macro_rules|`(tactic|walk_at "dats")=>`(tactic|first|exact cK.nil|fail)
local macro_rules|`(tactic|walk_at "sql")=>`(tactic|first|(refine' ax.seq ?s ?m;(case s=>assumption);(case m=>walk_at "sql"))|fail)
set_option hygiene false in
local macro_rules|`(tactic|walk_at "sql")=>`(tactic|first|assumption|fail)
local macro_rules|`(tactic|walk_at "isq")=>`(tactic|first|(refine' Or.inr ?m;case m=>walk_at "dat")|fail)
local macro_rules|`(tactic|walk_at "isq")=>`(tactic|first|(refine' Or.inl ?m;case m=>walk_at "dat")|fail)
set_option hygiene false in
local macro_rules|`(tactic|walk_at "side")=>`(tactic|first|exact⟨by decide,by decide,by decide⟩|fail)
set_option hygiene false in
local macro_rules|`(tactic|walk_at "side")=>`(tactic|first|exact aaT ⟨by omega,by omega⟩ ⟨by omega,by omega⟩|fail)
set_option hygiene false in
local macro_rules|`(tactic|walk_at "side")=>`(tactic|first|exact abb (by omega) (by omega)|fail)
set_option hygiene false in
local macro_rules|`(tactic|walk_at "side")=>`(tactic|first|exact(by decide)|fail)
set_option hygiene false in
local macro_rules|`(tactic|walk_at "side")=>`(tactic|first|assumption|fail)
set_option hygiene false in
local macro_rules|`(tactic|walk_at "side")=>`(tactic|first|omega|fail)
set_option hygiene false in
local macro_rules|`(tactic|walk_at "use")=>`(tactic|fail)
set_option hygiene false in
local macro_rules|`(tactic|walk_at "lk")=>`(tactic|fail)
set_option hygiene false in
local macro_rules|`(tactic|walk_at "put")=>`(tactic|fail)
set_option hygiene false in
local macro_rules|`(tactic|walk_at "fin")=>`(tactic|fail)
set_option hygiene false in
local macro_rules|`(tactic|walk_at "wds")=>`(tactic|first|with_reducible refine LN (ws:=[]) rfl ?_|fail)
set_option hygiene false in
local macro_rules|`(tactic|walk_at "wds")=>`(tactic|first|with_reducible refine LN (ws:=[_,_,_,_,_,_]) rfl ?_|fail)
set_option hygiene false in
local macro_rules|`(tactic|walk_at "wds")=>`(tactic|first|with_reducible refine LN (ws:=[_,_,_,_,_]) rfl ?_|fail)
set_option hygiene false in
local macro_rules|`(tactic|walk_at "wds")=>`(tactic|first|with_reducible refine LN (ws:=[_,_,_,_]) rfl ?_|fail)
set_option hygiene false in
local macro_rules|`(tactic|walk_at "wds")=>`(tactic|first|with_reducible refine LN (ws:=[_,_,_]) rfl ?_|fail)
set_option hygiene false in
local macro_rules|`(tactic|walk_at "wds")=>`(tactic|first|with_reducible refine LN (ws:=[_,_]) rfl ?_|fail)
set_option hygiene false in
local macro_rules|`(tactic|walk_at "wds")=>`(tactic|first|with_reducible refine LN (ws:=[_]) rfl ?_|fail)
set_option hygiene false in
local macro_rules|`(tactic|walk_at "mks")=>`(tactic|first|refine Bx (args:=[_,_,_,_,_]) rfl ?_ (fun _ _ _ _=>?_)|fail)
set_option hygiene false in
local macro_rules|`(tactic|walk_at "mks")=>`(tactic|first|refine Bx (args:=[_,_,_,_]) rfl ?_ (fun _ _ _ _=>?_)|fail)
set_option hygiene false in
local macro_rules|`(tactic|walk_at "mks")=>`(tactic|first|refine Bx (args:=[_,_,_]) rfl ?_ (fun _ _ _ _=>?_)|fail)
set_option hygiene false in
local macro_rules|`(tactic|walk_at "mks")=>`(tactic|first|refine Bx (args:=[_,_]) rfl ?_ (fun _ _ _ _=>?_)|fail)
set_option hygiene false in
local macro_rules|`(tactic|walk_at "mks")=>`(tactic|first|refine Bx (args:=[_]) rfl ?_ (fun _ _ _ _=>?_)|fail)
local macro_rules|`(tactic|walk_at "br")=>`(tactic|((with_reducible refine acw (fun hb=>?_) (fun hb=>?_)) <;>(try simp only [id,decide_eq_true_eq,decide_eq_false_iff_not,Bool.not_eq_true',Bool.not_eq_false',Bool.not_true,Bool.not_false,V.int.injEq,Bool.true_eq_false,Bool.false_eq_true,reduceCtorEq,decide_true,decide_false,not_true,not_false_iff,PyData.eqv,PyData.eqvAll,Bool.and_eq_true,Bool.and_eq_false_iff,Bool.or_eq_true,Bool.or_eq_false_iff,beq_iff_eq,beq_eq_false_iff_ne,ne_eq,bne_iff_ne,Bool.and_true,Bool.and_false,Bool.and_self,beq_self_eq_true,isInt,isBool,isStr,abw,isTup,acI,List.length_cons,List.length_nil] at hb) <;>(try (exfalso;omega)) <;>(try (exfalso;(refine' aef hb ?d);(case d=>walk_at "dat")))))
set_option hygiene false in
local macro_rules|`(tactic|walk_at "rd1")=>`(tactic|first|walk_at "fin"|fail)
set_option hygiene false in
local macro_rules|`(tactic|walk_at "rd1")=>`(tactic|first|walk_at "use"|fail)
set_option hygiene false in
local macro_rules|`(tactic|walk_at "rd1")=>`(tactic|first|walk_at "mks"|fail)
set_option hygiene false in
local macro_rules|`(tactic|walk_at "rd1")=>`(tactic|first|walk_at "wds"|fail)
set_option hygiene false in
local macro_rules|`(tactic|walk_at "rd1")=>`(tactic|first|with_reducible refine Ux (fun _ _=>?_)|fail)
set_option hygiene false in
local macro_rules|`(tactic|walk_at "rd1")=>`(tactic|first|with_reducible refine abP ?_|fail)
local macro_rules|`(tactic|walk_at "rd1")=>`(tactic|first|((with_reducible refine WC ?_);(with_reducible refine Ic ?_);((with_reducible refine' KU ?e ?_);case e=>exact rfl);((with_reducible refine' IL ?e1 ?e2 ?_);(case e1=>walk_at "ins");(case e2=>walk_at "lk")))|fail)
set_option hygiene false in
local macro_rules|`(tactic|walk_at "rd1")=>`(tactic|first|with_reducible refine Wd ?_|fail)
set_option hygiene false in
local macro_rules|`(tactic|walk_at "rd1")=>`(tactic|first|with_reducible refine Ic ?_|fail)
set_option hygiene false in
local macro_rules|`(tactic|walk_at "rd1")=>`(tactic|first|with_reducible refine Xw ?_|fail)
local macro_rules|`(tactic|walk_at "rd1")=>`(tactic|first|((with_reducible refine' Yu ?e1 ?e2 ?_);(case e1=>omega);(case e2=>omega))|fail)
set_option hygiene false in
local macro_rules|`(tactic|walk_at "rd1")=>`(tactic|first|with_reducible refine VM ?_|fail)
set_option hygiene false in
local macro_rules|`(tactic|walk_at "rd1")=>`(tactic|first|with_reducible refine abO ?_|fail)
set_option hygiene false in
local macro_rules|`(tactic|walk_at "rd1")=>`(tactic|first|with_reducible refine aac ?_|fail)
local macro_rules|`(tactic|walk_at "rd1")=>`(tactic|first|((with_reducible refine' aad ?e1 ?e2 (fun _ _ _ _ _ _ _=>?_));(case e1=>exact RV rfl);(case e2=>walk_at "dats"))|fail)
set_option hygiene false in
local macro_rules|`(tactic|walk_at "rd1")=>`(tactic|first|with_reducible refine Y4 ?_|fail)
local macro_rules|`(tactic|walk_at "rd1")=>`(tactic|first|((with_reducible refine' Yz ?e1 ?e2 (fun _ _ _ _=>?_));(case e1=>exact RV rfl);(case e2=>walk_at "dats"))|fail)
set_option hygiene false in
local macro_rules|`(tactic|walk_at "rd1")=>`(tactic|first|with_reducible refine aae ?_|fail)
set_option hygiene false in
local macro_rules|`(tactic|walk_at "rd1")=>`(tactic|first|with_reducible refine T4 (fun _ _=>?_)|fail)
set_option hygiene false in
local macro_rules|`(tactic|walk_at "rd1")=>`(tactic|first|with_reducible refine aaf ?_|fail)
set_option hygiene false in
local macro_rules|`(tactic|walk_at "rd1")=>`(tactic|first|with_reducible refine T9 ?_|fail)
set_option hygiene false in
local macro_rules|`(tactic|walk_at "rd1")=>`(tactic|first|with_reducible refine Wm ?_|fail)
set_option hygiene false in
local macro_rules|`(tactic|walk_at "rd1")=>`(tactic|first|with_reducible refine UG ?_|fail)
local macro_rules|`(tactic|walk_at "rd1")=>`(tactic|first|((with_reducible refine' Mp ?e ?_);case e=>walk_at "dat")|fail)
local macro_rules|`(tactic|walk_at "rd1")=>`(tactic|first|((with_reducible refine' PF ?e ?_);case e=>walk_at "dat")|fail)
local macro_rules|`(tactic|walk_at "rd1")=>`(tactic|first|((with_reducible refine' Vi ?e1 ?e2 ?_);(case e1=>walk_at "at");(case e2=>walk_at "lk"))|fail)
local macro_rules|`(tactic|walk_at "rd1")=>`(tactic|first|((with_reducible refine' IL ?e1 ?e2 ?_);(case e1=>walk_at "ins");(case e2=>walk_at "lk"))|fail)
local macro_rules|`(tactic|walk_at "rd1")=>`(tactic|first|((with_reducible refine' Rj ?e1 ?e2 ?e3 ?e4 ?_);(case e1=>walk_at "at");(case e2=>assumption);(case e3=>assumption);(case e4=>walk_at "lk"))|fail)
local macro_rules|`(tactic|walk_at "rd1")=>`(tactic|first|((with_reducible refine' Yq ?e1 ?e2 ?e3 ?e4 ?_);(case e1=>walk_at "ins");(case e2=>assumption);(case e3=>assumption);(case e4=>walk_at "lk"))|fail)
local macro_rules|`(tactic|walk_at "rd1")=>`(tactic|first|((with_reducible refine' Vg ?e1 ?e2 ?e3 ?e4 ?e5 ?_);(case e1=>walk_at "at");(case e2=>assumption);(case e3=>assumption);(case e4=>exact Ud rfl);(case e5=>walk_at "put"))|fail)
set_option hygiene false in
local macro_rules|`(tactic|walk_at "rd1")=>`(tactic|first|with_reducible refine YF ?_|fail)
set_option hygiene false in
local macro_rules|`(tactic|walk_at "rd1")=>`(tactic|first|with_reducible refine afp ?_|fail)
local macro_rules|`(tactic|walk_at "rd1")=>`(tactic|first|((with_reducible refine' aah ?e (fun _ _=>?_));case e=>walk_at "side")|fail)
set_option hygiene false in
local macro_rules|`(tactic|walk_at "rd1")=>`(tactic|first|with_reducible refine aai (fun _ _ _ _=>?_)|fail)
set_option hygiene false in
local macro_rules|`(tactic|walk_at "rd1")=>`(tactic|first|with_reducible refine XE (fun _ _ _ _=>?_)|fail)
local macro_rules|`(tactic|walk_at "rd1")=>`(tactic|first|((with_reducible refine' Z7 ?e ?_);case e=>walk_at "sql")|fail)
local macro_rules|`(tactic|walk_at "rd1")=>`(tactic|first|((with_reducible refine' Xq ?e1 ?e2 ?_);(case e1=>walk_at "isq");(case e2=>exact rfl))|fail)
local macro_rules|`(tactic|walk_at "rd1")=>`(tactic|first|((with_reducible refine' W8 ?e1 ?e2 ?e3 ?e4 ?e5 ?_);(case e1=>walk_at "dat");(case e2=>walk_at "dat");(case e3=>first|rfl|assumption);(case e4=>first|rfl|assumption);(case e5=>first|exact Nat.le_of_ble_eq_true rfl|assumption))|fail)
local macro_rules|`(tactic|walk_at "rd1")=>`(tactic|first|((with_reducible refine' acK ?e ?_);case e=>exact rfl)|fail)
set_option hygiene false in
local macro_rules|`(tactic|walk_at "rd1")=>`(tactic|first|with_reducible refine YS ?_|fail)
set_option hygiene false in
local macro_rules|`(tactic|walk_at "rd1")=>`(tactic|first|walk_at "br"|fail)
set_option hygiene false in
local macro_rules|`(tactic|walk_at "rd1")=>`(tactic|first|with_reducible refine Ow ?_|fail)
set_option hygiene false in
local macro_rules|`(tactic|walk_at "rd1")=>`(tactic|first|with_reducible refine SV ?_|fail)
set_option hygiene false in
local macro_rules|`(tactic|walk_at "rd1")=>`(tactic|first|with_reducible refine Z1 ?_|fail)
set_option hygiene false in
local macro_rules|`(tactic|walk_at "rd1")=>`(tactic|first|with_reducible refine afn ?_|fail)
set_option hygiene false in
local macro_rules|`(tactic|walk_at "rd1")=>`(tactic|first|with_reducible refine abF ?_|fail)
set_option hygiene false in
local macro_rules|`(tactic|walk_at "rd1")=>`(tactic|first|with_reducible refine Zw ?_|fail)
set_option hygiene false in
local macro_rules|`(tactic|walk_at "rd1")=>`(tactic|first|with_reducible refine ac0 ?_|fail)
set_option hygiene false in
local macro_rules|`(tactic|walk_at "rd1")=>`(tactic|first|with_reducible refine Yv ?_|fail)
set_option hygiene false in
local macro_rules|`(tactic|walk_at "rd1")=>`(tactic|first|with_reducible refine abM ?_|fail)
set_option hygiene false in
local macro_rules|`(tactic|walk_at "rd1")=>`(tactic|first|with_reducible refine aeq ?_|fail)
set_option hygiene false in
local macro_rules|`(tactic|walk_at "rd1")=>`(tactic|first|with_reducible refine aci ?_|fail)
set_option hygiene false in
local macro_rules|`(tactic|walk_at "rd1")=>`(tactic|first|with_reducible refine XW ?_|fail)
set_option hygiene false in
local macro_rules|`(tactic|walk_at "rd1")=>`(tactic|first|with_reducible refine ad6 ?_|fail)
set_option hygiene false in
local macro_rules|`(tactic|walk_at "rd1")=>`(tactic|first|with_reducible refine UT ?_|fail)
set_option hygiene false in
local macro_rules|`(tactic|walk_at "rd1")=>`(tactic|first|with_reducible refine ab3 ?_|fail)
set_option hygiene false in
local macro_rules|`(tactic|walk_at "rd1")=>`(tactic|first|with_reducible refine Ya ?_|fail)
local macro_rules|`(tactic|walk_at "rd1")=>`(tactic|first|((with_reducible refine' r_i ?e ?_);case e=>walk_at "side")|fail)
local macro_rules|`(tactic|walk_at "rd1")=>`(tactic|first|((with_reducible refine' Yj ?e1 ?e2 ?_);(case e1=>exact⟨by decide,by decide,by decide⟩);(case e2=>((conv=>lhs;simp only [Int.reduceToNat]) <;>exact rfl)))|fail)
set_option hygiene false in
local macro_rules|`(tactic|walk_at "rd1")=>`(tactic|first|with_reducible refine afA ?_|fail)
set_option hygiene false in
local macro_rules|`(tactic|walk_at "rd1")=>`(tactic|first|with_reducible refine adY ?_|fail)
set_option hygiene false in
local macro_rules|`(tactic|walk_at "rd1")=>`(tactic|first|with_reducible refine r_c ?_|fail)
local macro_rules|`(tactic|walk_at "rd1")=>`(tactic|first|((with_reducible refine' KU ?e ?_);case e=>exact rfl)|fail)
set_option hygiene false in
local macro_rules|`(tactic|walk_at "rd1")=>`(tactic|first|with_reducible refine acZ ?_|fail)
set_option hygiene false in
local macro_rules|`(tactic|walk_at "rd1")=>`(tactic|first|with_reducible refine ZX ?_|fail)
set_option hygiene false in
local macro_rules|`(tactic|walk_at "rd1")=>`(tactic|first|with_reducible refine acG ?_|fail)
set_option hygiene false in
local macro_rules|`(tactic|walk_at "rd1")=>`(tactic|first|with_reducible refine ac1 ?_|fail)
set_option hygiene false in
local macro_rules|`(tactic|walk_at "rd1")=>`(tactic|first|with_reducible refine YB ?_|fail)
local macro_rules|`(tactic|walk_at "lat")=>`(tactic|first|(refine' c9.mv ?s ?n ?m;(case s=>assumption);(case n=>walk_at "nin");(case m=>walk_at "lat"))|fail)
local macro_rules|`(tactic|walk_at "lat")=>`(tactic|first|(refine' c9.keeps ?s ?m;(case s=>assumption);(case m=>walk_at "lat"))|fail)
set_option hygiene false in
local macro_rules|`(tactic|walk_at "lat")=>`(tactic|first|assumption|fail)
set_option hygiene false in
local macro_rules|`(tactic|walk_at "nin")=>`(tactic|fail)
local macro_rules|`(tactic|walk_at "ne")=>`(tactic|first|(refine' Ne.symm (c9.ne ?h ?n);(case n=>assumption);(case h=>walk_at "lat"))|fail)
local macro_rules|`(tactic|walk_at "ne")=>`(tactic|first|(refine' c9.ne ?h ?n;(case n=>assumption);(case h=>walk_at "lat"))|fail)
set_option hygiene false in
local macro_rules|`(tactic|walk_at "ne")=>`(tactic|first|(refine Ne.symm ?_;assumption)|fail)
set_option hygiene false in
local macro_rules|`(tactic|walk_at "ne")=>`(tactic|first|assumption|fail)
local macro_rules|`(tactic|walk_at "dla")=>`(tactic|first|(refine' uH.mv ?s ?n ?m;(case s=>assumption);(case n=>walk_at "nin");(case m=>walk_at "dla"))|fail)
local macro_rules|`(tactic|walk_at "dla")=>`(tactic|first|(refine' uH.keeps ?s ?m;(case s=>assumption);(case m=>walk_at "dla"))|fail)
set_option hygiene false in
local macro_rules|`(tactic|walk_at "dla")=>`(tactic|first|assumption|fail)
local macro_rules|`(tactic|walk_at "ne")=>`(tactic|first|(refine' Ne.symm (uH.ne ?h ?n);(case n=>assumption);(case h=>walk_at "dla"))|fail)
local macro_rules|`(tactic|walk_at "ne")=>`(tactic|first|(refine' uH.ne ?h ?n;(case n=>assumption);(case h=>walk_at "dla"))|fail)
set_option hygiene false in
local macro_rules|`(tactic|walk_at "imm")=>`(tactic|first|exact NA _|fail)
local macro_rules|`(tactic|walk_at "imm")=>`(tactic|first|(refine' c9.Dc ?h;(case h=>assumption))|fail)
set_option hygiene false in
local macro_rules|`(tactic|walk_at "imm")=>`(tactic|first|exact iu (fun _=>rfl) _|fail)
set_option hygiene false in
local macro_rules|`(tactic|walk_at "imm")=>`(tactic|first|assumption|fail)
set_option hygiene false in
local macro_rules|`(tactic|walk_at "imm")=>`(tactic|first|rfl|fail)
local macro_rules|`(tactic|walk_at "dm")=>`(tactic|first|(refine' QF ?a ?b;(case b=>first|(refine' ax.dm' ?c;(case c=>assumption))|(refine' Mv.dm ?c;(case c=>assumption))|fail);(case a=>walk_at "dm"))|fail)
set_option hygiene false in
local macro_rules|`(tactic|walk_at "dm")=>`(tactic|first|exact fun _ h=>h|fail)
local macro_rules|`(tactic|walk_at "none")=>`(tactic|first|(refine' ZG ?s ?m;(case m=>assumption);(case s=>walk_at "dm"))|fail)
set_option hygiene false in
local macro_rules|`(tactic|walk_at "none")=>`(tactic|first|assumption|fail)
set_option hygiene false in
local macro_rules|`(tactic|walk_at "same")=>`(tactic|fail)
local macro_rules|`(tactic|walk_at "mv")=>`(tactic|first|(refine' Mv.step ?m ?s ?h;(case s=>assumption);(case m=>walk_at "mv");(case h=>walk_at "ours"))|fail)
local macro_rules|`(tactic|walk_at "mv")=>`(tactic|first|(refine' Mv.Sq ?m ?s;(case s=>assumption);(case m=>walk_at "mv"))|fail)
set_option hygiene false in
local macro_rules|`(tactic|walk_at "mv")=>`(tactic|first|assumption|fail)
set_option hygiene false in
local macro_rules|`(tactic|walk_at "mv")=>`(tactic|first|exact Mv.refl|fail)
set_option hygiene false in
local macro_rules|`(tactic|walk_at "ours")=>`(tactic|fail)
local macro_rules|`(tactic|walk_at "dat")=>`(tactic|first|(refine' Mv.dat ?s ?i ?m;(case s=>assumption);(case i=>walk_at "imm");(case m=>walk_at "dat"))|fail)
local macro_rules|`(tactic|walk_at "dat")=>`(tactic|first|(refine' c9.dv ?m;(case m=>walk_at "lat"))|fail)
set_option hygiene false in
local macro_rules|`(tactic|walk_at "dat")=>`(tactic|first|exact abo _|fail)
local macro_rules|`(tactic|walk_at "dats")=>`(tactic|first|(refine' Mv.Zt ?s ?i ?m;(case s=>assumption);(case i=>walk_at "imm");(case m=>walk_at "dats"))|fail)
set_option hygiene false in
local macro_rules|`(tactic|walk_at "len")=>`(tactic|first|omega|fail)
set_option hygiene false in
local macro_rules|`(tactic|walk_at "len")=>`(tactic|first|(simp only [List.length_map,List.length_append,List.length_cons,List.length_nil];omega)|fail)
local macro_rules|`(tactic|walk_at "rd1")=>`(tactic|first|((with_reducible refine' Xq ?e1 ?e2 ?_);(case e1=>walk_at "isq");(case e2=>first|exact aaq|(refine' aaM ?a ?b;(case a=>omega);(case b=>walk_at "len"))|fail))|fail)
local macro_rules|`(tactic|walk_at "rd1")=>`(tactic|first|((with_reducible refine' Le ?e ?_);case e=>walk_at "len")|fail)
set_option hygiene false in
local macro_rules|`(tactic|walk_at "rd1")=>`(tactic|first|with_reducible refine aa7 ?_|fail)
local macro_rules|`(tactic|walk_at "rd1")=>`(tactic|first|((with_reducible refine' Yr ?e1 ?e2 ?e3 (fun _ _ _ _ _=>?_));(case e1=>exact RV rfl);(case e2=>walk_at "dats");(case e3=>exact rfl))|fail)
local macro_rules|`(tactic|walk_at "rd1")=>`(tactic|first|((with_reducible refine' ab4 ?e ?_);case e=>walk_at "lat")|fail)
set_option hygiene false in
local macro_rules|`(tactic|walk_at "rd1")=>`(tactic|first|with_reducible refine aeQ ?_|fail)
set_option hygiene false in
local macro_rules|`(tactic|walk_at "rd1")=>`(tactic|first|with_reducible refine Ua ?_|fail)
local macro_rules|`(tactic|walk_at "rd1")=>`(tactic|first|((with_reducible refine' XZ ?e1 ?e2 ?_);(case e1=>walk_at "dla");(case e2=>assumption))|fail)
local macro_rules|`(tactic|walk_at "rd1")=>`(tactic|first|((with_reducible refine' acL ?e1 (fun _ _=>?_));(case e1=>walk_at "dla"))|fail)
local macro_rules|`(tactic|walk_at "rd1")=>`(tactic|first|((with_reducible refine' XO ?e1 ?e2 ?e3 ?e4 (fun _ _ _=>?_));(case e1=>walk_at "dla");(case e3=>walk_at "dat");(case e2=>walk_at "len");(case e4=>walk_at "imm"))|fail)
set_option hygiene false in
local macro_rules|`(tactic|walk_at "rd1")=>`(tactic|first|with_reducible refine VW ?_|fail)
set_option hygiene false in
local macro_rules|`(tactic|walk_at "rd1")=>`(tactic|first|with_reducible refine XM ?_|fail)
set_option hygiene false in
local macro_rules|`(tactic|walk_at "rd1")=>`(tactic|first|with_reducible refine Vv ?_|fail)
set_option hygiene false in
local macro_rules|`(tactic|walk_at "rd1")=>`(tactic|first|with_reducible refine Wi ?_|fail)
set_option hygiene false in
local macro_rules|`(tactic|walk_at "rd1")=>`(tactic|first|with_reducible refine Zy (fun _ _ _ _ _=>?_)|fail)
set_option hygiene false in
local macro_rules|`(tactic|walk_at "rd1")=>`(tactic|first|with_reducible refine aeS ?_|fail)
local macro_rules|`(tactic|walk_at "rd1")=>`(tactic|first|((with_reducible refine' Rt ?e1 ?e2 ?e3 (fun _ _ _ _ _=>?_));(case e1=>walk_at "lat");(case e2=>walk_at "lat");(case e3=>walk_at "len"))|fail)
set_option hygiene false in
local macro_rules|`(tactic|walk_at "rd1")=>`(tactic|fail)
set_option hygiene false in
local macro_rules|`(tactic|walk_at "rd1")=>`(tactic|fail)
set_option hygiene false in
local macro_rules|`(tactic|walk_at "rd1")=>`(tactic|fail)
local macro_rules|`(tactic|walk_at "rd1")=>`(tactic|first|((with_reducible refine' U8 ?e1 ?_);(case e1=>walk_at "dla"))|fail)
set_option hygiene false in
local macro_rules|`(tactic|walk_at "rd1")=>`(tactic|first|with_reducible refine RZ ?_|fail)
set_option hygiene false in
local macro_rules|`(tactic|walk_at "rd1")=>`(tactic|first|with_reducible refine UP ?_|fail)
set_option hygiene false in
local macro_rules|`(tactic|walk_at "rd1")=>`(tactic|fail)
def top (i:Nat):Stmt:=PySem.Challenge.pw_wakefew_k60_the_days_clock.main.body.getD i (.Pass ⟨0,0,0,0⟩)
set_option hygiene false in
local macro_rules|`(tactic|walk_at "scp")=>`(tactic|exact⟨rfl,rfl,rfl,by decide+kernel,rfl,by decide+kernel,by decide+kernel⟩)
abbrev jB:Stmt:=inClass (top 2) 0
theorem Dq:aw ["self","name","rule","weight","home","by_day"] ["self","name","rule","weight","home","by_day"] (aj jB):=by walk_at "scp"
abbrev xx:Stmt:=inClass (top 2) 1
theorem IX:aw ["self","shift"] ["self","shift"] (aj xx):=by walk_at "scp"
abbrev kT:Stmt:=inClass (top 2) 2
theorem E5:aw ["self"] ["self"] (aj kT):=by walk_at "scp"
abbrev gC:Stmt:=inClass (top 2) 3
theorem Ak:aw ["self"] ["self"] (aj gC):=by walk_at "scp"
abbrev jy:Stmt:=inClass (top 2) 5
theorem fE:aw ["self","shown","low","last","place"] ["self","shown"] (aj jy):=by walk_at "scp"
abbrev vZ:Stmt:=inClass (top 2) 6
theorem CN:aw ["self","now","shift","lead"] ["self","now","shift"] (aj vZ):=by walk_at "scp"
abbrev xf:Stmt:=inClass (top 2) 7
theorem IQ:aw ["self"] ["self"] (aj xf):=by walk_at "scp"
abbrev g0:Stmt:=inClass (top 16) 0
theorem Au:aw ["self"] ["self"] (aj g0):=by walk_at "scp"
abbrev il:Stmt:=inClass (top 18) 0
theorem Cw:aw ["self","now"] ["self","now"] (aj il):=by walk_at "scp"
abbrev vR:Stmt:=inClass (top 18) 1
theorem Iq:aw ["self","name","time"] ["self","name","time"] (aj vR):=by walk_at "scp"
abbrev qK:Stmt:=inClass (top 18) 2
theorem yt:aw ["self","name","time"] ["self","name"] (aj qK):=by walk_at "scp"
abbrev nu:Stmt:=inClass (top 18) 3
theorem j3:aw ["self","to","told","time","name"] ["self","to"] (aj nu):=by walk_at "scp"
abbrev oQ:Stmt:=inClass (top 18) 4
theorem Gp:aw ["self"] ["self"] (aj oQ):=by walk_at "scp"
abbrev jd:Stmt:=inClass (top 18) 5
theorem Dj:aw ["self","name"] ["self","name"] (aj jd):=by walk_at "scp"
abbrev fH:Stmt:=inClass (top 18) 7
theorem v9:aw ["self","name"] ["self","name"] (aj fH):=by walk_at "scp"
abbrev wU:Stmt:=inClass (top 19) 0
theorem Jk:aw ["self","name","time"] ["self","name","time"] (aj wU):=by walk_at "scp"
abbrev vu:Stmt:=inClass (top 19) 1
theorem Ii:aw ["self","name","time"] ["self","name","time"] (aj vu):=by walk_at "scp"
abbrev iC:Stmt:=inClass (top 19) 2
theorem GB:aw ["self","to"] ["self","to"] (aj iC):=by walk_at "scp"
abbrev Ag:Stmt:=top 21
theorem KP:aw ["thing"] ["thing"] (aj Ag):=by walk_at "scp"
abbrev je:Stmt:=inClass (top 32) 0
theorem DH:aw ["self","rounds","now"] ["self","rounds","now"] (aj je):=by walk_at "scp"
abbrev fv:Stmt:=inClass (top 32) 2
theorem BF:aw ["self"] ["self"] (aj fv):=by walk_at "scp"
abbrev jw:Stmt:=inClass (top 32) 4
theorem DF:aw ["self","bell"] ["self","bell"] (aj jw):=by walk_at "scp"
abbrev jh:Stmt:=inClass (top 32) 5
theorem DM:aw ["self","bell"] ["self","bell"] (aj jh):=by walk_at "scp"
abbrev xJ:Stmt:=inClass (top 32) 6
theorem Jf:aw ["self","bell"] ["self","bell"] (aj xJ):=by walk_at "scp"
abbrev Ab:Stmt:=inClass (top 32) 7
theorem D3:aw ["self","bell","entries"] ["self","bell"] (aj Ab):=by walk_at "scp"
abbrev jo:Stmt:=inClass (top 32) 8
theorem Dz:aw ["self","bell"] ["self","bell"] (aj jo):=by walk_at "scp"
abbrev kM:Stmt:=inClass (top 32) 9
theorem jk:aw ["self","bells","entries","bell"] ["self","bells"] (aj kM):=by walk_at "scp"
abbrev vh:Stmt:=inClass (top 32) 10
theorem Iy:aw ["self","bell"] ["self","bell"] (aj vh):=by walk_at "scp"
abbrev ot:Stmt:=inClass (top 32) 12
theorem FZ:aw ["self","bell"] ["self","bell"] (aj ot):=by walk_at "scp"
abbrev oK:Stmt:=inClass (top 32) 14
theorem FK:aw ["self","bell"] ["self","bell"] (aj oK):=by walk_at "scp"
abbrev gI:Stmt:=inClass (top 32) 15
theorem E3:aw ["self","time"] ["self","time"] (aj gI):=by walk_at "scp"
abbrev gA:Stmt:=inClass (top 35) 0
theorem Af:aw ["self","rounds","now"] ["self","rounds","now"] (aj gA):=by walk_at "scp"
abbrev rF:Stmt:=inClass (top 35) 1
theorem zB:aw ["self","name","rule","weight","group","by_day","bell"] ["self","name","rule","weight","group","by_day"] (aj rF):=by walk_at "scp"
abbrev iE:Stmt:=inClass (top 35) 10
theorem GI:aw ["self","by"] ["self","by"] (aj iE):=by walk_at "scp"
abbrev vi:Stmt:=inClass (top 35) 12
theorem rl:aw ["self","to","most","deed","entries","wakings"] ["self","to","most","deed"] (aj vi):=by walk_at "scp"
abbrev gW:Stmt:=inClass (top 35) 13
theorem kj:aw ["self","to","least"] ["self","to"] (aj gW):=by walk_at "scp"
abbrev lg:Stmt:=inClass (top 35) 16
theorem EZ:aw ["self"] ["self"] (aj lg):=by walk_at "scp"
abbrev gy:Stmt:=inClass (top 35) 18
theorem EX:aw ["self"] ["self"] (aj gy):=by walk_at "scp"
abbrev rq:Stmt:=top 37
theorem G9:aw ["number","least","what"] ["number","least","what"] (aj rq):=by walk_at "scp"
abbrev qP:Stmt:=top 38
theorem GP:aw ["end","span","now"] ["end","span","now"] (aj qP):=by walk_at "scp"
abbrev jD:Stmt:=inClass (top 39) 0
theorem DK:aw ["self","many"] ["self","many"] (aj jD):=by walk_at "scp"
abbrev jl:Stmt:=inClass (top 39) 6
theorem Df:aw ["self","number","stretch"] ["self","number","stretch"] (aj jl):=by walk_at "scp"
abbrev jm:Stmt:=inClass (top 40) 0
theorem DA:aw ["self","start","step","wide","many"] ["self","start","step","wide","many"] (aj jm):=by walk_at "scp"
abbrev gF:Stmt:=inClass (top 40) 1
theorem kh:aw ["self","number","first"] ["self","number"] (aj gF):=by walk_at "scp"
abbrev rn:Stmt:=inClass (top 40) 2
theorem G1:aw ["self"] ["self"] (aj rn):=by walk_at "scp"
abbrev oE:Stmt:=inClass (top 40) 4
theorem lM:aw ["self","number","last","now","end","found"] ["self","number","last","now"] (aj oE):=by walk_at "scp"
abbrev vt:Stmt:=inClass (top 40) 6
theorem Jl:aw ["self"] ["self"] (aj vt):=by walk_at "scp"
abbrev gB:Stmt:=inClass (top 41) 0
theorem Av:aw ["self","start","gap","wide","many"] ["self","start","gap","wide","many"] (aj gB):=by walk_at "scp"
abbrev lq:Stmt:=inClass (top 41) 2
theorem EY:aw ["self"] ["self"] (aj lq):=by walk_at "scp"
abbrev jv:Stmt:=inClass (top 41) 4
theorem De:aw ["self","number","last","now"] ["self","number","last","now"] (aj jv):=by walk_at "scp"
abbrev oo:Stmt:=inClass (top 41) 5
theorem gP:aw ["self","number","end","gap","now","span","steps"] ["self","number","end","gap","now"] (aj oo):=by walk_at "scp"
abbrev oA:Stmt:=inClass (top 41) 7
theorem Fy:aw ["self"] ["self"] (aj oA):=by walk_at "scp"
abbrev kG:Stmt:=top 43
theorem Ff:aw ["_law_script","_law_k"] ["_law_script","_law_k"] (aj kG):=by walk_at "scp"
abbrev rz:Stmt:=top 44
theorem G6:aw ["_law_found"] ["_law_found"] (aj rz):=by walk_at "scp"
abbrev wJ:Stmt:=top 45
theorem gH:aw ["_law_cell","_law_k","_law_number","_law_word"] ["_law_cell","_law_k"] (aj wJ):=by walk_at "scp"
abbrev x3:Stmt:=top 46
theorem cW:aw ["_law_cell","_law_k","_law_now","_law_step","_law_many","_law_start","_law_wide","_law_rule_here"] ["_law_cell","_law_k","_law_now"] (aj x3):=by walk_at "scp"
abbrev xM:Stmt:=top 47
theorem IA:aw ["_law_rule_here"] ["_law_rule_here"] (aj xM):=by walk_at "scp"
abbrev As:Stmt:=top 48
theorem bf:aw ["_law_bell_here","_law_shown","_law_name_here","_law_rule_here","_law_by_day","_law_low","_law_first","_law_last","_law_since","_law_kind","_law_start","_law_step","_law_wide","_law_many"] ["_law_bell_here","_law_shown"] (aj As):=by walk_at "scp"
abbrev Ac:Stmt:=top 49
theorem KW:aw ["_law_bell_here","_law_shift"] ["_law_bell_here","_law_shift"] (aj Ac):=by walk_at "scp"
abbrev om:Stmt:=top 50
theorem gG:aw ["_law_keeper","_law_bells","_law_by_here","_law_shift","_law_due","_law_bell_here"] ["_law_keeper","_law_bells","_law_by_here"] (aj om):=by walk_at "scp"
abbrev gQ:Stmt:=top 51
theorem jH:aw ["_law_keeper","_law_rows","_law_by_here","_law_least","_law_to"] ["_law_keeper","_law_rows","_law_by_here"] (aj gQ):=by walk_at "scp"
abbrev DJ:Stmt:=top 52
theorem qN:aw ["_law_cell","_law_shown","_law_by_here"] ["_law_cell","_law_shown"] (aj DJ):=by walk_at "scp"
abbrev FX:Stmt:=top 53
theorem ie:aw ["_law_script","_law_keeper","_law_now","_law_bells","_law_bell_here","_law_shift","_law_k","_law_by_here","_law_due"] ["_law_script"] (aj FX):=by walk_at "scp"
theorem Cq:¬(("name":Str)="rule"):=by decide+kernel
theorem wm:¬(("name":Str)="weight"):=by decide+kernel
theorem BP:¬(("name":Str)="home"):=by decide+kernel
theorem uW:¬(("name":Str)="by_day"):=by decide+kernel
theorem vz:¬(("name":Str)="number"):=by decide+kernel
theorem tD:¬(("name":Str)="stretch"):=by decide+kernel
theorem zc:¬(("name":Str)="since"):=by decide+kernel
theorem yW:¬(("name":Str)="until"):=by decide+kernel
theorem B4:¬(("rule":Str)="name"):=by decide+kernel
theorem xN:¬(("rule":Str)="weight"):=by decide+kernel
theorem BO:¬(("rule":Str)="home"):=by decide+kernel
theorem uV:¬(("rule":Str)="by_day"):=by decide+kernel
theorem vU:¬(("rule":Str)="number"):=by decide+kernel
theorem ui:¬(("rule":Str)="stretch"):=by decide+kernel
theorem zK:¬(("rule":Str)="since"):=by decide+kernel
theorem yM:¬(("rule":Str)="until"):=by decide+kernel
theorem wq:¬(("weight":Str)="name"):=by decide+kernel
theorem vq:¬(("weight":Str)="rule"):=by decide+kernel
theorem xZ:¬(("weight":Str)="home"):=by decide+kernel
theorem qx:¬(("weight":Str)="by_day"):=by decide+kernel
theorem qu:¬(("weight":Str)="number"):=by decide+kernel
theorem ml:¬(("weight":Str)="stretch"):=by decide+kernel
theorem sR:¬(("weight":Str)="since"):=by decide+kernel
theorem tR:¬(("weight":Str)="until"):=by decide+kernel
theorem Be:¬(("home":Str)="name"):=by decide+kernel
theorem CB:¬(("home":Str)="rule"):=by decide+kernel
theorem xm:¬(("home":Str)="weight"):=by decide+kernel
theorem xr:¬(("home":Str)="by_day"):=by decide+kernel
theorem wX:¬(("home":Str)="number"):=by decide+kernel
theorem uc:¬(("home":Str)="stretch"):=by decide+kernel
theorem zM:¬(("home":Str)="since"):=by decide+kernel
theorem zZ:¬(("home":Str)="until"):=by decide+kernel
theorem xK:¬(("by_day":Str)="name"):=by decide+kernel
theorem xI:¬(("by_day":Str)="rule"):=by decide+kernel
theorem qm:¬(("by_day":Str)="weight"):=by decide+kernel
theorem vH:¬(("by_day":Str)="home"):=by decide+kernel
theorem ql:¬(("by_day":Str)="number"):=by decide+kernel
theorem m7:¬(("by_day":Str)="stretch"):=by decide+kernel
theorem ux:¬(("by_day":Str)="since"):=by decide+kernel
theorem sV:¬(("by_day":Str)="until"):=by decide+kernel
theorem u5:¬(("number":Str)="name"):=by decide+kernel
theorem vF:¬(("number":Str)="rule"):=by decide+kernel
theorem qb:¬(("number":Str)="weight"):=by decide+kernel
theorem vD:¬(("number":Str)="home"):=by decide+kernel
theorem pR:¬(("number":Str)="by_day"):=by decide+kernel
theorem nU:¬(("number":Str)="stretch"):=by decide+kernel
theorem t9:¬(("number":Str)="since"):=by decide+kernel
theorem tT:¬(("number":Str)="until"):=by decide+kernel
theorem uE:¬(("stretch":Str)="name"):=by decide+kernel
theorem sP:¬(("stretch":Str)="rule"):=by decide+kernel
theorem nR:¬(("stretch":Str)="weight"):=by decide+kernel
theorem tG:¬(("stretch":Str)="home"):=by decide+kernel
theorem og:¬(("stretch":Str)="by_day"):=by decide+kernel
theorem mY:¬(("stretch":Str)="number"):=by decide+kernel
theorem oR:¬(("stretch":Str)="since"):=by decide+kernel
theorem qp:¬(("stretch":Str)="until"):=by decide+kernel
theorem yP:¬(("since":Str)="name"):=by decide+kernel
theorem yo:¬(("since":Str)="rule"):=by decide+kernel
theorem tS:¬(("since":Str)="weight"):=by decide+kernel
theorem zU:¬(("since":Str)="home"):=by decide+kernel
theorem ub:¬(("since":Str)="by_day"):=by decide+kernel
theorem rQ:¬(("since":Str)="number"):=by decide+kernel
theorem oU:¬(("since":Str)="stretch"):=by decide+kernel
theorem uX:¬(("since":Str)="until"):=by decide+kernel
theorem yA:¬(("until":Str)="name"):=by decide+kernel
theorem yJ:¬(("until":Str)="rule"):=by decide+kernel
theorem r6:¬(("until":Str)="weight"):=by decide+kernel
theorem yE:¬(("until":Str)="home"):=by decide+kernel
theorem si:¬(("until":Str)="by_day"):=by decide+kernel
theorem tu:¬(("until":Str)="number"):=by decide+kernel
theorem oV:¬(("until":Str)="stretch"):=by decide+kernel
theorem uS:¬(("until":Str)="since"):=by decide+kernel
theorem pF:¬(("__init__":Str)="name"):=by decide+kernel
theorem qf:¬(("__init__":Str)="rule"):=by decide+kernel
theorem kZ:¬(("__init__":Str)="weight"):=by decide+kernel
theorem pQ:¬(("__init__":Str)="home"):=by decide+kernel
theorem lA:¬(("__init__":Str)="by_day"):=by decide+kernel
theorem kR:¬(("__init__":Str)="number"):=by decide+kernel
theorem jV:¬(("__init__":Str)="stretch"):=by decide+kernel
theorem nP:¬(("__init__":Str)="since"):=by decide+kernel
theorem nY:¬(("__init__":Str)="until"):=by decide+kernel
theorem C2:¬(("lead":Str)="name"):=by decide+kernel
theorem B6:¬(("lead":Str)="rule"):=by decide+kernel
theorem uN:¬(("lead":Str)="weight"):=by decide+kernel
theorem C1:¬(("lead":Str)="home"):=by decide+kernel
theorem wj:¬(("lead":Str)="by_day"):=by decide+kernel
theorem vY:¬(("lead":Str)="number"):=by decide+kernel
theorem tq:¬(("lead":Str)="stretch"):=by decide+kernel
theorem yZ:¬(("lead":Str)="since"):=by decide+kernel
theorem zV:¬(("lead":Str)="until"):=by decide+kernel
theorem ur:¬(("is_over":Str)="name"):=by decide+kernel
theorem sO:¬(("is_over":Str)="rule"):=by decide+kernel
theorem mP:¬(("is_over":Str)="weight"):=by decide+kernel
theorem sC:¬(("is_over":Str)="home"):=by decide+kernel
theorem mq:¬(("is_over":Str)="by_day"):=by decide+kernel
theorem m9:¬(("is_over":Str)="number"):=by decide+kernel
theorem k8:¬(("is_over":Str)="stretch"):=by decide+kernel
theorem qA:¬(("is_over":Str)="since"):=by decide+kernel
theorem o7:¬(("is_over":Str)="until"):=by decide+kernel
theorem kB:¬(("is_waiting":Str)="name"):=by decide+kernel
theorem kO:¬(("is_waiting":Str)="rule"):=by decide+kernel
theorem iM:¬(("is_waiting":Str)="weight"):=by decide+kernel
theorem lD:¬(("is_waiting":Str)="home"):=by decide+kernel
theorem i9:¬(("is_waiting":Str)="by_day"):=by decide+kernel
theorem iO:¬(("is_waiting":Str)="number"):=by decide+kernel
theorem hV:¬(("is_waiting":Str)="stretch"):=by decide+kernel
theorem jW:¬(("is_waiting":Str)="since"):=by decide+kernel
theorem jX:¬(("is_waiting":Str)="until"):=by decide+kernel
theorem wc:¬(("settle":Str)="name"):=by decide+kernel
theorem uT:¬(("settle":Str)="rule"):=by decide+kernel
theorem o8:¬(("settle":Str)="weight"):=by decide+kernel
theorem uR:¬(("settle":Str)="home"):=by decide+kernel
theorem pH:¬(("settle":Str)="by_day"):=by decide+kernel
theorem p5:¬(("settle":Str)="number"):=by decide+kernel
theorem my:¬(("settle":Str)="stretch"):=by decide+kernel
theorem tW:¬(("settle":Str)="since"):=by decide+kernel
theorem uv:¬(("settle":Str)="until"):=by decide+kernel
theorem pZ:¬(("catch_up":Str)="name"):=by decide+kernel
theorem qv:¬(("catch_up":Str)="rule"):=by decide+kernel
theorem kr:¬(("catch_up":Str)="weight"):=by decide+kernel
theorem pE:¬(("catch_up":Str)="home"):=by decide+kernel
theorem lB:¬(("catch_up":Str)="by_day"):=by decide+kernel
theorem kn:¬(("catch_up":Str)="number"):=by decide+kernel
theorem jU:¬(("catch_up":Str)="stretch"):=by decide+kernel
theorem mC:¬(("catch_up":Str)="since"):=by decide+kernel
theorem nW:¬(("catch_up":Str)="until"):=by decide+kernel
theorem Bz:¬(("wait":Str)="name"):=by decide+kernel
theorem Bt:¬(("wait":Str)="rule"):=by decide+kernel
theorem wx:¬(("wait":Str)="weight"):=by decide+kernel
theorem BE:¬(("wait":Str)="home"):=by decide+kernel
theorem xC:¬(("wait":Str)="by_day"):=by decide+kernel
theorem vC:¬(("wait":Str)="number"):=by decide+kernel
theorem uo:¬(("wait":Str)="stretch"):=by decide+kernel
theorem z5:¬(("wait":Str)="since"):=by decide+kernel
theorem yr:¬(("wait":Str)="until"):=by decide+kernel
theorem BZ:¬(("rest":Str)="name"):=by decide+kernel
theorem CJ:¬(("rest":Str)="rule"):=by decide+kernel
theorem vf:¬(("rest":Str)="weight"):=by decide+kernel
theorem Ck:¬(("rest":Str)="home"):=by decide+kernel
theorem xO:¬(("rest":Str)="by_day"):=by decide+kernel
theorem vK:¬(("rest":Str)="number"):=by decide+kernel
theorem uy:¬(("rest":Str)="stretch"):=by decide+kernel
theorem yT:¬(("rest":Str)="since"):=by decide+kernel
theorem y8:¬(("rest":Str)="until"):=by decide+kernel
theorem Bs:¬(("move":Str)="name"):=by decide+kernel
theorem Bk:¬(("move":Str)="rule"):=by decide+kernel
theorem wG:¬(("move":Str)="weight"):=by decide+kernel
theorem BK:¬(("move":Str)="home"):=by decide+kernel
theorem xR:¬(("move":Str)="by_day"):=by decide+kernel
theorem vm:¬(("move":Str)="number"):=by decide+kernel
theorem tO:¬(("move":Str)="stretch"):=by decide+kernel
theorem z6:¬(("move":Str)="since"):=by decide+kernel
theorem Aa:¬(("move":Str)="until"):=by decide+kernel
theorem yS:¬(("about":Str)="name"):=by decide+kernel
theorem z8:¬(("about":Str)="rule"):=by decide+kernel
theorem sW:¬(("about":Str)="weight"):=by decide+kernel
theorem yR:¬(("about":Str)="home"):=by decide+kernel
theorem sf:¬(("about":Str)="by_day"):=by decide+kernel
theorem sr:¬(("about":Str)="number"):=by decide+kernel
theorem qo:¬(("about":Str)="stretch"):=by decide+kernel
theorem wN:¬(("about":Str)="since"):=by decide+kernel
theorem wQ:¬(("about":Str)="until"):=by decide+kernel
theorem nN:¬(("above_of":Str)="marks"):=by decide+kernel
theorem m8:¬(("marks":Str)="above_of"):=by decide+kernel
theorem iW:¬(("__init__":Str)="above_of"):=by decide+kernel
theorem mL:¬(("__init__":Str)="marks"):=by decide+kernel
theorem sA:¬(("add":Str)="above_of"):=by decide+kernel
theorem Cz:¬(("add":Str)="marks"):=by decide+kernel
theorem t6:¬(("has":Str)="above_of"):=by decide+kernel
theorem Ce:¬(("has":Str)="marks"):=by decide+kernel
theorem mW:¬(("sleep":Str)="above_of"):=by decide+kernel
theorem vl:¬(("sleep":Str)="marks"):=by decide+kernel
theorem pI:¬(("wake":Str)="above_of"):=by decide+kernel
theorem zO:¬(("wake":Str)="marks"):=by decide+kernel
theorem tj:¬(("end":Str)="above_of"):=by decide+kernel
theorem CM:¬(("end":Str)="marks"):=by decide+kernel
theorem mE:¬(("awake":Str)="above_of"):=by decide+kernel
theorem vN:¬(("awake":Str)="marks"):=by decide+kernel
theorem lE:¬(("marked":Str)="above_of"):=by decide+kernel
theorem sG:¬(("marked":Str)="marks"):=by decide+kernel
theorem nc:¬(("chain":Str)="above_of"):=by decide+kernel
theorem vL:¬(("chain":Str)="marks"):=by decide+kernel
theorem lO:¬(("within":Str)="above_of"):=by decide+kernel
theorem ud:¬(("within":Str)="marks"):=by decide+kernel
theorem kI:¬(("all_of":Str)="above_of"):=by decide+kernel
theorem tZ:¬(("all_of":Str)="marks"):=by decide+kernel
theorem fU:¬(("check_stands":Str)="above_of"):=by decide+kernel
theorem hZ:¬(("check_stands":Str)="marks"):=by decide+kernel
theorem iY:¬(("depth_of":Str)="above_of"):=by decide+kernel
theorem me:¬(("depth_of":Str)="marks"):=by decide+kernel
theorem fJ:¬(("awake_within":Str)="above_of"):=by decide+kernel
theorem hX:¬(("awake_within":Str)="marks"):=by decide+kernel
theorem lL:¬(("unmark":Str)="above_of"):=by decide+kernel
theorem sN:¬(("unmark":Str)="marks"):=by decide+kernel
theorem A8:¬(("now":Str)="times"):=by decide+kernel
theorem B2:¬(("times":Str)="now"):=by decide+kernel
theorem BH:¬(("enter":Str)="now"):=by decide+kernel
theorem wR:¬(("enter":Str)="times"):=by decide+kernel
theorem BJ:¬(("leave":Str)="now"):=by decide+kernel
theorem w6:¬(("leave":Str)="times"):=by decide+kernel
theorem wk:¬(("pass_on":Str)="now"):=by decide+kernel
theorem pJ:¬(("pass_on":Str)="times"):=by decide+kernel
theorem se:¬(("__init__":Str)="now"):=by decide+kernel
theorem lT:¬(("__init__":Str)="times"):=by decide+kernel
theorem FL:¬(("put":Str)="now"):=by decide+kernel
theorem A2:¬(("put":Str)="times"):=by decide+kernel
theorem Ea:¬(("take":Str)="now"):=by decide+kernel
theorem zf:¬(("take":Str)="times"):=by decide+kernel
theorem FN:¬(("due":Str)="now"):=by decide+kernel
theorem CY:¬(("due":Str)="times"):=by decide+kernel
theorem CT:¬(("least":Str)="now"):=by decide+kernel
theorem xh:¬(("least":Str)="times"):=by decide+kernel
theorem xq:¬(("time_of":Str)="now"):=by decide+kernel
theorem qe:¬(("time_of":Str)="times"):=by decide+kernel
theorem zb:¬(("all_of":Str)="now"):=by decide+kernel
theorem rN:¬(("all_of":Str)="times"):=by decide+kernel
theorem k9:¬(("check_waits":Str)="now"):=by decide+kernel
theorem ja:¬(("check_waits":Str)="times"):=by decide+kernel
theorem uD:¬(("waits":Str)="rounds"):=by decide+kernel
theorem CU:¬(("waits":Str)="now"):=by decide+kernel
theorem xn:¬(("waits":Str)="shift"):=by decide+kernel
theorem sQ:¬(("waits":Str)="groups"):=by decide+kernel
theorem o9:¬(("waits":Str)="by_name"):=by decide+kernel
theorem rO:¬(("rounds":Str)="waits"):=by decide+kernel
theorem zL:¬(("rounds":Str)="now"):=by decide+kernel
theorem rS:¬(("rounds":Str)="shift"):=by decide+kernel
theorem pG:¬(("rounds":Str)="groups"):=by decide+kernel
theorem mF:¬(("rounds":Str)="by_name"):=by decide+kernel
theorem Bv:¬(("now":Str)="waits"):=by decide+kernel
theorem yF:¬(("now":Str)="rounds"):=by decide+kernel
theorem CW:¬(("now":Str)="shift"):=by decide+kernel
theorem y9:¬(("now":Str)="groups"):=by decide+kernel
theorem vV:¬(("now":Str)="by_name"):=by decide+kernel
theorem vj:¬(("shift":Str)="waits"):=by decide+kernel
theorem sH:¬(("shift":Str)="rounds"):=by decide+kernel
theorem BX:¬(("shift":Str)="now"):=by decide+kernel
theorem rL:¬(("shift":Str)="groups"):=by decide+kernel
theorem qw:¬(("shift":Str)="by_name"):=by decide+kernel
theorem r9:¬(("groups":Str)="waits"):=by decide+kernel
theorem pK:¬(("groups":Str)="rounds"):=by decide+kernel
theorem y6:¬(("groups":Str)="now"):=by decide+kernel
theorem uj:¬(("groups":Str)="shift"):=by decide+kernel
theorem mX:¬(("groups":Str)="by_name"):=by decide+kernel
theorem p7:¬(("by_name":Str)="waits"):=by decide+kernel
theorem nJ:¬(("by_name":Str)="rounds"):=by decide+kernel
theorem xG:¬(("by_name":Str)="now"):=by decide+kernel
theorem o1:¬(("by_name":Str)="shift"):=by decide+kernel
theorem nX:¬(("by_name":Str)="groups"):=by decide+kernel
theorem nL:¬(("__init__":Str)="waits"):=by decide+kernel
theorem lh:¬(("__init__":Str)="rounds"):=by decide+kernel
theorem mZ:¬(("__init__":Str)="shift"):=by decide+kernel
theorem lG:¬(("__init__":Str)="groups"):=by decide+kernel
theorem jY:¬(("__init__":Str)="by_name"):=by decide+kernel
theorem B1:¬(("add":Str)="waits"):=by decide+kernel
theorem zk:¬(("add":Str)="rounds"):=by decide+kernel
theorem FP:¬(("add":Str)="now"):=by decide+kernel
theorem Cj:¬(("add":Str)="shift"):=by decide+kernel
theorem z0:¬(("add":Str)="groups"):=by decide+kernel
theorem vA:¬(("add":Str)="by_name"):=by decide+kernel
theorem zm:¬(("move":Str)="waits"):=by decide+kernel
theorem vo:¬(("move":Str)="rounds"):=by decide+kernel
theorem Ee:¬(("move":Str)="now"):=by decide+kernel
theorem zo:¬(("move":Str)="shift"):=by decide+kernel
theorem xg:¬(("move":Str)="groups"):=by decide+kernel
theorem tV:¬(("move":Str)="by_name"):=by decide+kernel
theorem px:¬(("put_off":Str)="waits"):=by decide+kernel
theorem nk:¬(("put_off":Str)="rounds"):=by decide+kernel
theorem wV:¬(("put_off":Str)="now"):=by decide+kernel
theorem oX:¬(("put_off":Str)="shift"):=by decide+kernel
theorem nM:¬(("put_off":Str)="groups"):=by decide+kernel
theorem lH:¬(("put_off":Str)="by_name"):=by decide+kernel
theorem t8:¬(("let_by":Str)="waits"):=by decide+kernel
theorem pj:¬(("let_by":Str)="rounds"):=by decide+kernel
theorem zS:¬(("let_by":Str)="now"):=by decide+kernel
theorem uA:¬(("let_by":Str)="shift"):=by decide+kernel
theorem qc:¬(("let_by":Str)="groups"):=by decide+kernel
theorem mr:¬(("let_by":Str)="by_name"):=by decide+kernel
theorem zC:¬(("take":Str)="waits"):=by decide+kernel
theorem wI:¬(("take":Str)="rounds"):=by decide+kernel
theorem z7:¬(("take":Str)="shift"):=by decide+kernel
theorem x6:¬(("take":Str)="groups"):=by decide+kernel
theorem sI:¬(("take":Str)="by_name"):=by decide+kernel
theorem vk:¬(("group":Str)="waits"):=by decide+kernel
theorem sU:¬(("group":Str)="rounds"):=by decide+kernel
theorem Bg:¬(("group":Str)="now"):=by decide+kernel
theorem vd:¬(("group":Str)="shift"):=by decide+kernel
theorem tF:¬(("group":Str)="groups"):=by decide+kernel
theorem pP:¬(("group":Str)="by_name"):=by decide+kernel
theorem vO:¬(("sleep":Str)="waits"):=by decide+kernel
theorem sy:¬(("sleep":Str)="rounds"):=by decide+kernel
theorem By:¬(("sleep":Str)="now"):=by decide+kernel
theorem u0:¬(("sleep":Str)="shift"):=by decide+kernel
theorem rX:¬(("sleep":Str)="groups"):=by decide+kernel
theorem qt:¬(("sleep":Str)="by_name"):=by decide+kernel
theorem zl:¬(("wake":Str)="waits"):=by decide+kernel
theorem wD:¬(("wake":Str)="rounds"):=by decide+kernel
theorem Ek:¬(("wake":Str)="now"):=by decide+kernel
theorem yK:¬(("wake":Str)="shift"):=by decide+kernel
theorem wO:¬(("wake":Str)="groups"):=by decide+kernel
theorem uw:¬(("wake":Str)="by_name"):=by decide+kernel
theorem Bq:¬(("end":Str)="waits"):=by decide+kernel
theorem yw:¬(("end":Str)="rounds"):=by decide+kernel
theorem Fu:¬(("end":Str)="now"):=by decide+kernel
theorem Ba:¬(("end":Str)="shift"):=by decide+kernel
theorem yz:¬(("end":Str)="groups"):=by decide+kernel
theorem xt:¬(("end":Str)="by_name"):=by decide+kernel
theorem zH:¬(("turn":Str)="waits"):=by decide+kernel
theorem wz:¬(("turn":Str)="rounds"):=by decide+kernel
theorem D4:¬(("turn":Str)="now"):=by decide+kernel
theorem zF:¬(("turn":Str)="shift"):=by decide+kernel
theorem xS:¬(("turn":Str)="groups"):=by decide+kernel
theorem tP:¬(("turn":Str)="by_name"):=by decide+kernel
theorem zj:¬(("idle":Str)="waits"):=by decide+kernel
theorem uO:¬(("idle":Str)="rounds"):=by decide+kernel
theorem EI:¬(("idle":Str)="now"):=by decide+kernel
theorem zp:¬(("idle":Str)="shift"):=by decide+kernel
theorem xT:¬(("idle":Str)="groups"):=by decide+kernel
theorem tJ:¬(("idle":Str)="by_name"):=by decide+kernel
theorem Ew:¬(("go":Str)="waits"):=by decide+kernel
theorem A1:¬(("go":Str)="rounds"):=by decide+kernel
theorem Hi:¬(("go":Str)="now"):=by decide+kernel
theorem EK:¬(("go":Str)="shift"):=by decide+kernel
theorem CA:¬(("go":Str)="groups"):=by decide+kernel
theorem zt:¬(("go":Str)="by_name"):=by decide+kernel
theorem mx:¬(("wakes_by":Str)="waits"):=by decide+kernel
theorem lK:¬(("wakes_by":Str)="rounds"):=by decide+kernel
theorem tU:¬(("wakes_by":Str)="now"):=by decide+kernel
theorem mV:¬(("wakes_by":Str)="shift"):=by decide+kernel
theorem lz:¬(("wakes_by":Str)="groups"):=by decide+kernel
theorem jI:¬(("wakes_by":Str)="by_name"):=by decide+kernel
theorem mh:¬(("ring_all":Str)="waits"):=by decide+kernel
theorem ko:¬(("ring_all":Str)="rounds"):=by decide+kernel
theorem su:¬(("ring_all":Str)="now"):=by decide+kernel
theorem nQ:¬(("ring_all":Str)="shift"):=by decide+kernel
theorem kq:¬(("ring_all":Str)="groups"):=by decide+kernel
theorem jR:¬(("ring_all":Str)="by_name"):=by decide+kernel
theorem yu:¬(("ring":Str)="waits"):=by decide+kernel
theorem xB:¬(("ring":Str)="rounds"):=by decide+kernel
theorem Ed:¬(("ring":Str)="now"):=by decide+kernel
theorem z9:¬(("ring":Str)="shift"):=by decide+kernel
theorem xV:¬(("ring":Str)="groups"):=by decide+kernel
theorem sS:¬(("ring":Str)="by_name"):=by decide+kernel
theorem vn:¬(("bells":Str)="waits"):=by decide+kernel
theorem sj:¬(("bells":Str)="rounds"):=by decide+kernel
theorem BG:¬(("bells":Str)="now"):=by decide+kernel
theorem xY:¬(("bells":Str)="shift"):=by decide+kernel
theorem t7:¬(("bells":Str)="groups"):=by decide+kernel
theorem pC:¬(("bells":Str)="by_name"):=by decide+kernel
theorem xj:¬(("about":Str)="waits"):=by decide+kernel
theorem tM:¬(("about":Str)="rounds"):=by decide+kernel
theorem Bm:¬(("about":Str)="now"):=by decide+kernel
theorem vp:¬(("about":Str)="shift"):=by decide+kernel
theorem uf:¬(("about":Str)="groups"):=by decide+kernel
theorem qh:¬(("about":Str)="by_name"):=by decide+kernel
theorem wA:¬(("known":Str)="waits"):=by decide+kernel
theorem ua:¬(("known":Str)="rounds"):=by decide+kernel
theorem C0:¬(("known":Str)="now"):=by decide+kernel
theorem vP:¬(("known":Str)="shift"):=by decide+kernel
theorem rT:¬(("known":Str)="groups"):=by decide+kernel
theorem pk:¬(("known":Str)="by_name"):=by decide+kernel
theorem vx:¬(("ahead":Str)="waits"):=by decide+kernel
theorem tf:¬(("ahead":Str)="rounds"):=by decide+kernel
theorem Bn:¬(("ahead":Str)="now"):=by decide+kernel
theorem xA:¬(("ahead":Str)="shift"):=by decide+kernel
theorem sJ:¬(("ahead":Str)="groups"):=by decide+kernel
theorem pU:¬(("ahead":Str)="by_name"):=by decide+kernel
theorem pV:¬(("bell_of":Str)="waits"):=by decide+kernel
theorem mG:¬(("bell_of":Str)="rounds"):=by decide+kernel
theorem xl:¬(("bell_of":Str)="now"):=by decide+kernel
theorem pY:¬(("bell_of":Str)="shift"):=by decide+kernel
theorem mJ:¬(("bell_of":Str)="groups"):=by decide+kernel
theorem kC:¬(("bell_of":Str)="by_name"):=by decide+kernel
theorem kX:¬(("all_bells":Str)="waits"):=by decide+kernel
theorem jQ:¬(("all_bells":Str)="rounds"):=by decide+kernel
theorem qg:¬(("all_bells":Str)="now"):=by decide+kernel
theorem kJ:¬(("all_bells":Str)="shift"):=by decide+kernel
theorem jK:¬(("all_bells":Str)="groups"):=by decide+kernel
theorem iU:¬(("all_bells":Str)="by_name"):=by decide+kernel
theorem nA:¬(("bells_in":Str)="waits"):=by decide+kernel
theorem j9:¬(("bells_in":Str)="rounds"):=by decide+kernel
theorem tX:¬(("bells_in":Str)="now"):=by decide+kernel
theorem mz:¬(("bells_in":Str)="shift"):=by decide+kernel
theorem kF:¬(("bells_in":Str)="groups"):=by decide+kernel
theorem jT:¬(("bells_in":Str)="by_name"):=by decide+kernel
theorem nG:¬(("is_awake":Str)="waits"):=by decide+kernel
theorem lN:¬(("is_awake":Str)="rounds"):=by decide+kernel
theorem uh:¬(("is_awake":Str)="now"):=by decide+kernel
theorem nZ:¬(("is_awake":Str)="shift"):=by decide+kernel
theorem ke:¬(("is_awake":Str)="groups"):=by decide+kernel
theorem jP:¬(("is_awake":Str)="by_name"):=by decide+kernel
theorem mj:¬(("shown_to":Str)="waits"):=by decide+kernel
theorem kE:¬(("shown_to":Str)="rounds"):=by decide+kernel
theorem rM:¬(("shown_to":Str)="now"):=by decide+kernel
theorem mO:¬(("shown_to":Str)="shift"):=by decide+kernel
theorem lJ:¬(("shown_to":Str)="groups"):=by decide+kernel
theorem jJ:¬(("shown_to":Str)="by_name"):=by decide+kernel
theorem zI:¬(("hang":Str)="waits"):=by decide+kernel
theorem xQ:¬(("hang":Str)="rounds"):=by decide+kernel
theorem EH:¬(("hang":Str)="now"):=by decide+kernel
theorem zN:¬(("hang":Str)="shift"):=by decide+kernel
theorem wZ:¬(("hang":Str)="groups"):=by decide+kernel
theorem rZ:¬(("hang":Str)="by_name"):=by decide+kernel
theorem BU:¬(("lay":Str)="waits"):=by decide+kernel
theorem zA:¬(("lay":Str)="rounds"):=by decide+kernel
theorem GF:¬(("lay":Str)="now"):=by decide+kernel
theorem AZ:¬(("lay":Str)="shift"):=by decide+kernel
theorem zT:¬(("lay":Str)="groups"):=by decide+kernel
theorem wB:¬(("lay":Str)="by_name"):=by decide+kernel
theorem mn:¬(("let_wait":Str)="waits"):=by decide+kernel
theorem lP:¬(("let_wait":Str)="rounds"):=by decide+kernel
theorem tN:¬(("let_wait":Str)="now"):=by decide+kernel
theorem mm:¬(("let_wait":Str)="shift"):=by decide+kernel
theorem ll:¬(("let_wait":Str)="groups"):=by decide+kernel
theorem jL:¬(("let_wait":Str)="by_name"):=by decide+kernel
theorem pS:¬(("lay_all":Str)="waits"):=by decide+kernel
theorem nF:¬(("lay_all":Str)="rounds"):=by decide+kernel
theorem uZ:¬(("lay_all":Str)="now"):=by decide+kernel
theorem o5:¬(("lay_all":Str)="shift"):=by decide+kernel
theorem ng:¬(("lay_all":Str)="groups"):=by decide+kernel
theorem kg:¬(("lay_all":Str)="by_name"):=by decide+kernel
theorem yH:¬(("lift":Str)="waits"):=by decide+kernel
theorem xE:¬(("lift":Str)="rounds"):=by decide+kernel
theorem El:¬(("lift":Str)="now"):=by decide+kernel
theorem yB:¬(("lift":Str)="shift"):=by decide+kernel
theorem vQ:¬(("lift":Str)="groups"):=by decide+kernel
theorem tI:¬(("lift":Str)="by_name"):=by decide+kernel
theorem sE:¬(("settle":Str)="waits"):=by decide+kernel
theorem o4:¬(("settle":Str)="rounds"):=by decide+kernel
theorem yY:¬(("settle":Str)="now"):=by decide+kernel
theorem rW:¬(("settle":Str)="shift"):=by decide+kernel
theorem qB:¬(("settle":Str)="groups"):=by decide+kernel
theorem nr:¬(("settle":Str)="by_name"):=by decide+kernel
theorem sF:¬(("finish":Str)="waits"):=by decide+kernel
theorem ph:¬(("finish":Str)="rounds"):=by decide+kernel
theorem zQ:¬(("finish":Str)="now"):=by decide+kernel
theorem tL:¬(("finish":Str)="shift"):=by decide+kernel
theorem qi:¬(("finish":Str)="groups"):=by decide+kernel
theorem mU:¬(("finish":Str)="by_name"):=by decide+kernel
theorem zx:¬(("drop":Str)="waits"):=by decide+kernel
theorem xu:¬(("drop":Str)="rounds"):=by decide+kernel
theorem D2:¬(("drop":Str)="now"):=by decide+kernel
theorem zW:¬(("drop":Str)="shift"):=by decide+kernel
theorem wW:¬(("drop":Str)="groups"):=by decide+kernel
theorem sx:¬(("drop":Str)="by_name"):=by decide+kernel
theorem rY:¬(("remove":Str)="waits"):=by decide+kernel
theorem pM:¬(("remove":Str)="rounds"):=by decide+kernel
theorem zR:¬(("remove":Str)="now"):=by decide+kernel
theorem uq:¬(("remove":Str)="shift"):=by decide+kernel
theorem qk:¬(("remove":Str)="groups"):=by decide+kernel
theorem ni:¬(("remove":Str)="by_name"):=by decide+kernel
theorem o6:¬(("pass_to":Str)="waits"):=by decide+kernel
theorem mQ:¬(("pass_to":Str)="rounds"):=by decide+kernel
theorem wo:¬(("pass_to":Str)="now"):=by decide+kernel
theorem oZ:¬(("pass_to":Str)="shift"):=by decide+kernel
theorem lY:¬(("pass_to":Str)="groups"):=by decide+kernel
theorem kD:¬(("pass_to":Str)="by_name"):=by decide+kernel
theorem zE:¬(("many":Str)="start"):=by decide+kernel
theorem BA:¬(("many":Str)="step"):=by decide+kernel
theorem BV:¬(("many":Str)="wide"):=by decide+kernel
theorem zy:¬(("start":Str)="many"):=by decide+kernel
theorem yQ:¬(("start":Str)="step"):=by decide+kernel
theorem zJ:¬(("start":Str)="wide"):=by decide+kernel
theorem CL:¬(("step":Str)="many"):=by decide+kernel
theorem yX:¬(("step":Str)="start"):=by decide+kernel
theorem CV:¬(("step":Str)="wide"):=by decide+kernel
theorem BQ:¬(("wide":Str)="many"):=by decide+kernel
theorem zv:¬(("wide":Str)="start"):=by decide+kernel
theorem Cu:¬(("wide":Str)="step"):=by decide+kernel
theorem p8:¬(("__init__":Str)="many"):=by decide+kernel
theorem lX:¬(("__init__":Str)="start"):=by decide+kernel
theorem pT:¬(("__init__":Str)="step"):=by decide+kernel
theorem oS:¬(("__init__":Str)="wide"):=by decide+kernel
theorem kY:¬(("stretch_of":Str)="many"):=by decide+kernel
theorem jO:¬(("stretch_of":Str)="start"):=by decide+kernel
theorem lF:¬(("stretch_of":Str)="step"):=by decide+kernel
theorem kU:¬(("stretch_of":Str)="wide"):=by decide+kernel
theorem yn:¬(("begin":Str)="many"):=by decide+kernel
theorem vG:¬(("begin":Str)="start"):=by decide+kernel
theorem zq:¬(("begin":Str)="step"):=by decide+kernel
theorem yy:¬(("begin":Str)="wide"):=by decide+kernel
theorem vJ:¬(("follow":Str)="many"):=by decide+kernel
theorem sY:¬(("follow":Str)="start"):=by decide+kernel
theorem xa:¬(("follow":Str)="step"):=by decide+kernel
theorem u6:¬(("follow":Str)="wide"):=by decide+kernel
theorem vE:¬(("let_by":Str)="many"):=by decide+kernel
theorem rP:¬(("let_by":Str)="start"):=by decide+kernel
theorem xX:¬(("let_by":Str)="step"):=by decide+kernel
theorem wg:¬(("let_by":Str)="wide"):=by decide+kernel
theorem zX:¬(("words":Str)="many"):=by decide+kernel
theorem xP:¬(("words":Str)="start"):=by decide+kernel
theorem yU:¬(("words":Str)="step"):=by decide+kernel
theorem yG:¬(("words":Str)="wide"):=by decide+kernel
theorem Bu:¬(("twin":Str)="many"):=by decide+kernel
theorem zG:¬(("twin":Str)="start"):=by decide+kernel
theorem AY:¬(("twin":Str)="step"):=by decide+kernel
theorem Bw:¬(("twin":Str)="wide"):=by decide+kernel
theorem pL:¬(("place_of":Str)="many"):=by decide+kernel
theorem lZ:¬(("place_of":Str)="start"):=by decide+kernel
theorem pe:¬(("place_of":Str)="step"):=by decide+kernel
theorem pN:¬(("place_of":Str)="wide"):=by decide+kernel
theorem Ey:¬(("many":Str)="gap"):=by decide+kernel
theorem A9:¬(("start":Str)="gap"):=by decide+kernel
theorem D8:¬(("gap":Str)="many"):=by decide+kernel
theorem B5:¬(("gap":Str)="start"):=by decide+kernel
theorem En:¬(("gap":Str)="wide"):=by decide+kernel
theorem EF:¬(("wide":Str)="gap"):=by decide+kernel
theorem rV:¬(("__init__":Str)="gap"):=by decide+kernel
theorem nD:¬(("gap_ahead":Str)="many"):=by decide+kernel
theorem kP:¬(("gap_ahead":Str)="start"):=by decide+kernel
theorem p9:¬(("gap_ahead":Str)="gap"):=by decide+kernel
theorem nj:¬(("gap_ahead":Str)="wide"):=by decide+kernel
theorem Bh:¬(("begin":Str)="gap"):=by decide+kernel
theorem zD:¬(("follow":Str)="gap"):=by decide+kernel
theorem y0:¬(("let_by":Str)="gap"):=by decide+kernel
theorem B7:¬(("leap":Str)="many"):=by decide+kernel
theorem zu:¬(("leap":Str)="start"):=by decide+kernel
theorem Ef:¬(("leap":Str)="gap"):=by decide+kernel
theorem BM:¬(("leap":Str)="wide"):=by decide+kernel
theorem CG:¬(("words":Str)="gap"):=by decide+kernel
theorem EC:¬(("twin":Str)="gap"):=by decide+kernel
theorem uk:¬(("place_of":Str)="gap"):=by decide+kernel
set_option hygiene false in
local macro_rules|`(tactic|walk_at "lk")=>`(tactic|first|(rw [EJ];((conv=>lhs;simp only [look,reduceIte,N5,Fm,Cq,wm,BP,uW,vz,tD,zc,yW,B4,xN,BO,uV,vU,ui,zK,yM,wq,vq,xZ,qx,qu,ml,sR,tR,Be,CB,xm,xr,wX,uc,zM,zZ,xK,xI,qm,vH,ql,m7,ux,sV,u5,vF,qb,vD,pR,nU,t9,tT,uE,sP,nR,tG,og,mY,oR,qp,yP,yo,tS,zU,ub,rQ,oU,uX,yA,yJ,r6,yE,si,tu,oV,uS,pF,qf,kZ,pQ,lA,kR,jV,nP,nY,C2,B6,uN,C1,wj,vY,tq,yZ,zV,ur,sO,mP,sC,mq,m9,k8,qA,o7,kB,kO,iM,lD,i9,iO,hV,jW,jX,wc,uT,o8,uR,pH,p5,my,tW,uv,pZ,qv,kr,pE,lB,kn,jU,mC,nW,Bz,Bt,wx,BE,xC,vC,uo,z5,yr,BZ,CJ,vf,Ck,xO,vK,uy,yT,y8,Bs,Bk,wG,BK,xR,vm,tO,z6,Aa,yS,z8,sW,yR,sf,sr,qo,wN,wQ,nN,m8,iW,mL,sA,Cz,t6,Ce,mW,vl,pI,zO,tj,CM,mE,vN,lE,sG,nc,vL,lO,ud,kI,tZ,fU,hZ,iY,me,fJ,hX,lL,sN,A8,B2,BH,wR,BJ,w6,wk,pJ,se,lT,FL,A2,Ea,zf,FN,CY,CT,xh,xq,qe,zb,rN,k9,ja,uD,CU,xn,sQ,o9,rO,zL,rS,pG,mF,Bv,yF,CW,y9,vV,vj,sH,BX,rL,qw,r9,pK,y6,uj,mX,p7,nJ,xG,o1,nX,nL,lh,mZ,lG,jY,B1,zk,FP,Cj,z0,vA,zm,vo,Ee,zo,xg,tV,px,nk,wV,oX,nM,lH,t8,pj,zS,uA,qc,mr,zC,wI,z7,x6,sI,vk,sU,Bg,vd,tF,pP,vO,sy,By,u0,rX,qt,zl,wD,Ek,yK,wO,uw,Bq,yw,Fu,Ba,yz,xt,zH,wz,D4,zF,xS,tP,zj,uO,EI,zp,xT,tJ,Ew,A1,Hi,EK,CA,zt,mx,lK,tU,mV,lz,jI,mh,ko,su,nQ,kq,jR,yu,xB,Ed,z9,xV,sS,vn,sj,BG,xY,t7,pC,xj,tM,Bm,vp,uf,qh,wA,ua,C0,vP,rT,pk,vx,tf,Bn,xA,sJ,pU,pV,mG,xl,pY,mJ,kC,kX,jQ,qg,kJ,jK,iU,nA,j9,tX,mz,kF,jT,nG,lN,uh,nZ,ke,jP,mj,kE,rM,mO,lJ,jJ,zI,xQ,EH,zN,wZ,rZ,BU,zA,GF,AZ,zT,wB,mn,lP,tN,mm,ll,jL,pS,nF,uZ,o5,ng,kg,yH,xE,El,yB,vQ,tI,sE,o4,yY,rW,qB,nr,sF,ph,zQ,tL,qi,mU,zx,xu,D2,zW,wW,sx,rY,pM,zR,uq,qk,ni,o6,mQ,wo,oZ,lY,kD,zE,BA,BV,zy,yQ,zJ,CL,yX,CV,BQ,zv,Cu,p8,lX,pT,oS,kY,jO,lF,kU,yn,vG,zq,yy,vJ,sY,xa,u6,vE,rP,xX,wg,zX,xP,yU,yG,Bu,zG,AY,Bw,pL,lZ,pe,pN,Ey,A9,D8,B5,En,EF,rV,nD,kP,p9,nj,Bh,zD,y0,B7,zu,Ef,BM,CG,EC,uk]) <;>exact rfl))|fail)
set_option hygiene false in
local macro_rules|`(tactic|walk_at "lk")=>`(tactic|first|assumption|fail)
set_option hygiene false in
local macro_rules|`(tactic|walk_at "put")=>`(tactic|((conv=>lhs;simp only [pq,reduceIte,N5,Fm,Cq,wm,BP,uW,vz,tD,zc,yW,B4,xN,BO,uV,vU,ui,zK,yM,wq,vq,xZ,qx,qu,ml,sR,tR,Be,CB,xm,xr,wX,uc,zM,zZ,xK,xI,qm,vH,ql,m7,ux,sV,u5,vF,qb,vD,pR,nU,t9,tT,uE,sP,nR,tG,og,mY,oR,qp,yP,yo,tS,zU,ub,rQ,oU,uX,yA,yJ,r6,yE,si,tu,oV,uS,pF,qf,kZ,pQ,lA,kR,jV,nP,nY,C2,B6,uN,C1,wj,vY,tq,yZ,zV,ur,sO,mP,sC,mq,m9,k8,qA,o7,kB,kO,iM,lD,i9,iO,hV,jW,jX,wc,uT,o8,uR,pH,p5,my,tW,uv,pZ,qv,kr,pE,lB,kn,jU,mC,nW,Bz,Bt,wx,BE,xC,vC,uo,z5,yr,BZ,CJ,vf,Ck,xO,vK,uy,yT,y8,Bs,Bk,wG,BK,xR,vm,tO,z6,Aa,yS,z8,sW,yR,sf,sr,qo,wN,wQ,nN,m8,iW,mL,sA,Cz,t6,Ce,mW,vl,pI,zO,tj,CM,mE,vN,lE,sG,nc,vL,lO,ud,kI,tZ,fU,hZ,iY,me,fJ,hX,lL,sN,A8,B2,BH,wR,BJ,w6,wk,pJ,se,lT,FL,A2,Ea,zf,FN,CY,CT,xh,xq,qe,zb,rN,k9,ja,uD,CU,xn,sQ,o9,rO,zL,rS,pG,mF,Bv,yF,CW,y9,vV,vj,sH,BX,rL,qw,r9,pK,y6,uj,mX,p7,nJ,xG,o1,nX,nL,lh,mZ,lG,jY,B1,zk,FP,Cj,z0,vA,zm,vo,Ee,zo,xg,tV,px,nk,wV,oX,nM,lH,t8,pj,zS,uA,qc,mr,zC,wI,z7,x6,sI,vk,sU,Bg,vd,tF,pP,vO,sy,By,u0,rX,qt,zl,wD,Ek,yK,wO,uw,Bq,yw,Fu,Ba,yz,xt,zH,wz,D4,zF,xS,tP,zj,uO,EI,zp,xT,tJ,Ew,A1,Hi,EK,CA,zt,mx,lK,tU,mV,lz,jI,mh,ko,su,nQ,kq,jR,yu,xB,Ed,z9,xV,sS,vn,sj,BG,xY,t7,pC,xj,tM,Bm,vp,uf,qh,wA,ua,C0,vP,rT,pk,vx,tf,Bn,xA,sJ,pU,pV,mG,xl,pY,mJ,kC,kX,jQ,qg,kJ,jK,iU,nA,j9,tX,mz,kF,jT,nG,lN,uh,nZ,ke,jP,mj,kE,rM,mO,lJ,jJ,zI,xQ,EH,zN,wZ,rZ,BU,zA,GF,AZ,zT,wB,mn,lP,tN,mm,ll,jL,pS,nF,uZ,o5,ng,kg,yH,xE,El,yB,vQ,tI,sE,o4,yY,rW,qB,nr,sF,ph,zQ,tL,qi,mU,zx,xu,D2,zW,wW,sx,rY,pM,zR,uq,qk,ni,o6,mQ,wo,oZ,lY,kD,zE,BA,BV,zy,yQ,zJ,CL,yX,CV,BQ,zv,Cu,p8,lX,pT,oS,kY,jO,lF,kU,yn,vG,zq,yy,vJ,sY,xa,u6,vE,rP,xX,wg,zX,xP,yU,yG,Bu,zG,AY,Bw,pL,lZ,pe,pN,Ey,A9,D8,B5,En,EF,rV,nD,kP,p9,nj,Bh,zD,y0,B7,zu,Ef,BM,CG,EC,uk]) <;>exact rfl))
structure CI (K:PySem.W.Frag) (x q:Str) (s:Stmt) (d:Value) (f:Addr):Prop where
 a:PySem.W.nsIn K mainGlobals x=some (some (.ref f))
 l:∃fd,a7 K x q s f d fd
 k:PySem.W.keepIn K (.ref f)=true
structure cz (K:PySem.W.Frag) (C:Addr) (x q:Str) (s:Stmt) (d:Value) (f:Addr):Prop where
 a:PySem.W.findIn K (.ref C) x=some (some (.ref f))
 l:∃fd,a7 K x q s f d fd
 k:PySem.W.keepIn K (.ref f)=true
 i:PySem.W.isFn K (.ref f)=true
structure PJ (K:PySem.W.Frag) (C:Addr):Prop where
 pg:PySem.W.plainGet K C Str.empty=true
 hd:PySem.W.hasDictIn K C=true
 po:PySem.W.plainOver K C=true
 sa:PySem.W.findIn K (.ref C) "__setattr__"=some (some (.builtin "object.__setattr__"))
 t1:PySem.W.findIn K (.ref C) "__class__"=some (some (.builtin "object.__class__"))
 t2:PySem.W.mroIn K C (.type "object")=some true
 t3:PySem.W.typeIn K (.ref C)=some (.type "type")
theorem V5 {K:PySem.W.Frag} {t:Addr} {xs:Array Value} {n:Nat} {d:Option Addr} {z:Array (Option Value)} {c:Value} (l:K.lookup t=some ⟨c,d,.seq xs n,z⟩):DQ K t xs:=⟨⟨_,_,l,rfl⟩⟩
set_option genSizeOf false in
set_option genInjectivity false in
structure Ad where
 b6:Addr
 o3:FuncData
 fc:Addr
 A0:FuncData
 cM:Addr
 rU:FuncData
 bE:Addr
 kH:FuncData
 b7:Addr
 qj:FuncData
 eW:Addr
 CH:FuncData
 eT:Addr
 A6:FuncData
 bw:Addr
 lu:FuncData
 bh:Addr
 nS:FuncData
 b5:Addr
 dt:Tok
 dS:Addr
 Bl:FuncData
 cY:Addr
 zY:FuncData
 dP:Addr
 B3:FuncData
 cE:Addr
 uU:FuncData
 bG:Addr
 p4:FuncData
 aS:Addr
 iQ:FuncData
 fe:Addr
 C3:FuncData
 fb:Addr
 BL:FuncData
 dc:Addr
 vT:FuncData
 dU:Addr
 EB:FuncData
 bI:Addr
 pW:FuncData
 bj:Addr
 mI:FuncData
 bK:Addr
 pO:FuncData
 bF:Addr
 pd:FuncData
 dQ:Addr
 Cb:FuncData
 eV:Addr
 EL:FuncData
 bH:Addr
 pz:FuncData
 bV:Addr
 sZ:FuncData
 dO:Addr
 A7:FuncData
 cG:Addr
 uQ:FuncData
 cH:Addr
 wu:FuncData
 bW:Addr
 tm:FuncData
 bu:Addr
 gm:FuncData
 bP:Addr
 bY:Tok
 dX:Addr
 zr:FuncData
 eA:Addr
 fZ:Tok
 df:Addr
 wM:FuncData
 e8:Addr
 qG:FuncData
 fD:Addr
 eZ:Tok
 bC:Addr
 lI:FuncData
 cN:Addr
 sD:FuncData
 cO:Addr
 sX:FuncData
 bA:Addr
 yO:FuncData
 cU:Addr
 y7:FuncData
 a0:Addr
 oY:FuncData
 aH:Addr
 qz:FuncData
 b8:Addr
 iw:FuncData
 cJ:Addr
 d8:Tok
 aU:Addr
 ki:FuncData
 dY:Addr
 yI:FuncData
 c7:Addr
 xH:FuncData
 e9:Addr
 C4:FuncData
 bo:Addr
 gq:FuncData
 bO:Addr
 c4:Tok
 cL:Addr
 tQ:FuncData
 cf:Addr
 qy:FuncData
 dh:Addr
 vX:FuncData
 de:Addr
 wC:FuncData
 bR:Addr
 uB:FuncData
 c3:Addr
 yD:FuncData
 dJ:Addr
 Bb:FuncData
 dM:Addr
 CQ:FuncData
 dN:Addr
 CZ:FuncData
 eS:Addr
 EA:FuncData
 fj:Addr
 ER:FuncData
 cB:Addr
 x4:FuncData
 bZ:Addr
 ug:FuncData
 gu:Addr
 FT:FuncData
 ym:Addr
 IP:FuncData
 aq:Addr
 bx:Addr
 aD:Addr
 dA:Addr
 ah:Addr
 oM:Addr
 aF:Addr
 az:Addr
structure Txt (K:PySem.W.Frag) (mg:Str->Option Value) (a:Ad):Prop where
 jj:a7 K "__init__" "Bell.__init__" jB a.b6 (.none) a.o3
 xD:a7 K "lead" "Bell.lead" xx a.fc (.none) a.A0
 km:a7 K "is_over" "Bell.is_over" kT a.cM (.none) a.rU
 gU:a7 K "is_waiting" "Bell.is_waiting" gC a.bE (.none) a.kH
 jC:a7 K "catch_up" "Bell.catch_up" jy a.b7 (.none) a.qj
 vW:a7 K "wait" "Bell.wait" vZ a.eW (.none) a.CH
 vI:a7 K "rest" "Bell.rest" xf a.eT (.none) a.A6
 gL:a7 K "__init__" "Groups.__init__" g0 a.bw (.none) a.lu
 ik:a7 K "__init__" "Waits.__init__" il a.bh (.ref a.b5) a.nS
 qa:DQ K a.b5 #[(.int 0 a.dt)]
 wH:a7 K "put" "Waits.put" vR a.dS (.none) a.Bl
 rG:a7 K "take" "Waits.take" qK a.cY (.none) a.zY
 we:a7 K "due" "Waits.due" nu a.dP (.none) a.B3
 oH:a7 K "least" "Waits.least" oQ a.cE (.none) a.uU
 jG:a7 K "time_of" "Waits.time_of" jd a.bG (.none) a.p4
 fG:a7 K "check_waits" "Waits.check_waits" fH a.aS (.none) a.iQ
 v8:a7 K "enter" "Row.enter" wU a.fe (.none) a.C3
 xi:a7 K "leave" "Row.leave" vu a.fb (.none) a.BL
 oO:a7 K "pass_on" "Row.pass_on" iC a.dc (.none) a.vT
 Ae:a7 K "is_whole" "is_whole" Ag a.dU (.none) a.EB
 Em:PySem.W.keepIn K (.ref a.dU)=true
 D0:mg "is_whole"=some (.ref a.dU)
 jr:a7 K "__init__" "Yard.__init__" je a.bI (.none) a.pW
 ic:a7 K "all_bells" "Yard.all_bells" fv a.bj (.none) a.mI
 jF:a7 K "is_awake" "Yard.is_awake" jw a.bK (.none) a.pO
 ji:a7 K "shown_to" "Yard.shown_to" jh a.bF (.none) a.pd
 vy:a7 K "hang" "Yard.hang" xJ a.dQ (.none) a.Cb
 AA:a7 K "lay" "Yard.lay" Ab a.eV (.none) a.EL
 jE:a7 K "let_wait" "Yard.let_wait" jo a.bH (.none) a.pz
 kz:a7 K "lay_all" "Yard.lay_all" kM a.bV (.none) a.sZ
 xU:a7 K "lift" "Yard.lift" vh a.dO (.none) a.A7
 oI:a7 K "finish" "Yard.finish" ot a.cG (.none) a.uQ
 oq:a7 K "remove" "Yard.remove" oK a.cH (.none) a.wu
 kQ:a7 K "pass_to" "Yard.pass_to" gI a.bW (.none) a.tm
 gM:a7 K "__init__" "Keeper.__init__" gA a.bu (.ref a.bP) a.gm
 nI:DQ K a.bP #[.none,(.int 0 a.bY)]
 rC:a7 K "add" "Keeper.add" rF a.dX (.ref a.eA) a.zr
 AX:DQ K a.eA #[(.int 1 a.fZ),.none,.bool false]
 oG:a7 K "turn" "Keeper.turn" iE a.df (.none) a.wM
 vS:a7 K "go" "Keeper.go" vi a.e8 (.ref a.fD) a.qG
 Eb:DQ K a.fD #[(.int 60 a.eZ),.none]
 gE:a7 K "wakes_by" "Keeper.wakes_by" gW a.bC (.none) a.lI
 ku:a7 K "bells" "Keeper.bells" lg a.cN (.none) a.sD
 ky:a7 K "known" "Keeper.known" gy a.cO (.none) a.sX
 qH:a7 K "check_from" "check_from" rq a.bA (.none) a.yO
 cI:PySem.W.keepIn K (.ref a.bA)=true
 cD:mg "check_from"=some (.ref a.bA)
 qM:a7 K "spans_over" "spans_over" qP a.cU (.none) a.y7
 oC:PySem.W.keepIn K (.ref a.cU)=true
 oi:mg "spans_over"=some (.ref a.cU)
 ju:a7 K "__init__" "Rule.__init__" jD a.a0 (.none) a.oY
 jt:a7 K "place_of" "Rule.place_of" jl a.aH (.none) a.qz
 jA:a7 K "__init__" "Each.__init__" jm a.b8 (.ref a.cJ) a.iw
 uz:DQ K a.cJ #[(.int 0 a.d8),.none]
 gx:a7 K "stretch_of" "Each.stretch_of" gF a.aU (.none) a.ki
 qY:a7 K "begin" "Each.begin" rn a.dY (.none) a.yI
 ou:a7 K "let_by" "Each.let_by" oE a.c7 (.none) a.xH
 wL:a7 K "twin" "Each.twin" vt a.e9 (.none) a.C4
 gY:a7 K "__init__" "Behind.__init__" gB a.bo (.ref a.bO) a.gq
 mM:DQ K a.bO #[(.int 0 a.c4),.none]
 kW:a7 K "begin" "Behind.begin" lq a.cL (.none) a.tQ
 jz:a7 K "let_by" "Behind.let_by" jv a.cf (.none) a.qy
 oF:a7 K "leap" "Behind.leap" oo a.dh (.none) a.vX
 oN:a7 K "twin" "Behind.twin" oA a.de (.none) a.wC
 lC:a7 K "_law_cell_at" "_law_cell_at" kG a.bR (.none) a.uB
 d9:PySem.W.keepIn K (.ref a.bR)=true
 ef:mg "_law_cell_at"=some (.ref a.bR)
 qV:a7 K "_law_whole" "_law_whole" rz a.c3 (.none) a.yD
 zh:PySem.W.keepIn K (.ref a.c3)=true
 yx:mg "_law_whole"=some (.ref a.c3)
 wy:a7 K "_law_name" "_law_name" wJ a.dJ (.none) a.Bb
 Cd:PySem.W.keepIn K (.ref a.dJ)=true
 Cv:mg "_law_name"=some (.ref a.dJ)
 vB:a7 K "_law_bell" "_law_bell" x3 a.dM (.none) a.CQ
 Bc:PySem.W.keepIn K (.ref a.dM)=true
 Bp:mg "_law_bell"=some (.ref a.dM)
 uM:a7 K "_law_rule" "_law_rule" xM a.dN (.none) a.CZ
 Br:PySem.W.keepIn K (.ref a.dN)=true
 Bi:mg "_law_rule"=some (.ref a.dN)
 Aw:a7 K "_law_lay" "_law_lay" As a.eS (.none) a.EA
 Eg:PySem.W.keepIn K (.ref a.eS)=true
 ED:mg "_law_lay"=some (.ref a.eS)
 Ap:a7 K "_law_row" "_law_row" Ac a.fj (.none) a.ER
 D1:PySem.W.keepIn K (.ref a.fj)=true
 Eu:mg "_law_row"=some (.ref a.fj)
 oz:a7 K "_law_turned" "_law_turned" om a.cB (.none) a.x4
 u3:PySem.W.keepIn K (.ref a.cB)=true
 vg:mg "_law_turned"=some (.ref a.cB)
 kc:a7 K "_law_gone_on" "_law_gone_on" gQ a.bZ (.none) a.ug
 rK:PySem.W.keepIn K (.ref a.bZ)=true
 tK:mg "_law_gone_on"=some (.ref a.bZ)
 Di:a7 K "_law_by" "_law_by" DJ a.gu (.none) a.FT
 FH:PySem.W.keepIn K (.ref a.gu)=true
 Gd:mg "_law_by"=some (.ref a.gu)
 Tv:a7 K "law" "law" FX a.ym (.none) a.IP
 Ss:mg "law"=some (.ref a.ym)
 N4:mg "Bell"=some (.ref a.aq)
 aV:uK K a.aq
 bD:aE K a.aq "name"
 gZ:aE K a.aq "rule"
 fm:aE K a.aq "weight"
 gS:aE K a.aq "home"
 dH:aE K a.aq "by_day"
 fk:aE K a.aq "number"
 cg:aE K a.aq "stretch"
 cF:aE K a.aq "since"
 cA:aE K a.aq "until"
 QO:Mk K a.aq a.b6
 xk:Meth K a.aq "lead" a.fc
 w5:Meth K a.aq "is_over" a.cM
 mw:Meth K a.aq "is_waiting" a.bE
 sk:Meth K a.aq "catch_up" a.b7
 Es:Meth K a.aq "wait" a.eW
 Ep:Meth K a.aq "rest" a.eT
 HV:mg "Groups"=some (.ref a.bx)
 iq:uK K a.bx
 dW:aE K a.bx "above_of"
 fY:aE K a.bx "marks"
 J4:Mk K a.bx a.bw
 RF:mg "Row"=some (.ref a.aD)
 cQ:uK K a.aD
 di:aE K a.aD "now"
 bp:aE K a.aD "times"
 Xv:Mk K a.aD a.bh
 Ej:Meth K a.aD "enter" a.fe
 EG:Meth K a.aD "leave" a.fb
 yV:Meth K a.aD "pass_on" a.dc
 He:Meth K a.aD "put" a.dS
 Gr:Meth K a.aD "take" a.cY
 Hx:Meth K a.aD "due" a.dP
 Ei:Meth K a.aD "least" a.cE
 zP:Meth K a.aD "time_of" a.bG
 nC:Meth K a.aD "check_waits" a.aS
 NN:mg "Yard"=some (.ref a.dA)
 Ht:mg "Keeper"=some (.ref a.ah)
 aB:uK K a.ah
 bJ:aE K a.ah "waits"
 fy:aE K a.ah "rounds"
 aZ:aE K a.ah "now"
 bb:aE K a.ah "shift"
 ft:aE K a.ah "groups"
 aT:aE K a.ah "by_name"
 Ky:Mk K a.ah a.bu
 Bo:Meth K a.ah "add" a.dX
 yp:Meth K a.ah "turn" a.df
 xo:Meth K a.ah "go" a.e8
 nz:Meth K a.ah "wakes_by" a.bC
 xF:Meth K a.ah "bells" a.cN
 ka:Meth K a.ah "known" a.cO
 gb:Meth K a.ah "all_bells" a.bj
 mR:Meth K a.ah "is_awake" a.bK
 lV:Meth K a.ah "shown_to" a.bF
 zg:Meth K a.ah "hang" a.dQ
 qL:Meth K a.ah "lay" a.eV
 nh:Meth K a.ah "let_wait" a.bH
 oW:Meth K a.ah "lay_all" a.bV
 oJ:Meth K a.ah "lift" a.dO
 uC:Meth K a.ah "finish" a.cG
 sT:Meth K a.ah "remove" a.cH
 qD:Meth K a.ah "pass_to" a.bW
 Jo:mg "Rule"=some (.ref a.oM)
 Js:mg "Each"=some (.ref a.aF)
 dz:uK K a.aF
 fu:aE K a.aF "many"
 eC:aE K a.aF "start"
 dZ:aE K a.aF "step"
 fC:aE K a.aF "wide"
 MG:Mk K a.aF a.b8
 hJ:Meth K a.aF "stretch_of" a.aU
 Ca:Meth K a.aF "begin" a.dY
 yL:Meth K a.aF "let_by" a.c7
 D6:Meth K a.aF "twin" a.e9
 tE:Meth K a.aF "place_of" a.aH
 DS:mg "Behind"=some (.ref a.az)
 b4:uK K a.az
 dB:aE K a.az "many"
 cT:aE K a.az "start"
 eo:aE K a.az "gap"
 bU:aE K a.az "wide"
 FE:Mk K a.az a.bo
 uY:Meth K a.az "begin" a.cL
 sL:Meth K a.az "let_by" a.cf
 yq:Meth K a.az "leap" a.dh
 yC:Meth K a.az "twin" a.de
 lW:Meth K a.az "place_of" a.aH
 dF:a.aq≠a.ah
 iV:a.aq≠a.aD
 dj:a.ah≠a.aD
 j6:a.aF≠a.aq
 fh:a.aF≠a.ah
 nH:a.aF≠a.aD
 gR:a.az≠a.aq
 dD:a.az≠a.ah
 iF:a.az≠a.aD
 jn:Kf K a.oM "__init__" a.a0
 um:Kf K a.dA "__init__" a.bI
 CD:mg "bool"=none
 Dh:mg "int"=none
 dg:mg "isinstance"=none
 Gu:mg "len"=none
 Ai:mg "max"=none
 Ar:mg "min"=none
 vM:mg "range"=none
 ia:mg "sorted"=none
theorem Zg {K:PySem.W.Frag} {h:Heap} {mg:Str->Option Value} {b6 fc cM bE b7 eW eT bw bh b5 dS cY dP cE bG aS fe fb dc dU bI bj bK bF dQ eV bH bV dO cG cH bW bu bP dX eA df e8 fD bC cN cO bA cU a0 aH b8 cJ aU dY c7 e9 bo bO cL cf dh de bR c3 dJ dM dN eS fj cB bZ gu ym aq bx lU aD dA ah oM aF az:Addr} {dt bY fZ eZ d8 c4:Tok}  (X:K.In h) (G:h.Ns mainGlobals mg)
 (UO:PySem.W.nsIn K mainGlobals "Bell"=some (some (.ref aq)))
 (O1:PySem.W.nsIn K mainGlobals "Groups"=some (some (.ref bx)))
 (acr:PySem.W.nsIn K mainGlobals "Waits"=some (some (.ref lU)))
 (Z9:PySem.W.nsIn K mainGlobals "Row"=some (some (.ref aD)))
 (V1:PySem.W.nsIn K mainGlobals "Yard"=some (some (.ref dA)))
 (OT:PySem.W.nsIn K mainGlobals "Keeper"=some (some (.ref ah)))
 (Ur:PySem.W.nsIn K mainGlobals "Rule"=some (some (.ref oM)))
 (TY:PySem.W.nsIn K mainGlobals "Each"=some (some (.ref aF)))
 (Px:PySem.W.nsIn K mainGlobals "Behind"=some (some (.ref az)))
 (f7:cz K aq "__init__" "Bell.__init__" jB (.none) b6)
 (iT:cz K aq "lead" "Bell.lead" xx (.none) fc)
 (fi:cz K aq "is_over" "Bell.is_over" kT (.none) cM)
 (cZ:cz K aq "is_waiting" "Bell.is_waiting" gC (.none) bE)
 (ej:cz K aq "catch_up" "Bell.catch_up" jy (.none) b7)
 (iX:cz K aq "wait" "Bell.wait" vZ (.none) eW)
 (iN:cz K aq "rest" "Bell.rest" xf (.none) eT)
 (eJ:cz K bx "__init__" "Groups.__init__" g0 (.none) bw)
 (iy:cz K lU "__init__" "Waits.__init__" il (.ref b5) bh)
 (DP:DQ K b5 #[(.int 0 dt)])
 (mK:cz K lU "put" "Waits.put" vR (.none) dS)
 (j4:cz K lU "take" "Waits.take" qK (.none) cY)
 (nT:cz K lU "due" "Waits.due" nu (.none) dP)
 (iB:cz K lU "least" "Waits.least" oQ (.none) cE)
 (f9:cz K lU "time_of" "Waits.time_of" jd (.none) bG)
 (du:cz K lU "check_waits" "Waits.check_waits" fH (.none) aS)
 (iR:cz K aD "enter" "Row.enter" wU (.none) fe)
 (iZ:cz K aD "leave" "Row.leave" vu (.none) fb)
 (fT:cz K aD "pass_on" "Row.pass_on" iC (.none) dc)
 (rk:CI K "is_whole" "is_whole" Ag (.none) dU)
 (jf:cz K dA "__init__" "Yard.__init__" je (.none) bI)
 (fz:cz K dA "all_bells" "Yard.all_bells" fv (.none) bj)
 (fW:cz K dA "is_awake" "Yard.is_awake" jw (.none) bK)
 (f6:cz K dA "shown_to" "Yard.shown_to" jh (.none) bF)
 (n9:cz K dA "hang" "Yard.hang" xJ (.none) dQ)
 (qW:cz K dA "lay" "Yard.lay" Ab (.none) eV)
 (fX:cz K dA "let_wait" "Yard.let_wait" jo (.none) bH)
 (gD:cz K dA "lay_all" "Yard.lay_all" kM (.none) bV)
 (nV:cz K dA "lift" "Yard.lift" vh (.none) dO)
 (iz:cz K dA "finish" "Yard.finish" ot (.none) cG)
 (iD:cz K dA "remove" "Yard.remove" oK (.none) cH)
 (g9:cz K dA "pass_to" "Yard.pass_to" gI (.none) bW)
 (eO:cz K ah "__init__" "Keeper.__init__" gA (.ref bP) bu)
 (Bf:DQ K bP #[.none,(.int 0 bY)])
 (gO:cz K ah "add" "Keeper.add" rF (.ref eA) dX)
 (Jp:DQ K eA #[(.int 1 fZ),.none,.bool false])
 (fS:cz K ah "turn" "Keeper.turn" iE (.none) df)
 (iK:cz K ah "go" "Keeper.go" vi (.ref fD) e8)
 (J6:DQ K fD #[(.int 60 eZ),.none])
 (cV:cz K ah "wakes_by" "Keeper.wakes_by" gW (.none) bC)
 (eU:cz K ah "bells" "Keeper.bells" lg (.none) cN)
 (fg:cz K ah "known" "Keeper.known" gy (.none) cO)
 (j1:CI K "check_from" "check_from" rq (.none) bA)
 (j2:CI K "spans_over" "spans_over" qP (.none) cU)
 (jq:cz K oM "__init__" "Rule.__init__" jD (.none) a0)
 (cS:cz K oM "place_of" "Rule.place_of" jl (.none) aH)
 (fV:cz K aF "__init__" "Each.__init__" jm (.ref cJ) b8)
 (E2:DQ K cJ #[(.int 0 d8),.none])
 (c6:cz K aF "stretch_of" "Each.stretch_of" gF (.none) aU)
 (gK:cz K aF "begin" "Each.begin" rn (.none) dY)
 (fK:cz K aF "let_by" "Each.let_by" oE (.none) c7)
 (iJ:cz K aF "twin" "Each.twin" vt (.none) e9)
 (eI:cz K az "__init__" "Behind.__init__" gB (.ref bO) bo)
 (BR:DQ K bO #[(.int 0 c4),.none])
 (eY:cz K az "begin" "Behind.begin" lq (.none) cL)
 (eh:cz K az "let_by" "Behind.let_by" jv (.none) cf)
 (fQ:cz K az "leap" "Behind.leap" oo (.none) dh)
 (fO:cz K az "twin" "Behind.twin" oA (.none) de)
 (gT:CI K "_law_cell_at" "_law_cell_at" kG (.none) bR)
 (j7:CI K "_law_whole" "_law_whole" rz (.none) c3)
 (nO:CI K "_law_name" "_law_name" wJ (.none) dJ)
 (mS:CI K "_law_bell" "_law_bell" x3 (.none) dM)
 (nK:CI K "_law_rule" "_law_rule" xM (.none) dN)
 (qS:CI K "_law_lay" "_law_lay" As (.none) eS)
 (rA:CI K "_law_row" "_law_row" Ac (.none) fj)
 (iG:CI K "_law_turned" "_law_turned" om (.none) cB)
 (gJ:CI K "_law_gone_on" "_law_gone_on" gQ (.none) bZ)
 (ya:CI K "_law_by" "_law_by" DJ (.none) gu)
 (Q8:CI K "law" "law" FX (.none) ym)
 (aV:PJ K aq)
 (bD:PySem.W.findIn K (.ref aq) "name"=some none)
 (gZ:PySem.W.findIn K (.ref aq) "rule"=some none)
 (fm:PySem.W.findIn K (.ref aq) "weight"=some none)
 (gS:PySem.W.findIn K (.ref aq) "home"=some none)
 (dH:PySem.W.findIn K (.ref aq) "by_day"=some none)
 (fk:PySem.W.findIn K (.ref aq) "number"=some none)
 (cg:PySem.W.findIn K (.ref aq) "stretch"=some none)
 (cF:PySem.W.findIn K (.ref aq) "since"=some none)
 (cA:PySem.W.findIn K (.ref aq) "until"=some none)
 (VL:PySem.W.makesIn K aq=true)
 (VO:PySem.W.keepIn K (.ref aq)=true)
 (iq:PJ K bx)
 (dW:PySem.W.findIn K (.ref bx) "above_of"=some none)
 (fY:PySem.W.findIn K (.ref bx) "marks"=some none)
 (P2:PySem.W.makesIn K bx=true)
 (Pj:PySem.W.keepIn K (.ref bx)=true)
 (cQ:PJ K aD)
 (di:PySem.W.findIn K (.ref aD) "now"=some none)
 (bp:PySem.W.findIn K (.ref aD) "times"=some none)
 (YX:PySem.W.makesIn K aD=true)
 (YV:PySem.W.keepIn K (.ref aD)=true)
 (XR:PySem.W.findIn K (.ref aD) "__init__"=some (some (.ref bh)))
 (Ly:PySem.W.findIn K (.ref aD) "put"=some (some (.ref dS)))
 (Kx:PySem.W.findIn K (.ref aD) "take"=some (some (.ref cY)))
 (Ma:PySem.W.findIn K (.ref aD) "due"=some (some (.ref dP)))
 (IY:PySem.W.findIn K (.ref aD) "least"=some (some (.ref cE)))
 (Gi:PySem.W.findIn K (.ref aD) "time_of"=some (some (.ref bG)))
 (AG:PySem.W.findIn K (.ref aD) "check_waits"=some (some (.ref aS)))
 (aB:PJ K ah)
 (bJ:PySem.W.findIn K (.ref ah) "waits"=some none)
 (fy:PySem.W.findIn K (.ref ah) "rounds"=some none)
 (aZ:PySem.W.findIn K (.ref ah) "now"=some none)
 (bb:PySem.W.findIn K (.ref ah) "shift"=some none)
 (ft:PySem.W.findIn K (.ref ah) "groups"=some none)
 (aT:PySem.W.findIn K (.ref ah) "by_name"=some none)
 (PD:PySem.W.makesIn K ah=true)
 (P8:PySem.W.keepIn K (.ref ah)=true)
 (yg:PySem.W.findIn K (.ref ah) "all_bells"=some (some (.ref bj)))
 (Ao:PySem.W.findIn K (.ref ah) "is_awake"=some (some (.ref bK)))
 (Al:PySem.W.findIn K (.ref ah) "shown_to"=some (some (.ref bF)))
 (FJ:PySem.W.findIn K (.ref ah) "hang"=some (some (.ref dQ)))
 (GO:PySem.W.findIn K (.ref ah) "lay"=some (some (.ref eV)))
 (AF:PySem.W.findIn K (.ref ah) "let_wait"=some (some (.ref bH)))
 (CP:PySem.W.findIn K (.ref ah) "lay_all"=some (some (.ref bV)))
 (Fz:PySem.W.findIn K (.ref ah) "lift"=some (some (.ref dO)))
 (DB:PySem.W.findIn K (.ref ah) "finish"=some (some (.ref cG)))
 (DG:PySem.W.findIn K (.ref ah) "remove"=some (some (.ref cH)))
 (Ct:PySem.W.findIn K (.ref ah) "pass_to"=some (some (.ref bW)))
 (dz:PJ K aF)
 (fu:PySem.W.findIn K (.ref aF) "many"=some none)
 (eC:PySem.W.findIn K (.ref aF) "start"=some none)
 (dZ:PySem.W.findIn K (.ref aF) "step"=some none)
 (fC:PySem.W.findIn K (.ref aF) "wide"=some none)
 (UM:PySem.W.makesIn K aF=true)
 (VB:PySem.W.keepIn K (.ref aF)=true)
 (DX:PySem.W.findIn K (.ref aF) "place_of"=some (some (.ref aH)))
 (b4:PJ K az)
 (dB:PySem.W.findIn K (.ref az) "many"=some none)
 (cT:PySem.W.findIn K (.ref az) "start"=some none)
 (eo:PySem.W.findIn K (.ref az) "gap"=some none)
 (bU:PySem.W.findIn K (.ref az) "wide"=some none)
 (OJ:PySem.W.makesIn K az=true)
 (PQ:PySem.W.keepIn K (.ref az)=true)
 (Az:PySem.W.findIn K (.ref az) "place_of"=some (some (.ref aH)))
 (dF:(aq==ah)=false)
 (iV:(aq==aD)=false)
 (dj:(ah==aD)=false)
 (j6:(aF==aq)=false)
 (fh:(aF==ah)=false)
 (nH:(aF==aD)=false)
 (gR:(az==aq)=false)
 (dD:(az==ah)=false)
 (iF:(az==aD)=false)
 (DW:PySem.W.specialIn K (.ref oM) "__getattribute__"=some (some (.builtin "type.__getattribute__")))
 (DE:PySem.W.readsIn K oM (.type "type")=true)
 (DL:PySem.W.findCls K (.ref oM) (.type "type") "__init__"=some (.val (.ref a0)))
 (Dk:PySem.W.specialIn K (.ref dA) "__getattribute__"=some (some (.builtin "type.__getattribute__")))
 (Dm:PySem.W.readsIn K dA (.type "type")=true)
 (DY:PySem.W.findCls K (.ref dA) (.type "type") "__init__"=some (.val (.ref bI)))
 (CD:PySem.W.nsIn K mainGlobals "bool"=some none)
 (Dh:PySem.W.nsIn K mainGlobals "int"=some none)
 (dg:PySem.W.nsIn K mainGlobals "isinstance"=some none)
 (Gu:PySem.W.nsIn K mainGlobals "len"=some none)
 (Ai:PySem.W.nsIn K mainGlobals "max"=some none)
 (Ar:PySem.W.nsIn K mainGlobals "min"=some none)
 (vM:PySem.W.nsIn K mainGlobals "range"=some none)
 (ia:PySem.W.nsIn K mainGlobals "sorted"=some none)
 :∃a:Ad,a.ym=a.ym/\Txt K mg a:=
 ⟨⟨b6,f7.l.choose,fc,iT.l.choose,cM,fi.l.choose,bE,cZ.l.choose,b7,ej.l.choose,eW,iX.l.choose,eT,iN.l.choose,bw,eJ.l.choose,bh,iy.l.choose,b5,dt,dS,mK.l.choose,cY,j4.l.choose,dP,nT.l.choose,cE,iB.l.choose,bG,f9.l.choose,aS,du.l.choose,fe,iR.l.choose,fb,iZ.l.choose,dc,fT.l.choose,dU,rk.l.choose,bI,jf.l.choose,bj,fz.l.choose,bK,fW.l.choose,bF,f6.l.choose,dQ,n9.l.choose,eV,qW.l.choose,bH,fX.l.choose,bV,gD.l.choose,dO,nV.l.choose,cG,iz.l.choose,cH,iD.l.choose,bW,g9.l.choose,bu,eO.l.choose,bP,bY,dX,gO.l.choose,eA,fZ,df,fS.l.choose,e8,iK.l.choose,fD,eZ,bC,cV.l.choose,cN,eU.l.choose,cO,fg.l.choose,bA,j1.l.choose,cU,j2.l.choose,a0,jq.l.choose,aH,cS.l.choose,b8,fV.l.choose,cJ,d8,aU,c6.l.choose,dY,gK.l.choose,c7,fK.l.choose,e9,iJ.l.choose,bo,eI.l.choose,bO,c4,cL,eY.l.choose,cf,eh.l.choose,dh,fQ.l.choose,de,fO.l.choose,bR,gT.l.choose,c3,j7.l.choose,dJ,nO.l.choose,dM,mS.l.choose,dN,nK.l.choose,eS,qS.l.choose,fj,rA.l.choose,cB,iG.l.choose,bZ,gJ.l.choose,gu,ya.l.choose,ym,Q8.l.choose,aq,bx,aD,dA,ah,oM,aF,az⟩,rfl,{
   jj:=f7.l.choose_spec,
   xD:=iT.l.choose_spec,
   km:=fi.l.choose_spec,
   gU:=cZ.l.choose_spec,
   jC:=ej.l.choose_spec,
   vW:=iX.l.choose_spec,
   vI:=iN.l.choose_spec,
   gL:=eJ.l.choose_spec,
   ik:=iy.l.choose_spec,
   qa:=DP,
   wH:=mK.l.choose_spec,
   rG:=j4.l.choose_spec,
   we:=nT.l.choose_spec,
   oH:=iB.l.choose_spec,
   jG:=f9.l.choose_spec,
   fG:=du.l.choose_spec,
   v8:=iR.l.choose_spec,
   xi:=iZ.l.choose_spec,
   oO:=fT.l.choose_spec,
   Ae:=rk.l.choose_spec,
   Em:=rk.k,
   D0:=PySem.W.mg_of X G rk.a,
   jr:=jf.l.choose_spec,
   ic:=fz.l.choose_spec,
   jF:=fW.l.choose_spec,
   ji:=f6.l.choose_spec,
   vy:=n9.l.choose_spec,
   AA:=qW.l.choose_spec,
   jE:=fX.l.choose_spec,
   kz:=gD.l.choose_spec,
   xU:=nV.l.choose_spec,
   oI:=iz.l.choose_spec,
   oq:=iD.l.choose_spec,
   kQ:=g9.l.choose_spec,
   gM:=eO.l.choose_spec,
   nI:=Bf,
   rC:=gO.l.choose_spec,
   AX:=Jp,
   oG:=fS.l.choose_spec,
   vS:=iK.l.choose_spec,
   Eb:=J6,
   gE:=cV.l.choose_spec,
   ku:=eU.l.choose_spec,
   ky:=fg.l.choose_spec,
   qH:=j1.l.choose_spec,
   cI:=j1.k,
   cD:=PySem.W.mg_of X G j1.a,
   qM:=j2.l.choose_spec,
   oC:=j2.k,
   oi:=PySem.W.mg_of X G j2.a,
   ju:=jq.l.choose_spec,
   jt:=cS.l.choose_spec,
   jA:=fV.l.choose_spec,
   uz:=E2,
   gx:=c6.l.choose_spec,
   qY:=gK.l.choose_spec,
   ou:=fK.l.choose_spec,
   wL:=iJ.l.choose_spec,
   gY:=eI.l.choose_spec,
   mM:=BR,
   kW:=eY.l.choose_spec,
   jz:=eh.l.choose_spec,
   oF:=fQ.l.choose_spec,
   oN:=fO.l.choose_spec,
   lC:=gT.l.choose_spec,
   d9:=gT.k,
   ef:=PySem.W.mg_of X G gT.a,
   qV:=j7.l.choose_spec,
   zh:=j7.k,
   yx:=PySem.W.mg_of X G j7.a,
   wy:=nO.l.choose_spec,
   Cd:=nO.k,
   Cv:=PySem.W.mg_of X G nO.a,
   vB:=mS.l.choose_spec,
   Bc:=mS.k,
   Bp:=PySem.W.mg_of X G mS.a,
   uM:=nK.l.choose_spec,
   Br:=nK.k,
   Bi:=PySem.W.mg_of X G nK.a,
   Aw:=qS.l.choose_spec,
   Eg:=qS.k,
   ED:=PySem.W.mg_of X G qS.a,
   Ap:=rA.l.choose_spec,
   D1:=rA.k,
   Eu:=PySem.W.mg_of X G rA.a,
   oz:=iG.l.choose_spec,
   u3:=iG.k,
   vg:=PySem.W.mg_of X G iG.a,
   kc:=gJ.l.choose_spec,
   rK:=gJ.k,
   tK:=PySem.W.mg_of X G gJ.a,
   Di:=ya.l.choose_spec,
   FH:=ya.k,
   Gd:=PySem.W.mg_of X G ya.a,
   Tv:=Q8.l.choose_spec,
   Ss:=PySem.W.mg_of X G Q8.a,
   N4:=PySem.W.mg_of X G UO,
   aV:=⟨aV.pg,aV.hd,aV.po,aV.sa⟩,
   bD:=bD,
   gZ:=gZ,
   fm:=fm,
   gS:=gS,
   dH:=dH,
   fk:=fk,
   cg:=cg,
   cF:=cF,
   cA:=cA,
   QO:=⟨VL,f7.a,f7.i,VO⟩,
   xk:=⟨iT.a,iT.i,iT.k⟩,
   w5:=⟨fi.a,fi.i,fi.k⟩,
   mw:=⟨cZ.a,cZ.i,cZ.k⟩,
   sk:=⟨ej.a,ej.i,ej.k⟩,
   Es:=⟨iX.a,iX.i,iX.k⟩,
   Ep:=⟨iN.a,iN.i,iN.k⟩,
   HV:=PySem.W.mg_of X G O1,
   iq:=⟨iq.pg,iq.hd,iq.po,iq.sa⟩,
   dW:=dW,
   fY:=fY,
   J4:=⟨P2,eJ.a,eJ.i,Pj⟩,
   RF:=PySem.W.mg_of X G Z9,
   cQ:=⟨cQ.pg,cQ.hd,cQ.po,cQ.sa⟩,
   di:=di,
   bp:=bp,
   Xv:=⟨YX,XR,iy.i,YV⟩,
   Ej:=⟨iR.a,iR.i,iR.k⟩,
   EG:=⟨iZ.a,iZ.i,iZ.k⟩,
   yV:=⟨fT.a,fT.i,fT.k⟩,
   He:=⟨Ly,mK.i,mK.k⟩,
   Gr:=⟨Kx,j4.i,j4.k⟩,
   Hx:=⟨Ma,nT.i,nT.k⟩,
   Ei:=⟨IY,iB.i,iB.k⟩,
   zP:=⟨Gi,f9.i,f9.k⟩,
   nC:=⟨AG,du.i,du.k⟩,
   NN:=PySem.W.mg_of X G V1,
   Ht:=PySem.W.mg_of X G OT,
   aB:=⟨aB.pg,aB.hd,aB.po,aB.sa⟩,
   bJ:=bJ,
   fy:=fy,
   aZ:=aZ,
   bb:=bb,
   ft:=ft,
   aT:=aT,
   Ky:=⟨PD,eO.a,eO.i,P8⟩,
   Bo:=⟨gO.a,gO.i,gO.k⟩,
   yp:=⟨fS.a,fS.i,fS.k⟩,
   xo:=⟨iK.a,iK.i,iK.k⟩,
   nz:=⟨cV.a,cV.i,cV.k⟩,
   xF:=⟨eU.a,eU.i,eU.k⟩,
   ka:=⟨fg.a,fg.i,fg.k⟩,
   gb:=⟨yg,fz.i,fz.k⟩,
   mR:=⟨Ao,fW.i,fW.k⟩,
   lV:=⟨Al,f6.i,f6.k⟩,
   zg:=⟨FJ,n9.i,n9.k⟩,
   qL:=⟨GO,qW.i,qW.k⟩,
   nh:=⟨AF,fX.i,fX.k⟩,
   oW:=⟨CP,gD.i,gD.k⟩,
   oJ:=⟨Fz,nV.i,nV.k⟩,
   uC:=⟨DB,iz.i,iz.k⟩,
   sT:=⟨DG,iD.i,iD.k⟩,
   qD:=⟨Ct,g9.i,g9.k⟩,
   Jo:=PySem.W.mg_of X G Ur,
   Js:=PySem.W.mg_of X G TY,
   dz:=⟨dz.pg,dz.hd,dz.po,dz.sa⟩,
   fu:=fu,
   eC:=eC,
   dZ:=dZ,
   fC:=fC,
   MG:=⟨UM,fV.a,fV.i,VB⟩,
   hJ:=⟨c6.a,c6.i,c6.k⟩,
   Ca:=⟨gK.a,gK.i,gK.k⟩,
   yL:=⟨fK.a,fK.i,fK.k⟩,
   D6:=⟨iJ.a,iJ.i,iJ.k⟩,
   tE:=⟨DX,cS.i,cS.k⟩,
   DS:=PySem.W.mg_of X G Px,
   b4:=⟨b4.pg,b4.hd,b4.po,b4.sa⟩,
   dB:=dB,
   cT:=cT,
   eo:=eo,
   bU:=bU,
   FE:=⟨OJ,eI.a,eI.i,PQ⟩,
   uY:=⟨eY.a,eY.i,eY.k⟩,
   sL:=⟨eh.a,eh.i,eh.k⟩,
   yq:=⟨fQ.a,fQ.i,fQ.k⟩,
   yC:=⟨fO.a,fO.i,fO.k⟩,
   lW:=⟨Az,cS.i,cS.k⟩,
   dF:=ne_of_beq_false dF,
   iV:=ne_of_beq_false iV,
   dj:=ne_of_beq_false dj,
   j6:=ne_of_beq_false j6,
   fh:=ne_of_beq_false fh,
   nH:=ne_of_beq_false nH,
   gR:=ne_of_beq_false gR,
   dD:=ne_of_beq_false dD,
   iF:=ne_of_beq_false iF,
   jn:=⟨DW,DE,DL,jq.k⟩,
   um:=⟨Dk,Dm,DY,jf.k⟩,
   CD:=PySem.W.mg_none_of X G CD,
   Dh:=PySem.W.mg_none_of X G Dh,
   dg:=PySem.W.mg_none_of X G dg,
   Gu:=PySem.W.mg_none_of X G Gu,
   Ai:=PySem.W.mg_none_of X G Ai,
   Ar:=PySem.W.mg_none_of X G Ar,
   vM:=PySem.W.mg_none_of X G vM,
   ia:=PySem.W.mg_none_of X G ia
 }⟩
def qq:Sp:=fun vs H Q _=>∃v d,vs=[v]/\Dv H v d/\Q (.bl (isInt d&&!isBool d)) H
theorem UK {H:Hp} {Q:VK} {E:XK} {v:V} {d:PyData} (h:Dv H v d) (q:Q (.bl (isInt d&&!isBool d)) H):qq [v] H Q E:=⟨v,d,rfl,h,q⟩
def pA:Sp:=fun vs H Q _=>∃n l x,vs=[.int n,.int l,.str x]/\l<=n/\Q .aQ H
theorem Vt {H:Hp} {Q:VK} {E:XK} {n l:Int} {x:Str} (h:l<=n) (q:Q .aQ H):pA [.int n,.int l,.str x] H Q E:=⟨n,l,x,rfl,h,q⟩
def hU (C:Addr):Sp:=fun vs H Q _=>∃p dx m,vs=[.ref p,m]/\KZ m/\H p=some (.ins C dx [])/\Q .aQ (upd H p (.ins C dx [("many",m)]))
theorem JZ {C p dx:Addr} {H:Hp} {Q:VK} {E:XK} {m:V} (hm:KZ m) (hp:H p=some (.ins C dx [])) (q:Q .aQ (upd H p (.ins C dx [("many",m)]))):hU C [.ref p,m] H Q E:=⟨p,dx,m,rfl,hm,hp,q⟩
def iS (C:Addr):Sp:=fun vs H Q _=>∃v fs m n x d,vs=[v,.int n,x]/\KZ m/\kL H v C fs/\fs.lookup ("many":Str)=some m/\Dv H x d/\∀v' H',ax H H'->Dv H' v' (.tuple [.int (G4 m n),G7 m n d])->Q v' H'
theorem MK {C:Addr} {H:Hp} {Q:VK} {E:XK} {v x:V} {fs:List (Str × V)} {d:PyData} {m:V} {n:Int} (ho:KZ m) (hp:kL H v C fs) (hm:fs.lookup ("many":Str)=some m) (hd:Dv H x d) (q:∀v' H',ax H H'->Dv H' v' (.tuple [.int (G4 m n),G7 m n d])->Q v' H'):iS C [v,.int n,x] H Q E:=⟨v,fs,m,n,x,d,rfl,ho,hp,hm,hd,q⟩
def QN (K:PySem.W.Frag):Sp:=fun vs H Q _=>∃(l:Addr) (ns:List Int),vs=[.ref l]/\iH K H l (ns.map V.int)/\ns.length<=63/\∀H',Q (.bl true) H'
set_option hygiene false in
local macro_rules|`(tactic|walk_at "bd")=>`(tactic|first|exact⟨by omega,by omega⟩|fail)
set_option hygiene false in
local macro_rules|`(tactic|walk_at "bd")=>`(tactic|first|assumption|fail)
set_option hygiene false in
local macro_rules|`(tactic|walk_at "mok")=>`(tactic|first|exact Or.inr ⟨_,rfl,by omega⟩|fail)
set_option hygiene false in
local macro_rules|`(tactic|walk_at "mok")=>`(tactic|first|exact Or.inl rfl|fail)
set_option hygiene false in
local macro_rules|`(tactic|walk_at "mok")=>`(tactic|first|assumption|fail)
local macro_rules|`(tactic|walk_at "use")=>`(tactic|first|((with_reducible refine' MK ?e0 ?e1 ?e2 ?e3 (fun _ _ _ _=>?_));(case e1=>walk_at "ins");(case e2=>walk_at "lk");(case e0=>walk_at "mok");(case e3=>walk_at "dat"))|fail)
local macro_rules|`(tactic|walk_at "use")=>`(tactic|first|((with_reducible refine' YR ?e1 ?e2 ?_);(case e1=>walk_at "sql");(case e2=>omega))|fail)
local macro_rules|`(tactic|walk_at "use")=>`(tactic|first|((with_reducible refine' JZ ?e1 ?e2 ?_);(case e1=>walk_at "mok");(case e2=>walk_at "at"))|fail)
local macro_rules|`(tactic|walk_at "use")=>`(tactic|first|((with_reducible refine' Vt ?e ?_);case e=>walk_at "side")|fail)
local macro_rules|`(tactic|walk_at "use")=>`(tactic|first|((with_reducible refine' UK ?e ?_);case e=>walk_at "dat")|fail)
section
variable {P:Program} {w:World} {K:PySem.W.Frag} {mg:Str->Option Value} {base:Heap} {a:Ad}
theorem Kv (T:Txt K mg a):aN P w K mg base fF 1 a.dU a.EB ["thing"] qq:=by
 refine T.Ae.ok KP (fun vs H Q E h=>?_) (fun cR A outer s H vs Q E hr h=>?_)
 . obtain⟨_,_,rfl,_⟩:=h;rfl
 . obtain⟨v,d,rfl,hd,k⟩:=h
   refine⟨_,(ai (aC (IH (cm Ci rfl T.dg PyProof.Rows.boot_isinstance (ae (pv 0) (ae (Fo (v:=.ty "int") rfl T.Dh PyProof.Rows.boot_int rfl) ak))) (Gy (SA (cm Ci rfl T.dg PyProof.Rows.boot_isinstance (ae (pv 0) (ae (Fo (v:=.ty "bool") rfl T.CD PyProof.Rows.boot_bool rfl) ak)))))))),?_⟩
   repeat' (walk_at "rd1")
   . refine V8 ?_;cases d <;>simp_all [isInt,isBool]
   . refine V8 ?_;cases d <;>simp_all [isInt,isBool]
theorem Jx (T:Txt K mg a):dE P w K mg base 1 a.dU ["thing"] [] qq:=
 ⟨⟨_,_,Kv T,T.Ae.binds fun _ _ _ _ _ _=>kK fun _=>rfl,.nil⟩⟩
theorem GQ (T:Txt K mg a):aN P w K mg base fF 2 a.bA a.yO ["number","least","what"] pA:=by
 have La:dE P w K mg base 1 a.dU ["thing"] [] qq:=Jx T
 refine T.qH.ok G9 (fun vs H Q E h=>?_) (fun cR A outer s H vs Q E hr h=>?_)
 . obtain⟨_,_,_,rfl,_⟩:=h;rfl
 . obtain⟨n,l,x,rfl,hl,k⟩:=h
   refine⟨_,(ai (cj (PW.pt (Hl (Ax (eg (bz La (hr.mono (by decide)) rfl T.D0 T.Em (ae (pv 0) ak)) (fun _=>rfl))) (FD (aK GK (pv 0) (pv 1) (aJ _)))))
    (ai cX)
    aO)),?_⟩
   repeat' (walk_at "rd1")
   exact k
theorem la (T:Txt K mg a):dE P w K mg base 2 a.bA ["number","least","what"] [] pA:=
 ⟨⟨_,_,GQ T,T.qH.binds fun _ _ _ _ _ _=>wa fun _ _ _=>rfl,.nil⟩⟩
theorem Jb {C:Addr} (T:Txt K mg a) (cl:uK K C) (na:aE K C "many"):aN P w K mg base fF 3 a.a0 a.oY ["self","many"] (hU C):=by
 have cw:dE P w K mg base 2 a.bA ["number","least","what"] [] pA:=la T
 refine T.ju.ok DK (fun vs H Q E h=>?_) (fun cR A outer s H vs Q E hr h=>?_)
 . obtain⟨_,_,_,rfl,_⟩:=h;rfl
 . obtain⟨p,dx,m,rfl,hm,hp,k⟩:=h
   refine⟨_,(af (cj (aK qQ (pv 1) dn (aJ _))
    (ai (aW (bz cw (hr.mono (by decide)) rfl T.cD T.cI (ae (pv 1) (ae ag (ae gk ak))))))
    aO)
    (ai (aY (pv 0) (pv 1) rfl))),?_⟩
   rcases hm with rfl|⟨i,rfl,hi⟩
   . repeat' (walk_at "rd1")
     exact k
   . repeat' (walk_at "rd1")
     exact k
theorem zi {C:Addr} (T:Txt K mg a) (cl:uK K C) (na:aE K C "many"):dE P w K mg base 3 a.a0 ["self","many"] [] (hU C):=
 ⟨⟨_,_,Jb T cl na,T.ju.binds fun _ _ _ _ _ _=>dR fun _ _=>rfl,.nil⟩⟩
theorem FO (T:Txt K mg a):aN P w K mg base fF 1 a.bR a.uB ["_law_script","_law_k"] (K4 K):=by
 refine T.lC.ok Ff (fun vs H Q E h=>?_) (fun cR A outer s H vs Q E hr h=>?_)
 . obtain⟨_,_,_,rfl,_⟩:=h;rfl
 . obtain⟨l,ns,i,rfl,hl,h0,k⟩:=h
   refine⟨_,(af (cj (aK GK (pv 1) (cm HL rfl T.Gu PySem.boot_len (ae (pv 0) ak)) (aJ _))
    (ai (aC (bB fP (pv 0) (pv 1) (fun _ _=>rfl))))
    aO)
    (ai (aC ag))),?_⟩
   repeat' (walk_at "rd1")
   . exact Xl hl (M3 h0 (by assumption)) k
   . rw [V6 h0 (by assumption)] at k;exact k
theorem Fe (T:Txt K mg a):dE P w K mg base 1 a.bR ["_law_script","_law_k"] [] (K4 K):=
 ⟨⟨_,_,FO T,T.lC.binds fun _ _ _ _ _ _=>dR fun _ _=>rfl,.nil⟩⟩
theorem OQ (T:Txt K mg a) (s:Shared) (u:Value):BindsTo s a.IP ⟨[u],[]⟩ [("_law_script",u)]:=by
 obtain⟨oc,od,kV,doc,pm,an,cR,ct,Tp,e,lk,Qp⟩:=T.Tv.ex
 rw [e]
 exact .of_eq rfl
theorem Kb {C:Addr} (T:Txt K mg a) (cl:uK K C) (na:aE K C "many"):aN P w K mg base fF 1 a.aH a.qz ["self","number","stretch"] (iS C):=by
 refine T.jt.ok Df (fun vs H Q E h=>?_) (fun cR A outer s H vs Q E hr h=>?_)
 . obtain⟨_,_,_,_,_,_,rfl,_⟩:=h;rfl
 . obtain⟨v,fs,m,n,x,d,rfl,ho,hp,hm,hd,k⟩:=h
   refine⟨_,(af (cj (PW.pt (MJ (aK qQ (au (pv 0) rfl) dn (aJ _)) (Ih (aK Sh (pv 1) (au (pv 0) rfl) (aJ _)))))
    (ai (aC (eG (ae (au (pv 0) rfl) (ae dn ak)))))
    aO)
    (ai (aC (eG (ae (pv 1) (ae (pv 2) ak)))))),?_⟩
   rcases ho with rfl|⟨i,rfl,hi⟩
   . repeat' (walk_at "rd1")
     (refine k _ _ ?_ ?_;walk_at "same";walk_at "dat")
   . repeat' (walk_at "rd1")
     . rename_i hb _ _ _ _
       rw [N6 hb,NV hb] at k
       (refine k _ _ ?_ ?_;walk_at "same";walk_at "dat")
     . rename_i hb _ _ _ _
       rw [NM hb,N0 hb] at k
       (refine k _ _ ?_ ?_;walk_at "same";walk_at "dat")
theorem Cm {C:Addr} (T:Txt K mg a) (cl:uK K C) (na:aE K C "many"):dE P w K mg base 1 a.aH ["self","number","stretch"] [] (iS C):=
 ⟨⟨_,_,Kb T cl na,T.jt.binds fun _ _ _ _ _ _=>wa fun _ _ _=>rfl,.nil⟩⟩
def Nk (args:List V):Prop:=∃st sp wd m,args=[.int st,.int sp,.int wd,m]/\0<=st/\1<=sp/\0<=wd/\wd<sp/\KZ m
theorem IK (T:Txt K mg a):aN P w K mg base fF 4 a.b8 a.iw ["self","start","step","wide","many"] (Dw a.aF Nk N5):=by
 have cw:dE P w K mg base 2 a.bA ["number","least","what"] [] pA:=la T
 have jg:dE P w K mg base 3 a.a0 ["self","many"] [] (hU a.aF):=zi T T.dz T.fu
 have cl:=T.dz
 have n1:=T.eC;have n2:=T.dZ;have n3:=T.fC
 refine T.jA.ok DA (fun vs H Q E h=>?_) (fun cR A outer s H vs Q E hr h=>?_)
 . obtain⟨_,_,_,rfl,⟨_,_,_,_,rfl,_⟩,_⟩:=h;rfl
 . obtain⟨p,dx,args,rfl,⟨st,sp,wd,m,rfl,h0,h1,h2,h3,hm⟩,hp,k⟩:=h
   refine⟨_,(af (aW (bz cw (hr.mono (by decide)) rfl T.cD T.cI (ae (pv 1) (ae ag (ae gk ak)))))
    (af (aW (bz cw (hr.mono (by decide)) rfl T.cD T.cI (ae (pv 2) (ae ag (ae gk ak)))))
    (af (aW (bz cw (hr.mono (by decide)) rfl T.cD T.cI (ae (pv 3) (ae ag (ae gk ak)))))
    (af (cj (aK Sh (pv 3) (pv 2) (aJ _))
     (ai cX)
     aO)
    (af (aW (JA rfl T.Jo T.jn jg (hr.mono (by decide)) (ae (pv 0) (ae (pv 4) ak))))
    (af (aY (pv 0) (pv 1) rfl)
    (af (aY (pv 0) (pv 2) rfl)
    (ai (aY (pv 0) (pv 3) rfl))))))))),?_⟩
   repeat' (walk_at "rd1")
   simp only [jZ]
   exact k
theorem Rp (T:Txt K mg a):Binds K a.iw ["self","start","step","wide","many"] []:=T.jA.binds fun _ _ _ _ _ _ s us kx hl=>by
 obtain⟨o,n,h1,h2⟩:=T.uz.ex
 have hl:us.length=5:=by simp at hl;omega
 obtain⟨_,_,_,_,_,rfl⟩:=ln5 hl
 exact PySem.W.binds_K kx rfl h1 h2 rfl rfl
theorem Gz (T:Txt K mg a):dE P w K mg base 4 a.b8 ["self","start","step","wide","many"] [] (Dw a.aF Nk N5):=⟨⟨_,_,IK T,Rp T,.nil⟩⟩
def fM (C:Addr):Sp:=fun vs H Q _=>∃v st sp wd m n,vs=[v,.int n]/\kL H v C [("many",m),("start",.int st),("step",.int sp),("wide",.int wd)]/\(-(10^200)<n/\n<10^200)/\(-(10^200)<sp/\sp<10^200)/\∀v' H',ax H H'->Dv H' v' (.tuple [.int (st+n*sp),.int (st+n*sp+wd)])->Q v' H'
theorem Jm {C:Addr} {H:Hp} {Q:VK} {E:XK} {v:V} {st sp wd n:Int} {m:V} (hp:kL H v C [("many",m),("start",.int st),("step",.int sp),("wide",.int wd)]) (h1:-(10^200)<n/\n<10^200) (h2:-(10^200)<sp/\sp<10^200)
 (q:∀v' H',ax H H'->Dv H' v' (.tuple [.int (st+n*sp),.int (st+n*sp+wd)])->Q v' H'):fM C [v,.int n] H Q E:=⟨v,st,sp,wd,m,n,rfl,hp,h1,h2,q⟩
local macro_rules|`(tactic|walk_at "use")=>`(tactic|first|((with_reducible refine' Jm ?e1 ?e2 ?e3 (fun _ _ _ _=>?_));(case e1=>walk_at "ins");(case e2=>walk_at "bd");(case e3=>walk_at "bd"))|fail)
theorem Hc (T:Txt K mg a):aN P w K mg base fF 1 a.aU a.ki ["self","number"] (fM a.aF):=by
 have cl:=T.dz
 have n1:=T.eC;have n2:=T.dZ;have n3:=T.fC
 refine T.gx.ok kh (fun vs H Q E h=>?_) (fun cR A outer s H vs Q E hr h=>?_)
 . obtain⟨_,_,_,_,_,_,rfl,_⟩:=h;rfl
 . obtain⟨v,st,sp,wd,m,n,rfl,hp,b1,b2,k⟩:=h
   refine⟨_,(af (aL (i:=2) kh.nd rfl (Or.inl rfl) (av aM (au (pv 0) rfl) (av md (pv 1) (au (pv 0) rfl))))
    (ai (aC (eG (ae (pv 2) (ae (av aM (pv 2) (au (pv 0) rfl)) ak)))))),?_⟩
   repeat' (walk_at "rd1")
   (refine k _ _ ?_ ?_;walk_at "same";walk_at "dat")
theorem uP (T:Txt K mg a):dE P w K mg base 1 a.aU ["self","number"] [] (fM a.aF):=
 ⟨⟨_,_,Hc T,T.gx.binds fun _ _ _ _ _ _=>dR fun _ _=>rfl,.nil⟩⟩
def FG:Sp:=fun vs H Q _=>∃e s t,vs=[.int e,.int s,.int t]/\0<s/\s<10^200/\Q (.int (steps e s t)) H
theorem Uo {H:Hp} {Q:VK} {E:XK} {e s t:Int} (h1:0<s) (h2:s<10^200) (q:Q (.int (steps e s t)) H):FG [.int e,.int s,.int t] H Q E:=⟨e,s,t,rfl,h1,h2,q⟩
theorem RO (T:Txt K mg a):aN P w K mg base fF 1 a.cU a.y7 ["end","span","now"] FG:=by
 refine T.qM.ok GP (fun vs H Q E h=>?_) (fun cR A outer s H vs Q E hr h=>?_)
 . obtain⟨_,_,_,rfl,_⟩:=h;rfl
 . obtain⟨e,s,t,rfl,h1,h2,k⟩:=h
   refine⟨_,(ai (aC (cm (x9 rfl) rfl T.Ai PyProof.Rows.boot_max (ae ag (ae (av aM (av bN (av eF (pv 2) (pv 0)) (pv 1)) ag) ak))))),?_⟩
   repeat' (walk_at "rd1")
   rename_i x hx hx1 hx2
   have e0:x=steps e s t:=by unfold steps;omega
   subst e0
   exact k
theorem HQ (T:Txt K mg a):dE P w K mg base 1 a.cU ["end","span","now"] [] FG:=
 ⟨⟨_,_,RO T,T.qM.binds fun _ _ _ _ _ _=>wa fun _ _ _=>rfl,.nil⟩⟩
local macro_rules|`(tactic|walk_at "use")=>`(tactic|first|((with_reducible refine' Uo ?e1 ?e2 ?_);(case e1=>omega);(case e2=>omega))|fail)
theorem Kn {e span now:Int} (hs:0<span):now<e+steps e span now*span:=by
 unfold steps
 have h1:=Int.emod_add_mul_ediv (now - e) span
 have h2:=Int.emod_lt_of_pos (now - e) hs
 have h0:=Int.emod_nonneg (now - e) (show span≠0 by omega)
 rcases Int.le_total 0 ((now - e) / span+1) with h|h
 . rw [Int.max_eq_right h,Int.add_mul,Int.one_mul,Int.mul_comm]
   omega
 . rw [Int.max_eq_left h,Int.zero_mul]
   have h3:(now - e) / span<=-1:=by omega
   have h4:=Int.mul_le_mul_of_nonneg_left h3 (show(0:Int)<=span by omega)
   omega
def Li (st sp wd n t:Int):Int:=n+1+steps (st+(n+1)*sp+wd) sp t
def Ls (C:Addr):Sp:=fun vs H Q _=>∃v st sp wd m n s t,vs=[v,.int n,.int s,.int t]/\KZ m/\kL H v C [("many",m),("start",.int st),("step",.int sp),("wide",.int wd)]/\0<=st/\1<=sp/\sp<10^100/\0<=wd/\0<=n/\n<10^100/\t<10^100
 /\∀v' H',ax H H'->Dv H' v' (.tuple [.int (G4 m (Li st sp wd n t)),G7 m (Li st sp wd n t) (.tuple [.int (st+Li st sp wd n t*sp),.int (st+Li st sp wd n t*sp+wd)])])->Q v' H'
theorem Yl (T:Txt K mg a):aN P w K mg base fF 2 a.c7 a.xH ["self","number","last","now"] (Ls a.aF):=by
 have j0:dE P w K mg base 1 a.aU ["self","number"] [] (fM a.aF):=uP T
 have Aj:dE P w K mg base 1 a.aH ["self","number","stretch"] [] (iS a.aF):=Cm T T.dz T.fu
 have rB:=HQ (P:=P) (w:=w) (base:=base) T
 have cl:=T.dz
 have n2:=T.dZ
 have j5:=T.hJ
 have ly:=T.tE
 refine T.ou.ok lM (fun vs H Q E h=>?_) (fun cR A outer s H vs Q E hr h=>?_)
 . obtain⟨_,_,_,_,_,_,_,_,rfl,_⟩:=h;rfl
 . obtain⟨v,st,sp,wd,m,n,sd,t,rfl,ho,hp,h0,h1,h2,h3,h4,h5,h6,k⟩:=h
   have hm:0<=(n+1)*sp:=Int.mul_nonneg (by omega) (by omega)
   have hs0:=CO (e:=st+(n+1)*sp+wd) (span:=sp) (now:=t)
   have hs1:steps (st+(n+1)*sp+wd) sp t<=10^100+1:=JT (by omega) (by omega) (by decide)
   refine⟨_,(af (aL (i:=4) lM.nd rfl (Or.inl rfl) (bB fP (aI (pv 0) cl j5 j0 (hr.mono (by decide)) (ae (av aM (pv 1) ag) ak)) ag (fun _ _=>rfl)))
    (af (aL (i:=5) lM.nd rfl (Or.inl rfl) (av aM (av aM (pv 1) ag) (bz rB (hr.mono (by decide)) rfl T.oi T.oC (ae (pv 4) (ae (au (pv 0) rfl) (ae (pv 3) ak))))))
    (ai (aC (aI (pv 0) cl ly Aj (hr.mono (by decide)) (ae (pv 5) (ae (aI (pv 0) cl j5 j0 (hr.mono (by decide)) (ae (pv 5) ak)) ak))))))),?_⟩
   repeat' (walk_at "rd1")
   (refine k _ _ ?_ ?_;walk_at "same";walk_at "dat")
theorem VY (T:Txt K mg a):dE P w K mg base 2 a.c7 ["self","number","last","now"] [] (Ls a.aF):=
 ⟨⟨_,_,Yl T,T.ou.binds fun _ _ _ _ _ _=>Xn fun _ _ _ _=>rfl,.nil⟩⟩
def Ay (C:Addr):Sp:=fun vs H Q _=>∃v st sp wd m,vs=[v]/\kL H v C [("many",m),("start",.int st),("step",.int sp),("wide",.int wd)]/\(-(10^200)<sp/\sp<10^200)/\∀v' H',ax H H'->Dv H' v' (.tuple [.int st,.int (st+wd)])->Q v' H'
theorem L7 (T:Txt K mg a):aN P w K mg base fF 2 a.dY a.yI ["self"] (Ay a.aF):=by
 have j0:dE P w K mg base 1 a.aU ["self","number"] [] (fM a.aF):=uP T
 have cl:=T.dz
 have j5:=T.hJ
 refine T.qY.ok G1 (fun vs H Q E h=>?_) (fun cR A outer s H vs Q E hr h=>?_)
 . obtain⟨_,_,_,_,_,rfl,_⟩:=h;rfl
 . obtain⟨v,st,sp,wd,m,rfl,hp,b2,k⟩:=h
   refine⟨_,(ai (aC (aI (pv 0) cl j5 j0 (hr.mono (by decide)) (ae ag ak)))),?_⟩
   repeat' (walk_at "rd1")
   rename_i hx
   rw [Int.zero_mul,Int.add_zero] at hx
   (refine k _ _ ?_ ?_;walk_at "same";walk_at "dat")
theorem KO (T:Txt K mg a):dE P w K mg base 2 a.dY ["self"] [] (Ay a.aF):=
 ⟨⟨_,_,L7 T,T.qY.binds fun _ _ _ _ _ _=>kK fun _=>rfl,.nil⟩⟩
def Ge (C:Addr):Sp:=fun vs H Q _=>∃v st sp wd m,vs=[v]/\kL H v C [("many",m),("start",.int st),("step",.int sp),("wide",.int wd)]/\KZ m/\0<=st/\1<=sp/\0<=wd/\wd<sp/\∀v' H',ax H H'->kL H' v' C [("many",m),("start",.int st),("step",.int sp),("wide",.int wd)]->Q v' H'
theorem Rf (T:Txt K mg a):aN P w K mg base fF 6 a.e9 a.C4 ["self"] (Ge a.aF):=by
 have Fw:=Gz (P:=P) (w:=w) (base:=base) T
 have cl:=T.dz
 have n0:=T.fu;have n1:=T.eC;have n2:=T.dZ;have n3:=T.fC
 refine T.wL.ok Jl (fun vs H Q E h=>?_) (fun cR A outer s H vs Q E hr h=>?_)
 . obtain⟨_,_,_,_,_,rfl,_⟩:=h;rfl
 . obtain⟨v,st,sp,wd,m,rfl,hp,ho,h0,h1,h2,h3,k⟩:=h
   refine⟨_,(ai (aC (x8 T.MG Fw (hr.mono (by decide)) rfl T.Js (ae (au (pv 0) rfl) (ae (au (pv 0) rfl) (ae (au (pv 0) rfl) (ae (au (pv 0) rfl) ak))))))),?_⟩
   repeat' (walk_at "rd1")
   . exact⟨_,_,_,_,rfl,by omega,by omega,by omega,by omega,ho⟩
   . rename_i hi
     exact k _ _ (by walk_at "same") hi
theorem OX (T:Txt K mg a):dE P w K mg base 6 a.e9 ["self"] [] (Ge a.aF):=
 ⟨⟨_,_,Rf T,T.wL.binds fun _ _ _ _ _ _=>kK fun _=>rfl,.nil⟩⟩
def Hu (args:List V):Prop:=∃st gp wd m,args=[.int st,.int gp,.int wd,m]/\0<=st/\1<=gp/\0<=wd/\KZ m
theorem F8 {C:Addr} (T:Txt K mg a) (cl:uK K C) (n0:aE K C "many") (n1:aE K C "start") (n2:aE K C "gap") (n3:aE K C "wide"):aN P w K mg base fF 4 a.bo a.gq ["self","start","gap","wide","many"] (Dw C Hu Fm):=by
 have cw:dE P w K mg base 2 a.bA ["number","least","what"] [] pA:=la T
 have jg:dE P w K mg base 3 a.a0 ["self","many"] [] (hU C):=zi T cl n0
 refine T.gY.ok Av (fun vs H Q E h=>?_) (fun cR A outer s H vs Q E hr h=>?_)
 . obtain⟨_,_,_,rfl,⟨_,_,_,_,rfl,_⟩,_⟩:=h;rfl
 . obtain⟨p,dx,args,rfl,⟨st,gp,wd,m,rfl,h0,h1,h2,hm⟩,hp,k⟩:=h
   refine⟨_,(af (aW (bz cw (hr.mono (by decide)) rfl T.cD T.cI (ae (pv 1) (ae ag (ae gk ak)))))
    (af (aW (bz cw (hr.mono (by decide)) rfl T.cD T.cI (ae (pv 2) (ae ag (ae gk ak)))))
    (af (aW (bz cw (hr.mono (by decide)) rfl T.cD T.cI (ae (pv 3) (ae ag (ae gk ak)))))
    (af (aW (JA rfl T.Jo T.jn jg (hr.mono (by decide)) (ae (pv 0) (ae (pv 4) ak))))
    (af (aY (pv 0) (pv 1) rfl)
    (af (aY (pv 0) (pv 2) rfl)
    (ai (aY (pv 0) (pv 3) rfl)))))))),?_⟩
   repeat' (walk_at "rd1")
   simp only [jZ]
   exact k
theorem Ms (T:Txt K mg a):Binds K a.gq ["self","start","gap","wide","many"] []:=T.gY.binds fun _ _ _ _ _ _ s us kx hl=>by
 obtain⟨o,n,h1,h2⟩:=T.mM.ex
 have hl:us.length=5:=by simp at hl;omega
 obtain⟨_,_,_,_,_,rfl⟩:=ln5 hl
 exact PySem.W.binds_K kx rfl h1 h2 rfl rfl
theorem Cr (T:Txt K mg a):dE P w K mg base 4 a.bo ["self","start","gap","wide","many"] [] (Dw a.az Hu Fm):=⟨⟨_,_,F8 T T.b4 T.dB T.cT T.eo T.bU,Ms T,.nil⟩⟩
def AO (C:Addr) (fs:List (Str × V)) (st wd:Int):Sp:=fun vs H Q _=>∃v,vs=[v]/\kL H v C fs/\∀v' H',ax H H'->Dv H' v' (.tuple [.int st,.int (st+wd)])->Q v' H'
theorem Ho {C:Addr} {fs:List (Str × V)} {st wd:Int} {H:Hp} {Q:VK} {E:XK} {v:V} (hp:kL H v C fs) (q:∀v' H',ax H H'->Dv H' v' (.tuple [.int st,.int (st+wd)])->Q v' H'):AO C fs st wd [v] H Q E:=⟨v,rfl,hp,q⟩
local macro_rules|`(tactic|walk_at "use")=>`(tactic|first|((with_reducible refine' Ho ?e (fun _ _ _ _=>?_));(case e=>walk_at "ins"))|fail)
theorem MP {C:Addr} {fs:List (Str × V)} {st wd:Int} (T:Txt K mg a) (cl:uK K C) (n1:aE K C "start") (n3:aE K C "wide") (l1:fs.lookup ("start":Str)=some (.int st)) (l2:fs.lookup ("wide":Str)=some (.int wd)):
 aN P w K mg base fF 1 a.cL a.tQ ["self"] (AO C fs st wd):=by
 refine T.kW.ok EY (fun vs H Q E h=>?_) (fun cR A outer s H vs Q E hr h=>?_)
 . obtain⟨_,rfl,_⟩:=h;rfl
 . obtain⟨v,rfl,hp,k⟩:=h
   refine⟨_,(ai (aC (eG (ae (au (pv 0) rfl) (ae (av aM (au (pv 0) rfl) (au (pv 0) rfl)) ak))))),?_⟩
   repeat' (walk_at "rd1")
   (refine k _ _ ?_ ?_;walk_at "same";walk_at "dat")
structure BIx where
 st:Int
 gp:Int
 wd:Int
 m:V
 ho:KZ m
abbrev fB (i:BIx):List (Str × V):=[("many",i.m),("start",.int i.st),("gap",.int i.gp),("wide",.int i.wd)]
def D7 (C:Addr):Sp:=fun vs H Q E=>∃i:BIx,AO C (fB i) i.st i.wd vs H Q E
theorem Jt (T:Txt K mg a):dE P w K mg base 1 a.cL ["self"] [] (D7 a.az):=
 ⟨⟨_,_,aN.ex fun i:BIx=>MP T T.b4 T.cT T.bU (by walk_at "lk") (by walk_at "lk"),T.kW.binds fun _ _ _ _ _ _=>kK fun _=>rfl,.nil⟩⟩
def FI (C:Addr):Sp:=fun vs H Q _=>∃v st gp wd m,vs=[v]/\kL H v C [("many",m),("start",.int st),("gap",.int gp),("wide",.int wd)]/\KZ m/\0<=st/\1<=gp/\0<=wd/\∀v' H',ax H H'->kL H' v' C [("many",m),("start",.int st),("gap",.int gp),("wide",.int wd)]->Q v' H'
theorem Rq (T:Txt K mg a):aN P w K mg base fF 6 a.de a.wC ["self"] (FI a.az):=by
 have Aq:=Cr (P:=P) (w:=w) (base:=base) T
 have cl:=T.b4
 have n0:=T.dB;have n1:=T.cT;have n2:=T.eo;have n3:=T.bU
 refine T.oN.ok Fy (fun vs H Q E h=>?_) (fun cR A outer s H vs Q E hr h=>?_)
 . obtain⟨_,_,_,_,_,rfl,_⟩:=h;rfl
 . obtain⟨v,st,gp,wd,m,rfl,hp,ho,h0,h1,h2,k⟩:=h
   refine⟨_,(ai (aC (x8 T.FE Aq (hr.mono (by decide)) rfl T.DS (ae (au (pv 0) rfl) (ae (au (pv 0) rfl) (ae (au (pv 0) rfl) (ae (au (pv 0) rfl) ak))))))),?_⟩
   repeat' (walk_at "rd1")
   . exact⟨_,_,_,_,rfl,by omega,by omega,by omega,ho⟩
   . rename_i hi
     exact k _ _ (by walk_at "same") hi
theorem Ou (T:Txt K mg a):dE P w K mg base 6 a.de ["self"] [] (FI a.az):=
 ⟨⟨_,_,Rq T,T.oN.binds fun _ _ _ _ _ _=>kK fun _=>rfl,.nil⟩⟩
def Jz (C:Addr) (fs:List (Str × V)) (wd:Int) (m:V):Sp:=fun vs H Q _=>∃v n e g t,vs=[v,.int n,.int e,.int g,.int t]/\kL H v C fs/\1<=g/\g<10^101/\0<=wd/\wd<10^101/\t - e<10^110
 /\∀v' H',ax H H'->Dv H' v' (.tuple [.int (G4 m (n+steps e (g+wd) t)),G7 m (n+steps e (g+wd) t) (.tuple [.int (e+steps e (g+wd) t*(g+wd) - wd),.int (e+steps e (g+wd) t*(g+wd))])])->Q v' H'
theorem Yh {C:Addr} {fs:List (Str × V)} {wd:Int} {m:V} {H:Hp} {Q:VK} {E:XK} {v:V} {n e g t:Int} (hp:kL H v C fs) (h1:1<=g) (h2:g<10^101) (h3:0<=wd) (h4:wd<10^101) (h5:t - e<10^110)
 (q:∀v' H',ax H H'->Dv H' v' (.tuple [.int (G4 m (n+steps e (g+wd) t)),G7 m (n+steps e (g+wd) t) (.tuple [.int (e+steps e (g+wd) t*(g+wd) - wd),.int (e+steps e (g+wd) t*(g+wd))])])->Q v' H'):Jz C fs wd m [v,.int n,.int e,.int g,.int t] H Q E:=⟨v,n,e,g,t,rfl,hp,h1,h2,h3,h4,h5,q⟩
local macro_rules|`(tactic|walk_at "use")=>`(tactic|((with_reducible refine' Yh ?e1 ?e2 ?e3 ?e4 ?e5 ?e6 (fun _ _ _ _=>?_));(case e1=>walk_at "ins");(case e2=>omega);(case e3=>omega);(case e4=>omega);(case e5=>omega);(case e6=>omega)))
theorem VX {C:Addr} {fs:List (Str × V)} {wd:Int} {m:V} (T:Txt K mg a) (cl:uK K C) (n0:aE K C "many") (n3:aE K C "wide") (ly:Meth K C "place_of" a.aH) (ho:KZ m) (l1:fs.lookup ("many":Str)=some m) (l2:fs.lookup ("wide":Str)=some (.int wd)) (l4:fs.lookup ("place_of":Str)=none):
 aN P w K mg base fF 2 a.dh a.vX ["self","number","end","gap","now"] (Jz C fs wd m):=by
 have Aj:dE P w K mg base 1 a.aH ["self","number","stretch"] [] (iS C):=Cm T cl n0
 have rB:=HQ (P:=P) (w:=w) (base:=base) T
 refine T.oF.ok gP (fun vs H Q E h=>?_) (fun cR A outer s H vs Q E hr h=>?_)
 . obtain⟨_,_,_,_,_,rfl,_⟩:=h;rfl
 . obtain⟨v,n,e,g,t,rfl,hp,h1,h2,h3,h4,h5,k⟩:=h
   have hs0:=CO (e:=e) (span:=g+wd) (now:=t)
   have hs1:steps e (g+wd) t<=10^110+1:=JT (by omega) (by omega) (by decide)
   refine⟨_,(af (aL (i:=5) gP.nd rfl (Or.inl rfl) (av aM (pv 3) (au (pv 0) rfl)))
    (af (aL (i:=6) gP.nd rfl (Or.inl rfl) (bz rB (hr.mono (by decide)) rfl T.oi T.oC (ae (pv 2) (ae (pv 5) (ae (pv 4) ak)))))
    (af (aL (i:=2) gP.nd rfl (Or.inl rfl) (av aM (pv 2) (av md (pv 6) (pv 5))))
    (ai (aC (aI (pv 0) cl ly Aj (hr.mono (by decide)) (ae (av aM (pv 1) (pv 6)) (ae (eG (ae (av eF (pv 2) (au (pv 0) rfl)) (ae (pv 2) ak))) ak)))))))),?_⟩
   repeat' (walk_at "rd1")
   (refine k _ _ ?_ ?_;walk_at "same";walk_at "dat")
theorem Tw {C:Addr} {fs:List (Str × V)} {wd:Int} {m:V} (T:Txt K mg a) (cl:uK K C) (n0:aE K C "many") (n3:aE K C "wide") (ly:Meth K C "place_of" a.aH) (ho:KZ m) (l1:fs.lookup ("many":Str)=some m) (l2:fs.lookup ("wide":Str)=some (.int wd)) (l4:fs.lookup ("place_of":Str)=none):
 dE P w K mg base 2 a.dh ["self","number","end","gap","now"] [] (Jz C fs wd m):=
 ⟨⟨_,_,VX T cl n0 n3 ly ho l1 l2 l4,T.oF.binds fun _ _ _ _ _ _=>acC fun _ _ _ _ _=>rfl,.nil⟩⟩
def WV (gp wd n s t:Int):Int:=n+1+steps (s+gp+wd) (gp+wd) t
def W2 (gp wd s t:Int):Int:=s+gp+wd+steps (s+gp+wd) (gp+wd) t*(gp+wd)
def MF (C:Addr):Sp:=fun vs H Q _=>∃v st gp wd m n s t,vs=[v,.int n,.int s,.int t]/\KZ m/\kL H v C [("many",m),("start",.int st),("gap",.int gp),("wide",.int wd)]/\1<=gp/\gp<10^50/\0<=wd/\wd<10^50/\t - s<10^80
 /\∀v' H',ax H H'->Dv H' v' (.tuple [.int (G4 m (WV gp wd n s t)),G7 m (WV gp wd n s t) (.tuple [.int (W2 gp wd s t - wd),.int (W2 gp wd s t)])])->Q v' H'
theorem Yb (T:Txt K mg a):aN P w K mg base fF 3 a.cf a.qy ["self","number","last","now"] (MF a.az):=by
 refine T.jz.ok De (fun vs H Q E h=>?_) (fun cR A outer s H vs Q E hr h=>?_)
 . obtain⟨_,_,_,_,_,_,_,_,rfl,_⟩:=h;rfl
 . obtain⟨v,st,gp,wd,m,n,s',t,rfl,ho,hp,h1,h2,h3,h4,h5,k⟩:=h
   have XB:=Tw (P:=P) (w:=w) (base:=base) (C:=a.az) (fs:=[("many",m),("start",.int st),("gap",.int gp),("wide",.int wd)]) (wd:=wd) (m:=m) T T.b4 T.dB T.bU T.lW ho (by walk_at "lk") (by walk_at "lk") (by walk_at "lk")
   have cl:=T.b4
   have n2:=T.eo
   have n3:=T.bU
   have Yp:=T.yq
   refine⟨_,(ai (aC (aI (pv 0) cl Yp XB (hr.mono (by decide)) (ae (av aM (pv 1) ag) (ae (av aM (av aM (pv 2) (au (pv 0) rfl)) (au (pv 0) rfl)) (ae (au (pv 0) rfl) (ae (pv 3) ak))))))),?_⟩
   repeat' (walk_at "rd1")
   (refine k _ _ ?_ ?_;walk_at "same";walk_at "dat")
theorem Ut (T:Txt K mg a):dE P w K mg base 3 a.cf ["self","number","last","now"] [] (MF a.az):=
 ⟨⟨_,_,Yb T,T.jz.binds fun _ _ _ _ _ _=>Xn fun _ _ _ _=>rfl,.nil⟩⟩
inductive RU where
 |each (st sp wd:Int) (m:V)
 |behind (st gp wd:Int) (m:V)
def mny:RU->V
 | .each _ _ _ m=>m
 | .behind _ _ _ m=>m
def qF (a:Ad) (H:Hp) (v:V):RU->Prop
 | .each st sp wd m=>kL H v a.aF [("many",m),("start",.int st),("step",.int sp),("wide",.int wd)]/\KZ m/\0<=st/\st<10^50/\1<=sp/\sp<10^50/\0<=wd/\wd<sp
 | .behind st gp wd m=>kL H v a.az [("many",m),("start",.int st),("gap",.int gp),("wide",.int wd)]/\KZ m/\0<=st/\1<=gp/\gp<10^50/\0<=wd/\wd<10^50
theorem qF.keeps {H H':Hp} {v:V} {r:RU} (s:ax H H') (h:qF a H v r):qF a H' v r:=by
 cases r <;>exact⟨kL.keeps s h.1,h.2⟩
theorem qF.fr {cs S:List Addr} {H H':Hp} {v:V} {r:RU} (f:Fr cs S H H')
 (nE:a.aF∉cs)
 (nB:a.az∉cs)
 (h:qF a H v r):qF a H' v r:=by
 cases r with
 |each=>exact⟨f.ins nE h.1,h.2⟩
 |behind=>exact⟨f.ins nB h.1,h.2⟩
local macro_rules|`(tactic|walk_at "ris")=>`(tactic|first|(refine' qF.keeps ?s ?m;(case s=>assumption);(case m=>walk_at "ris"))|fail)
set_option hygiene false in
local macro_rules|`(tactic|walk_at "ris")=>`(tactic|first|assumption|fail)
def pD (p:Int × Int):PyData:=.tuple [.int p.1,.int p.2]
def Rv:Option (Int × Int)->PyData
 |none=>.none
 |some p=>pD p
def lR (m:V) (k:Int) (p:Int × Int):Int × Option (Int × Int):=match m with
 | .int i=>if i<=k then (i,none) else (k,some p)
 |_=>(k,some p)
theorem RA {m:V} {k x y:Int}:PyData.tuple [.int (G4 m k),G7 m k (.tuple [.int x,.int y])]=.tuple [.int (lR m k (x,y)).1,Rv (lR m k (x,y)).2]:=by
 cases m with
 |int i=>
  by_cases h:i<=k
  . rw [N6 h,NV h];simp [lR,h,Rv]
  . rw [NM h,N0 h];simp [lR,h,Rv,pD]
 |_=>rfl
def Dy:RU->Int × Int
 | .each st _ wd _=>(st,st+wd)
 | .behind st _ wd _=>(st,st+wd)
def K2:RU->Int->Int->Int->Int × Option (Int × Int)
 | .each st sp wd m,n,_,t=>lR m (Li st sp wd n t) (st+Li st sp wd n t*sp,st+Li st sp wd n t*sp+wd)
 | .behind _ gp wd m,n,s,t=>lR m (WV gp wd n s t) (W2 gp wd s t - wd,W2 gp wd s t)
theorem Z2 {r:RU} {n s t x y:Int} {H:Hp} {v:V} (h:qF a H v r) (e:(K2 r n s t).2=some (x,y)):t<y/\x<=y/\n<(K2 r n s t).1:=by
 have key:∀{m:V} {k:Int} {p:Int × Int},(lR m k p).2=some (x,y)->p=(x,y)/\(lR m k p).1=k:=by
  intro m k p e
  cases m with
  |int i=>
   by_cases h:i<=k
   . simp [lR,h] at e
   . simp only [lR,if_neg h] at e ⊢
     exact⟨Option.some.inj e,trivial⟩
  |_=>exact⟨Option.some.inj e,rfl⟩
 cases r with
 |each st sp wd m=>
  obtain⟨_,_,_,_,h1,_,h2,_⟩:=h
  obtain⟨e1,e2⟩:=key e
  have g:=Kn (e:=st+(n+1)*sp+wd) (span:=sp) (now:=t) (by omega)
  have hn:=CO (e:=st+(n+1)*sp+wd) (span:=sp) (now:=t)
  have e3:Li st sp wd n t*sp=(n+1)*sp+steps (st+(n+1)*sp+wd) sp t*sp:=Int.add_mul _ _ _
  cases e1
  refine⟨by omega,by omega,?_⟩
  show n<(lR m (Li st sp wd n t) _).1
  rw [e2]
  unfold Li
  omega
 |behind st gp wd m=>
  obtain⟨_,_,_,h1,_,h2,_⟩:=h
  obtain⟨e1,e2⟩:=key e
  have g:=Kn (e:=s+gp+wd) (span:=gp+wd) (now:=t) (by omega)
  have hn:=CO (e:=s+gp+wd) (span:=gp+wd) (now:=t)
  cases e1
  refine⟨g,by omega,?_⟩
  show n<(lR m (WV gp wd n s t) _).1
  rw [e2]
  unfold WV
  omega
section
variable {H:Hp} {Q:VK} {E:XK} {v:V} {st sp gp mo wd f l n s t:Int} {m:V}
theorem abR (h:qF a H v (.each st sp wd m)) (q:∀v' H',ax H H'->Dv H' v' (pD (Dy (.each st sp wd m)))->Q v' H'):Ay a.aF [v] H Q E:=by
 obtain⟨hp,ho,r0,r1,r2,r3,r4,r5⟩:=h
 exact⟨v,st,sp,wd,m,rfl,hp,⟨by omega,by omega⟩,q⟩
theorem abQ (h:qF a H v (.each st sp wd m)) (q:∀v' H',ax H H'->qF a H' v' (.each st sp wd m)->Q v' H'):Ge a.aF [v] H Q E:=by
 obtain⟨hp,ho,r0,r1,r2,r3,r4,r5⟩:=h
 exact⟨v,st,sp,wd,m,rfl,hp,ho,r0,r2,r4,r5,fun v' H' s' i=>q v' H' s' ⟨i,ho,r0,r1,r2,r3,r4,r5⟩⟩
theorem abW (h:qF a H v (.each st sp wd m)) (h1:0<=n) (h2:n<10^99) (h3:t<10^80) (q:∀v' H',ax H H'->Dv H' v' (.tuple [.int (K2 (.each st sp wd m) n s t).1,Rv (K2 (.each st sp wd m) n s t).2])->Q v' H'):Ls a.aF [v,.int n,.int s,.int t] H Q E:=by
 obtain⟨hp,ho,r0,r1,r2,r3,r4,r5⟩:=h
 exact⟨v,st,sp,wd,m,n,s,t,rfl,ho,hp,r0,r2,by omega,r4,h1,by omega,by omega,fun v' H' s' d=>q v' H' s' (by rw [RA] at d;exact d)⟩
theorem abk (h:qF a H v (.behind st gp wd m)) (q:∀v' H',ax H H'->Dv H' v' (pD (Dy (.behind st gp wd m)))->Q v' H'):D7 a.az [v] H Q E:=by
 obtain⟨hp,ho,_⟩:=h
 exact⟨⟨st,gp,wd,m,ho⟩,Ho hp q⟩
theorem ace (h:qF a H v (.behind st gp wd m)) (q:∀v' H',ax H H'->qF a H' v' (.behind st gp wd m)->Q v' H'):FI a.az [v] H Q E:=by
 obtain⟨hp,ho,r⟩:=h
 exact⟨v,st,gp,wd,m,rfl,hp,ho,r.1,r.2.1,r.2.2.2.1,fun v' H' s' i=>q v' H' s' ⟨i,ho,r⟩⟩
theorem acd (h:qF a H v (.behind st gp wd m)) (h3:t - s<10^80) (q:∀v' H',ax H H'->Dv H' v' (.tuple [.int (K2 (.behind st gp wd m) n s t).1,Rv (K2 (.behind st gp wd m) n s t).2])->Q v' H'):MF a.az [v,.int n,.int s,.int t] H Q E:=by
 obtain⟨hp,ho,r0,r1,r2,r3,r4⟩:=h
 exact⟨v,st,gp,wd,m,n,s,t,rfl,ho,hp,r1,r2,r3,r4,h3,fun v' H' s' d=>q v' H' s' (by rw [RA] at d;exact d)⟩
end
local macro_rules|`(tactic|walk_at "use")=>`(tactic|first|((with_reducible refine' acd ?e ?e3 (fun _ _ _ _=>?_));(case e=>walk_at "ris");(case e3=>omega))|fail)
local macro_rules|`(tactic|walk_at "use")=>`(tactic|first|((with_reducible refine' ace ?e (fun _ _ _ _=>?_));case e=>walk_at "ris")|fail)
local macro_rules|`(tactic|walk_at "use")=>`(tactic|first|((with_reducible refine' abk ?e (fun _ _ _ _=>?_));case e=>walk_at "ris")|fail)
local macro_rules|`(tactic|walk_at "use")=>`(tactic|first|((with_reducible refine' abW ?e ?e1 ?e2 ?e3 (fun _ _ _ _=>?_));(case e=>walk_at "ris");(case e1=>omega);(case e2=>omega);(case e3=>omega))|fail)
local macro_rules|`(tactic|walk_at "use")=>`(tactic|first|((with_reducible refine' abQ ?e (fun _ _ _ _=>?_));case e=>walk_at "ris")|fail)
local macro_rules|`(tactic|walk_at "use")=>`(tactic|first|((with_reducible refine' abR ?e (fun _ _ _ _=>?_));case e=>walk_at "ris")|fail)
local macro_rules|`(tactic|walk_at "rd1")=>`(tactic|first|((with_reducible refine WC ?_);(with_reducible refine Ic ?_);(with_reducible refine Xw ?_);((with_reducible refine' KU ?e ?_);case e=>exact rfl);((with_reducible refine' Rj ?e1 ?e2 ?e3 ?e4 ?_);(case e1=>walk_at "at");(case e2=>assumption);(case e3=>assumption);(case e4=>walk_at "lk"));((with_reducible refine' IL ?e1 ?e2 ?_);(case e1=>walk_at "ins");(case e2=>walk_at "lk")))|fail)
def AW (ts:List (Str × Int)):List (Str × PyData):=ts.map fun x=>(x.1,.int x.2)
structure Dt (C:Addr) (H:Hp) (v:V) (d:Addr) (n:Int) (ts:List (Str × Int)):Prop where
 ins:kL H v C [("now",.int n),("times",.ref d)]
 dat:uH H d (AW ts)
theorem Dt.keeps {C:Addr} {H H':Hp} {v:V} {d:Addr} {n:Int} {ts:List (Str × Int)} (s:ax H H') (h:Dt C H v d n ts):Dt C H' v d n ts:=⟨h.ins.keeps s,h.dat.keeps s⟩
theorem M9 (ts:List (Str × Int)):(AW ts).length=ts.length:=List.length_map ..
def xW:Sp:=fun vs H Q _=>∃v n t,vs=[v,n,t]/\Q .aQ H
theorem UE {H:Hp} {Q:VK} {E:XK} {v n t:V} (q:Q .aQ H):xW [v,n,t] H Q E:=⟨v,n,t,rfl,q⟩
set_option hygiene false in
local macro_rules|`(tactic|walk_at "use")=>`(tactic|first|with_reducible refine UE ?_|fail)
theorem Sz (T:Txt K mg a):aN P w K mg base fF 1 a.fe a.C3 ["self","name","time"] xW:=by
 refine T.v8.ok Jk (fun vs H Q E h=>?_) (fun cR A outer s H vs Q E hr h=>?_)
 . obtain⟨_,_,_,rfl,_⟩:=h;rfl
 . obtain⟨v,n,t,rfl,q⟩:=h
   refine⟨_,(ai Ni),?_⟩
   repeat' (walk_at "rd1")
   exact q
theorem PY (T:Txt K mg a):dE P w K mg base 1 a.fe ["self","name","time"] [] xW:=
 ⟨⟨_,_,Sz T,T.v8.binds fun _ _ _ _ _ _=>wa fun _ _ _=>rfl,.nil⟩⟩
theorem Tt {m:List (Str × PyData)} {k:Str} {d:PyData} (h:yj m k=none):putD m k d=m++[(k,d)]:=by
 unfold putD
 rw [if_neg]
 unfold yj at h
 rw [Option.map_eq_none_iff,List.find?_eq_none] at h
 simp only [List.any_eq_true,not_exists,not_and]
 exact h
theorem Fh {C d:Addr} {H H':Hp} {v:V} {fs:List (Str × V)} {m:List (Str × PyData)} (h:kL H v C fs) (hd:uH H d m) (mv:Mv [d] H H'):kL H' v C fs:=by
 obtain⟨p,dx,rfl,e⟩:=h
 obtain⟨kvs,e2,_⟩:=hd
 exact⟨p,dx,rfl,mv.at (by simpa using lj e e2 (by intro y;cases y)) e⟩
def MH (C:Addr):Sp:=fun vs H Q _=>∃v d n ts x t,vs=[v,.str x,.int t]/\Dt C H v d n ts/\ts.length<=100/\yj (AW ts) x=none/\n<t/\∀H',Mv [d] H H'->Dt C H' v d n (ts++[(x,t)])->Q .aQ H'
theorem aa6 {C:Addr} {H:Hp} {Q:VK} {E:XK} {v:V} {d:Addr} {n t:Int} {ts:List (Str × Int)} {x:Str} (h:Dt C H v d n ts) (hl:ts.length<=100) (hx:yj (AW ts) x=none) (ht:n<t) (q:∀H',Mv [d] H H'->Dt C H' v d n (ts++[(x,t)])->Q .aQ H'):MH C [v,.str x,.int t] H Q E:=⟨v,d,n,ts,x,t,rfl,h,hl,hx,ht,q⟩
theorem XU (T:Txt K mg a):aN P w K mg base fF 2 a.dS a.Bl ["self","name","time"] (MH a.aD):=by
 have n1:=T.di;have n2:=T.bp;have cl:=T.cQ
 have Vk:=T.Ej
 have VJ:=PY (P:=P) (w:=w) (base:=base) T
 refine T.wH.ok Iq (fun vs H Q E h=>?_) (fun cR A outer s H vs Q E hr h=>?_)
 . obtain⟨_,_,_,_,_,_,rfl,_⟩:=h;rfl
 . obtain⟨v,d,n,ts,x,t,rfl,hw,hl,hx,ht,q⟩:=h
   have hi:=hw.ins;have hd:=hw.dat
   have hml:=M9 ts
   refine⟨_,(af (cj (Lk (SR (Er hr) (pv 1) (au (pv 0) rfl)) rfl)
    (ai cX)
    aO)
    (af (cj (aK Q5 (pv 2) (au (pv 0) rfl) (aJ _))
     (ai cX)
     aO)
    (af (NS (Er hr) (au (pv 0) rfl) (pv 1) (pv 2) rfl)
    (ai (aW (aI (pv 0) cl Vk VJ (hr.mono (by decide)) (ae (pv 1) (ae (pv 2) ak)))))))),?_⟩
   repeat' (walk_at "rd1")
   . rename_i o e hb
     rw [e,hx] at hb
     cases hb
   . rename_i o e hb1 hb2 H2 uL hd2
     have G8:=Fh hi hd uL
     rw [Tt hx] at hd2
     repeat' (walk_at "rd1")
     exact q _ uL ⟨G8,by unfold AW at hd2 ⊢;rw [List.map_append];exact hd2⟩
theorem VG (T:Txt K mg a):dE P w K mg base 2 a.dS ["self","name","time"] [] (MH a.aD):=
 ⟨⟨_,_,XU T,T.wH.binds fun _ _ _ _ _ _=>wa fun _ _ _=>rfl,.nil⟩⟩
theorem Sl (T:Txt K mg a):aN P w K mg base fF 1 a.fb a.BL ["self","name","time"] xW:=by
 refine T.xi.ok Ii (fun vs H Q E h=>?_) (fun cR A outer s H vs Q E hr h=>?_)
 . obtain⟨_,_,_,rfl,_⟩:=h;rfl
 . obtain⟨v,n,t,rfl,q⟩:=h
   refine⟨_,(ai Ni),?_⟩
   repeat' (walk_at "rd1")
   exact q
theorem Qd (T:Txt K mg a):dE P w K mg base 1 a.fb ["self","name","time"] [] xW:=
 ⟨⟨_,_,Sl T,T.xi.binds fun _ _ _ _ _ _=>wa fun _ _ _=>rfl,.nil⟩⟩
def DU (C:Addr):Sp:=fun vs H Q _=>∃v d n ts x t,vs=[v,.str x]/\Dt C H v d n ts/\yj (AW ts) x=some (.int t)/\Q .aQ H
theorem Sg {C:Addr} {H:Hp} {Q:VK} {E:XK} {v:V} {d:Addr} {n t:Int} {ts:List (Str × Int)} {x:Str} (h:Dt C H v d n ts) (hx:yj (AW ts) x=some (.int t)) (q:Q .aQ H):DU C [v,.str x] H Q E:=⟨v,d,n,ts,x,t,rfl,h,hx,q⟩
theorem O0 (T:Txt K mg a):aN P w K mg base fF 1 a.aS a.iQ ["self","name"] (DU a.aD):=by
 have n2:=T.bp;have cl:=T.cQ
 refine T.fG.ok v9 (fun vs H Q E h=>?_) (fun cR A outer s H vs Q E hr h=>?_)
 . obtain⟨_,_,_,_,_,_,rfl,_⟩:=h;rfl
 . obtain⟨v,d,n,ts,x,t,rfl,hw,hx,q⟩:=h
   have hi:=hw.ins;have hd:=hw.dat
   refine⟨_,(ai (cj (Lk (PX (Er hr) (pv 1) (au (pv 0) rfl)) rfl)
    (ai cX)
    aO)),?_⟩
   repeat' (walk_at "rd1")
   . rename_i o e hb
     rw [e,hx] at hb
     cases hb
   . exact q
theorem L3 (T:Txt K mg a):dE P w K mg base 1 a.aS ["self","name"] [] (DU a.aD):=
 ⟨⟨_,_,O0 T,T.fG.binds fun _ _ _ _ _ _=>dR fun _ _=>rfl,.nil⟩⟩
def F9 (C:Addr):Sp:=fun vs H Q _=>∃v d n ts x t,vs=[v,.str x]/\Dt C H v d n ts/\yj (AW ts) x=some (.int t)/\∀H',Mv [d] H H'->Dt C H' v d n (ts.filter fun y=>decide (y.1≠x))->∀z,Q z H'
theorem T8 {C:Addr} {H:Hp} {Q:VK} {E:XK} {v:V} {d:Addr} {n t:Int} {ts:List (Str × Int)} {x:Str} (h:Dt C H v d n ts) (hx:yj (AW ts) x=some (.int t)) (q:∀H',Mv [d] H H'->Dt C H' v d n (ts.filter fun y=>decide (y.1≠x))->∀z,Q z H'):F9 C [v,.str x] H Q E:=⟨v,d,n,ts,x,t,rfl,h,hx,q⟩
theorem Rm (T:Txt K mg a):aN P w K mg base fF 2 a.cY a.zY ["self","name"] (F9 a.aD):=by
 have n1:=T.di;have n2:=T.bp;have cl:=T.cQ
 have U9:=T.EG;have GZ:=T.nC
 have Uv:=Qd (P:=P) (w:=w) (base:=base) T
 have GW:=L3 (P:=P) (w:=w) (base:=base) T
 refine T.rG.ok yt (fun vs H Q E h=>?_) (fun cR A outer s H vs Q E hr h=>?_)
 . obtain⟨_,_,_,_,_,_,rfl,_⟩:=h;rfl
 . obtain⟨v,d,n,ts,x,t,rfl,hw,hx,q⟩:=h
   have hi:=hw.ins;have hd:=hw.dat
   refine⟨_,(af (aW (aI (pv 0) cl GZ GW (hr.mono (by decide)) (ae (pv 1) ak)))
    (af (aL (i:=2) yt.nd rfl (Or.inl rfl) (Kc PySem.F.plainAttrs_dict PySem.F.slot_dict_pop PySem.F.type_dict_pop JB (au (pv 0) rfl) (ae (pv 1) ak)))
    (af (aW (aI (pv 0) cl U9 Uv (hr.mono (by decide)) (ae (pv 1) (ae (pv 2) ak))))
    (ai (aC (pv 2)))))),?_⟩
   repeat' (walk_at "rd1")
   refine Sg hw hx ?_
   repeat' (walk_at "rd1")
   refine Wz hd ?_
   repeat' (walk_at "rd1")
   refine QY hd hx (fun v6 H6 mv6 hd6=>?_)
   have hi6:=Fh hi hd mv6
   repeat' (walk_at "rd1")
   refine q _ mv6 ⟨hi6,?_⟩ _
   have e:AW (ts.filter fun y=>decide (y.1≠x))=Eo (AW ts) x:=by
    unfold Eo AW
    rw [List.filter_map];rfl
   rw [e];exact hd6
theorem OH (T:Txt K mg a):dE P w K mg base 2 a.cY ["self","name"] [] (F9 a.aD):=
 ⟨⟨_,_,Rm T,T.rG.binds fun _ _ _ _ _ _=>dR fun _ _=>rfl,.nil⟩⟩
def FV (C:Addr):Sp:=fun vs H Q _=>∃p dx n,vs=[.ref p,.int n]/\H p=some (.ins C dx [])/\∀H' d,Mv [p] H H'->H d=none->Dt C H' (.ref p) d n []->Q .aQ H'
theorem Rx (T:Txt K mg a):aN P w K mg base fF 1 a.bh a.nS ["self","now"] (FV a.aD):=by
 have n1:=T.di;have n2:=T.bp;have cl:=T.cQ
 refine T.ik.ok Cw (fun vs H Q E h=>?_) (fun cR A outer s H vs Q E hr h=>?_)
 . obtain⟨_,_,_,rfl,_⟩:=h;rfl
 . obtain⟨p,dx,n,rfl,hp,q⟩:=h
   refine⟨_,(af (aY (pv 0) (pv 1) rfl)
    (ai (aY (pv 0) Bj rfl))),?_⟩
   repeat' (walk_at "rd1")
   rename_i d H2 C5 DV hd2
   have Kj:Mv [p] H (upd H p (.ins a.aD dx [("now",.int n)])):=.bq hp (by intro _ z;cases z)
   have e2:=C5 p _ ao
   have uL:Mv [p] H2 (upd H2 p (.ins a.aD dx [("now",.int n),("times",.ref d)])):=.bq e2 (by intro _ z;cases z)
   have hn:H d=none:=Kj.none DV
   have hpd:d≠p:=Ne.symm (aA hp hn)
   exact q _ d (Kj.trans ((C5.mv (S:=[p])).trans uL)) hn ⟨⟨p,dx,rfl,ao⟩,hd2.mv uL (by simpa using hpd)⟩
theorem O6 (T:Txt K mg a):dE P w K mg base 1 a.bh ["self","now"] [] (FV a.aD):=
 ⟨⟨_,_,Rx T,T.ik.binds fun _ _ _ _ _ _ s us kx hl=>by
   obtain⟨o,n,h1,h2⟩:=T.qa.ex
   have hl:us.length=2:=by simp at hl;omega
   obtain⟨_,_,rfl⟩:=ln2 hl
   exact PySem.W.binds_K kx rfl h1 h2 rfl rfl,.nil⟩⟩
theorem Wh {C:Addr} {H:Hp} {Q:VK} {E:XK} {n:Int} {us:List V} (eu:us=[.int n]) (k:∀v H2 d,ax H H2->H d=none->Dt C H2 v d n []->Q v H2):DZ C (FV C) us H Q E:=by
 refine⟨_,eu,fun x dx hx hd ne=>⟨x,dx,n,rfl,ao,fun H' d mv h1 hg=>⟨rfl,?_⟩⟩⟩
 have z:∀{d:Addr},upd (upd H dx (.own x)) x (.ins C dx []) d=none->H d=none:=by
  intro d h
  unfold upd at h
  split at h
  . cases h
  . split at h
    . cases h
    . exact h
 refine k _ _ d (fun b u e=>?_) (z h1) hg
 have hb:b≠x:=aA e hx
 refine mv.kp b u (by simpa using hb) ?_
 rw [ay hb,ay (aA e hd)]
 exact e
def Hz (C:Addr):Sp:=fun vs H Q _=>∃v d n ts x,vs=[v,.str x]/\Dt C H v d n ts/\(∀t,yj (AW ts) x=some (.int t)->Q (.int t) H)/\(yj (AW ts) x=none->Q .aQ H)
theorem Vw {ts:List (Str × Int)} {x:Str} {e:PyData} (h:yj (AW ts) x=some e):∃t,e=.int t:=by
 unfold yj at h
 obtain⟨kv,h1,rfl⟩:=Option.map_eq_some_iff.mp h
 obtain⟨y,_,rfl⟩:=List.mem_map.mp (List.mem_of_find?_eq_some h1)
 exact⟨_,rfl⟩
theorem P5 (T:Txt K mg a):aN P w K mg base fF 1 a.bG a.p4 ["self","name"] (Hz a.aD):=by
 have n1:=T.di;have n2:=T.bp;have cl:=T.cQ
 refine T.jG.ok Dj (fun vs H Q E h=>?_) (fun cR A outer s H vs Q E hr h=>?_)
 . obtain⟨_,_,_,_,_,rfl,_⟩:=h;rfl
 . obtain⟨v,d,n,ts,x,rfl,hw,q1,q2⟩:=h
   have hi:=hw.ins;have hd:=hw.dat
   refine⟨_,(ai (aC (Sr (Er hr) (au (pv 0) rfl) (pv 1) ⟨rfl,rfl,rfl,rfl⟩))),?_⟩
   repeat' (walk_at "rd1")
   refine S7 hd (fun e he v' hv'=>?_) (fun he=>?_)
   . obtain⟨t,rfl⟩:=Vw he
     obtain rfl:=hv'.int_inv
     exact q1 t he
   . exact q2 he
theorem Mw (T:Txt K mg a):dE P w K mg base 1 a.bG ["self","name"] [] (Hz a.aD):=
 ⟨⟨_,_,P5 T,T.jG.binds fun _ _ _ _ _ _=>dR fun _ _=>rfl,.nil⟩⟩
def JW (C:Addr):Sp:=fun vs H Q _=>∃v d n ts,vs=[v]/\Dt C H v d n ts/\(ts=[]->Q .aQ H)/\(∀t∈ts.map (·.2),(∀u∈ts.map (·.2),t<=u)->Q (.int t) H)
theorem QA (T:Txt K mg a):aN P w K mg base fF 1 a.cE a.uU ["self"] (JW a.aD):=by
 have n1:=T.di;have n2:=T.bp;have cl:=T.cQ
 refine T.oH.ok Gp (fun vs H Q E h=>?_) (fun cR A outer s H vs Q E hr h=>?_)
 . obtain⟨_,_,_,_,rfl,_⟩:=h;rfl
 . obtain⟨v,d,n,ts,rfl,hw,q1,q2⟩:=h
   have hi:=hw.ins;have hd:=hw.dat
   refine⟨_,(af (cj (Ax (eg (au (pv 0) rfl) (fun _=>rfl)))
    (ai (aC dn))
    aO)
    (ai (aC (Uq (au (pv 0) rfl) rfl rfl T.Ar)))),?_⟩
   repeat' (walk_at "rd1")
   refine VE hd ?_
   repeat' (walk_at "rd1")
   . rename_i hb
     exact q1 (by cases ts with|nil=>rfl|cons y r=>simp [AW] at hb)
   . rename_i hb
     have AV:0<(ts.map (·.2)).length:=by
      cases ts with
      |nil=>simp [AW] at hb
      |cons y r=>simp
     refine ZU hd (ns:=ts.map (·.2)) (by unfold AW;rw [List.map_map,List.map_map];rfl) AV (fun t ht hm=>?_)
     exact q2 t ht hm
theorem OB (T:Txt K mg a):dE P w K mg base 1 a.cE ["self"] [] (JW a.aD):=
 ⟨⟨_,_,QA T,T.oH.binds fun _ _ _ _ _ _=>kK fun _=>rfl,.nil⟩⟩
def leD (t:Int) (x:Str × PyData):Bool:=match x.2 with
 | .int u=>decide (u<=t)
 |_=>false
def Xs (x:Str × Int):Int × Str:=(x.2,x.1)
def Srt (ks:List (Int × Str)):Prop:=ks.Pairwise fun c d=>jx d c=false
theorem Fj {α:Type} (l:List α):l.filter (fun _=>true)=l:=List.filter_eq_self.mpr fun _ _=>rfl
def Dl (C:Addr):Sp:=fun vs H Q _=>∃v d n ts t,vs=[v,.int t]/\Dt C H v d n ts/\ts.length<60/\∀q H',ax H H'->H q=none->c9 H' q (((ts.filter fun x=>decide (x.2<=t)).map (·.1)).map PyData.str)->Q (.ref q) H'
theorem S4 {C:Addr} {H:Hp} {Q:VK} {E:XK} {v:V} {d:Addr} {n t:Int} {ts:List (Str × Int)} (h:Dt C H v d n ts) (hl:ts.length<60) (q:∀q H',ax H H'->H q=none->c9 H' q (((ts.filter fun x=>decide (x.2<=t)).map (·.1)).map PyData.str)->Q (.ref q) H'):Dl C [v,.int t] H Q E:=⟨v,d,n,ts,t,rfl,h,hl,q⟩
theorem P1 (T:Txt K mg a):aN P w K mg base fF 1 a.dc a.vT ["self","to"] (Dl a.aD):=by
 have n1:=T.di;have n2:=T.bp;have cl:=T.cQ
 refine T.oO.ok GB (fun vs H Q E h=>?_) (fun cR A outer s H vs Q E hr h=>?_)
 . obtain⟨_,_,_,_,_,rfl,_⟩:=h;rfl
 . obtain⟨v,d,n,ts,t,rfl,hw,hl,q⟩:=h
   have hi:=hw.ins;have hd:=hw.dat
   refine⟨_,(ai (aC (Uk (D5 (T:=["name","time"]) (M:=["self","to"]) (SY (aj iC) ["self","to"] rfl rfl (by decide+kernel)) rfl (SF (au (pv 0) rfl)) (fun _ _ _ _ _=>(ND (K:=K) (n:=2) rfl rfl (bM (aR (i:=0) (show List.Nodup (["name","time","self","to"]:List Str) by decide+kernel) rfl (Or.inl rfl)) (bM (aR (i:=1) (show List.Nodup (["name","time","self","to"]:List Str) by decide+kernel) rfl (Or.inl rfl)) A3)))) (KR (qU (by decide) (qU (by decide) HI))) (fun _ _ _ _ _=>(Fn (aK Q5 (pv 1) (pv 3) (aJ _)))) (fun _ _ _ _ _=>(pv 0)))))),?_⟩
   repeat' (walk_at "rd1")
   refine abV hd (fun R hR=>?_) (leD t) (fun x=>.str x.1) (by rw [M9];omega) (fun _=>rfl) (fun y c Hf H2 N hc mvf hrd C5 hy yes no=>?_) (fun q1 H1 sm1 Dd Fi=>?_)
   . repeat' (walk_at "rd1")
     exact hR
   . obtain⟨x,hx,rfl⟩:=List.mem_map.mp hc
     refine L8 hy (fun w1 w2 f1 f2=>?_)
     obtain rfl:=f1.str_inv
     obtain rfl:=f2.int_inv
     repeat' (walk_at "rd1")
     refine rR (fun hb=>?_) (fun hb=>no hb _ (ax.refl _))
     repeat' (walk_at "rd1")
     exact yes hb _ _ (ax.refl _) (.str _)
   have XX:c9 H1 q1 (((ts.filter fun x=>decide (x.2<=t)).map (·.1)).map PyData.str):=by
    unfold AW at Fi
    rw [List.filter_map,List.map_map] at Fi
    rw [List.map_map];exact Fi
   repeat' (walk_at "rd1")
   exact q q1 H1 sm1 Dd XX
theorem Lr (T:Txt K mg a):dE P w K mg base 1 a.dc ["self","to"] [] (Dl a.aD):=
 ⟨⟨_,_,P1 T,T.oO.binds fun _ _ _ _ _ _=>dR fun _ _=>rfl,.nil⟩⟩
theorem FU {ts:List (Str × Int)} (h:(ts.map (·.1)).Nodup) {x:Str × Int} (hx:x∈ts):yj (AW ts) x.1=some (.int x.2):=by
 unfold yj AW
 rw [List.find?_map]
 induction ts with
 |nil=>cases hx
 |cons y r ih=>
  rw [List.map_cons,List.nodup_cons] at h
  rw [List.find?_cons]
  by_cases e:y.1=x.1
  . simp only [Function.comp,e,decide_true]
    rcases List.mem_cons.mp hx with rfl|GX
    . rfl
    . exact absurd (List.mem_map_of_mem (f:=(·.1)) GX) (e▸h.1)
  . simp only [Function.comp,e,decide_false]
    rcases List.mem_cons.mp hx with rfl|GX
    . exact absurd rfl e
    . exact ih h.2 GX
theorem IG {α β:Type} {f:α->β} {l:List α} {j:Nat} {c:α} (h:(l.map f).Nodup) (hc:l[j]? =some c):f c∉(l.take j).map f:=by
 intro hm
 obtain⟨d,hd,e⟩:=List.mem_map.mp hm
 obtain⟨i,hi,rfl⟩:=List.getElem_of_mem hd
 have Et:i<j:=by rw [List.length_take] at hi;omega
 have hjl:j<l.length:=(List.getElem?_eq_some_iff.mp hc).1
 rw [List.Nodup,List.pairwise_map] at h
 have:=List.pairwise_iff_getElem.mp h i j (by omega) hjl Et
 rw [List.getElem_take] at e
 have Qh:l[j]=c:=Option.some.inj ((List.getElem?_eq_getElem hjl).symm.trans hc)
 rw [Qh] at this
 exact this e
theorem take_snoc {α:Type} {l:List α} {j:Nat} {c:α} (h:l[j]? =some c):l.take (j+1)=l.take j++[c]:=by
 rw [List.take_add_one,h];rfl
def Td (C:Addr):Sp:=fun vs H Q _=>∃p d n ts t,vs=[.ref p,.int t]/\Dt C H (.ref p) d n ts/\ts.length<60/\(ts.map (·.1)).Nodup/\n<=t/\∀q H' ks,Mv [p,d] H H'->H q=none->ks.Perm ((ts.filter fun x=>decide (x.2<=t)).map Xs)->Srt ks->c9 H' q (ks.map pairD)->Dt C H' (.ref p) d t (ts.filter fun x=>!decide (x.2<=t))->Q (.ref q) H'
theorem Zj (T:Txt K mg a):aN P w K mg base fF 3 a.dP a.B3 ["self","to"] (Td a.aD):=by
 have n1:=T.di;have n2:=T.bp;have cl:=T.cQ
 have OC:=T.yV
 have Oi:=Lr (P:=P) (w:=w) (base:=base) T
 refine T.we.ok j3 (fun vs H Q E h=>?_) (fun cR A outer s H vs Q E hr h=>?_)
 . obtain⟨_,_,_,_,_,rfl,_⟩:=h;rfl
 . obtain⟨p,d,n,ts,t,rfl,hw,hl,tH,hnt,q⟩:=h
   have hi:=hw.ins;have hd:=hw.dat
   refine⟨_,(af (cj (aK GK (pv 1) (au (pv 0) rfl) (aJ _))
    (ai cX)
    aO)
    (af (aL (i:=2) j3.nd rfl (Or.inl rfl) (cm MS rfl T.ia PyProof.Rows.boot_sorted (ae (D5 (T:=["name"]) (M:=["self","to","told","time","04"]) (SY (aj nu) ["self","to","told","time","name"] rfl rfl (by decide+kernel)) rfl (fx (aI (pv 0) cl OC Oi (hr.mono (by decide)) (ae (pv 1) ak))) (fun _ _ _ _ _=>(aR (i:=0) (show List.Nodup (["name","self","to","told","time","04"]:List Str) by decide+kernel) rfl (Or.inl rfl))) (fA (by decide)) (fun _ _ _ _ _=>rH) (fun _ _ _ _ _=>(eG (ae (Nq (Er hr) (rE (K:=K) rfl (pv 1) rfl) (pv 0) (fun _ _=>rfl)) (ae (pv 0) ak))))) ak)))
    (af (aY (pv 0) (pv 1) rfl)
    (af (Gb PassesOwn.never rfl (fx (pv 2)) (MO (n:=2) rfl (bM (aR (i:=3) j3.nd rfl (Or.inl rfl)) (bM (aR (i:=4) j3.nd rfl (Or.inl rfl)) A3)))
     (ai (aW (Kc PySem.F.plainAttrs_dict PySem.F.slot_dict_pop PySem.F.type_dict_pop JB (au (pv 0) rfl) (ae (pv 4) ak)))))
    (ai (aC (pv 2))))))),?_⟩
   repeat' (walk_at "rd1")
   refine S4 hw hl (fun q0 H1 sm1 Dd hq0=>?_)
   have YN:=hw.keeps sm1
   have hd1:=YN.dat
   have uF:=YN.ins
   have hfl:(ts.filter fun x=>decide (x.2<=t)).length<=ts.length:=List.length_filter_le _ _
   refine Zi (cs:=ts.filter fun x=>decide (x.2<=t)) (gd:=fun x=>.str x.1) (fun _=>true) (fun x=>pairD (Xs x)) (by have:=hq0.dv;rwa [List.map_map] at this) (by omega) (fun _=>rfl) (fun y x H2 N hx C5 hy yes no=>?_) (fun q1 H2 C5 DV Fi=>?_)
   . have Qi:=FU tH (List.mem_filter.mp hx).1
     obtain rfl:=hy.str_inv
     have G8:=uF.keeps C5
     have hd2:=hd1.keeps C5
     repeat' (walk_at "rd1")
     refine rR (fun hb=>?_) (fun hb=>by cases hb)
     repeat' (walk_at "rd1")
     exact yes rfl _ _ (by walk_at "same") (by walk_at "dat")
   rw [Fj] at Fi
   have XX:Dv H2 (.ref q1) (.list (((ts.filter fun x=>decide (x.2<=t)).map Xs).map pairD)):=by
    have:=Fi.dv
    rw [List.map_map];exact this
   repeat' (walk_at "rd1")
   refine Ui XX (by rw [List.length_map];omega) (fun q2 H3 ks sm3 MN hp hs AU=>?_)
   repeat' (walk_at "rd1")
   obtain⟨p',dx,e,X9⟩:=(uF.keeps C5).keeps sm3
   cases e
   have hd3:=(hd1.keeps C5).keeps sm3
   have hpd:d≠p:=by
    obtain⟨kvs,e2,_⟩:=hd3
    exact lj e2 X9 (by intro y;cases y)
   have hpq:q2≠p:=by
    obtain⟨xs,e2,_⟩:=AU
    exact lj e2 X9 (by intro y;cases y)
   have hqd:q2≠d:=by
    obtain⟨xs,e2,_⟩:=AU
    obtain⟨kvs,e3,_⟩:=hd3
    exact lj e2 e3 (by intro y;cases y)
   repeat' (walk_at "rd1")
   have Lb:Mv [p] H3 (upd H3 p (.ins a.aD dx [("now",.int t),("times",.ref d)])):=.bq X9 (by intro _ z;cases z)
   have V3:kL (upd H3 p (.ins a.aD dx [("now",.int t),("times",.ref d)])) (.ref p) a.aD [("now",.int t),("times",.ref d)]:=⟨p,dx,rfl,ao⟩
   generalize upd H3 p (.ins a.aD dx [("now",.int t),("times",.ref d)])=H4 at*
   have hd4:uH H4 d (AW ts):=hd3.mv Lb (by simpa using hpd)
   have Qo:c9 H4 q2 (ks.map pairD):=AU.mv Lb (by simpa using hpq)
   have hkn:(ks.map (·.2)).Nodup:=by
    have h1:(ks.map (·.2)).Perm (((ts.filter fun x=>decide (x.2<=t)).map Xs).map (·.2)):=hp.map _
    refine h1.nodup_iff.mpr ?_
    rw [List.map_map]
    exact tH.sublist (List.filter_sublist.map _)
   have hkm:∀k∈ks,∃x∈ts,x.2<=t/\k=Xs x:=fun k hk=>by
    obtain⟨x,hx,rfl⟩:=List.mem_map.mp (hp.mem_iff.mp hk)
    exact⟨x,(List.mem_filter.mp hx).1,of_decide_eq_true (List.mem_filter.mp hx).2,rfl⟩
   refine aa0 (Hb:=H4) (cs:=ks) (gd:=pairD) Qo.dv (fun j σ' H'=>∃z3 z4,σ'=[some (.ref p),some (.int t),some (.ref q2),z3,z4]/\Mv [d] H4 H'/\uH H' d (AW (ts.filter fun x=>!((ks.take j).map (·.2)).contains x.1))) ⟨_,_,rfl,Mv.refl,by show uH H4 d (AW (ts.filter fun _=>true));rw [Fj];exact hd4⟩ (fun i σ' H' _ ⟨_,_,_,mv,_⟩ a' xs e hx=>by cases e;exact mv.sq (by simpa using hqd) hx) ?_ ?_
   . rintro j k x σ' H' hk ⟨z3,z4,rfl,Qk,Xm⟩ hdx _
     have hx:Dv H' x (.tuple [.int k.1,.str k.2]):=hdx rfl Qk.tp
     refine L8 hx (fun w1 w2 f1 f2=>?_)
     obtain rfl:=f1.int_inv
     obtain rfl:=f2.str_inv
     have hi5:kL H' (.ref p) a.aD [("now",.int t),("times",.ref d)]:=Fh V3 hd4 Qk
     obtain⟨y,hy,hyt,rfl⟩:=hkm k (List.mem_of_getElem? hk)
     have Qi:yj (AW (ts.filter fun x=>!((ks.take j).map (·.2)).contains x.1)) (Xs y).2=some (.int y.2):=by
      refine FU (x:=y) (tH.sublist (List.filter_sublist.map _)) (List.mem_filter.mpr ⟨hy,?_⟩)
      have:=IG hkn hk
      rw [Bool.not_eq_true',<-Bool.not_eq_true,List.contains_iff_mem]
      exact this
     repeat' (walk_at "rd1")
     refine Wz Xm ?_
     repeat' (walk_at "rd1")
     refine QY Xm Qi (fun v6 H6 mv6 hd6=>?_)
     repeat' (walk_at "rd1")
     refine⟨_,_,rfl,Qk.trans mv6,?_⟩
     have e:AW (ts.filter fun x=>!((ks.take (j+1)).map (·.2)).contains x.1)=Eo (AW (ts.filter fun x=>!((ks.take j).map (·.2)).contains x.1)) (Xs y).2:=by
      unfold Eo AW
      rw [List.filter_map,List.filter_filter]
      congr 1
      refine List.filter_congr fun x hx=>?_
      rw [take_snoc hk,List.map_append,Bool.eq_iff_iff]
      simp
      exact and_comm
     rw [e];exact hd6
   . rintro σ' H' ⟨z3,z4,rfl,Qk,Xm⟩
     rw [List.take_length] at Xm
     have e:(ts.filter fun x=>!(ks.map (·.2)).contains x.1)=ts.filter fun x=>!decide (x.2<=t):=by
      refine List.filter_congr fun x hx=>?_
      congr 1
      rw [Bool.eq_iff_iff,List.contains_iff_mem,decide_eq_true_eq]
      constructor
      . intro hm
        obtain⟨k,hk,e⟩:=List.mem_map.mp hm
        obtain⟨y,hy,hyt,rfl⟩:=hkm k hk
        have h1:=FU tH hy
        have h2:=FU tH hx
        have e':y.1=x.1:=e
        rw [e',h2] at h1
        have h3:x.2=y.2:=by
         injection h1 with h1
         injection h1
        omega
      . intro ht
        exact List.mem_map.mpr ⟨Xs x,hp.mem_iff.mpr (List.mem_map_of_mem (List.mem_filter.mpr ⟨hx,decide_eq_true ht⟩)),rfl⟩
     rw [e] at Xm
     repeat' (walk_at "rd1")
     refine q q2 H' ks ?_ ((sm1.trans C5).none MN) hp hs (Qo.mv Qk (by simpa using hqd)) ⟨Fh V3 hd4 Qk,Xm⟩
     refine Mv.step (Mv.step (((sm1.trans C5).trans sm3).mv (S:=[p,d])) Lb fun b hb=>.inl ?_) Qk fun b hb=>.inl (List.mem_cons_of_mem _ hb)
     have:b=p:=by simpa using hb
     rw [this];exact List.mem_cons_self
theorem Vf (T:Txt K mg a):dE P w K mg base 3 a.dP ["self","to"] [] (Td a.aD):=
 ⟨⟨_,_,Zj T,T.we.binds fun _ _ _ _ _ _=>dR fun _ _=>rfl,.nil⟩⟩
structure jc where
 ru:RU
 wt:Int
 hm:Option Str
 dy:Bool
 no:Int
 st:Option (Int × Int)
 sn:Option Int
 un:Option Int
def Nt:Option Str->V|none=>.aQ|some s=>.str s
def iP (n:Str) (rv sv:V) (x:jc):List (Str × V):=[("name",.str n),("rule",rv),("weight",.int x.wt),("home",Nt x.hm),("by_day",.bl x.dy),("number",.int x.no),("stretch",sv),("since",ow x.sn),("until",ow x.un)]
def gw (a:Ad) (H:Hp) (b:Addr) (n:Str) (x:jc):Prop:=∃rv sv,kL H (.ref b) a.aq (iP n rv sv x)/\qF a H rv x.ru/\Dv H sv (Rv x.st)
theorem qT (o:Option (Int × Int)):C8 (Rv o)=true:=by cases o <;>rfl
theorem gw.keeps {H H':Hp} {b:Addr} {n:Str} {x:jc} (s:ax H H') (h:gw a H b n x):gw a H' b n x:=by
 obtain⟨rv,sv,h1,h2,h3⟩:=h
 exact⟨rv,sv,h1.keeps s,h2.keeps s,h3.keeps s⟩
theorem qF.mv {H H':Hp} {b dx:Addr} {fs:List (Str × V)} {v:V} {r:RU} (T:Txt K mg a) (m:Mv [b] H H') (e:H b=some (.ins a.aq dx fs)) (h:qF a H v r):qF a H' v r:=
 qF.fr (cs:=[a.aq]) (S:=[]) (Fr.O2 m e List.mem_cons_self)
  (by simpa using T.j6)
  (by simpa using T.gR)
  h
theorem gw.upd {H:Hp} {b dx:Addr} {n:Str} {x:jc} {rv sv:V} (T:Txt K mg a) (e:∃fs,H b=some (.ins a.aq dx fs)) (hr:qF a H rv x.ru) (hs:Dv H sv (Rv x.st)):Mv [b] H (upd H b (.ins a.aq dx (iP n rv sv x)))/\gw a (upd H b (.ins a.aq dx (iP n rv sv x))) b n x:=by
 obtain⟨fs,e⟩:=e
 have mv:Mv [b] H (L2.upd H b (.ins a.aq dx (iP n rv sv x))):=.bq e (by intro _ z;cases z)
 exact⟨mv,rv,sv,⟨b,dx,rfl,ao⟩,hr.mv T mv e,mv.dat (qT _) hs⟩
def lead (x:jc) (sh:Int):Int:=if x.dy=true then sh else 0
def IC (a:Ad):Sp:=fun vs H Q _=>∃b n x sh,vs=[.ref b,.int sh]/\gw a H b n x/\Q (.int (lead x sh)) H
theorem Y5 {H:Hp} {Q:VK} {E:XK} {b:Addr} {n:Str} {x:jc} {sh:Int} (h:gw a H b n x) (q:Q (.int (lead x sh)) H):IC a [.ref b,.int sh] H Q E:=⟨b,n,x,sh,rfl,h,q⟩
theorem VC (T:Txt K mg a):aN P w K mg base fF 1 a.fc a.A0 ["self","shift"] (IC a):=by
 have cl:=T.aV;have n1:=T.dH
 refine T.xD.ok IX (fun vs H Q E h=>?_) (fun cR A outer s H vs Q E hr h=>?_)
 . obtain⟨_,_,_,_,rfl,_⟩:=h;rfl
 . obtain⟨b,n,x,sh,rfl,⟨rv,sv,hi,hR,hd⟩,q⟩:=h
   unfold iP at hi
   unfold lead at q
   refine⟨_,(ai (aC (Gx (eg (au (pv 0) rfl) (fun _=>rfl)) (pv 1) ag))),?_⟩
   cases hx:x.dy
   . rw [hx] at hi q
     repeat' (walk_at "rd1")
     exact q
   . rw [hx] at hi q
     repeat' (walk_at "rd1")
     exact q
theorem JS (T:Txt K mg a):dE P w K mg base 1 a.fc ["self","shift"] [] (IC a):=
 ⟨⟨_,_,VC T,T.xD.binds fun _ _ _ _ _ _=>dR fun _ _=>rfl,.nil⟩⟩
def Dg (a:Ad):Sp:=fun vs H Q _=>∃b n x,vs=[.ref b]/\gw a H b n x/\Q (.bl x.st.isNone) H
theorem Qw {H:Hp} {Q:VK} {E:XK} {b:Addr} {n:Str} {x:jc} (h:gw a H b n x) (q:Q (.bl x.st.isNone) H):Dg a [.ref b] H Q E:=⟨b,n,x,rfl,h,q⟩
theorem PL (T:Txt K mg a):aN P w K mg base fF 1 a.cM a.rU ["self"] (Dg a):=by
 have cl:=T.aV;have n1:=T.cg
 refine T.km.ok E5 (fun vs H Q E h=>?_) (fun cR A outer s H vs Q E hr h=>?_)
 . obtain⟨_,_,_,rfl,_⟩:=h;rfl
 . obtain⟨b,n,x,rfl,⟨rv,sv,hi,hR,hd⟩,q⟩:=h
   unfold iP at hi
   refine⟨_,(ai (aC (iA F1 (au (pv 0) rfl) dn (aJ _)))),?_⟩
   cases hx:x.st with
   |none=>
    rw [hx] at hd q
    obtain rfl:=hd.NI
    repeat' (walk_at "rd1")
    exact q
   |some p=>
    rw [hx] at hd q
    cases hd
    repeat' (walk_at "rd1")
    exact q
theorem Lf (T:Txt K mg a):dE P w K mg base 1 a.cM ["self"] [] (Dg a):=
 ⟨⟨_,_,PL T,T.km.binds fun _ _ _ _ _ _=>kK fun _=>rfl,.nil⟩⟩
def DC (a:Ad):Sp:=fun vs H Q _=>∃b n x,vs=[.ref b]/\gw a H b n x/\Q (.bl x.sn.isSome) H
theorem Q7 {H:Hp} {Q:VK} {E:XK} {b:Addr} {n:Str} {x:jc} (h:gw a H b n x) (q:Q (.bl x.sn.isSome) H):DC a [.ref b] H Q E:=⟨b,n,x,rfl,h,q⟩
theorem Ol (T:Txt K mg a):aN P w K mg base fF 1 a.bE a.kH ["self"] (DC a):=by
 have cl:=T.aV;have n1:=T.cF
 refine T.gU.ok Ak (fun vs H Q E h=>?_) (fun cR A outer s H vs Q E hr h=>?_)
 . obtain⟨_,_,_,rfl,_⟩:=h;rfl
 . obtain⟨b,n,x,rfl,⟨rv,sv,hi,hR,hd⟩,q⟩:=h
   unfold iP at hi
   refine⟨_,(ai (aC (iA qQ (au (pv 0) rfl) dn (aJ _)))),?_⟩
   cases hx:x.sn with
   |none=>
    rw [hx] at hi q
    simp only [ow] at hi
    repeat' (walk_at "rd1")
    exact q
   |some p=>
    rw [hx] at hi q
    simp only [ow] at hi
    repeat' (walk_at "rd1")
    exact q
theorem MR (T:Txt K mg a):dE P w K mg base 1 a.bE ["self"] [] (DC a):=
 ⟨⟨_,_,Ol T,T.gU.binds fun _ _ _ _ _ _=>kK fun _=>rfl,.nil⟩⟩
def rest (x:jc):jc:={x with sn:=none,un:=none}
def Jq (a:Ad):Sp:=fun vs H Q _=>∃b n x,vs=[.ref b]/\gw a H b n x/\∀H',Mv [b] H H'->gw a H' b n (rest x)->Q .aQ H'
theorem XJ {H:Hp} {Q:VK} {E:XK} {b:Addr} {n:Str} {x:jc} (h:gw a H b n x) (q:∀H',Mv [b] H H'->gw a H' b n (rest x)->Q .aQ H'):Jq a [.ref b] H Q E:=⟨b,n,x,rfl,h,q⟩
theorem VD (T:Txt K mg a):aN P w K mg base fF 1 a.eT a.A6 ["self"] (Jq a):=by
 have cl:=T.aV;have n1:=T.cF;have n2:=T.cA
 refine T.vI.ok IQ (fun vs H Q E h=>?_) (fun cR A outer s H vs Q E hr h=>?_)
 . obtain⟨_,_,_,rfl,_⟩:=h;rfl
 . obtain⟨b,n,x,rfl,⟨rv,sv,⟨p,dx,e,hi⟩,hR,hd⟩,q⟩:=h
   cases e
   have hi0:∃fs,H b=some (.ins a.aq dx fs):=⟨_,hi⟩
   unfold iP at hi
   refine⟨_,(af (aY (pv 0) dn rfl)
    (ai (aY (pv 0) dn rfl))),?_⟩
   repeat' (walk_at "rd1")
   simp only [jZ]
   obtain⟨mv,hb⟩:=gw.upd (n:=n) (x:=rest x) T hi0 hR hd
   exact q _ mv hb
theorem Tb (T:Txt K mg a):dE P w K mg base 1 a.eT ["self"] [] (Jq a):=
 ⟨⟨_,_,VD T,T.vI.binds fun _ _ _ _ _ _=>kK fun _=>rfl,.nil⟩⟩
def wait (x:jc) (now sh f l:Int):jc:={x with sn:=some (max (f - lead x sh) (now+1)),un:=some (l - lead x sh)}
local macro_rules|`(tactic|walk_at "bat")=>`(tactic|first|(refine' gw.keeps ?s ?m;(case s=>assumption);(case m=>walk_at "bat"))|fail)
set_option hygiene false in
local macro_rules|`(tactic|walk_at "bat")=>`(tactic|first|assumption|fail)
local macro_rules|`(tactic|walk_at "use")=>`(tactic|first|((with_reducible refine' Q7 ?e ?_);case e=>walk_at "bat")|fail)
local macro_rules|`(tactic|walk_at "use")=>`(tactic|first|((with_reducible refine' Qw ?e ?_);case e=>walk_at "bat")|fail)
local macro_rules|`(tactic|walk_at "use")=>`(tactic|first|((with_reducible refine' Y5 ?e ?_);case e=>walk_at "bat")|fail)
def Gn (a:Ad):Sp:=fun vs H Q _=>∃b n x now sh f l,vs=[.ref b,.int now,.int sh]/\gw a H b n x/\x.st=some (f,l)/\∀H',Mv [b] H H'->gw a H' b n (wait x now sh f l)->Q .aQ H'
theorem Vu {H:Hp} {Q:VK} {E:XK} {b:Addr} {n:Str} {x:jc} {now sh f l:Int} (h:gw a H b n x) (hs:x.st=some (f,l)) (q:∀H',Mv [b] H H'->gw a H' b n (wait x now sh f l)->Q .aQ H'):Gn a [.ref b,.int now,.int sh] H Q E:=⟨b,n,x,now,sh,f,l,rfl,h,hs,q⟩
theorem QW (T:Txt K mg a):aN P w K mg base fF 2 a.eW a.CH ["self","now","shift"] (Gn a):=by
 have cl:=T.aV;have n1:=T.cg;have n2:=T.cF;have n3:=T.cA
 have ZP:=T.xk
 have X7:=JS (P:=P) (w:=w) (base:=base) T
 refine T.vW.ok CN (fun vs H Q E h=>?_) (fun cR A outer s H vs Q E hr h=>?_)
 . obtain⟨_,_,_,_,_,_,_,rfl,_⟩:=h;rfl
 . obtain⟨b,n,x,now,sh,f,l,rfl,hB,hs,q⟩:=h
   obtain⟨rv,sv,⟨p,dx,e,hi⟩,hR,hd⟩:=id hB
   cases e
   have hi0:∃fs,H b=some (.ins a.aq dx fs):=⟨_,hi⟩
   unfold iP at hi
   have hd0:=hd
   rw [hs] at hd
   have hd:Dv H sv (.tuple [.int f,.int l]):=hd
   refine⟨_,(af (aL (i:=3) CN.nd rfl (Or.inl rfl) (aI (pv 0) cl ZP X7 (hr.mono (by decide)) (ae (pv 2) ak)))
    (af (aY (pv 0) (cm (x9 rfl) rfl T.Ai PyProof.Rows.boot_max (ae (av eF (bB fP (au (pv 0) rfl) ag (fun _ _=>rfl)) (pv 3)) (ae (av aM (pv 1) ag) ak))) rfl)
    (ai (aY (pv 0) (av eF (bB fP (au (pv 0) rfl) ag (fun _ _=>rfl)) (pv 3)) rfl)))),?_⟩
   repeat' (walk_at "rd1")
   rename_i sn e1 e2 e3
   obtain rfl:sn=max (f - lead x sh) (now+1):=by omega
   have hd1:=(Mv.bq (o:=.ins a.aq dx [("name",.str n),("rule",rv),("weight",.int x.wt),("home",Nt x.hm),("by_day",.bl x.dy),("number",.int x.no),("stretch",sv),("since",.int (max (f - lead x sh) (now+1))),("until",ow x.un)]) hi (by intro _ z;cases z)).dat rfl hd
   repeat' (walk_at "rd1")
   simp only [jZ]
   obtain⟨mv,hb⟩:=gw.upd (n:=n) (x:=wait x now sh f l) T hi0 hR hd0
   exact q _ mv hb
theorem P6 (T:Txt K mg a):dE P w K mg base 2 a.eW ["self","now","shift"] [] (Gn a):=
 ⟨⟨_,_,QW T,T.vW.binds fun _ _ _ _ _ _=>wa fun _ _ _=>rfl,.nil⟩⟩
def oP (x:jc) (l t:Int):jc:=if t<l then x else {x with no:=(K2 x.ru x.no l t).1,st:=(K2 x.ru x.no l t).2}
def missed (n:Str) (x:jc) (l t:Int):List PyData:=if t<l then [] else [.tuple [.str "missed",.str n,.int x.no,.int ((K2 x.ru x.no l t).1 - 1)]]
def F5 (a:Ad):Sp:=fun vs H Q _=>∃b n x f l t,vs=[.ref b,.int t]/\gw a H b n x/\x.st=some (f,l)/\0<=x.no/\x.no<10^99/\t<10^80/\t - l<10^80/\∀q H',Mv [b] H H'->H q=none->c9 H' q (missed n x l t)->gw a H' b n (oP x l t)->Q (.ref q) H'
theorem Vp {H:Hp} {Q:VK} {E:XK} {b:Addr} {n:Str} {x:jc} {f l t:Int} (h:gw a H b n x) (hs:x.st=some (f,l)) (h1:0<=x.no) (h2:x.no<10^99) (h3:t<10^80) (h4:t - l<10^80) (q:∀q H',Mv [b] H H'->H q=none->c9 H' q (missed n x l t)->gw a H' b n (oP x l t)->Q (.ref q) H'):F5 a [.ref b,.int t] H Q E:=⟨b,n,x,f,l,t,rfl,h,hs,h1,h2,h3,h4,q⟩
theorem QT (T:Txt K mg a):aN P w K mg base fF 5 a.b7 a.qj ["self","shown"] (F5 a):=by
 have cl:=T.aV;have n0:=T.bD;have n1:=T.cg;have n2:=T.fk;have n3:=T.gZ
 have G5:=VY (P:=P) (w:=w) (base:=base) T
 have E8:=Ut (P:=P) (w:=w) (base:=base) T
 refine T.jC.ok fE (fun vs H Q E h=>?_) (fun cR A outer s H vs Q E hr h=>?_)
 . obtain⟨_,_,_,_,_,_,rfl,_⟩:=h;rfl
 . obtain⟨b,n,x,f,l,t,rfl,hB,hs,h1,h2,h3,h4,q⟩:=h
   obtain⟨rv,sv,⟨p,dx,e,hi⟩,hR,hd⟩:=id hB
   cases e
   have hi0:∃fs,H b=some (.ins a.aq dx fs):=⟨_,hi⟩
   unfold iP at hi
   have hd0:=hd
   rw [hs] at hd
   have hd:Dv H sv (.tuple [.int f,.int l]):=hd
   refine⟨_,(af (aL (i:=2) fE.nd rfl (Or.inl rfl) (au (pv 0) rfl))
    (af (aL (i:=3) fE.nd rfl (Or.inl rfl) (bB fP (au (pv 0) rfl) ag (fun _ _=>rfl)))
    (af (cj (aK TB (pv 3) (pv 1) (aJ _))
     (ai (aC (fw ak)))
     aO)
    (cP (aL (i:=4) fE.nd rfl (Or.inl rfl) (Mz (aI (au (pv 0) rfl) T.dz T.yL G5 (hr.mono (by decide)) (ae (pv 2) (ae (pv 3) (ae (pv 1) ak)))) (aI (au (pv 0) rfl) T.b4 T.sL E8 (hr.mono (by decide)) (ae (pv 2) (ae (pv 3) (ae (pv 1) ak))))))
    (af (aY (pv 0) (bB fP (pv 4) ag (fun _ _=>rfl)) rfl)
    (af (aY (pv 0) (bB fP (pv 4) ag (fun _ _=>rfl)) rfl)
    (ai (aC (fw (ae (eG (ae gk (ae (au (pv 0) rfl) (ae (pv 2) (ae (av eF (au (pv 0) rfl) ag) ak))))) ak)))))))))),?_⟩
   repeat' (walk_at "rd1")
   . rename_i hb q1 H1 s1 Dd Fi
     refine q _ _ s1.mv Dd ?_ ?_
     . unfold missed;rw [if_pos hb];exact Fi
     . unfold oP;rw [if_pos hb];exact hB.keeps s1
   . rename_i hb
     refine gg (fun σ' H'=>ax H H'/\∃pv,σ'=[some (.ref b),some (.int t),some (.int x.no),some (.int l),some pv]/\Dv H' pv (.tuple [.int (K2 x.ru x.no l t).1,Rv (K2 x.ru x.no l t).2])) ?_ ?_
     . cases hru:x.ru with
       |each st sp wd m=>
        rw [hru] at hR
        have Wn:=hR
        obtain⟨hp,_⟩:=hR
        repeat' (walk_at "rd1")
        exact⟨by walk_at "same",_,rfl,by assumption⟩
       |behind st gp wd m=>
        rw [hru] at hR
        have Wn:=hR
        obtain⟨hp,_⟩:=hR
        repeat' (walk_at "rd1")
        exact⟨by walk_at "same",_,rfl,by assumption⟩
     rintro σ' H1 ⟨s1,pv,rfl,hpv⟩
     have ZO:=hR.keeps s1
     have uF:=s1 _ _ hi
     have ah1:∃fs,H1 b=some (.ins a.aq dx fs):=⟨_,uF⟩
     clear hi
     generalize hlb:K2 x.ru x.no l t=lb at*
     obtain⟨k,o⟩:=lb
     have adW:Dv H1 pv (.tuple [.int k,Rv o]):=hpv
     have aik:Dv (upd H1 b (.ins a.aq dx [("name",.str n),("rule",rv),("weight",.int x.wt),("home",Nt x.hm),("by_day",.bl x.dy),("number",.int k),("stretch",sv),("since",ow x.sn),("until",ow x.un)])) pv (.tuple [.int k,Rv o]):=(Mv.bq uF (by intro _ z;cases z)).dat (by simp [C8,cu,qT]) adW
     repeat' (walk_at "rd1")
     rename_i sv2 aes tv H3 s3 htv q4 H4 s4 Xh Qo
     have Kj:=Mv.bq (o:=.ins a.aq dx [("name",.str n),("rule",rv),("weight",.int x.wt),("home",Nt x.hm),("by_day",.bl x.dy),("number",.int k),("stretch",sv),("since",ow x.sn),("until",ow x.un)]) uF (by intro _ z;cases z)
     obtain⟨uL,hb2⟩:=gw.upd (n:=n) (x:={x with no:=k,st:=o}) T ⟨_,ao⟩ (ZO.mv T Kj uF) aes
     have s34:ax _ H4:=s3.trans s4
     have mvA:=(s1.mv (S:=[b])).trans (Kj.trans uL)
     refine q q4 H4 (mvA.trans s34.mv) ?_ ?_ ?_
     . exact mvA.none (s3.none Xh)
     . unfold missed;rw [if_neg hb,hlb];exact Qo
     . unfold oP;rw [if_neg hb,hlb];exact hb2.keeps s34
theorem Oz (T:Txt K mg a):dE P w K mg base 5 a.b7 ["self","shown"] [] (F5 a):=
 ⟨⟨_,_,QT T,T.jC.binds fun _ _ _ _ _ _=>dR fun _ _=>rfl,.nil⟩⟩
def ib (r:RU) (wt:Int) (hm:Option Str) (dy:Bool):jc:=⟨r,wt,hm,dy,0,some (Dy r),none,none⟩
def Gk (a:Ad):Sp:=fun vs H Q _=>∃p dx n rv r wt hm dy,vs=[.ref p,.str n,rv,.int wt,Nt hm,.bl dy]/\H p=some (.ins a.aq dx [])/\qF a H rv r/\∀H',Mv [p] H H'->gw a H' p n (ib r wt hm dy)->Q .aQ H'
theorem QM (T:Txt K mg a):aN P w K mg base fF 8 a.b6 a.o3 ["self","name","rule","weight","home","by_day"] (Gk a):=by
 have cl:=T.aV;have n0:=T.bD;have n1:=T.cg;have n2:=T.fk;have n3:=T.gZ;have n4:=T.fm;have n5:=T.gS;have n6:=T.dH;have n7:=T.cF;have n8:=T.cA
 have JV:=OX (P:=P) (w:=w) (base:=base) T
 have Jr:=KO (P:=P) (w:=w) (base:=base) T
 have G2:=Ou (P:=P) (w:=w) (base:=base) T
 have Ft:=Jt (P:=P) (w:=w) (base:=base) T
 refine T.jj.ok Dq (fun vs H Q E h=>?_) (fun cR A outer s H vs Q E hr h=>?_)
 . obtain⟨_,_,_,_,_,_,_,_,rfl,_⟩:=h;rfl
 . obtain⟨p,dx,n,rv,r,wt,hm,dy,rfl,hp,hR,q⟩:=h
   refine⟨_,(af (aY (pv 0) (pv 1) rfl)
    (cP (aY (pv 0) (Mz (dG (pv 2) T.dz T.D6 JV (hr.mono (by decide))) (dG (pv 2) T.b4 T.yC G2 (hr.mono (by decide)))) rfl)
    (af (aY (pv 0) (pv 3) rfl)
    (af (aY (pv 0) (pv 4) rfl)
    (af (aY (pv 0) (pv 5) rfl)
    (af (aY (pv 0) ag rfl)
    (cP (aY (pv 0) (Mz (dG (au (pv 0) rfl) T.dz T.Ca Jr (hr.mono (by decide))) (dG (au (pv 0) rfl) T.b4 T.uY Ft (hr.mono (by decide)))) rfl)
    (af (aY (pv 0) dn rfl)
    (ai (aY (pv 0) dn rfl)))))))))),?_⟩
   repeat' (walk_at "rd1")
   have Kj:=Mv.bq (o:=.ins a.aq dx [("name",.str n)]) hp (by intro _ z;cases z)
   have ZO:=hR.mv T Kj hp
   have e1:upd H p (.ins a.aq dx [("name",.str n)]) p=some (.ins a.aq dx [("name",.str n)]):=ao
   generalize upd H p (.ins a.aq dx [("name",.str n)])=H1 at*
   refine gg (fun σ' H'=>∃Fx,σ'=[some (.ref p),some (.str n),some rv,some (.int wt),some (Nt hm),some (.bl dy)]/\Mv [p] H H'/\H' p=some (.ins a.aq dx [("name",.str n),("rule",Fx)])/\qF a H' Fx r) ?_ ?_
   . cases r with
     |each st sp wd m=>
      have Wn:=ZO
      obtain⟨hp0,_⟩:=ZO
      repeat' (walk_at "rd1")
      rename_i Fx H2 s2 hr2
      have uL:=Mv.bq (o:=.ins a.aq dx [("name",.str n),("rule",Fx)]) (s2 _ _ e1) (by intro _ z;cases z)
      exact⟨Fx,rfl,Kj.trans (s2.mv.trans uL),ao,hr2.mv T uL (s2 _ _ e1)⟩
     |behind st gp wd m=>
      have Wn:=ZO
      obtain⟨hp0,_⟩:=ZO
      repeat' (walk_at "rd1")
      rename_i Fx H2 s2 hr2
      have uL:=Mv.bq (o:=.ins a.aq dx [("name",.str n),("rule",Fx)]) (s2 _ _ e1) (by intro _ z;cases z)
      exact⟨Fx,rfl,Kj.trans (s2.mv.trans uL),ao,hr2.mv T uL (s2 _ _ e1)⟩
   rintro σ' H2 ⟨Fx,rfl,uL,e2,hR2⟩
   clear e1 ZO Kj
   repeat' (walk_at "rd1")
   simp only [jZ]
   have mv3:Mv [p] H (upd H2 p (.ins a.aq dx [("name",.str n),("rule",Fx),("weight",.int wt),("home",Nt hm),("by_day",.bl dy),("number",.int 0)])):=uL.trans (Mv.bq e2 (by intro _ z;cases z))
   have hR3:=hR2.mv T (Mv.bq (o:=.ins a.aq dx [("name",.str n),("rule",Fx),("weight",.int wt),("home",Nt hm),("by_day",.bl dy),("number",.int 0)]) e2 (by intro _ z;cases z)) e2
   refine gg (fun σ' H'=>∃sv,σ'=[some (.ref p),some (.str n),some rv,some (.int wt),some (Nt hm),some (.bl dy)]/\Mv [p] H H'/\H' p=some (.ins a.aq dx [("name",.str n),("rule",Fx),("weight",.int wt),("home",Nt hm),("by_day",.bl dy),("number",.int 0),("stretch",sv)])/\qF a H' Fx r/\Dv H' sv (pD (Dy r))) ?_ ?_
   . cases r with
     |each st sp wd m=>
      have Wn:=hR3
      obtain⟨hp0,_⟩:=hR3
      repeat' (walk_at "rd1")
      rename_i sv H4 s4 hs4
      have Lb:=Mv.bq (o:=.ins a.aq dx [("name",.str n),("rule",Fx),("weight",.int wt),("home",Nt hm),("by_day",.bl dy),("number",.int 0),("stretch",sv)]) (s4 _ _ ao) (by intro _ z;cases z)
      exact⟨sv,rfl,mv3.trans (s4.mv.trans Lb),ao,(Wn.keeps s4).mv T Lb (s4 _ _ ao),Lb.dat rfl hs4⟩
     |behind st gp wd m=>
      have Wn:=hR3
      obtain⟨hp0,_⟩:=hR3
      repeat' (walk_at "rd1")
      rename_i sv H4 s4 hs4
      have Lb:=Mv.bq (o:=.ins a.aq dx [("name",.str n),("rule",Fx),("weight",.int wt),("home",Nt hm),("by_day",.bl dy),("number",.int 0),("stretch",sv)]) (s4 _ _ ao) (by intro _ z;cases z)
      exact⟨sv,rfl,mv3.trans (s4.mv.trans Lb),ao,(Wn.keeps s4).mv T Lb (s4 _ _ ao),Lb.dat rfl hs4⟩
   rintro σ' H5 ⟨sv,rfl,Qk,e5,hR5,hs5⟩
   repeat' (walk_at "rd1")
   simp only [jZ]
   obtain⟨mv6,hb6⟩:=gw.upd (n:=n) (x:=ib r wt hm dy) T ⟨_,e5⟩ hR5 hs5
   exact q _ (Qk.trans mv6) hb6
theorem Mj (T:Txt K mg a):dE P w K mg base 8 a.b6 ["self","name","rule","weight","home","by_day"] [] (Gk a):=
 ⟨⟨_,_,QM T,T.jj.binds fun _ _ _ _ _ _=>aaZ fun _ _ _ _ _ _=>rfl,.nil⟩⟩
theorem Vd {H:Hp} {Q:VK} {E:XK} {n:Str} {rv:V} {r:RU} {wt:Int} {hm:Option Str} {dy:Bool} {us:List V} (eu:us=[.str n,rv,.int wt,Nt hm,.bl dy]) (hR:qF a H rv r) (k:∀b H2,ax H H2->H b=none->gw a H2 b n (ib r wt hm dy)->Q (.ref b) H2):DZ a.aq (Gk a) us H Q E:=by
 refine⟨_,eu,fun x dx hx hd ne=>⟨x,dx,n,rv,r,wt,hm,dy,rfl,ao,hR.keeps (fun b u e=>?_),fun H' mv hg=>⟨rfl,?_⟩⟩⟩
 . rw [ay (aA e hx),ay (aA e hd)];exact e
 . refine k _ _ (fun b u e=>?_) hx hg
   have hb:b≠x:=aA e hx
   refine mv.kp b u (by simpa using hb) ?_
   rw [ay hb,ay (aA e hd)]
   exact e
structure KS where
 now:Int
 sh:Int
 f:Str->Option jc
 t:Str->Option Int
structure Lay where
 p:Addr
 wp:Addr
 td:Addr
 bd:Addr
 gv:V
 ad:Str->Addr
 nm:List Str
def aP (L:Lay) (now sh:Int):List (Str × V):=[("waits",.ref L.wp),("rounds",.aQ),("now",.int now),("shift",.int sh),("groups",L.gv),("by_name",.ref L.bd)]
structure b9 (a:Ad) (H:Hp) (L:Lay) (k:KS):Prop where
 ins:kL H (.ref L.p) a.ah (aP L k.now k.sh)
 wt:∃ts,Dt a.aD H (.ref L.wp) L.td k.now ts/\(ts.map (·.1)).Nodup/\∀n u,(n,u)∈ts↔k.t n=some u
 bd:∃ns,rg H L.bd ns (fun n=>.ref (L.ad n))/\ns.Nodup/\∀n,n∈ns↔(k.f n).isSome=true
 bl:∀n x,k.f n=some x->gw a H (L.ad n) n x
 ne:L.td≠L.bd
 nl:L.nm.length<=55
 nt:∀n,(k.t n).isSome=true->n∈L.nm
 nf:∀n,(k.f n).isSome=true->n∈L.nm
abbrev qO (a:Ad) (L:Lay) (H H':Hp):Prop:=Fr [a.aq,a.ah,a.aD] [L.td,L.bd] H H'
theorem Cg {α:Type} [DecidableEq α]:∀{l m:List α},l.Nodup->(∀x∈l,x∈m)->l.length<=m.length
 |[],_,_,_=>Nat.zero_le _
 |x::l,m,h,hs=>by
  rw [List.nodup_cons] at h
  have h1:=Cg (l:=l) (m:=m.erase x) h.2 fun y hy=>(List.mem_erase_of_ne (fun e:y=x=>h.1 (by rw [<-e];exact hy))).mpr (hs y (List.mem_cons_of_mem _ hy))
  have h2:=List.length_erase_of_mem (hs x List.mem_cons_self)
  have h3:0<m.length:=List.length_pos_of_mem (hs x List.mem_cons_self)
  rw [List.length_cons]
  omega
section
variable {H H':Hp} {L:Lay} {k:KS} {n:Str} {x x':jc}
theorem b9.keeps (s:ax H H') (h:b9 a H L k):b9 a H' L k:=by
 obtain⟨ts,w1,w2,w3⟩:=h.wt
 obtain⟨ns,b1,b2,b3⟩:=h.bd
 exact⟨h.ins.keeps s,⟨ts,w1.keeps s,w2,w3⟩,⟨ns,b1.keeps s,b2,b3⟩,fun n x e=>(h.bl n x e).keeps s,h.ne,h.nl,h.nt,h.nf⟩
theorem gw.at (h:gw a H b n x):∃dx rv sv,H b=some (.ins a.aq dx (iP n rv sv x)):=by
 obtain⟨rv,sv,⟨p,dx,e,hi⟩,_⟩:=h
 cases e
 exact⟨dx,rv,sv,hi⟩
theorem B8 {C D:Addr} {b dx:Addr} {v:V} {fs gs:List (Str × V)} (m:Mv [b] H H') (e:H b=some (.ins D dx gs)) (nq:C≠D) (h:kL H v C fs):kL H' v C fs:=by
 obtain⟨p,dy,rfl,hi⟩:=h
 refine⟨p,dy,rfl,m.at (fun z=>?_) hi⟩
 rw [List.mem_singleton.mp z,e] at hi
 cases hi
 exact nq rfl
theorem yd {C:Addr} {b:Addr} {v:V} {fs:List (Str × V)} {kvs:List (Key × V)} (m:Mv [b] H H') (e:H b=some (.dK kvs)) (h:kL H v C fs):kL H' v C fs:=by
 obtain⟨p,dy,rfl,hi⟩:=h
 refine⟨p,dy,rfl,m.at (fun z=>?_) hi⟩
 rw [List.mem_singleton.mp z,e] at hi
 cases hi
theorem gw.mvB (T:Txt K mg a) {m':Str} {y:jc} {b c:Addr} (h:gw a H b n x) (g:gw a H c m' y) (nq:n≠m') (m:Mv [c] H H'):gw a H' b n x:=by
 obtain⟨dx,Fx,sv2,e⟩:=g.at
 obtain⟨rv,sv,⟨p,dy,e0,hi⟩,h2,h3⟩:=h
 cases e0
 refine⟨rv,sv,⟨b,dy,rfl,m.at (fun z=>?_) hi⟩,h2.mv T m e,m.dat (qT _) h3⟩
 rw [List.mem_singleton.mp z,e] at hi
 have hi:HO.ins a.aq dx (iP m' Fx sv2 y)=HO.ins a.aq dy (iP n rv sv x):=Option.some.inj hi
 injection hi with _ _ hf
 unfold iP at hf
 injection hf with h4 _
 injection h4 with _ h5
 injection h5 with h6
 exact nq h6.symm
theorem qF.Z0 {c:Addr} {kvs:List (Key × V)} {v:V} {r:RU} (m:Mv [c] H H') (e:H c=some (.dK kvs)) (h:qF a H v r):qF a H' v r:=qF.fr (cs:=[]) (S:=[c]) (Fr.dkM m e List.mem_cons_self)
 (by simp)
 (by simp)
 h
theorem gw.Z0 {c:Addr} {kvs:List (Key × V)} (m:Mv [c] H H') (e:H c=some (.dK kvs)) (h:gw a H b n x):gw a H' b n x:=by
 obtain⟨rv,sv,h1,h2,h3⟩:=h
 exact⟨rv,sv,yd m e h1,h2.Z0 m e,m.dat (qT _) h3⟩
theorem b9.Xy (T:Txt K mg a) (h:b9 a H L k) (hx:k.f n=some x) (m:Mv [L.ad n] H H') (hb:gw a H' (L.ad n) n x'):b9 a H' L {k with f:=cn k.f n (some x')}/\qO a L H H':=by
 have hB:=h.bl n x hx
 obtain⟨dx,rv,sv,e⟩:=hB.at
 obtain⟨ts,w1,w2,w3⟩:=h.wt
 obtain⟨ns,b1,b2,b3⟩:=h.bd
 have nd1:∀{d:Addr} {kvs:List (Key × V)},H d=some (.dK kvs)->d∉[L.ad n]:=fun {d kvs} e2 z=>by rw [List.mem_singleton.mp z,e] at e2;cases e2
 obtain⟨kw,ew,_⟩:=id w1.dat
 refine⟨⟨B8 m e (Ne.symm T.dF) h.ins,⟨ts,⟨B8 m e (Ne.symm T.iV) w1.ins,w1.dat.mv m (nd1 ew)⟩,w2,w3⟩,⟨ns,b1.mv m (nd1 b1),b2,fun y=>?_⟩,fun y z hz=>?_,h.ne,h.nl,h.nt,fun y hy=>?_⟩,Fr.O2 m e List.mem_cons_self⟩
 . rw [b3]
   by_cases ey:y=n
   . subst ey;simp [aG,hx]
   . show _↔(cn k.f n (some x') y).isSome=true
     rw [bT ey]
 . by_cases ey:y=n
   . subst ey
     have hz:cn k.f y (some x') y=some z:=hz
     rw [aG] at hz
     cases hz
     exact hb
   . have hz:cn k.f n (some x') y=some z:=hz
     rw [bT ey] at hz
     exact(h.bl y z hz).mvB T hB ey m
 . by_cases ey:y=n
   . subst ey;exact h.nf y (by rw [hx];rfl)
   . refine h.nf y ?_
     have hy:(cn k.f n (some x') y).isSome=true:=hy
     rwa [bT ey] at hy
theorem b9.aa5 (h:b9 a H L k) {ts:List (Str × Int)} {t':Str->Option Int} (m:Mv [L.td] H H') (w:Dt a.aD H' (.ref L.wp) L.td k.now ts) (w2:(ts.map (·.1)).Nodup) (w3:∀n u,(n,u)∈ts↔t' n=some u) (w4:∀n,(t' n).isSome=true->n∈L.nm):b9 a H' L {k with t:=t'}/\qO a L H H':=by
 obtain⟨ts0,v1,_⟩:=h.wt
 obtain⟨kvs,e,_⟩:=id v1.dat
 obtain⟨ns,b1,b2,b3⟩:=h.bd
 refine⟨⟨yd m e h.ins,⟨ts,w,w2,w3⟩,⟨ns,b1.mv m (by simpa using Ne.symm h.ne),b2,b3⟩,fun y z hz=>(h.bl y z hz).Z0 m e,h.ne,h.nl,w4,h.nf⟩,Fr.dkM m e List.mem_cons_self⟩
theorem b9.pop (h:b9 a H L k) {ns:List Str} (b1:rg H L.bd ns (fun n=>.ref (L.ad n))) (b2:ns.Nodup) (b3:∀n,n∈ns↔(k.f n).isSome=true) (m:Mv [L.bd] H H') (Uh:rg H' L.bd (ns.filter fun y=>decide (y≠n)) (fun n=>.ref (L.ad n))):b9 a H' L {k with f:=cn k.f n none}/\qO a L H H':=by
 obtain⟨ts,w1,w2,w3⟩:=h.wt
 have hf:∀y,(cn k.f n none y).isSome=true↔y≠n/\(k.f y).isSome=true:=fun y=>by
  by_cases ey:y=n
  . subst ey;simp [aG]
  . rw [bT ey];simp [ey]
 refine⟨⟨yd m b1 h.ins,⟨ts,⟨yd m b1 w1.ins,w1.dat.mv m (by simpa using h.ne)⟩,w2,w3⟩,⟨_,Uh,b2.sublist List.filter_sublist,fun y=>?_⟩,fun y z hz=>?_,h.ne,h.nl,h.nt,fun y hy=>h.nf y ((hf y).mp hy).2⟩,Fr.dkM m b1 (List.mem_cons_of_mem _ List.mem_cons_self)⟩
 . show _↔(cn k.f n none y).isSome=true
   rw [hf,List.mem_filter,b3];simp [and_comm]
 . have hz:cn k.f n none y=some z:=hz
   by_cases ey:y=n
   . subst ey;rw [aG] at hz;cases hz
   . rw [bT ey] at hz
     exact(h.bl y z hz).Z0 m b1
theorem b9.aeP (h:b9 a H L k) {ns:List Str} {b:Addr} (b1:rg H L.bd ns (fun n=>.ref (L.ad n))) (b2:ns.Nodup) (b3:∀n,n∈ns↔(k.f n).isSome=true) (hn:k.f n=none) (hm:n∈L.nm) (hb:gw a H b n x) (m:Mv [L.bd] H H') (Uh:rg H' L.bd (ns++[n]) (cn (fun n=>.ref (L.ad n)) n (.ref b))):b9 a H' {L with ad:=cn L.ad n b} {k with f:=cn k.f n (some x)}/\qO a L H H':=by
 obtain⟨ts,w1,w2,w3⟩:=h.wt
 have hf:∀y,(cn k.f n (some x) y).isSome=true↔y=n\/(k.f y).isSome=true:=fun y=>by
  by_cases ey:y=n
  . subst ey;simp [aG]
  . rw [bT ey];simp [ey]
 have Ry:n∉ns:=fun z=>by rw [b3,hn] at z;cases z
 refine⟨⟨yd m b1 h.ins,⟨ts,⟨yd m b1 w1.ins,w1.dat.mv m (by simpa using h.ne)⟩,w2,w3⟩,⟨_,Uh.congr fun y hy=>?_,?_,fun y=>?_⟩,fun y z hz=>?_,h.ne,h.nl,h.nt,fun y hy=>?_⟩,Fr.dkM m b1 (List.mem_cons_of_mem _ List.mem_cons_self)⟩
 . show cn (fun n=>V.ref (L.ad n)) n (V.ref b) y=V.ref (cn L.ad n b y)
   by_cases ey:y=n
   . subst ey;rw [aG,aG]
   . rw [bT ey,bT ey]
 . rw [List.nodup_append]
   refine⟨b2,by simp,fun y hy z hz=>?_⟩
   rw [List.mem_singleton.mp hz]
   exact fun e=>Ry (e▸hy)
 . show _↔(cn k.f n (some x) y).isSome=true
   rw [hf,List.mem_append,b3,List.mem_singleton,or_comm]
 . have hz:cn k.f n (some x) y=some z:=hz
   show gw a H' (cn L.ad n b y) y z
   by_cases ey:y=n
   . subst ey
     rw [aG] at hz
     cases hz
     rw [aG]
     exact hb.Z0 m b1
   . rw [bT ey] at hz
     rw [bT ey]
     exact(h.bl y z hz).Z0 m b1
 . rcases (hf y).mp hy with e|hy
   . rw [e];exact hm
   . exact h.nf y hy
end
local macro_rules|`(tactic|walk_at "vat")=>`(tactic|first|(refine' rg.keeps ?s ?m;(case s=>assumption);(case m=>walk_at "vat"))|fail)
set_option hygiene false in
local macro_rules|`(tactic|walk_at "vat")=>`(tactic|first|assumption|fail)
local macro_rules|`(tactic|walk_at "kat")=>`(tactic|first|(refine' b9.keeps ?s ?m;(case s=>assumption);(case m=>walk_at "kat"))|fail)
set_option hygiene false in
local macro_rules|`(tactic|walk_at "kat")=>`(tactic|first|assumption|fail)
local macro_rules|`(tactic|walk_at "rd1")=>`(tactic|first|((with_reducible refine' acX ?e1 ?_);(case e1=>walk_at "vat"))|fail)
local macro_rules|`(tactic|walk_at "rd1")=>`(tactic|first|((with_reducible refine' Uy ?e1 ?e2 ?_);(case e1=>walk_at "vat");(case e2=>assumption))|fail)
local macro_rules|`(tactic|walk_at "rd1")=>`(tactic|first|((with_reducible refine' Za ?e1 (fun _ _ _=>?_));(case e1=>walk_at "vat"))|fail)
def AJ (a:Ad):Sp:=fun vs H Q _=>∃v b n x,vs=[v,.ref b]/\gw a H b n x/\x.hm=none/\Q (.bl true) H
theorem Oo {H:Hp} {Q:VK} {E:XK} {v:V} {b:Addr} {n:Str} {x:jc} (h:gw a H b n x) (hx:x.hm=none) (q:Q (.bl true) H):AJ a [v,.ref b] H Q E:=⟨v,b,n,x,rfl,h,hx,q⟩
theorem Md (T:Txt K mg a):aN P w K mg base fF 1 a.bK a.pO ["self","bell"] (AJ a):=by
 have cl:=T.aV;have n1:=T.gS
 refine T.jF.ok DF (fun vs H Q E h=>?_) (fun cR A outer s H vs Q E hr h=>?_)
 . obtain⟨_,_,_,_,rfl,_⟩:=h;rfl
 . obtain⟨v,b,n,x,rfl,⟨rv,sv,hi,hR,hd⟩,hx,q⟩:=h
   unfold iP at hi
   rw [hx] at hi
   simp only [Nt] at hi
   refine⟨_,(ai (aC (abS (iA F1 (au (pv 1) rfl) dn (aJ _)) (Gy CK)))),?_⟩
   repeat' (walk_at "rd1")
   exact q
theorem KG (T:Txt K mg a):dE P w K mg base 1 a.bK ["self","bell"] [] (AJ a):=
 ⟨⟨_,_,Md T,T.jF.binds fun _ _ _ _ _ _=>dR fun _ _=>rfl,.nil⟩⟩
def F6 (a:Ad):Sp:=fun vs H Q _=>∃L k b n x,vs=[.ref L.p,.ref b]/\b9 a H L k/\gw a H b n x/\Q (.int (k.now+lead x k.sh)) H
theorem U7 {H:Hp} {Q:VK} {E:XK} {L:Lay} {k:KS} {b:Addr} {n:Str} {x:jc} (h:b9 a H L k) (hb:gw a H b n x) (q:Q (.int (k.now+lead x k.sh)) H):F6 a [.ref L.p,.ref b] H Q E:=⟨L,k,b,n,x,rfl,h,hb,q⟩
theorem Tc (T:Txt K mg a):aN P w K mg base fF 2 a.bF a.pd ["self","bell"] (F6 a):=by
 have cl:=T.aB;have n1:=T.aZ;have n2:=T.bb
 have JU:=JS (P:=P) (w:=w) (base:=base) T
 refine T.ji.ok DM (fun vs H Q E h=>?_) (fun cR A outer s H vs Q E hr h=>?_)
 . obtain⟨_,_,_,_,_,rfl,_⟩:=h;rfl
 . obtain⟨L,k,b,n,x,rfl,hk,hb,q⟩:=h
   have hi:=hk.ins
   unfold aP at hi
   have hbi:∃fs,kL H (.ref b) a.aq fs/\fs.lookup ("lead":Str)=none:=by
    obtain⟨rv,sv,hi,_⟩:=hb
    exact⟨_,hi,by unfold iP;walk_at "lk"⟩
   obtain⟨fs,hbi,hbl⟩:=hbi
   refine⟨_,(ai (aC (av aM (au (pv 0) rfl) (aI (pv 1) T.aV T.xk JU (hr.mono (by decide)) (ae (au (pv 0) rfl) ak))))),?_⟩
   repeat' (walk_at "rd1")
   exact q
theorem P9 (T:Txt K mg a):dE P w K mg base 2 a.bF ["self","bell"] [] (F6 a):=
 ⟨⟨_,_,Tc T,T.ji.binds fun _ _ _ _ _ _=>dR fun _ _=>rfl,.nil⟩⟩
theorem gw.yi {H:Hp} {b:Addr} {n:Str} {x:jc} (h:gw a H b n x):∃fs,kL H (.ref b) a.aq fs/\fs.lookup ("lead":Str)=none/\fs.lookup ("is_over":Str)=none/\fs.lookup ("is_waiting":Str)=none/\fs.lookup ("catch_up":Str)=none/\fs.lookup ("wait":Str)=none/\fs.lookup ("rest":Str)=none/\fs.lookup ("move":Str)=none/\fs.lookup ("about":Str)=none/\fs.lookup ("name":Str)=some (.str n)/\fs.lookup ("until":Str)=some (ow x.un)/\fs.lookup ("since":Str)=some (ow x.sn)/\fs.lookup ("by_day":Str)=some (.bl x.dy)/\fs.lookup ("weight":Str)=some (.int x.wt)/\fs.lookup ("number":Str)=some (.int x.no):=by
 obtain⟨rv,sv,hi,_⟩:=h
 refine⟨_,hi,?_⟩
 unfold iP
 exact⟨by walk_at "lk",by walk_at "lk",by walk_at "lk",by walk_at "lk",by walk_at "lk",by walk_at "lk",by walk_at "lk",by walk_at "lk",by walk_at "lk",by walk_at "lk",by walk_at "lk",by walk_at "lk",by walk_at "lk",by walk_at "lk"⟩
theorem Dt.yi {H:Hp} {v:V} {d:Addr} {n:Int} {ts:List (Str × Int)} (h:Dt a.aD H v d n ts):∃fs,kL H v a.aD fs/\fs.lookup ("put":Str)=none/\fs.lookup ("take":Str)=none/\fs.lookup ("time_of":Str)=none/\fs.lookup ("due":Str)=none/\fs.lookup ("least":Str)=none:=
 ⟨_,h.ins,by walk_at "lk",by walk_at "lk",by walk_at "lk",by walk_at "lk",by walk_at "lk"⟩
theorem RE {ts:List (Str × Int)} {t:Str->Option Int} (h1:(ts.map (·.1)).Nodup) (h2:∀n u,(n,u)∈ts↔t n=some u) (n:Str):yj (AW ts) n=(t n).map PyData.int:=by
 cases e:t n with
 |some u=>exact FU h1 ((h2 n u).mpr e)
 |none=>
  unfold yj AW
  rw [Option.map_none,Option.map_eq_none_iff,List.find?_eq_none]
  intro kv hkv
  obtain⟨y,hy,rfl⟩:=List.mem_map.mp hkv
  have:=(h2 y.1 y.2).mp hy
  intro z
  have z:y.1=n:=of_decide_eq_true z
  rw [z,e] at this
  cases this
def IT (a:Ad):Sp:=fun vs H Q _=>∃L k n x,vs=[.ref L.p,.ref (L.ad n)]/\b9 a H L k/\k.f n=some x/\∀H',qO a L H H'->b9 a H' L {k with f:=cn k.f n (some (rest x)),t:=cn k.t n none}->Q .aQ H'
theorem Qt {H:Hp} {Q:VK} {E:XK} {L:Lay} {k:KS} {n:Str} {x:jc} (h:b9 a H L k) (hx:k.f n=some x) (q:∀H',qO a L H H'->b9 a H' L {k with f:=cn k.f n (some (rest x)),t:=cn k.t n none}->Q .aQ H'):IT a [.ref L.p,.ref (L.ad n)] H Q E:=⟨L,k,n,x,rfl,h,hx,q⟩
theorem Va (T:Txt K mg a):aN P w K mg base fF 3 a.dO a.A7 ["self","bell"] (IT a):=by
 have cl:=T.aB;have n1:=T.bJ;have cb:=T.aV;have n2:=T.bD;have cr:=T.cQ
 have JX:=Tb (P:=P) (w:=w) (base:=base) T
 have Ha:=Mw (P:=P) (w:=w) (base:=base) T
 have MU:=OH (P:=P) (w:=w) (base:=base) T
 refine T.xU.ok Iy (fun vs H Q E h=>?_) (fun cR A outer s H vs Q E hr h=>?_)
 . obtain⟨_,_,_,_,rfl,_⟩:=h;rfl
 . obtain⟨L,k,n,x,rfl,hk,hx,q⟩:=h
   have hi:=hk.ins
   unfold aP at hi
   have hB:=hk.bl n x hx
   obtain⟨fs,hb,l1,l2,l3,l4,l5,l6,l7,l8,l9,l10,VN,V7,UD,Ul⟩:=hB.yi
   obtain⟨ts,w1,w2,w3⟩:=hk.wt
   obtain⟨gs,hw,k1,k2,k3,k4,k5⟩:=w1.yi
   have Qi:=RE w2 w3 n
   refine⟨_,(cP (cj (aK qQ (aI (au (pv 0) rfl) T.cQ T.zP Ha (hr.mono (by decide)) (ae (au (pv 1) rfl) ak)) dn (aJ _))
    (ai (aW (aI (au (pv 0) rfl) T.cQ T.Gr MU (hr.mono (by decide)) (ae (au (pv 1) rfl) ak))))
    aO)
    (ai (aW (dG (pv 1) T.aV T.Ep JX (hr.mono (by decide)))))),?_⟩
   refine gg (fun σ' H'=>σ'=[some (.ref L.p),some (.ref (L.ad n))]/\qO a L H H'/\b9 a H' L {k with t:=cn k.t n none}) ?_ ?_
   . cases e:k.t n with
     |none=>
      rw [e] at Qi
      repeat' (walk_at "rd1")
      refine⟨.ref L.wp,L.td,k.now,ts,n,rfl,w1,fun t ht=>(by rw [Qi] at ht;cases ht),fun _=>?_⟩
      repeat' (walk_at "rd1")
      refine⟨rfl,Fr.refl,?_⟩
      have:cn k.t n none=k.t:=by
       funext y
       by_cases ey:y=n
       . rw [ey,aG,e]
       . rw [bT ey]
      rw [this];exact hk
     |some u=>
      rw [e] at Qi
      repeat' (walk_at "rd1")
      refine⟨.ref L.wp,L.td,k.now,ts,n,rfl,w1,fun t ht=>?_,fun ht=>(by rw [Qi] at ht;cases ht)⟩
      repeat' (walk_at "rd1")
      refine T8 w1 Qi (fun H' mv WK z=>?_)
      repeat' (walk_at "rd1")
      have f1:∀y v,(y,v)∈(ts.filter fun y=>decide (y.1≠n))↔cn k.t n none y=some v:=fun y v=>by
       by_cases ey:y=n
       . subst ey;simp [aG]
       . rw [List.mem_filter,w3,bT ey];simp [ey]
      have f2:∀y,(cn k.t n none y).isSome=true->y∈L.nm:=fun y hy=>by
       by_cases ey:y=n
       . subst ey;rw [aG] at hy;cases hy
       . rw [bT ey] at hy;exact hk.nt y hy
      obtain⟨QL,fr⟩:=hk.aa5 (t':=cn k.t n none) mv WK (w2.sublist (List.filter_sublist.map _)) f1 f2
      exact⟨rfl,fr,QL⟩
   rintro σ' H1 ⟨rfl,Fd,jM⟩
   have Vm:=jM.bl n x hx
   obtain⟨fs1,hb1,_,_,_,_,_,m6,_⟩:=Vm.yi
   repeat' (walk_at "rd1")
   refine XJ Vm (fun H2 uL Wx=>?_)
   repeat' (walk_at "rd1")
   obtain⟨jN,uI⟩:=jM.Xy T hx uL Wx
   exact q _ (Fd.trans uI) jN
theorem Kz (T:Txt K mg a):dE P w K mg base 3 a.dO ["self","bell"] [] (IT a):=
 ⟨⟨_,_,Va T,T.xU.binds fun _ _ _ _ _ _=>dR fun _ _=>rfl,.nil⟩⟩
theorem u9 {β:Type} {f:Str->β} {k:Str} {u v:β}:cn (cn f k u) k v=cn f k v:=by
 funext y
 by_cases e:y=k
 . rw [e,aG,aG]
 . rw [bT e,bT e,bT e]
local macro_rules|`(tactic|walk_at "fr")=>`(tactic|first|(refine' Fr.step ?m ?s;(case s=>assumption);(case m=>walk_at "fr"))|fail)
local macro_rules|`(tactic|walk_at "fr")=>`(tactic|first|(refine' Fr.trans ?m ?s;(case s=>assumption);(case m=>walk_at "fr"))|fail)
set_option hygiene false in
local macro_rules|`(tactic|walk_at "fr")=>`(tactic|first|assumption|fail)
set_option hygiene false in
local macro_rules|`(tactic|walk_at "fr")=>`(tactic|first|exact Fr.refl|fail)
def Ah (a:Ad):Sp:=fun vs H Q _=>∃L k n x f l,vs=[.ref L.p,.ref (L.ad n)]/\b9 a H L k/\k.f n=some x/\x.st=some (f,l)/\k.t n=none/\k.now<l - lead x k.sh/\∀H',qO a L H H'->b9 a H' L {k with f:=cn k.f n (some (wait x k.now k.sh f l)),t:=cn k.t n (some (l - lead x k.sh))}->Q .aQ H'
theorem O9 {H:Hp} {Q:VK} {E:XK} {L:Lay} {k:KS} {n:Str} {x:jc} {f l:Int} (h:b9 a H L k) (hx:k.f n=some x) (hs:x.st=some (f,l)) (ht:k.t n=none) (hl:k.now<l - lead x k.sh) (q:∀H',qO a L H H'->b9 a H' L {k with f:=cn k.f n (some (wait x k.now k.sh f l)),t:=cn k.t n (some (l - lead x k.sh))}->Q .aQ H'):Ah a [.ref L.p,.ref (L.ad n)] H Q E:=⟨L,k,n,x,f,l,rfl,h,hx,hs,ht,hl,q⟩
theorem LA (T:Txt K mg a):aN P w K mg base fF 3 a.bH a.pz ["self","bell"] (Ah a):=by
 have cl:=T.aB;have n1:=T.bJ;have n3:=T.aZ;have n4:=T.bb;have cb:=T.aV;have n2:=T.bD;have n5:=T.cA;have cr:=T.cQ
 have KN:=P6 (P:=P) (w:=w) (base:=base) T
 have PH:=VG (P:=P) (w:=w) (base:=base) T
 refine T.jE.ok Dz (fun vs H Q E h=>?_) (fun cR A outer s H vs Q E hr h=>?_)
 . obtain⟨_,_,_,_,_,_,rfl,_⟩:=h;rfl
 . obtain⟨L,k,n,x,f,l,rfl,hk,hx,hs,ht,hl,q⟩:=h
   have hi:=hk.ins
   unfold aP at hi
   have hB:=hk.bl n x hx
   obtain⟨fs,hb,l1,l2,l3,l4,l5,l6,l7,l8,l9,l10,VN,V7,UD,Ul⟩:=hB.yi
   refine⟨_,(cP (aW (aI (pv 1) T.aV T.Es KN (hr.mono (by decide)) (ae (au (pv 0) rfl) (ae (au (pv 0) rfl) ak))))
    (ai (aW (aI (au (pv 0) rfl) T.cQ T.He PH (hr.mono (by decide)) (ae (au (pv 1) rfl) (ae (au (pv 1) rfl) ak)))))),?_⟩
   repeat' (walk_at "rd1")
   refine gg (fun σ' H'=>σ'=[some (.ref L.p),some (.ref (L.ad n))]/\qO a L H H'/\b9 a H' L {k with f:=cn k.f n (some (wait x k.now k.sh f l))}) ?_ ?_
   . repeat' (walk_at "rd1")
     refine Vu hB hs (fun H2 uL Wx=>?_)
     repeat' (walk_at "rd1")
     obtain⟨jN,uI⟩:=hk.Xy T hx uL Wx
     exact⟨rfl,uI,jN⟩
   rintro σ' H1 ⟨rfl,Fd,jM⟩
   clear hi hB hb l1 l2 l3 l4 l5 l6 l7 l8 l9 l10 VN V7 UD Ul
   have hi:=jM.ins
   unfold aP at hi
   have hB:=jM.bl n (wait x k.now k.sh f l) aG
   obtain⟨fs,hb,l1,l2,l3,l4,l5,l6,l7,l8,l9,l10,VN,V7,UD,Ul⟩:=hB.yi
   have l10:fs.lookup ("until":Str)=some (.int (l - lead x k.sh)):=l10
   obtain⟨ts,w1,w2,w3⟩:=jM.wt
   obtain⟨gs,hw,k1,k2,k3,k4,k5⟩:=w1.yi
   have Qi:=RE w2 w3 n
   have ht':({k with f:=cn k.f n (some (wait x k.now k.sh f l))}:KS).t n=none:=ht
   rw [ht'] at Qi
   have hlen:ts.length<=100:=by
    have:=Cg w2 (m:=L.nm) fun y hy=>by
     obtain⟨z,hz,rfl⟩:=List.mem_map.mp hy
     exact jM.nt z.1 (by rw [(w3 z.1 z.2).mp hz];rfl)
    have h55:=jM.nl
    rw [List.length_map] at this
    omega
   repeat' (walk_at "rd1")
   refine aa6 w1 hlen Qi hl (fun H2 uL WK=>?_)
   repeat' (walk_at "rd1")
   have Ry:n∈L.nm:=jM.nf n (by show(cn k.f n (some _) n).isSome=true;rw [aG];rfl)
   have f0:n∉ts.map (·.1):=fun z=>by
    obtain⟨y,hy,rfl⟩:=List.mem_map.mp z
    have:=(w3 y.1 y.2).mp hy
    rw [ht'] at this
    cases this
   have f1:∀y v,(y,v)∈ts++[(n,l - lead x k.sh)]↔cn k.t n (some (l - lead x k.sh)) y=some v:=fun y v=>by
    rw [List.mem_append,w3]
    by_cases ey:y=n
    . subst ey
      rw [aG]
      show k.t y=some v\/_↔_
      rw [ht]
      simp [eq_comm]
    . rw [bT ey];simp [ey]
   have f2:∀y,(cn k.t n (some (l - lead x k.sh)) y).isSome=true->y∈L.nm:=fun y hy=>by
    by_cases ey:y=n
    . subst ey;exact Ry
    . rw [bT ey] at hy;exact jM.nt y hy
   have f3:((ts++[(n,l - lead x k.sh)]).map (·.1)).Nodup:=by
    rw [List.map_append,List.nodup_append]
    refine⟨w2,by simp,fun y hy z hz=>?_⟩
    rw [List.mem_singleton.mp hz]
    exact fun e:y=n=>f0 (by rw [<-e];exact hy)
   obtain⟨jN,uI⟩:=jM.aa5 (t':=cn k.t n (some (l - lead x k.sh))) uL WK f3 f1 f2
   exact q _ (Fd.trans uI) jN
theorem J3 (T:Txt K mg a):dE P w K mg base 3 a.bH ["self","bell"] [] (Ah a):=
 ⟨⟨_,_,LA T,T.jE.binds fun _ _ _ _ _ _=>dR fun _ _=>rfl,.nil⟩⟩
def DT (a:Ad):Sp:=fun vs H Q _=>∃L k n x,vs=[.ref L.p,.ref (L.ad n)]/\b9 a H L k/\k.f n=some x/\∀H',qO a L H H'->b9 a H' L {k with f:=cn k.f n none,t:=cn k.t n none}->gw a H' (L.ad n) n (rest x)->Q .aQ H'
theorem Q0 {H:Hp} {Q:VK} {E:XK} {L:Lay} {k:KS} {n:Str} {x:jc} (h:b9 a H L k) (hx:k.f n=some x) (q:∀H',qO a L H H'->b9 a H' L {k with f:=cn k.f n none,t:=cn k.t n none}->gw a H' (L.ad n) n (rest x)->Q .aQ H'):DT a [.ref L.p,.ref (L.ad n)] H Q E:=⟨L,k,n,x,rfl,h,hx,q⟩
theorem Pm (T:Txt K mg a):aN P w K mg base fF 4 a.cH a.wu ["self","bell"] (DT a):=by
 have cl:=T.aB;have n1:=T.aT;have cb:=T.aV;have n2:=T.bD
 have LL:=T.oJ
 have LV:=Kz (P:=P) (w:=w) (base:=base) T
 refine T.oq.ok FK (fun vs H Q E h=>?_) (fun cR A outer s H vs Q E hr h=>?_)
 . obtain⟨_,_,_,_,rfl,_⟩:=h;rfl
 . obtain⟨L,k,n,x,rfl,hk,hx,q⟩:=h
   have hi:=hk.ins
   unfold aP at hi
   refine⟨_,(af (aW (aI (pv 0) cl LL LV (hr.mono (by decide)) (ae (pv 1) ak)))
    (ai (aW (Kc PySem.F.plainAttrs_dict PySem.F.slot_dict_pop PySem.F.type_dict_pop JB (au (pv 0) rfl) (ae (au (pv 1) rfl) ak))))),?_⟩
   repeat' (walk_at "rd1")
   refine Qt hk hx (fun H1 Fd jM=>?_)
   have uF:=jM.ins
   unfold aP at uF
   have hB:=jM.bl n (rest x) aG
   obtain⟨fs,hb,l1,l2,l3,l4,l5,l6,l7,l8,l9,l10,VN,V7,UD,Ul⟩:=hB.yi
   obtain⟨ns,b1,b2,b3⟩:=jM.bd
   have hn:n∈ns:=by rw [b3];show(cn k.f n (some _) n).isSome=true;rw [aG];rfl
   repeat' (walk_at "rd1")
   refine UW b1 hn (fun H2 uL Uh=>?_)
   repeat' (walk_at "rd1")
   obtain⟨jN,uI⟩:=jM.pop b1 b2 b3 uL Uh
   have jN:b9 a H2 L {k with f:=cn (cn k.f n (some (rest x))) n none,t:=cn k.t n none}:=jN
   rw [u9] at jN
   exact q _ (Fd.trans uI) jN (hB.Z0 uL b1)
theorem ML (T:Txt K mg a):dE P w K mg base 4 a.cH ["self","bell"] [] (DT a):=
 ⟨⟨_,_,Pm T,T.oq.binds fun _ _ _ _ _ _=>dR fun _ _=>rfl,.nil⟩⟩
def GD (n:Str):PyData:=.tuple [.str "over",.str n]
def Dx (a:Ad):Sp:=fun vs H Q _=>∃L k n x,vs=[.ref L.p,.ref (L.ad n)]/\b9 a H L k/\k.f n=some x/\∀q H',qO a L H H'->H q=none->c9 H' q [GD n]->b9 a H' L {k with f:=cn k.f n none,t:=cn k.t n none}->Q (.ref q) H'
theorem RY {H:Hp} {Q:VK} {E:XK} {L:Lay} {k:KS} {n:Str} {x:jc} (h:b9 a H L k) (hx:k.f n=some x) (q:∀q H',qO a L H H'->H q=none->c9 H' q [GD n]->b9 a H' L {k with f:=cn k.f n none,t:=cn k.t n none}->Q (.ref q) H'):Dx a [.ref L.p,.ref (L.ad n)] H Q E:=⟨L,k,n,x,rfl,h,hx,q⟩
theorem O4 (T:Txt K mg a):aN P w K mg base fF 5 a.cG a.uQ ["self","bell"] (Dx a):=by
 have cl:=T.aB;have cb:=T.aV;have n2:=T.bD
 have Qv:=T.sT
 have Ts:=ML (P:=P) (w:=w) (base:=base) T
 refine T.oI.ok FZ (fun vs H Q E h=>?_) (fun cR A outer s H vs Q E hr h=>?_)
 . obtain⟨_,_,_,_,rfl,_⟩:=h;rfl
 . obtain⟨L,k,n,x,rfl,hk,hx,q⟩:=h
   have hi:=hk.ins
   unfold aP at hi
   refine⟨_,(af (aW (aI (pv 0) cl Qv Ts (hr.mono (by decide)) (ae (pv 1) ak)))
    (ai (aC (fw (ae (eG (ae gk (ae (au (pv 1) rfl) ak))) ak))))),?_⟩
   repeat' (walk_at "rd1")
   refine Q0 hk hx (fun H1 Fd jM hB=>?_)
   obtain⟨fs,hb,l1,l2,l3,l4,l5,l6,l7,l8,l9,l10,VN,V7,UD,Ul⟩:=hB.yi
   repeat' (walk_at "rd1")
   rename_i v2 H2 s2 hv2 q3 H3 s3 MN JD
   exact q _ _ ((Fd.step s2).step s3) (Fd.none (s2.none MN)) JD ((jM.keeps s2).keeps s3)
theorem Ln (T:Txt K mg a):dE P w K mg base 5 a.cG ["self","bell"] [] (Dx a):=
 ⟨⟨_,_,O4 T,T.oI.binds fun _ _ _ _ _ _=>dR fun _ _=>rfl,.nil⟩⟩
def eD (k:KS) (x:jc):Int:=k.now+lead x k.sh
def layB (k:KS) (x:jc) (l:Int):jc:=oP (rest x) l (eD k x)
def eP (k:KS) (n:Str) (x:jc) (l:Int):KS:=match (layB k x l).st with
 |none=>{k with f:=cn k.f n none,t:=cn k.t n none}
 |some (f',l')=>{k with f:=cn k.f n (some (wait (layB k x l) k.now k.sh f' l')),t:=cn k.t n (some (l' - lead x k.sh))}
def qR (k:KS) (n:Str) (x:jc) (l:Int):List PyData:=missed n (rest x) l (eD k x)++(match (layB k x l).st with
 |none=>[GD n]
 |some _=>[])
structure tY (k:KS) (x:jc) (f l:Int):Prop where
 st:x.st=some (f,l)
 hm:x.hm=none
 n0:0<=x.no
 n1:x.no<10^99
 t1:eD k x<10^80
 t2:eD k x - l<10^80
theorem Hn (k:KS) (x:jc) (l sh:Int):lead (layB k x l) sh=lead x sh:=by unfold layB oP;split <;>rfl
theorem gw.ris {H:Hp} {b:Addr} {n:Str} {x:jc} (h:gw a H b n x):∃v,qF a H v x.ru:=let ⟨rv,_,_,h2,_⟩:=h;⟨rv,h2⟩
theorem U2 {k:KS} {x:jc} {f l f' l':Int} {H:Hp} {v:V} (hR:qF a H v x.ru) (ok:tY k x f l) (e:(layB k x l).st=some (f',l')):eD k x<l':=by
 unfold layB oP at e
 split at e
 . rename_i h
   have e:x.st=some (f',l'):=e
   rw [ok.st] at e
   cases e
   exact h
 . exact(Z2 (r:=x.ru) hR e).1
def ME (a:Ad):Sp:=fun vs H Q _=>∃L k n x f l,vs=[.ref L.p,.ref (L.ad n)]/\b9 a H L k/\k.f n=some x/\tY k x f l/\∀q H',qO a L H H'->H q=none->c9 H' q (qR k n x l)->b9 a H' L (eP k n x l)->Q (.ref q) H'
theorem Xj {H:Hp} {Q:VK} {E:XK} {L:Lay} {k:KS} {n:Str} {x:jc} {f l:Int} (h:b9 a H L k) (hx:k.f n=some x) (ok:tY k x f l) (q:∀q H',qO a L H H'->H q=none->c9 H' q (qR k n x l)->b9 a H' L (eP k n x l)->Q (.ref q) H'):ME a [.ref L.p,.ref (L.ad n)] H Q E:=⟨L,k,n,x,f,l,rfl,h,hx,ok,q⟩
theorem Yy (T:Txt K mg a):aN P w K mg base fF 6 a.eV a.EL ["self","bell"] (ME a):=by
 have cl:=T.aB;have cb:=T.aV
 have LL:=T.oJ;have MD:=T.mR;have Mu:=T.lV;have Sb:=T.uC;have Lq:=T.nh
 have LV:=Kz (P:=P) (w:=w) (base:=base) T
 have LC:=KG (P:=P) (w:=w) (base:=base) T
 have Mi:=P9 (P:=P) (w:=w) (base:=base) T
 have S6:=Ln (P:=P) (w:=w) (base:=base) T
 have LX:=J3 (P:=P) (w:=w) (base:=base) T
 have Fb:=Oz (P:=P) (w:=w) (base:=base) T
 have FC:=Lf (P:=P) (w:=w) (base:=base) T
 refine T.AA.ok D3 (fun vs H Q E h=>?_) (fun cR A outer s H vs Q E hr h=>?_)
 . obtain⟨_,_,_,_,_,_,rfl,_⟩:=h;rfl
 . obtain⟨L,k,n,x,f,l,rfl,hk,hx,ok,q⟩:=h
   have hi:=hk.ins
   unfold aP at hi
   obtain⟨rv,hR⟩:=(hk.bl n x hx).ris
   refine⟨_,(af (aW (aI (pv 0) cl LL LV (hr.mono (by decide)) (ae (pv 1) ak)))
    (af (cj (Ax (eg (aI (pv 0) cl MD LC (hr.mono (by decide)) (ae (pv 1) ak)) (fun _=>rfl)))
     (ai (aC (fw ak)))
     aO)
    (af (aL (i:=2) D3.nd rfl (Or.inl rfl) (aI (pv 1) T.aV T.sk Fb (hr.mono (by decide)) (ae (aI (pv 0) cl Mu Mi (hr.mono (by decide)) (ae (pv 1) ak)) ak)))
    (af (cj (eg (dG (pv 1) T.aV T.w5 FC (hr.mono (by decide))) (fun _=>rfl))
     (ai (aC (av XT (pv 2) (aI (pv 0) cl Sb S6 (hr.mono (by decide)) (ae (pv 1) ak)))))
     aO)
    (af (aW (aI (pv 0) cl Lq LX (hr.mono (by decide)) (ae (pv 1) ak)))
    (ai (aC (pv 2)))))))),?_⟩
   repeat' (walk_at "rd1")
   refine Qt hk hx (fun H1 Fd jM=>?_)
   have uF:=jM.ins
   unfold aP at uF
   have Vm:=jM.bl n (rest x) aG
   obtain⟨fs,hb,l1,l2,l3,l4,l5,l6,l7,l8,l9,l10,VN,V7,UD,Ul⟩:=Vm.yi
   repeat' (walk_at "rd1")
   refine Oo Vm ok.hm ?_
   repeat' (walk_at "rd1")
   refine U7 jM Vm ?_
   repeat' (walk_at "rd1")
   refine Vp Vm ok.st ok.n0 ok.n1 ok.t1 ok.t2 (fun q2 H2 uL DV AU Wx=>?_)
   obtain⟨jN,uI⟩:=jM.Xy T (x:=rest x) aG uL Wx
   have jN:b9 a H2 L {k with f:=cn (cn k.f n (some (rest x))) n (some (layB k x l)),t:=cn k.t n none}:=jN
   have Wx:gw a H2 (L.ad n) n (layB k x l):=Wx
   have AU:c9 H2 q2 (missed n (rest x) l (eD k x)):=AU
   rw [u9] at jN
   have G8:=jN.ins
   unfold aP at G8
   obtain⟨fs2,hb2,_,o2,_⟩:=Wx.yi
   have hgt:∀{f' l':Int},(layB k x l).st=some (f',l')->eD k x<l':=fun e=>U2 hR ok e
   unfold qR eP at q
   cases AQ:(layB k x l).st with
   |none=>
    rw [AQ] at q
    repeat' (walk_at "rd1")
    . refine RY jN aG (fun q3 H3 C6 MN JD BI=>?_)
      have BI:b9 a H3 L {k with f:=cn (cn k.f n (some (layB k x l))) n none,t:=cn (cn k.t n none) n none}:=BI
      rw [u9,u9] at BI
      have Ie:=C6.lat AU
      refine Rt Ie JD (by unfold missed;split <;>exact Nat.le_of_ble_eq_true rfl) (fun q4 H4 s4 Xh Qo=>?_)
      repeat' (walk_at "rd1")
      exact q _ _ (((Fd.trans uI).trans C6).step s4) (Fd.none (uI.none (C6.none Xh))) Qo (BI.keeps s4)
    . rename_i hb
      rw [AQ] at hb
      cases hb
   |some fl=>
    obtain⟨f',l'⟩:=fl
    rw [AQ] at q
    have hgt:=hgt AQ
    repeat' (walk_at "rd1")
    . rename_i hb
      rw [AQ] at hb
      cases hb
    . refine O9 jN aG AQ aG (by show k.now<l' - lead (layB k x l) k.sh;rw [Hn];unfold eD at hgt;omega) (fun H3 C6 BI=>?_)
      have BI:b9 a H3 L {k with f:=cn (cn k.f n (some (layB k x l))) n (some (wait (layB k x l) k.now k.sh f' l')),t:=cn (cn k.t n none) n (some (l' - lead (layB k x l) k.sh))}:=BI
      rw [u9,u9,Hn] at BI
      repeat' (walk_at "rd1")
      exact q _ _ ((Fd.trans uI).trans C6) (Fd.none DV) (by rw [List.append_nil];exact C6.lat AU) BI
theorem NF (T:Txt K mg a):dE P w K mg base 6 a.eV ["self","bell"] [] (ME a):=
 ⟨⟨_,_,Yy T,T.AA.binds fun _ _ _ _ _ _=>dR fun _ _=>rfl,.nil⟩⟩
theorem Zq {k:KS} {n m:Str} {x:jc} {l:Int} (h:m≠n):(eP k n x l).f m=k.f m:=by
 unfold eP
 split <;>exact bT h
theorem SE (k:KS) (n:Str) (x:jc) (l:Int):(eP k n x l).now=k.now/\(eP k n x l).sh=k.sh:=by
 unfold eP
 split <;>exact⟨rfl,rfl⟩
theorem Kh (k:KS) (n:Str) (x:jc) (l:Int):(qR k n x l).length<=3:=by
 unfold qR missed
 rw [List.length_append]
 split <;>split <;>exact Nat.le_of_ble_eq_true rfl
theorem tY.same {k k':KS} {x:jc} {f l:Int} (h:tY k x f l) (e1:k'.now=k.now) (e2:k'.sh=k.sh):tY k' x f l:=by
 have e:eD k' x=eD k x:=by unfold eD;rw [e1,e2]
 exact⟨h.st,h.hm,h.n0,h.n1,by rw [e];exact h.t1,by rw [e];exact h.t2⟩
theorem Sv {k:KS} {n:Str} {x y:jc} {l:Int}:eP {k with f:=cn k.f n (some y)} n x l=eP k n x l:=by
 unfold eP
 show(match (layB k x l).st with|none=>_|some (f',l')=>_)=(match (layB k x l).st with|none=>_|some (f',l')=>_)
 cases (layB k x l).st with
 |none=>simp only [u9]
 |some p=>simp only [u9];rfl
def KI (H H':Hp):Prop:=∀x o,H x=some o->(∀xs,o≠.lst xs)->H' x=some o
section
variable {H H' H1:Hp} {L:Lay} {k:KS} {n:Str} {x:jc}
theorem IV {q:Addr} {ds:List PyData} (m:Mv [q] H H') (h:c9 H q ds):KI H H':=fun y o e nl=>m.kp y o (fun z=>by
 obtain⟨xs,e2,_⟩:=h
 rw [List.mem_singleton.mp z,e2] at e
 cases e
 exact nl _ rfl) e
theorem KI.ins {C:Addr} {v:V} {fs:List (Str × V)} (s:KI H H') (h:kL H v C fs):kL H' v C fs:=by
 obtain⟨p,dx,rfl,e⟩:=h
 exact⟨p,dx,rfl,s _ _ e (by intro _ z;cases z)⟩
theorem KI.tup (s:KI H H'):∀a xs,H a=some (.tup xs)->H' a=some (.tup xs):=fun _ _ e=>s _ _ e (by intro _ z;cases z)
theorem KI.dla {p:Addr} {m:List (Str × PyData)} (s:KI H H') (h:uH H p m):uH H' p m:=by
 obtain⟨kvs,e,d⟩:=h
 exact⟨kvs,s _ _ e (by intro _ z;cases z),d.Dc s.tup⟩
theorem KI.ris {v:V} {r:RU} (s:KI H H') (h:qF a H v r):qF a H' v r:=by cases r <;>exact⟨s.ins h.1,h.2⟩
theorem KI.bat {b:Addr} (s:KI H H') (h:gw a H b n x):gw a H' b n x:=by
 obtain⟨rv,sv,h1,h2,h3⟩:=h
 exact⟨rv,sv,s.ins h1,s.ris h2,h3.Dc s.tup (qT _)⟩
theorem KI.ZM (s:KI H H') (h:b9 a H L k):b9 a H' L k:=by
 obtain⟨ts,w1,w2,w3⟩:=h.wt
 obtain⟨ns,b1,b2,b3⟩:=h.bd
 exact⟨s.ins h.ins,⟨ts,⟨s.ins w1.ins,s.dla w1.dat⟩,w2,w3⟩,⟨ns,s _ _ b1 (by intro _ z;cases z),b2,b3⟩,fun n x e=>s.bat (h.bl n x e),h.ne,h.nl,h.nt,h.nf⟩
theorem ZF {cs S:List Addr} {q:Addr} (f:Fr cs S H H1) (m:Mv [q] H1 H') (hn:H q=none):Fr cs S H H':=⟨fun y o e a b=>m.kp y o (fun z=>by rw [List.mem_singleton.mp z,hn] at e;cases e) (f.kp y o e a b),fun y e=>f.dm y (m.dm y e)⟩
end
theorem Kl {H:Hp} {p:Addr} {ss:List Str} (h:c9 H p (ss.map PyData.str)):H p=some (.lst (ss.map V.str)):=by
 obtain⟨xs,e,dv,im⟩:=h
 have:xs=ss.map V.str:=by
  clear e im
  induction ss generalizing xs with
  |nil=>cases dv;rfl
  |cons s ss ih=>
   cases dv with
   |cons h r=>
    rw [h.str_inv,ih _ r];rfl
 rw [this] at e
 exact e
theorem NZ {H:Hp} {Q:VK} {p:Addr} {ns:List Str} {f:Str->V} (hp:rg H p ns f) (hl:ns.length<64) (h:∀q H' ss,ax H H'->H q=none->ss.Perm ns->TK ss->c9 H' q (ss.map PyData.str)->Q (.ref q) H'):NU [.ref p] H Q:=⟨_,rfl,p,_,ns,rfl,hp,rg.acx,hl,h⟩
def lS (k:KS) (ss:List Str):Prop:=TK ss/\∀n,n∈ss↔(k.f n).isSome=true
theorem b9.len {H:Hp} {L:Lay} {k:KS} (h:b9 a H L k) {ns:List Str} (b2:ns.Nodup) (b3:∀n,n∈ns↔(k.f n).isSome=true):ns.length<60:=by
 have:=Cg b2 (m:=L.nm) fun y hy=>h.nf y ((b3 y).mp hy)
 have:=h.nl
 omega
theorem lS.len {H:Hp} {L:Lay} {k:KS} {ss:List Str} (h:b9 a H L k) (hs:lS k ss) (nd:ss.Nodup):ss.length<60:=h.len nd hs.2
def Gw (a:Ad):Sp:=fun vs H Q _=>∃L k,vs=[.ref L.p]/\b9 a H L k/\∀q H' ss,ax H H'->H q=none->lS k ss->ss.Nodup->c9 H' q (ss.map PyData.str)->Q (.ref q) H'
theorem UX {H:Hp} {Q:VK} {E:XK} {L:Lay} {k:KS} (h:b9 a H L k) (q:∀q H' ss,ax H H'->H q=none->lS k ss->ss.Nodup->c9 H' q (ss.map PyData.str)->Q (.ref q) H'):Gw a [.ref L.p] H Q E:=⟨L,k,rfl,h,q⟩
theorem Tx (T:Txt K mg a):aN P w K mg base fF 1 a.cN a.sD ["self"] (Gw a):=by
 have cl:=T.aB;have n1:=T.aT
 refine T.ku.ok EZ (fun vs H Q E h=>?_) (fun cR A outer s H vs Q E hr h=>?_)
 . obtain⟨_,_,rfl,_⟩:=h;rfl
 . obtain⟨L,k,rfl,hk,q⟩:=h
   have hi:=hk.ins
   unfold aP at hi
   obtain⟨ns,b1,b2,b3⟩:=hk.bd
   have hlen:=hk.len b2 b3
   refine⟨_,(ai (aC (cm (F3 rfl) rfl T.ia PyProof.Rows.boot_sorted (ae (au (pv 0) rfl) ak)))),?_⟩
   repeat' (walk_at "rd1")
   refine NZ b1 (by omega) (fun q1 H1 ss s1 Dd Ox hu1 Fi=>?_)
   repeat' (walk_at "rd1")
   exact q q1 H1 ss s1 Dd ⟨hu1,fun n=>by rw [Ox.mem_iff,b3]⟩ (Ox.nodup_iff.mpr b2) Fi
theorem Ob (T:Txt K mg a):dE P w K mg base 1 a.cN ["self"] [] (Gw a):=
 ⟨⟨_,_,Tx T,T.ku.binds fun _ _ _ _ _ _=>kK fun _=>rfl,.nil⟩⟩
def Jv (a:Ad):Sp:=fun vs H Q _=>∃L k,vs=[.ref L.p]/\b9 a H L k/\∀q H' ss,ax H H'->H q=none->lS k ss->ss.Nodup->H' q=some (.lst (ss.map fun n=>.ref (L.ad n)))->Q (.ref q) H'
theorem QV {H:Hp} {Q:VK} {E:XK} {L:Lay} {k:KS} (h:b9 a H L k) (q:∀q H' ss,ax H H'->H q=none->lS k ss->ss.Nodup->H' q=some (.lst (ss.map fun n=>.ref (L.ad n)))->Q (.ref q) H'):Jv a [.ref L.p] H Q E:=⟨L,k,rfl,h,q⟩
theorem VP (T:Txt K mg a):aN P w K mg base fF 1 a.bj a.mI ["self"] (Jv a):=by
 have cl:=T.aB;have n1:=T.aT
 refine T.ic.ok BF (fun vs H Q E h=>?_) (fun cR A outer s H vs Q E hr h=>?_)
 . obtain⟨_,_,rfl,_⟩:=h;rfl
 . obtain⟨L,k,rfl,hk,q⟩:=h
   have hi:=hk.ins
   unfold aP at hi
   obtain⟨ns,b1,b2,b3⟩:=hk.bd
   have hlen:=hk.len b2 b3
   refine⟨_,(ai (aC (D5 (T:=["name"]) (M:=["self"]) (SY (aj fv) ["self"] rfl rfl (by decide+kernel)) rfl (fx (cm (F3 rfl) rfl T.ia PyProof.Rows.boot_sorted (ae (au (pv 0) rfl) ak))) (fun _ _ _ _ _=>(aR (i:=0) (show List.Nodup (["name","self"]:List Str) by decide+kernel) rfl (Or.inl rfl))) (fA (by decide)) (fun _ _ _ _ _=>rH) (fun _ _ _ _ _=>(Nq (Er hr) (rE (K:=K) rfl (pv 1) rfl) (pv 0) (fun _ _=>rfl)))))),?_⟩
   repeat' (walk_at "rd1")
   refine NZ b1 (by omega) (fun q1 H1 ss s1 Dd Ox hu1 Fi=>?_)
   have hN:lS k ss:=⟨hu1,fun n=>by rw [Ox.mem_iff,b3]⟩
   have hsl:ss.length=ns.length:=Ox.length_eq
   refine Hr (xs:=ss.map V.str) (.inl (.inl (Kl Fi))) (by rw [List.length_map];omega) (fun i acc H'=>ax H1 H'/\acc=(ss.take i).map fun n=>.ref (L.ad n)) ⟨ax.refl _,rfl⟩ (fun i acc H' hi ⟨s2,e⟩=>⟨ax.seq s2 (.inl (.inl (Kl Fi))),by rw [e,List.length_map,List.length_map,List.length_take];omega⟩) (fun i x acc H' N hx ⟨s2,e⟩ yes no=>?_) (fun acc H' q2 ⟨s2,e⟩ DV=>?_)
   . rw [List.getElem?_map] at hx
     obtain⟨n,hn,rfl⟩:=Option.map_eq_some_iff.mp hx
     have aaH:n∈ns:=Ox.mem_iff.mp (List.mem_of_getElem? hn)
     have G8:=(hi.keeps s1).keeps s2
     have b12:=(b1.keeps s1).keeps s2
     repeat' (walk_at "rd1")
     refine rR (fun _=>?_) (fun hb=>by cases hb)
     repeat' (walk_at "rd1")
     exact yes _ _ ⟨s2,by rw [take_snoc hn,List.map_append,e];rfl⟩
   . rw [List.length_map,List.take_length] at e
     refine q q2 _ ss ((s1.trans s2).trans (bS DV)) ((s1.trans s2).none DV) hN (Ox.nodup_iff.mpr b2) ?_
     rw [ao,e]
theorem Ke (T:Txt K mg a):dE P w K mg base 1 a.bj ["self"] [] (Jv a):=
 ⟨⟨_,_,VP T,T.ic.binds fun _ _ _ _ _ _=>kK fun _=>rfl,.nil⟩⟩
def KL (x:jc):Int:=(x.st.getD (0,0)).2
def kA (s:KS × List PyData) (n:Str):KS × List PyData:=match s.1.f n with
 |some x=>(eP s.1 n x (KL x),s.2++qR s.1 n x (KL x))
 |none=>s
def layA (k:KS) (ns:List Str):KS × List PyData:=ns.foldl kA (k,[])
theorem Pz (k:KS) (ns:List Str) (n:Str):layA k (ns++[n])=kA (layA k ns) n:=by unfold layA;rw [List.foldl_append];rfl
theorem OZ (s:KS × List PyData) (n:Str):(kA s n).1.now=s.1.now/\(kA s n).1.sh=s.1.sh/\(∀m,m≠n->(kA s n).1.f m=s.1.f m)/\(kA s n).2.length<=s.2.length+3:=by
 unfold kA
 cases e:s.1.f n with
 |none=>exact⟨rfl,rfl,fun _ _=>rfl,Nat.le_add_right _ _⟩
 |some x=>
  obtain⟨a1,a2⟩:=SE s.1 n x (KL x)
  refine⟨a1,a2,fun m hm=>Zq hm,?_⟩
  have:=Kh s.1 n x (KL x)
  simp only [List.length_append]
  omega
theorem HM:∀(ns:List Str) (s:KS × List PyData),(ns.foldl kA s).1.now=s.1.now/\(ns.foldl kA s).1.sh=s.1.sh/\(∀m,m∉ns->(ns.foldl kA s).1.f m=s.1.f m)/\(ns.foldl kA s).2.length<=s.2.length+3*ns.length
 |[],s=>⟨rfl,rfl,fun _ _=>rfl,Nat.le_refl _⟩
 |n::r,s=>by
  obtain⟨h1,h2,h3,h4⟩:=HM r (kA s n)
  obtain⟨g1,g2,g3,g4⟩:=OZ s n
  refine⟨h1.trans g1,h2.trans g2,fun m hm=>?_,?_⟩
  . rw [List.mem_cons,not_or] at hm
    exact(h3 m hm.2).trans (g3 m hm.1)
  . rw [List.foldl_cons,List.length_cons]
    omega
theorem PB (k:KS) (ns:List Str):(layA k ns).1.now=k.now/\(layA k ns).1.sh=k.sh/\(∀m,m∉ns->(layA k ns).1.f m=k.f m)/\(layA k ns).2.length<=3*ns.length:=by
 have:=HM ns (k,[])
 simpa [layA] using this
theorem tY.lst {k:KS} {x:jc} {f l:Int} (h:tY k x f l):KL x=l:=by unfold KL;rw [h.st];rfl
def JP (k:KS) (ns:List Str):Prop:=ns.Nodup/\∀n∈ns,∃x f l,k.f n=some x/\tY k x f l
def Dp (a:Ad):Sp:=fun vs H Q _=>∃L k p ns,vs=[.ref L.p,.ref p]/\b9 a H L k/\H p=some (.lst (ns.map fun n=>.ref (L.ad n)))/\ns.length<=100/\JP k ns/\∀q H',qO a L H H'->H q=none->c9 H' q (layA k ns).2->b9 a H' L (layA k ns).1->Q (.ref q) H'
theorem QR {H:Hp} {Q:VK} {E:XK} {L:Lay} {k:KS} {p:Addr} {ns:List Str} (h:b9 a H L k) (hp:H p=some (.lst (ns.map fun n=>.ref (L.ad n)))) (hl:ns.length<=100) (ok:JP k ns) (q:∀q H',qO a L H H'->H q=none->c9 H' q (layA k ns).2->b9 a H' L (layA k ns).1->Q (.ref q) H'):Dp a [.ref L.p,.ref p] H Q E:=⟨L,k,p,ns,rfl,h,hp,hl,ok,q⟩
theorem Qx {H:Hp} {Q:VK} {p b:Addr} {ds es:List PyData} (hp:c9 H p ds) (hb:c9 H b es) (hl:ds.length+es.length<=4000) (h:∀H2,Mv [p] H H2->c9 H2 p (ds++es)->Q .aQ H2):NX (.ref p) [.ref b] H Q:=by
 obtain⟨xs,e,dv,im⟩:=hp
 obtain⟨zs,e2,dv2,im2⟩:=hb
 have mv:Mv [p] H (upd H p (.lst (xs++zs))):=.bq e (by intro _ z;cases z)
 refine⟨p,b,xs,zs,rfl,rfl,e,e2,small (by rw [dv.length,dv2.length];exact hl),h _ mv ⟨_,ao,?_,?_⟩⟩
 . exact cK.append (dv.Dc mv.tp im) (dv2.Dc mv.tp im2)
 . rw [gf] at*
   intro d hd
   rcases List.mem_append.mp hd with hd|hd
   . exact im d hd
   . exact im2 d hd
theorem Oj (T:Txt K mg a):aN P w K mg base fF 7 a.bV a.sZ ["self","bells"] (Dp a):=by
 have cl:=T.aB
 have Sd:=T.qL
 have Sy:=NF (P:=P) (w:=w) (base:=base) T
 refine T.kz.ok jk (fun vs H Q E h=>?_) (fun cR A outer s H vs Q E hr h=>?_)
 . obtain⟨_,_,_,_,rfl,_⟩:=h;rfl
 . obtain⟨L,k,p,ns,rfl,hk,hp,hl,⟨tH,bL⟩,q⟩:=h
   refine⟨_,(af (aL (i:=2) jk.nd rfl (Or.inl rfl) (fw ak))
    (af (Gb PassesOwn.never rfl (fx (pv 1)) (aR (i:=3) jk.nd rfl (Or.inl rfl))
     (ai (aW (Kc PySem.F.plainAttrs_list PySem.F.slot_list_extend PySem.F.type_list_extend Hs (pv 2) (ae (aI (pv 0) cl Sd Sy (hr.mono (by decide)) (ae (pv 3) ak)) ak)))))
    (ai (aC (pv 2))))),?_⟩
   repeat' (walk_at "rd1")
   rename_i q1 H1 s1 Dd Fi
   have Ox:=s1 _ _ hp
   refine forL (xs:=ns.map fun n=>.ref (L.ad n)) (.inl (.inl Ox)) (fun i σ' H'=>∃z,σ'=[some (.ref L.p),some (.ref p),some (.ref q1),z]/\qO a L H H'/\H' p=some (.lst (ns.map fun n=>.ref (L.ad n)))/\c9 H' q1 (layA k (ns.take i)).2/\b9 a H' L (layA k (ns.take i)).1) ⟨_,rfl,s1.fr,Ox,Fi,hk.keeps s1⟩ (fun i σ' H' _ ⟨_,_,_,hp',_⟩=>.inl (.inl hp')) ?_ ?_
   . rintro i y σ' H2 hy ⟨z,rfl,uI,Qm,AU,jN⟩
     rw [List.getElem?_map] at hy
     obtain⟨n,hn,rfl⟩:=Option.map_eq_some_iff.mp hy
     have G8:=jN.ins
     unfold aP at G8
     obtain⟨x,f,l,hx,ok⟩:=bL n (List.mem_of_getElem? hn)
     have U3:n∉ns.take i:=by
      have:=IG (f:=id) (l:=ns) (j:=i) (c:=n) (by rw [List.map_id];exact tH) hn
      rwa [List.map_id] at this
     obtain⟨e1,e2,e3,e4⟩:=PB k (ns.take i)
     have hlen:(ns.take i).length<=ns.length:=by rw [List.length_take];omega
     have hx2:=(e3 n U3).trans hx
     have ok2:=ok.same (k':=(layA k (ns.take i)).1) e1 e2
     repeat' (walk_at "rd1")
     refine Xj jN hx2 ok2 (fun q3 H3 C6 MN JD BI=>?_)
     have Ie:=C6.lat AU
     have hl3:=Kh (layA k (ns.take i)).1 n x l
     repeat' (walk_at "rd1")
     refine Qx Ie JD (by omega) (fun H4 Lb Qo=>?_)
     have AV:p≠q1:=aA hp Dd
     have hp3:H3 p=some (.lst (ns.map fun n=>.ref (L.ad n))):=C6.kp p _ Qm (by intro _ z;cases z) (by intro _ _ _ z;cases z)
     have hs:layA k (ns.take (i+1))=(eP (layA k (ns.take i)).1 n x l,(layA k (ns.take i)).2++qR (layA k (ns.take i)).1 n x l):=by
      rw [take_snoc hn,Pz]
      unfold kA
      rw [hx2]
      simp only [ok.lst]
     refine⟨_,rfl,ZF (uI.trans C6) Lb Dd,Lb.kp p _ (by simpa using AV) hp3,?_,?_⟩
     . rw [hs];exact Qo
     . rw [hs];exact(IV Lb Ie).ZM BI
   . rintro σ' H2 ⟨z,rfl,uI,Qm,AU,jN⟩
     rw [List.length_map,List.take_length] at AU jN
     repeat' (walk_at "rd1")
     exact q _ _ uI Dd AU jN
theorem LD (T:Txt K mg a):dE P w K mg base 7 a.bV ["self","bells"] [] (Dp a):=
 ⟨⟨_,_,Oj T,T.kz.binds fun _ _ _ _ _ _=>dR fun _ _=>rfl,.nil⟩⟩
def JC (a:Ad):Sp:=fun vs H Q _=>∃L k n x b,vs=[.ref L.p,.ref b]/\b9 a H L k/\k.f n=none/\n∈L.nm/\gw a H b n x/\∀H',qO a L H H'->b9 a H' {L with ad:=cn L.ad n b} {k with f:=cn k.f n (some x)}->Q .aQ H'
theorem XN {H:Hp} {Q:VK} {E:XK} {L:Lay} {k:KS} {n:Str} {x:jc} {b:Addr} (h:b9 a H L k) (hx:k.f n=none) (hm:n∈L.nm) (hb:gw a H b n x) (q:∀H',qO a L H H'->b9 a H' {L with ad:=cn L.ad n b} {k with f:=cn k.f n (some x)}->Q .aQ H'):JC a [.ref L.p,.ref b] H Q E:=⟨L,k,n,x,b,rfl,h,hx,hm,hb,q⟩
theorem Wq (T:Txt K mg a):aN P w K mg base fF 1 a.dQ a.Cb ["self","bell"] (JC a):=by
 have cl:=T.aB;have n1:=T.aT;have cb:=T.aV;have n2:=T.bD
 refine T.vy.ok Jf (fun vs H Q E h=>?_) (fun cR A outer s H vs Q E hr h=>?_)
 . obtain⟨_,_,_,_,_,rfl,_⟩:=h;rfl
 . obtain⟨L,k,n,x,b,rfl,hk,hx,hm,hB,q⟩:=h
   have hi:=hk.ins
   unfold aP at hi
   obtain⟨ns,b1,b2,b3⟩:=hk.bd
   have hlen:=hk.len b2 b3
   obtain⟨fs,hb,l1,l2,l3,l4,l5,l6,l7,l8,l9,l10,VN,V7,UD,Ul⟩:=hB.yi
   have Ry:n∉ns:=fun z=>by rw [b3,hx] at z;cases z
   refine⟨_,(ai (NS (Er hr) (au (pv 0) rfl) (au (pv 1) rfl) (pv 1) rfl)),?_⟩
   repeat' (walk_at "rd1")
   refine Vx b1 (by omega) Ry (fun H2 uL Uh=>?_)
   repeat' (walk_at "rd1")
   obtain⟨jN,uI⟩:=hk.aeP b1 b2 b3 hx hm hB uL Uh
   exact q _ uI jN
theorem S3 (T:Txt K mg a):dE P w K mg base 1 a.dQ ["self","bell"] [] (JC a):=
 ⟨⟨_,_,Wq T,T.vy.binds fun _ _ _ _ _ _=>dR fun _ _=>rfl,.nil⟩⟩
def Lh (a:Ad):Sp:=fun vs H Q _=>∃L k n rv r wt dy,vs=[.ref L.p,.str n,rv,.int wt,.aQ,.bl dy]/\b9 a H L k/\k.f n=none/\n∈L.nm/\qF a H rv r/\1<=wt/\tY k (ib r wt none dy) (Dy r).1 (Dy r).2/\∀q H' b,qO a L H H'->H q=none->c9 H' q (qR k n (ib r wt none dy) (Dy r).2)->b9 a H' {L with ad:=cn L.ad n b} (eP k n (ib r wt none dy) (Dy r).2)->Q (.ref q) H'
theorem acB {H:Hp} {Q:VK} {E:XK} {L:Lay} {k:KS} {n:Str} {rv:V} {r:RU} {wt:Int} {dy:Bool} (h:b9 a H L k) (hx:k.f n=none) (hm:n∈L.nm) (hR:qF a H rv r) (hw:1<=wt) (ok:tY k (ib r wt none dy) (Dy r).1 (Dy r).2) (q:∀q H' b,qO a L H H'->H q=none->c9 H' q (qR k n (ib r wt none dy) (Dy r).2)->b9 a H' {L with ad:=cn L.ad n b} (eP k n (ib r wt none dy) (Dy r).2)->Q (.ref q) H'):Lh a [.ref L.p,.str n,rv,.int wt,.aQ,.bl dy] H Q E:=⟨L,k,n,rv,r,wt,dy,rfl,h,hx,hm,hR,hw,ok,q⟩
theorem Ze (T:Txt K mg a):aN P w K mg base fF 10 a.dX a.zr ["self","name","rule","weight","group","by_day"] (Lh a):=by
 have cl:=T.aB;have n1:=T.aT;have cb:=T.aV
 have Z8:=T.zg;have Sd:=T.qL
 have YZ:=S3 (P:=P) (w:=w) (base:=base) T
 have Sy:=NF (P:=P) (w:=w) (base:=base) T
 have Te:=Mj (P:=P) (w:=w) (base:=base) T
 refine T.rC.ok zB (fun vs H Q E h=>?_) (fun cR A outer s H vs Q E hr h=>?_)
 . obtain⟨_,_,_,_,_,_,_,rfl,_⟩:=h;rfl
 . obtain⟨L,k,n,rv,r,wt,dy,rfl,hk,hx,hm,hR,hw,ok,q⟩:=h
   have hi:=hk.ins
   unfold aP at hi
   obtain⟨ns,b1,b2,b3⟩:=hk.bd
   have Ry:n∉ns:=fun z=>by rw [b3,hx] at z;cases z
   refine⟨_,(af (cj (Lk (SR (Er hr) (pv 1) (au (pv 0) rfl)) rfl)
    (ai cX)
    aO)
    (af (cj (PW.pt (MJ (aK qQ (pv 4) dn (aJ _)) (Ih (Ax (eg CK (fun _=>rfl))))))
     (ai cX)
     aO)
    (af (cj (aK GK (pv 3) ag (aJ _))
     (ai cX)
     aO)
    (af (aL (i:=6) zB.nd rfl (Or.inl rfl) (x8 T.QO Te (hr.mono (by decide)) rfl T.N4 (ae (pv 1) (ae (pv 2) (ae (pv 3) (ae (pv 4) (ae (pv 5) ak)))))))
    (af (aW (aI (pv 0) cl Z8 YZ (hr.mono (by decide)) (ae (pv 6) ak)))
    (ai (aC (aI (pv 0) cl Sd Sy (hr.mono (by decide)) (ae (pv 6) ak))))))))),?_⟩
   repeat' (walk_at "rd1")
   . rename_i o e1 e2 hb
     exact absurd (e1.mp hb) Ry
   . refine Vd (hm:=none) rfl hR (fun b H1 s1 Dd Vm=>?_)
     have jM:=hk.keeps s1
     have uF:=jM.ins
     unfold aP at uF
     repeat' (walk_at "rd1")
     refine XN jM hx hm Vm (fun H2 uI jN=>?_)
     have G8:kL H2 (.ref L.p) a.ah (aP {L with ad:=cn L.ad n b} k.now k.sh):=jN.ins
     unfold aP at G8
     repeat' (walk_at "rd1")
     have eb:b=({L with ad:=cn L.ad n b}:Lay).ad n:=aG.symm
     rw [show(V.ref b)=V.ref (({L with ad:=cn L.ad n b}:Lay).ad n) by rw [<-eb]]
     refine Xj (L:={L with ad:=cn L.ad n b}) jN (x:=ib r wt none dy) aG (ok.same rfl rfl) (fun q3 H3 C6 MN JD BI=>?_)
     repeat' (walk_at "rd1")
     have C6:qO a L H2 H3:=C6
     rw [Sv] at BI
     exact q _ _ b ((s1.fr.trans uI).trans C6) (s1.none (uI.none MN)) JD BI
theorem Vc (T:Txt K mg a):dE P w K mg base 10 a.dX ["self","name","rule","weight","group","by_day"] [] (Lh a):=
 ⟨⟨_,_,Ze T,T.rC.binds fun _ _ _ _ _ _ s us kx hl=>by
   obtain⟨o,n,h1,h2⟩:=T.AX.ex
   have hl:us.length=6:=by simp at hl;omega
   obtain⟨_,_,_,_,_,_,rfl⟩:=ln6 hl
   exact PySem.W.binds_K kx rfl h1 h2 rfl rfl,.nil⟩⟩
def oh (k:KS) (n:Str):Option PyData:=(k.f n).bind fun x=>if x.sn.isSome=true then some (.tuple [.str n,owD x.sn,owD x.un,.int x.wt]) else none
def rp (k:KS) (ss:List Str):List PyData:=ss.filterMap (oh k)
def FW (a:Ad):Sp:=fun vs H Q _=>∃L k,vs=[.ref L.p]/\b9 a H L k/\∀q H' ss,ax H H'->H q=none->lS k ss->ss.Nodup->c9 H' q (rp k ss)->Q (.ref q) H'
theorem N1 {H:Hp} {Q:VK} {E:XK} {L:Lay} {k:KS} (h:b9 a H L k) (q:∀q H' ss,ax H H'->H q=none->lS k ss->ss.Nodup->c9 H' q (rp k ss)->Q (.ref q) H'):FW a [.ref L.p] H Q E:=⟨L,k,rfl,h,q⟩
theorem Lw {k:KS} {n:Str} {d:PyData} (h:oh k n=some d):C8 d=true:=by
 unfold oh at h
 cases e:k.f n with
 |none=>rw [e] at h;cases h
 |some x=>
  rw [e] at h
  simp only [Option.bind_some] at h
  split at h
  . cases h
    simp [C8,cu,NA]
  . cases h
theorem Rn (T:Txt K mg a):aN P w K mg base fF 2 a.cO a.sX ["self"] (FW a):=by
 have cl:=T.aB;have cb:=T.aV;have n1:=T.bD;have n2:=T.cF;have n3:=T.cA;have n4:=T.fm
 have wF:=T.gb
 have vw:=Ke (P:=P) (w:=w) (base:=base) T
 have Cp:=MR (P:=P) (w:=w) (base:=base) T
 refine T.ky.ok EX (fun vs H Q E h=>?_) (fun cR A outer s H vs Q E hr h=>?_)
 . obtain⟨_,_,rfl,_⟩:=h;rfl
 . obtain⟨L,k,rfl,hk,q⟩:=h
   have hi:=hk.ins
   unfold aP at hi
   refine⟨_,(ai (aC (D5 (T:=["bell"]) (M:=["self"]) (SY (aj gy) ["self"] rfl rfl (by decide+kernel)) rfl (fx (dG (pv 0) cl wF vw (hr.mono (by decide)))) (fun _ _ _ _ _=>(aR (i:=0) (show List.Nodup (["bell","self"]:List Str) by decide+kernel) rfl (Or.inl rfl))) (fA (by decide)) (fun _ _ _ _ _=>(Fn (HA (K:=K) rfl (dG (pv 0) T.aV T.mw Cp (hr.mono (by decide))) (fun _=>rfl)))) (fun _ _ _ _ _=>(eG (ae (rE (K:=K) rfl (pv 0) rfl) (ae (rE (K:=K) rfl (pv 0) rfl) (ae (rE (K:=K) rfl (pv 0) rfl) (ae (rE (K:=K) rfl (pv 0) rfl) ak))))))))),?_⟩
   repeat' (walk_at "rd1")
   refine QV hk (fun q1 H1 ss s1 Dd hN tH Fi=>?_)
   have hlen:=hN.len hk tH
   refine Hr (xs:=ss.map fun n=>.ref (L.ad n)) (.inl (.inl Fi)) (by rw [List.length_map];omega) (fun i acc H'=>ax H1 H'/\cK H' acc (rp k (ss.take i))/\acc.length<=i) ⟨ax.refl _,.nil,Nat.le_refl _⟩ (fun i acc H' hi ⟨s2,_,e⟩=>⟨ax.seq s2 (.inl (.inl Fi)),by omega⟩) (fun i v acc H' N hx ⟨s2,dv,hal⟩ yes no=>?_) (fun acc H' q2 ⟨s2,dv,_⟩ DV=>?_)
   . rw [List.getElem?_map] at hx
     obtain⟨n,hn,rfl⟩:=Option.map_eq_some_iff.mp hx
     obtain⟨x,Y1⟩:=Option.isSome_iff_exists.mp ((hN.2 n).mp (List.mem_of_getElem? hn))
     have hB:=((hk.keeps s1).keeps s2).bl n x Y1
     obtain⟨fs,hb,l1,l2,l3,l4,l5,l6,l7,l8,l9,l10,VN,V7,UD,Ul⟩:=hB.yi
     have ZQ:rp k (ss.take (i+1))=rp k (ss.take i)++(oh k n).toList:=by
      unfold rp
      rw [take_snoc hn,List.filterMap_append]
      congr 1
     have WL:oh k n=if x.sn.isSome=true then some (.tuple [.str n,owD x.sn,owD x.un,.int x.wt]) else none:=by unfold oh;rw [Y1];rfl
     repeat' (walk_at "rd1")
     refine rR (fun hb=>?_) (fun hb=>?_)
     . rw [if_pos hb] at WL
       repeat' (walk_at "rd1")
       rename_i v5 H5 s5 hv5
       refine yes _ _ ⟨s2.trans s5,?_,by rw [List.length_append,List.length_singleton];omega⟩
       rw [ZQ,WL]
       exact cK.append (dv.keeps s5) (.cons hv5 .nil)
     . rw [if_neg (by rw [hb];exact Bool.false_ne_true)] at WL
       refine no _ ⟨s2,?_,by omega⟩
       rw [ZQ,WL,Option.toList_none,List.append_nil]
       exact dv
   . rw [List.length_map,List.take_length] at dv
     have im:cu (rp k ss)=true:=gf.mpr fun d hd=>by
      obtain⟨n,_,e⟩:=List.mem_filterMap.mp hd
      exact Lw e
     exact q q2 _ ss ((s1.trans s2).trans (bS DV)) ((s1.trans s2).none DV) hN tH (Jj DV dv im)
theorem Pb (T:Txt K mg a):dE P w K mg base 2 a.cO ["self"] [] (FW a):=
 ⟨⟨_,_,Rn T,T.ky.binds fun _ _ _ _ _ _=>kK fun _=>rfl,.nil⟩⟩
theorem b9.adK (T:Txt K mg a) {H:Hp} {L:Lay} {k:KS} {dx:Addr} {fs:List (Str × V)} {now sh:Int} {t:Str->Option Int} (h:b9 a H L k) (e:H L.p=some (.ins a.ah dx fs)) (hw:∃ts,Dt a.aD H (.ref L.wp) L.td now ts/\(ts.map (·.1)).Nodup/\∀n u,(n,u)∈ts↔t n=some u) (ht:∀n,(t n).isSome=true->n∈L.nm):b9 a (upd H L.p (.ins a.ah dx (aP L now sh))) L {k with now:=now,sh:=sh,t:=t}/\qO a L H (upd H L.p (.ins a.ah dx (aP L now sh))):=by
 have m:Mv [L.p] H (upd H L.p (.ins a.ah dx (aP L now sh))):=.bq e (by intro _ z;cases z)
 obtain⟨ts,w1,w2,w3⟩:=hw
 obtain⟨ns,b1,b2,b3⟩:=h.bd
 have nd1:∀{d:Addr} {kvs:List (Key × V)},H d=some (.dK kvs)->d∉[L.p]:=fun {d kvs} e2 z=>by rw [List.mem_singleton.mp z,e] at e2;cases e2
 obtain⟨kw,ew,_⟩:=id w1.dat
 refine⟨⟨⟨L.p,dx,rfl,ao⟩,⟨ts,⟨B8 m e (Ne.symm T.dj) w1.ins,w1.dat.mv m (nd1 ew)⟩,w2,w3⟩,⟨ns,b1.mv m (nd1 b1),b2,b3⟩,fun y z hz=>?_,h.ne,h.nl,ht,h.nf⟩,Fr.O2 m e (List.mem_cons_of_mem _ List.mem_cons_self)⟩
 obtain⟨rv,sv,h1,h2,h3⟩:=h.bl y z hz
 refine⟨rv,sv,B8 m e T.dF h1,?_,m.dat (qT _) h3⟩
 exact qF.fr (cs:=[a.ah]) (S:=[]) (Fr.O2 m e List.mem_cons_self)
  (by simpa using T.fh)
  (by simpa using T.dD)
  h2
def rm (k:KS) (ss:List Str):List Str:=ss.filter fun n=>(k.f n).any (·.dy)
def I9 (a:Ad):Sp:=fun vs H Q _=>∃L k d,vs=[.ref L.p,.int d]/\b9 a H L k/\0<=k.now+k.sh+d/\(∀ss,lS k ss->ss.Nodup->JP {k with sh:=k.sh+d} (rm k ss))/\∀q H' ss,qO a L H H'->H q=none->lS k ss->ss.Nodup->c9 H' q (layA {k with sh:=k.sh+d} (rm k ss)).2->b9 a H' L (layA {k with sh:=k.sh+d} (rm k ss)).1->Q (.ref q) H'
theorem ZI {H:Hp} {Q:VK} {E:XK} {L:Lay} {k:KS} {d:Int} (h:b9 a H L k) (h0:0<=k.now+k.sh+d) (ok:∀ss,lS k ss->ss.Nodup->JP {k with sh:=k.sh+d} (rm k ss)) (q:∀q H' ss,qO a L H H'->H q=none->lS k ss->ss.Nodup->c9 H' q (layA {k with sh:=k.sh+d} (rm k ss)).2->b9 a H' L (layA {k with sh:=k.sh+d} (rm k ss)).1->Q (.ref q) H'):I9 a [.ref L.p,.int d] H Q E:=⟨L,k,d,rfl,h,h0,ok,q⟩
theorem Vs (T:Txt K mg a):aN P w K mg base fF 8 a.df a.wM ["self","by"] (I9 a):=by
 have cl:=T.aB;have n1:=T.aZ;have n2:=T.bb;have cb:=T.aV;have n3:=T.dH
 have wF:=T.gb;have Pp:=T.oW
 have vw:=Ke (P:=P) (w:=w) (base:=base) T
 have Om:=LD (P:=P) (w:=w) (base:=base) T
 refine T.oG.ok GI (fun vs H Q E h=>?_) (fun cR A outer s H vs Q E hr h=>?_)
 . obtain⟨_,_,_,rfl,_⟩:=h;rfl
 . obtain⟨L,k,d,rfl,hk,h0,bL,q⟩:=h
   obtain⟨p,dx,e,hi⟩:=hk.ins
   cases e
   obtain⟨jM,Fd⟩:=hk.adK T (now:=k.now) (sh:=k.sh+d) hi hk.wt hk.nt
   unfold aP at hi
   refine⟨_,(af (cj (aK GK (av aM (av aM (au (pv 0) rfl) (au (pv 0) rfl)) (pv 1)) ag (aJ _))
    (ai cX)
    aO)
    (cP (aY (pv 0) (av aM (au (pv 0) rfl) (pv 1)) rfl)
    (ai (aC (aI (pv 0) cl Pp Om (hr.mono (by decide)) (ae (D5 (T:=["bell"]) (M:=["self","by"]) (SY (aj iE) ["self","by"] rfl rfl (by decide+kernel)) rfl (fx (dG (pv 0) cl wF vw (hr.mono (by decide)))) (fun _ _ _ _ _=>(aR (i:=0) (show List.Nodup (["bell","self","by"]:List Str) by decide+kernel) rfl (Or.inl rfl))) (fA (by decide)) (fun _ _ _ _ _=>(Fn (HA (K:=K) rfl (rE (K:=K) rfl (pv 0) rfl) (fun _=>rfl)))) (fun _ _ _ _ _=>(pv 0))) ak)))))),?_⟩
   repeat' (walk_at "rd1")
   refine gg (fun σ' H'=>σ'=[some (.ref L.p),some (.int d)]/\qO a L H H'/\b9 a H' L {k with sh:=k.sh+d}) ?_ ?_
   . repeat' (walk_at "rd1")
     exact⟨rfl,Fd,jM⟩
   clear jM Fd
   rintro σ' H1 ⟨rfl,Fd,jM⟩
   have uF:=jM.ins
   unfold aP at uF
   repeat' (walk_at "rd1")
   refine QV jM (fun q2 H2 ss s2 DV hN tH AU=>?_)
   have hlen:=hN.len jM tH
   refine Hr (xs:=ss.map fun n=>.ref (L.ad n)) (.inl (.inl AU)) (by rw [List.length_map];omega) (fun i acc H'=>ax H2 H'/\acc=(rm k (ss.take i)).map (fun n=>.ref (L.ad n))/\acc.length<=i) ⟨ax.refl _,rfl,Nat.le_refl _⟩ (fun i acc H' hi ⟨s3,_,e⟩=>⟨ax.seq s3 (.inl (.inl AU)),by omega⟩) (fun i v acc H' N hx ⟨s3,ea,hal⟩ yes no=>?_) (fun acc H' q3 ⟨s3,ea,_⟩ MN=>?_)
   . rw [List.getElem?_map] at hx
     obtain⟨n,hn,rfl⟩:=Option.map_eq_some_iff.mp hx
     obtain⟨x,Y1⟩:=Option.isSome_iff_exists.mp ((hN.2 n).mp (List.mem_of_getElem? hn))
     have hB:=((jM.keeps s2).keeps s3).bl n x Y1
     obtain⟨fs,hb,l1,l2,l3,l4,l5,l6,l7,l8,l9,l10,VN,V7,UD,Ul⟩:=hB.yi
     have Y1:k.f n=some x:=Y1
     have ZQ:rm k (ss.take (i+1))=rm k (ss.take i)++(if x.dy=true then [n] else []):=by
      unfold rm
      rw [take_snoc hn,List.filter_append]
      congr 1
      rw [List.filter_cons,List.filter_nil]
      simp [Y1]
     repeat' (walk_at "rd1")
     refine rR (fun hb=>?_) (fun hb=>?_)
     . rw [if_pos hb] at ZQ
       repeat' (walk_at "rd1")
       refine yes _ _ ⟨s3,?_,by rw [List.length_append,List.length_singleton];omega⟩
       rw [ZQ,ea,List.map_append];rfl
     . rw [if_neg (by rw [hb];exact Bool.false_ne_true),List.append_nil] at ZQ
       refine no _ ⟨s3,?_,by omega⟩
       rw [ZQ,ea]
   . rw [List.length_map,List.take_length] at ea
     have s4:ax H2 (upd H' q3 (.lst acc)):=s3.trans (bS MN)
     have RX:=(jM.keeps s2).keeps s4
     have V3:=RX.ins
     unfold aP at V3
     have hl4:(rm k ss).length<=ss.length:=List.length_filter_le _ _
     repeat' (walk_at "rd1")
     refine QR RX (ns:=rm k ss) (by rw [ao,ea]) (by omega) (bL ss hN tH) (fun q5 H5 fr5 Yn hq5 hk5=>?_)
     repeat' (walk_at "rd1")
     exact q _ _ ss ((Fd.step (s2.trans s4)).trans fr5) (Fd.none (s2.none (s4.none Yn))) hN tH hq5 hk5
theorem RC (T:Txt K mg a):dE P w K mg base 8 a.df ["self","by"] [] (I9 a):=
 ⟨⟨_,_,Vs T,T.oG.binds fun _ _ _ _ _ _=>dR fun _ _=>rfl,.nil⟩⟩
def QC (t:Str->Option Int) (to:Int):Str->Option Int:=fun n=>(t n).filter fun u=>decide (to<u)
def DN (a:Ad):Sp:=fun vs H Q _=>∃L k to,vs=[.ref L.p,.int to]/\b9 a H L k/\k.now<=to/\∀q H' ks,qO a L H H'->H q=none->(∀u n,(u,n)∈ks↔k.t n=some u/\u<=to)->Srt ks->(ks.map (·.2)).Nodup->c9 H' q ((ks.map (·.2)).map PyData.str)->b9 a H' L {k with now:=to,t:=QC k.t to}->Q (.ref q) H'
theorem RP {H:Hp} {Q:VK} {E:XK} {L:Lay} {k:KS} {to:Int} (h:b9 a H L k) (h0:k.now<=to) (q:∀q H' ks,qO a L H H'->H q=none->(∀u n,(u,n)∈ks↔k.t n=some u/\u<=to)->Srt ks->(ks.map (·.2)).Nodup->c9 H' q ((ks.map (·.2)).map PyData.str)->b9 a H' L {k with now:=to,t:=QC k.t to}->Q (.ref q) H'):DN a [.ref L.p,.int to] H Q E:=⟨L,k,to,rfl,h,h0,q⟩
theorem b9.afB {H:Hp} {L:Lay} {k:KS} (hk:b9 a H L k) {ts:List (Str × Int)} (w2:(ts.map (·.1)).Nodup) (w3:∀n u,(n,u)∈ts↔k.t n=some u):ts.length<60:=by
 have:=Cg w2 (m:=L.nm) fun y hy=>by
  obtain⟨z,hz,rfl⟩:=List.mem_map.mp hy
  exact hk.nt z.1 (by rw [(w3 z.1 z.2).mp hz];rfl)
 have h55:=hk.nl
 rw [List.length_map] at this
 omega
theorem SQ (T:Txt K mg a) {cs S:List Addr} {H H':Hp} {b:Addr} {n:Str} {x:jc} (f:Fr cs S H H') (hc:∀C∈cs,C=a.ah\/C=a.aD) (h:gw a H b n x):gw a H' b n x:=by
 obtain⟨rv,sv,h1,h2,h3⟩:=h
 refine⟨rv,sv,f.ins (fun z=>?_) h1,qF.fr f
  (fun z=>?_)
  (fun z=>?_)
  h2,f.Dc (qT _) h3⟩
 . rcases hc _ z with e|e
   . exact T.dF e
   . exact T.iV e
 . rcases hc _ z with e|e
   . exact T.fh e
   . exact T.nH e
 . rcases hc _ z with e|e
   . exact T.dD e
   . exact T.iF e
theorem OL (T:Txt K mg a):aN P w K mg base fF 4 a.bW a.tm ["self","time"] (DN a):=by
 have cl:=T.aB;have n1:=T.aZ;have n2:=T.bJ;have cr:=T.cQ
 have P7:=Vf (P:=P) (w:=w) (base:=base) T
 refine T.kQ.ok E3 (fun vs H Q E h=>?_) (fun cR A outer s H vs Q E hr h=>?_)
 . obtain⟨_,_,_,rfl,_⟩:=h;rfl
 . obtain⟨L,k,to,rfl,hk,h0,q⟩:=h
   obtain⟨p,dx,e,hi⟩:=hk.ins
   cases e
   have Kj:=Mv.bq (o:=.ins a.ah dx (aP L to k.sh)) hi (by intro _ z;cases z)
   have Fd:Fr [a.ah] [] H _:=Fr.O2 Kj hi List.mem_cons_self
   have fk1:qO a L H _:=Fr.O2 Kj hi (List.mem_cons_of_mem _ List.mem_cons_self)
   obtain⟨ts,w1,w2,w3⟩:=hk.wt
   obtain⟨ns,b1,b2,b3⟩:=hk.bd
   have hlen:=hk.afB w2 w3
   have uF:upd H L.p (.ins a.ah dx (aP L to k.sh)) L.p=some (.ins a.ah dx (aP L to k.sh)):=ao
   unfold aP at hi
   refine⟨_,(cP (aY (pv 0) (pv 1) rfl)
    (ai (aC (D5 (T:=["due","name"]) (M:=["self","time"]) (SY (aj gI) ["self","time"] rfl rfl (by decide+kernel)) rfl (fx (aI (au (pv 0) rfl) T.cQ T.Hx P7 (hr.mono (by decide)) (ae (pv 1) ak))) (fun _ _ _ _ _=>(ND (K:=K) (n:=2) rfl rfl (bM (aR (i:=0) (show List.Nodup (["due","name","self","time"]:List Str) by decide+kernel) rfl (Or.inl rfl)) (bM (aR (i:=1) (show List.Nodup (["due","name","self","time"]:List Str) by decide+kernel) rfl (Or.inl rfl)) A3)))) (KR (qU (by decide) (qU (by decide) HI))) (fun _ _ _ _ _=>rH) (fun _ _ _ _ _=>(pv 1)))))),?_⟩
   refine gg (fun σ' H'=>σ'=[some (.ref L.p),some (.int to)]/\H'=upd H L.p (.ins a.ah dx (aP L to k.sh))) ?_ ?_
   . repeat' (walk_at "rd1")
     exact⟨rfl,rfl⟩
   rintro σ' H1 ⟨rfl,eH⟩
   rw [<-eH] at Kj Fd fk1 uF
   clear eH
   have WK:Dt a.aD H1 (.ref L.wp) L.td k.now ts:=by
    obtain⟨kw,ew,_⟩:=id w1.dat
    exact⟨Fd.ins (by simpa using Ne.symm T.dj) w1.ins,Fd.dla (by simp) w1.dat⟩
   have Uh:rg H1 L.bd ns (fun n=>.ref (L.ad n)):=Fd.kp _ _ b1 (by intro _ _;simp) (by intro _ _ _ z;cases z)
   obtain⟨gs,hw,k1,k2,k3,k4,k5⟩:=WK.yi
   have hiK:kL H1 (.ref L.p) a.ah (aP L to k.sh):=⟨_,_,rfl,uF⟩
   unfold aP at hiK
   repeat' (walk_at "rd1")
   refine⟨L.wp,L.td,k.now,ts,to,rfl,WK,by omega,w2,h0,fun q2 H2 ks uL DV Qm Qc AU hw2=>?_⟩
   have uI:Fr [a.aD] [L.td] H1 H2:=by
    obtain⟨wp,dw,ewp,hwp⟩:=WK.ins
    cases ewp
    obtain⟨kw2,ew2,_⟩:=id WK.dat
    refine⟨fun y o e c1 c2=>uL.kp y o (fun z=>?_) e,uL.dm⟩
    rw [List.mem_cons,List.mem_singleton] at z
    rcases z with z|z
    . rw [z,hwp] at e;cases e;exact c2 _ _ _ rfl List.mem_cons_self
    . rw [z,ew2] at e;cases e;exact c1 _ rfl (by simp [z])
   have fk2:qO a L H1 H2:=⟨fun y o e c1 c2=>uI.kp y o e (fun kvs ek z=>c1 kvs ek (by simp only [List.mem_singleton] at z;rw [z];exact List.mem_cons_self)) (fun C dx fs ei z=>c2 C dx fs ei (by simp only [List.mem_singleton] at z;rw [z];simp)),uI.dm⟩
   have hkm:∀u n,(u,n)∈ks↔k.t n=some u/\u<=to:=fun u n=>by
    rw [Qm.mem_iff,List.mem_map]
    constructor
    . rintro⟨y,hy,ey⟩
      obtain⟨h1,h2⟩:=List.mem_filter.mp hy
      cases ey
      exact⟨(w3 _ _).mp h1,of_decide_eq_true h2⟩
    . rintro⟨h1,h2⟩
      exact⟨(n,u),List.mem_filter.mpr ⟨(w3 n u).mpr h1,decide_eq_true h2⟩,rfl⟩
   have hkn:(ks.map (·.2)).Nodup:=by
    refine(Qm.map _).nodup_iff.mpr ?_
    rw [List.map_map]
    exact w2.sublist (List.filter_sublist.map _)
   have jN:b9 a H2 L {k with now:=to,t:=QC k.t to}:=by
    have ae4:kL H1 (.ref L.p) a.ah (aP L to k.sh):=⟨_,_,rfl,uF⟩
    refine⟨uI.ins (by simpa using T.dj) ae4,⟨_,hw2,w2.sublist (List.filter_sublist.map _),fun n u=>?_⟩,⟨ns,uI.kp _ _ Uh (fun _ _=>by simpa using Ne.symm hk.ne) (by intro _ _ _ z;cases z),b2,b3⟩,fun y z hz=>SQ T uI (by simp) (SQ T Fd (by simp) (hk.bl y z hz)),hk.ne,hk.nl,fun y hy=>hk.nt y ?_,hk.nf⟩
    . rw [List.mem_filter,w3]
      show _↔(k.t n).filter _=some u
      rw [Option.filter_eq_some_iff]
      simp
    . have hy:((k.t y).filter fun u=>decide (to<u)).isSome=true:=hy
      cases e:k.t y with
      |none=>rw [e] at hy;cases hy
      |some u=>rfl
   have Qi:ks.length<60:=by
    have:=Qm.length_eq
    rw [List.length_map] at this
    have:=List.length_filter_le (fun x:Str × Int=>decide (x.2<=to)) ts
    omega
   refine Zi (cs:=ks) (gd:=pairD) (fun _=>true) (fun x=>.str x.2) AU.dv (by omega) (fun _=>rfl) (fun y c H' N hc sm' Nu yes no=>?_) (fun q3 H3 s3 MN JD=>?_)
   . refine L8 Nu (fun w1 w2 f1 f2=>?_)
     obtain rfl:=f1.int_inv
     obtain rfl:=f2.str_inv
     repeat' (walk_at "rd1")
     refine rR (fun _=>?_) (fun hb=>by cases hb)
     repeat' (walk_at "rd1")
     exact yes rfl _ _ (ax.refl _) (.str _)
   . rw [Fj] at JD
     repeat' (walk_at "rd1")
     exact q q3 H3 ks ((fk1.trans fk2).step s3) (fk1.none (fk2.none MN)) hkm Qc hkn (by rw [List.map_map];exact JD) (jN.keeps s3)
theorem Lg (T:Txt K mg a):dE P w K mg base 4 a.bW ["self","time"] [] (DN a):=
 ⟨⟨_,_,OL T,T.kQ.binds fun _ _ _ _ _ _=>dR fun _ _=>rfl,.nil⟩⟩
def KD (a:Ad):Sp:=fun vs H Q _=>∃L k to,vs=[.ref L.p,.int to]/\b9 a H L k/\(∀n u,k.t n=some u->u<=to->Q (.bl true) H)/\((∀n u,k.t n=some u->to<u)->Q (.bl false) H)
theorem Rk (T:Txt K mg a):aN P w K mg base fF 2 a.bC a.lI ["self","to"] (KD a):=by
 have cl:=T.aB;have n2:=T.bJ;have cr:=T.cQ
 have J0:=OB (P:=P) (w:=w) (base:=base) T
 refine T.gE.ok kj (fun vs H Q E h=>?_) (fun cR A outer s H vs Q E hr h=>?_)
 . obtain⟨_,_,_,rfl,_⟩:=h;rfl
 . obtain⟨L,k,to,rfl,hk,q1,q2⟩:=h
   have hi:=hk.ins
   unfold aP at hi
   obtain⟨ts,w1,w2,w3⟩:=hk.wt
   obtain⟨gs,hw,k1,k2,k3,k4,k5⟩:=w1.yi
   refine⟨_,(af (aL (i:=2) kj.nd rfl (Or.inl rfl) (dG (au (pv 0) rfl) T.cQ T.Ei J0 (hr.mono (by decide))))
    (ai (aC (IH (iA qQ (pv 2) dn (aJ _)) (Gy (iA Q5 (pv 2) (pv 1) (aJ _))))))),?_⟩
   repeat' (walk_at "rd1")
   refine⟨.ref L.wp,L.td,k.now,ts,rfl,w1,fun e=>?_,fun t ht hm=>?_⟩
   . repeat' (walk_at "rd1")
     exact q2 fun n u hu=>by rw [<-w3,e] at hu;cases hu
   . obtain⟨y,hy,rfl⟩:=List.mem_map.mp ht
     have hy':=(w3 y.1 y.2).mp hy
     repeat' (walk_at "rd1")
     by_cases hle:y.2<=to
     . rw [show decide (y.2<=to)=true from decide_eq_true hle]
       exact q1 _ _ hy' hle
     . rw [show decide (y.2<=to)=false from decide_eq_false hle]
       refine q2 fun n u hu=>?_
       have:=hm u (List.mem_map.mpr ⟨(n,u),(w3 n u).mpr hu,rfl⟩)
       omega
theorem O3 (T:Txt K mg a):dE P w K mg base 2 a.bC ["self","to"] [] (KD a):=
 ⟨⟨_,_,Rk T,T.gE.binds fun _ _ _ _ _ _=>dR fun _ _=>rfl,.nil⟩⟩
theorem Kk {X:Cx} {k:Nat} {f C:Addr} {ps:List Str} {sp:Sp} {dr:List V} {x:Str} {p pos:Pos} (M:Mk X.K C f) (F:dE X.prog X.w X.K X.mg X.base k f ps dr sp) (hr:dC (k+1) X.A) (hg:Gl X x) (hm:X.mg x=some (.ref C))
 (EV:(x==("__debug__":Str))=false:=by decide):PE X (.Call (.Name x p) [] [] pos) (Gj C sp dr E0 Ml):=by
 rw [HP]
 obtain⟨fd,ds,F,hb,hd⟩:=F.ex
 exact QI M F hr hg hm hb hd HC EV
def Ra (C:Addr):Sp:=fun vs H Q _=>∃p dx,vs=[.ref p]/\H p=some (.ins C dx [])/\∀H',Mv [p] H H'->Q .aQ H'
theorem acn (T:Txt K mg a):aN P w K mg base fF 1 a.bw a.lu ["self"] (Ra a.bx):=by
 have n1:=T.dW;have n2:=T.fY;have cl:=T.iq
 refine T.gL.ok Au (fun vs H Q E h=>?_) (fun cR A outer s H vs Q E hr h=>?_)
 . obtain⟨_,_,rfl,_⟩:=h;rfl
 . obtain⟨p,dx,rfl,hp,q⟩:=h
   refine⟨_,(af (aY (pv 0) Bj rfl)
    (ai (aY (pv 0) Bj rfl))),?_⟩
   repeat' (walk_at "rd1")
   rename_i d1 H1 s1 Dd hd1 d2 H2 s2 DV hd2
   have e1:=s1 _ _ hp
   have Kj:=Mv.bq (o:=.ins a.bx dx [("above_of",.ref d1)]) e1 (by intro _ z;cases z)
   have e2:=s2 _ _ (ao (H:=H1) (a:=p) (o:=.ins a.bx dx [("above_of",.ref d1)]))
   have uL:=Mv.bq (o:=.ins a.bx dx [("above_of",.ref d1),("marks",.ref d2)]) e2 (by intro _ z;cases z)
   exact q _ ((s1.mv (S:=[p])).trans (Kj.trans (s2.mv.trans uL)))
theorem Iz (T:Txt K mg a):dE P w K mg base 1 a.bw ["self"] [] (Ra a.bx):=
 ⟨⟨_,_,acn T,T.gL.binds fun _ _ _ _ _ _=>kK fun _=>rfl,.nil⟩⟩
theorem HZ {H H':Hp} {x dx:Addr} {o:HO} (hx:H x=none) (hd:H dx=none) (m:Mv [x] (upd (upd H dx (.own x)) x o) H'):ax H H':=fun b u e=>by
 have hb:b≠x:=aA e hx
 refine m.kp b u (by simpa using hb) ?_
 rw [ay hb,ay (aA e hd)]
 exact e
theorem TX {C:Addr} {H:Hp} {Q:VK} {E:XK} (k:∀v H2,ax H H2->Q v H2):DZ C (Ra C) [] H Q E:=
 ⟨_,rfl,fun x dx hx hd _=>⟨x,dx,rfl,ao,fun H' mv=>⟨rfl,k _ _ (HZ hx hd mv)⟩⟩⟩
def k0 (now:Int):KS:=⟨now,0,fun _=>none,fun _=>none⟩
def va (a:Ad):Sp:=fun vs H Q _=>∃p dx now nm,vs=[.ref p,.aQ,.int now]/\H p=some (.ins a.ah dx [])/\(nm:List Str).length<=55/\∀H' L,Mv [p] H H'->L.p=p->L.nm=nm->H L.td=none->H L.bd=none->b9 a H' L (k0 now)->Q .aQ H'
theorem R0 (T:Txt K mg a):aN P w K mg base fF 3 a.bI a.pW ["self","rounds","now"] (va a):=by
 have cl:=T.aB;have n1:=T.bJ;have n2:=T.fy;have n3:=T.aZ;have n4:=T.bb;have n5:=T.ft;have n6:=T.aT
 have VI:=O6 (P:=P) (w:=w) (base:=base) T
 have MM:=Iz (P:=P) (w:=w) (base:=base) T
 refine T.jr.ok DH (fun vs H Q E h=>?_) (fun cR A outer s H vs Q E hr h=>?_)
 . obtain⟨_,_,_,_,rfl,_⟩:=h;rfl
 . obtain⟨p,dx,now,nm,rfl,hp,RQ,q⟩:=h
   refine⟨_,(af (aY (pv 0) (Gx (aK F1 (pv 1) dn (aJ _)) (x8 T.Xv VI (hr.mono (by decide)) rfl T.RF (ae (pv 2) ak)) CK) rfl)
    (af (aY (pv 0) (Gx (aK F1 (pv 1) dn (aJ _)) dn CK) rfl)
    (af (aY (pv 0) (pv 2) rfl)
    (af (aY (pv 0) ag rfl)
    (af (aY (pv 0) (Kk T.J4 MM (hr.mono (by decide)) rfl T.HV) rfl)
    (ai (aY (pv 0) Bj rfl))))))),?_⟩
   repeat' (walk_at "rd1")
   refine Wh rfl (fun wv H1 td s1 Dd YN=>?_)
   obtain⟨wp,dw,rfl,hwp⟩:=YN.ins
   have e1:=s1 _ _ hp
   have Kj:=Mv.bq (o:=.ins a.ah dx [("waits",.ref wp)]) e1 (by intro _ z;cases z)
   repeat' (walk_at "rd1")
   rw [jZ,jZ,jZ]
   have uL:=Mv.bq (o:=.ins a.ah dx [("waits",.ref wp),("rounds",.aQ),("now",.int now),("shift",.int 0)]) e1 (by intro _ z;cases z)
   refine TX (fun gv H3 s3=>?_)
   have e3:=s3 _ _ (ao (H:=H1) (a:=p) (o:=.ins a.ah dx [("waits",.ref wp),("rounds",.aQ),("now",.int now),("shift",.int 0)]))
   have mv3:=Mv.bq (o:=.ins a.ah dx [("waits",.ref wp),("rounds",.aQ),("now",.int now),("shift",.int 0),("groups",gv)]) e3 (by intro _ z;cases z)
   repeat' (walk_at "rd1")
   repeat' (walk_at "rd1")
   rename_i bd H5 s5 Yn Xm
   have e5:=s5 _ _ (ao (H:=H3) (a:=p) (o:=.ins a.ah dx [("waits",.ref wp),("rounds",.aQ),("now",.int now),("shift",.int 0),("groups",gv)]))
   have Qk:=Mv.bq (o:=.ins a.ah dx [("waits",.ref wp),("rounds",.aQ),("now",.int now),("shift",.int 0),("groups",gv),("by_name",.ref bd)]) e5 (by intro _ z;cases z)
   have mA:Mv [p] H1 H5:=uL.trans (s3.mv.trans (mv3.trans s5.mv))
   have mB:=mA.trans Qk
   have U6:H1 bd=none:=(uL.trans (s3.mv.trans mv3)).none Yn
   obtain⟨kw,ew,_⟩:=id YN.dat
   have AV:td≠bd:=aA ew U6
   have ntd:td∉[p]:=fun z=>by rw [List.mem_singleton.mp z,e1] at ew;cases ew
   have nbd:bd∉[p]:=fun z=>by rw [List.mem_singleton.mp z,e1] at U6;cases U6
   refine q _ ⟨p,wp,td,bd,gv,fun _=>0,nm⟩ ((s1.mv (S:=[p])).trans mB) rfl rfl Dd (s1.none U6) ⟨⟨p,dx,rfl,ao⟩,⟨[],⟨B8 mB e1 (Ne.symm T.dj) YN.ins,YN.dat.mv mB ntd⟩,List.nodup_nil,fun n u=>by simp [k0]⟩,⟨[],(UU Xm).mv Qk nbd,List.nodup_nil,fun n=>by simp [k0]⟩,fun n x e=>(by cases e),AV,RQ,fun n e=>(by cases e),fun n e=>(by cases e)⟩
theorem PO (T:Txt K mg a):dE P w K mg base 3 a.bI ["self","rounds","now"] [] (va a):=
 ⟨⟨_,_,R0 T,T.jr.binds fun _ _ _ _ _ _=>wa fun _ _ _=>rfl,.nil⟩⟩
theorem SX (T:Txt K mg a):aN P w K mg base fF 4 a.bu a.gm ["self","rounds","now"] (va a):=by
 have E7:=PO (P:=P) (w:=w) (base:=base) T
 refine T.gM.ok Af (fun vs H Q E h=>?_) (fun cR A outer s H vs Q E hr h=>?_)
 . obtain⟨_,_,_,_,rfl,_⟩:=h;rfl
 . obtain⟨p,dx,now,nm,rfl,hp,RQ,q⟩:=h
   refine⟨_,(ai (aW (JA rfl T.NN T.um E7 (hr.mono (by decide)) (ae (pv 0) (ae (pv 1) (ae (pv 2) ak)))))),?_⟩
   repeat' (walk_at "rd1")
   refine⟨p,dx,now,nm,rfl,hp,RQ,fun H' L m e1 e2 e3 e4 hk=>?_⟩
   repeat' (walk_at "rd1")
   exact q H' L m e1 e2 e3 e4 hk
theorem MB (T:Txt K mg a):Binds K a.gm ["self","rounds","now"] [.none,.int 0 a.bY]:=T.gM.binds fun _ _ _ _ _ _ s us kx hl=>by
 obtain⟨o,n,h1,h2⟩:=T.nI.ex
 have hl:us.length=1:=by simp at hl;omega
 obtain⟨_,rfl⟩:=ln1 hl
 exact PySem.W.binds_K kx rfl h1 h2 rfl rfl
theorem Iv (T:Txt K mg a):dE P w K mg base 4 a.bu ["self","rounds","now"] [.aQ,.int 0] (va a):=⟨⟨_,_,SX T,MB T,.cons rfl (.cons ⟨_,rfl⟩ .nil)⟩⟩
theorem TV {H:Hp} {Q:VK} {E:XK} {now:Int} {us:List V} (nm:List Str) (eu:us=[.aQ,.int now]) (RQ:nm.length<=55) (k:∀L H2,ax H H2->L.nm=nm->H L.td=none->H L.bd=none->b9 a H2 L (k0 now)->Q (.ref L.p) H2):DZ a.ah (va a) us H Q E:=by
 have z:∀{x dx d:Addr} {o:HO},upd (upd H dx (.own x)) x o d=none->H d=none:=by
  intro x dx d o h
  unfold upd at h
  split at h
  . cases h
  . split at h
    . cases h
    . exact h
 refine⟨_,eu,fun x dx hx hd ne=>⟨x,dx,now,nm,rfl,ao,RQ,fun H' L m e1 e2 e3 e4 hk=>⟨rfl,?_⟩⟩⟩
 subst e1
 exact k L _ (HZ hx hd m) e2 (z e3) (z e4) hk
def K8 (a:Ad):Sp:=fun vs H Q _=>∃L k to m dv,vs=[.ref L.p,.int to,m,dv]/\b9 a H L k/\k.now<=to/\(∀n u,k.t n=some u->to<u)/\∀q H',qO a L H H'->H q=none->c9 H' q []->b9 a H' L {k with now:=to}->Q (.ref q) H'
theorem Rh {H:Hp} {Q:VK} {E:XK} {L:Lay} {k:KS} {to:Int} {m dv:V} (h:b9 a H L k) (h0:k.now<=to) (h1:∀n u,k.t n=some u->to<u) (q:∀q H',qO a L H H'->H q=none->c9 H' q []->b9 a H' L {k with now:=to}->Q (.ref q) H'):K8 a [.ref L.p,.int to,m,dv] H Q E:=⟨L,k,to,m,dv,rfl,h,h0,h1,q⟩
theorem YK (T:Txt K mg a):aN P w K mg base fF 5 a.e8 a.qG ["self","to","most","deed"] (K8 a):=by
 have cl:=T.aB;have n1:=T.aZ
 have MT:=T.nz;have O7:=T.qD
 have L1:=O3 (P:=P) (w:=w) (base:=base) T
 have PZ:=Lg (P:=P) (w:=w) (base:=base) T
 refine T.vS.ok rl (fun vs H Q E h=>?_) (fun cR A outer s H vs Q E hr h=>?_)
 . obtain⟨_,_,_,_,_,rfl,_⟩:=h;rfl
 . obtain⟨L,k,to,m,dv,rfl,hk,h0,h1,q⟩:=h
   have hi:=hk.ins
   unfold aP at hi
   refine⟨_,(af (cj (aK GK (pv 1) (au (pv 0) rfl) (aJ _))
    (ai cX)
    aO)
    (af (aL (i:=4) rl.nd rfl (Or.inl rfl) (fw ak))
    (af (aL (i:=5) rl.nd rfl (Or.inl rfl) ag)
    (af (JK PassesOwn.never (eg (aI (pv 0) cl MT L1 (hr.mono (by decide)) (ae (pv 1) ak)) (fun _=>rfl))
     (af cX
     (af cX
     (ai cX))))
    (af (aW (aI (pv 0) cl O7 PZ (hr.mono (by decide)) (ae (pv 1) ak)))
    (ai (aC (pv 4)))))))),?_⟩
   repeat' (walk_at "rd1")
   rename_i q1 H1 s1 Dd Fi
   have jM:=hk.keeps s1
   have uF:=jM.ins
   unfold aP at uF
   refine N3 (fun j σ' H'=>σ'=[some (.ref L.p),some (.int to),some m,some dv,some (.ref q1),some (.int 0)]/\H'=H1) ⟨0,rfl,rfl⟩ ?_
   rintro j σ' H' ⟨rfl,rfl⟩
   repeat' (walk_at "rd1")
   refine⟨L,k,to,rfl,jM,fun n u e1 e2=>absurd (h1 n u e1) (by omega),fun _=>?_⟩
   repeat' (walk_at "rd1")
   refine RP jM h0 (fun q2 H2 ks uI DV hm2 _ _ AU jN=>?_)
   repeat' (walk_at "rd1")
   have e:QC k.t to=k.t:=by
    funext n
    unfold QC
    cases et:k.t n with
    |none=>rfl
    |some u=>rw [Option.filter_some,if_pos (decide_eq_true (h1 n u et))]
   rw [e] at jN
   exact q _ _ (s1.fr.trans uI) Dd (uI.lat Fi) jN
theorem Yk (T:Txt K mg a):Binds K a.qG ["self","to","most","deed"] [.int 60 a.eZ,.none]:=T.vS.binds fun _ _ _ _ _ _ s us kx hl=>by
 obtain⟨o,n,h1,h2⟩:=T.Eb.ex
 have hl:us.length=2:=by simp at hl;omega
 obtain⟨_,_,rfl⟩:=ln2 hl
 exact PySem.W.binds_K kx rfl h1 h2 rfl rfl
theorem Hd (T:Txt K mg a):dE P w K mg base 5 a.e8 ["self","to","most","deed"] [.int 60,.aQ] (K8 a):=⟨⟨_,_,YK T,Yk T,.cons ⟨_,rfl⟩ (.cons rfl .nil)⟩⟩
theorem Wl {n:Nat} (h:¬n<26):n / 26<n:=by omega
def dig (n:Nat):List Nat:=if h:n<26 then [97+n] else dig (n / 26)++[97+n % 26]
 termination_by n
 decreasing_by exact Wl h
def und (l:List Nat):Nat:=l.foldl (fun a c=>a*26+(c - 97)) 0
theorem M0 (n:Nat):und (dig n)=n:=by
 induction n using Nat.strongRecOn with
 |ind n ih=>
  unfold dig
  split
  . simp [und]
  . have:=ih (n / 26) (by omega)
    unfold und at*
    rw [List.foldl_append,this]
    simp
    omega
theorem T6 {n m:Nat} (h:dig n=dig m):n=m:=by rw [<-M0 n,h,M0]
theorem M6:∀(k n:Nat),n<26^(k+1)->(dig n).length<=k+1
 |0,n,h=>by unfold dig;rw [dif_pos (by simpa using h)];simp
 |k+1,n,h=>by
  unfold dig
  split
  . simp
  . have:n / 26<26^(k+1):=by rw [Nat.div_lt_iff_lt_mul (by decide)];rw [Nat.pow_succ] at h;exact h
    have:=M6 k (n / 26) this
    simp;omega
def AB (l:List Nat):Str:=⟨l.toArray⟩
theorem Kr {a b:List Nat} (h:AB a=AB b):a=b:=by
 unfold AB at h
 have:=congrArg (fun s:Str=>s.cps.toList) h
 simpa using this
def nameEnd (n:Nat) (l:List Nat):List Nat:=if n=0/\l≠[] then l else dig n++l
theorem Ja {n:Nat} {l:List Nat} (h:¬(n=0/\l≠[])):nameEnd (n / 26) ((97+n % 26)::l)=nameEnd n l:=by
 unfold nameEnd
 rw [if_neg h]
 by_cases h2:n<26
 . rw [if_pos ⟨by omega,by simp⟩]
   unfold dig
   rw [dif_pos h2]
   have:n % 26=n:=by omega
   rw [this];rfl
 . rw [if_neg (by omega)]
   conv=>rhs;unfold dig
   rw [dif_neg h2,List.append_assoc];rfl
def EW (n:Nat):Str:=AB (dig n)
theorem Sj {n m:Nat} (h:EW n=EW m):n=m:=T6 (Kr h)
theorem XC (N:Nat):∀c∈dig N,c<0x110000:=by
 induction N using Nat.strongRecOn with
 |ind n ih=>
  intro c hc
  unfold dig at hc
  split at hc
  . have:c=97+n:=by simpa using hc
    omega
  . rcases List.mem_append.mp hc with hc|hc
    . exact ih (n / 26) (by omega) c hc
    . have:c=97+n % 26:=by simpa using hc
      omega
theorem acE (N:Nat):PyData.canLay0 (.str (EW N))=true:=by
 show(Str.cps (EW N)).all (·<0x110000)=true
 rw [Array.all_eq_true']
 intro c hc
 exact decide_eq_true (XC N c (by simpa [EW,AB] using hc))
def Ip:Sp:=fun vs H Q _=>∃c k,vs=[.int c,.int k]/\0<=k/\k<61/\Q (.str (EW (c % 3000000007*61+k).toNat)) H
theorem X0 {H:Hp} {Q:VK} {E:XK} {c k:Int} (h1:0<=k) (h2:k<61) (q:Q (.str (EW (c % 3000000007*61+k).toNat)) H):Ip [.int c,.int k] H Q E:=⟨c,k,rfl,h1,h2,q⟩
theorem Z3 {n:Int} (h0:0<=n) (h1:n<26):JG (Str.cps "abcdefghijklmnopqrstuvwxyz").toList n=some (97+n.toNat):=by
 obtain⟨m,rfl⟩:=Int.eq_ofNat_of_zero_le h0
 have hm:m<26:=by omega
 refine N2 ?_
 have:∀m:Fin 26,(Str.cps "abcdefghijklmnopqrstuvwxyz").toList[m.val]? =some (97+m.val):=by decide+kernel
 exact this ⟨m,hm⟩
theorem Vb (T:Txt K mg a):aN P w K mg base fF 1 a.dJ a.Bb ["_law_cell","_law_k"] Ip:=by
 refine T.wy.ok gH (fun vs H Q E h=>?_) (fun cR A outer s H vs Q E hr h=>?_)
 . obtain⟨_,_,rfl,_⟩:=h;rfl
 . obtain⟨c,k,rfl,h1,h2,q⟩:=h
   refine⟨_,(af (aL (i:=2) gH.nd rfl (Or.inl rfl) (av aM (av md (av cq (pv 0) ag) ag) (pv 1)))
    (af (aL (i:=3) gH.nd rfl (Or.inl rfl) gk)
    (af (JK PassesOwn.never (PW.pt (Hl (aK TB (pv 2) ag (aJ _)) (FD (aK (ip hr.JF) (pv 3) gk (aJ _)))))
     (af (aL (i:=3) gH.nd rfl (Or.inl rfl) (av T1 (bB fP gk (av cq (pv 2) ag) (fun _ _=>rfl)) (pv 3)))
     (ai (aL (i:=2) gH.nd rfl (Or.inl rfl) (av bN (pv 2) ag)))))
    (ai (aC (pv 3)))))),?_⟩
   have hN:(c % 3000000007*61+k)=((c % 3000000007*61+k).toNat:Int):=by omega
   have hB:(c % 3000000007*61+k).toNat<26^9:=by have:(26:Nat)^9=5429503678976:=by decide
                                                omega
   generalize (c % 3000000007*61+k).toNat=N at hN hB q
   repeat' (walk_at "rd1")
   rw [hN]
   refine N3 (fun m σ' H'=>∃(n:Nat) (l:List Nat),σ'=[some (.int c),some (.int k),some (.int n),some (.str (AB l))]/\H'=H/\n<26^9/\nameEnd n l=dig N/\m=n+(if l=[] then 1 else 0)) ⟨_,N,[],rfl,rfl,hB,by simp [nameEnd],rfl⟩ ?_
   rintro m σ' H' ⟨n,l,rfl,rfl,hn,he,rfl⟩
   have hl:l.length<=9:=by
    have h1:=M6 8 N hB
    rw [<-he] at h1
    unfold nameEnd at h1
    split at h1
    . exact h1
    . rw [List.length_append] at h1;omega
   have hl2:(AB l).length<=9:=by show l.toArray.size<=9;simpa using hl
   have step:¬(n=0/\l≠[])->∀σ2:St,σ2=[some (.int c),some (.int k),some (.int ((n:Int) / 26)),some (.str (AB ((97+n % 26)::l)))]->∃m',m'<n+(if l=[] then 1 else 0)/\∃(n':Nat) (l':List Nat),σ2=[some (.int c),some (.int k),some (.int n'),some (.str (AB l'))]/\H'=H'/\n'<26^9/\nameEnd n' l'=dig N/\m'=n'+(if l'=[] then 1 else 0):=by
    intro hs σ2 e
    refine⟨n / 26,?_,n / 26,(97+n % 26)::l,by rw [e,show((n / 26:Nat):Int)=(n:Int) / 26 by omega],rfl,by omega,by rw [Ja hs];exact he,by simp⟩
    by_cases h0:l=[]
    . rw [if_pos h0];omega
    . rw [if_neg h0]
      have:n≠0:=fun z=>hs ⟨z,h0⟩
      omega
   have cat:∀x:Nat,(⟨#[x]⟩:Str)++AB l=AB (x::l):=fun x=>by
    show(⟨#[x]++l.toArray⟩:Str)=⟨(x::l).toArray⟩
    congr 1
    simp
   have ix:JG (Str.cps "abcdefghijklmnopqrstuvwxyz").toList ((n:Int) % 26)=some (97+n % 26):=by
    rw [Z3 (by omega) (by omega)]
    rw [show((n:Int) % 26).toNat=n % 26 by omega]
   have ab0:(Str.length "abcdefghijklmnopqrstuvwxyz")<=sizeLine:=by decide
   repeat' (walk_at "rd1")
   . refine Rb ab0 ix (KU rfl (Le ?_ ?_))
     . show 1+(AB l).length<=4000;omega
     . rw [cat]
       repeat' (walk_at "rd1")
       exact step (by omega) _ rfl
   . refine Rb ab0 ix (KU rfl (Le ?_ ?_))
     . show 1+(AB l).length<=4000;omega
     . rw [cat]
       repeat' (walk_at "rd1")
       refine step ?_ _ rfl
       rename_i hb1 hb _ _
       intro z
       have:AB l=AB []:=V.str.inj hb
       exact z.2 (Kr this)
   . rename_i hb1 hb
     have h0:n=0:=by omega
     have AV:l≠[]:=fun z=>hb (by rw [z];rfl)
     have:nameEnd n l=l:=by unfold nameEnd;rw [if_pos ⟨h0,AV⟩]
     rw [this] at he
     rw [he]
     exact q
theorem Rw (T:Txt K mg a):dE P w K mg base 1 a.dJ ["_law_cell","_law_k"] [] Ip:=
 ⟨⟨_,_,Vb T,T.wy.binds fun _ _ _ _ _ _=>dR fun _ _=>rfl,.nil⟩⟩
local macro_rules|`(tactic|walk_at "use")=>`(tactic|first|((with_reducible refine' X0 ?e1 ?e2 ?_);(case e1=>omega);(case e2=>omega))|fail)
section
variable {σ:St} {H:Hp} {D:Ends} {K:PySem.W.Frag} {v:V} {g:TG} {tb:TS}
end
set_option hygiene false in
local macro_rules|`(tactic|walk_at "rd1")=>`(tactic|fail)
def Flat (d:PyData):Prop:=(∃s,d=.str s)\/∃i,d=.int i
theorem Ir (T:Txt K mg a):aN P w K mg base fF 1 a.c3 a.yD ["_law_found"] qq:=by
 refine T.qV.ok G6 (fun vs H Q E h=>?_) (fun cR A outer s H vs Q E hr h=>?_)
 . obtain⟨_,_,rfl,_⟩:=h;rfl
 . obtain⟨v,d,rfl,hd,k⟩:=h
   refine⟨_,(ai (aC (IH (cm Ci rfl T.dg PyProof.Rows.boot_isinstance (ae (pv 0) (ae (Fo (v:=.ty "int") rfl T.Dh PyProof.Rows.boot_int rfl) ak))) (Gy (SA (cm Ci rfl T.dg PyProof.Rows.boot_isinstance (ae (pv 0) (ae (Fo (v:=.ty "bool") rfl T.CD PyProof.Rows.boot_bool rfl) ak)))))))),?_⟩
   repeat' (walk_at "rd1")
   . refine V8 ?_;cases d <;>simp_all [isInt,isBool]
   . refine V8 ?_;cases d <;>simp_all [isInt,isBool]
theorem GR (T:Txt K mg a):dE P w K mg base 1 a.c3 ["_law_found"] [] qq:=
 ⟨⟨_,_,Ir T,T.qV.binds fun _ _ _ _ _ _=>kK fun _=>rfl,.nil⟩⟩
structure E6 (ds:List PyData):Prop where
 c:PyData.canLayAll0 ds=true
 d:PyData.depthAll ds<=3
 e:PyData.eqvAll ds ds=true
theorem E6.nil:E6 []:=⟨rfl,Nat.zero_le _,rfl⟩
theorem E6.cons {d:PyData} {ds:List PyData} (h1:d.canLay0=true) (h2:d.depth<=3) (h3:PyData.eqv d d=true) (h:E6 ds):E6 (d::ds):=by
 refine⟨?_,?_,?_⟩
 . rw [PyData.canLayAll0,h1,h.c];rfl
 . have:=h.d;rw [PyData.depthAll];omega
 . rw [PyData.eqvAll,h3,h.e];rfl
theorem M8 {K:PySem.W.Frag} {H:Hp} {Q:VK} {f:Bool->Bool} {x y:V} {ds:List PyData} (h1:Dv H x (.list ds)) (h2:Dv H y (.list ds)) (hl:E6 ds) (h:Q (.bl (f true)) H):Rr K f x y H Q:=by
 refine W8 h1 h2 (by rw [PyData.canLay0];exact hl.c) (by rw [PyData.canLay0];exact hl.c) ?_ ?_
 . have:=hl.d
   rw [PyData.depth]
   omega
 . rw [PyData.eqv,hl.e];exact h
theorem Uj {ds:List PyData} (h:E6 ds) (hd:PyData.depthAll ds<=2):(PyData.tuple ds).canLay0=true/\(PyData.tuple ds).depth<=3/\PyData.eqv (.tuple ds) (.tuple ds)=true:=by
 refine⟨by rw [PyData.canLay0];exact h.c,?_,by rw [PyData.eqv];exact h.e⟩
 rw [PyData.depth]
 omega
theorem Flat.lay {d:PyData} (h:Flat d) (hs:∀s,d=.str s->PyData.canLay0 (.str s)=true):d.canLay0=true/\d.depth=0/\PyData.eqv d d=true:=by
 rcases h with⟨s,rfl⟩|⟨i,rfl⟩
 . exact⟨hs s rfl,rfl,by simp [PyData.eqv]⟩
 . exact⟨rfl,rfl,by simp [PyData.eqv]⟩
theorem M7:∀{ps:List PyData},(∀p∈ps,Flat p)->(∀s,PyData.str s∈ps->PyData.canLay0 (.str s)=true)->E6 ps/\PyData.depthAll ps=0
 |[],_,_=>⟨.nil,rfl⟩
 |p::ps,h,hs=>by
  obtain⟨g1,g2⟩:=M7 (ps:=ps) (fun q hq=>h q (List.mem_cons_of_mem _ hq)) (fun s hq=>hs s (List.mem_cons_of_mem _ hq))
  obtain⟨l1,l2,l3⟩:=(h p List.mem_cons_self).lay fun s e=>hs s (by rw [<-e];exact List.mem_cons_self)
  refine⟨.cons l1 (by omega) l3 g1,?_⟩
  rw [PyData.depthAll,l2,g2];rfl
theorem Nn {ds:List PyData} (h:∀e∈ds,∃ps,e=.tuple ps/\(∀p∈ps,Flat p)/\∀s,PyData.str s∈ps->PyData.canLay0 (.str s)=true):E6 ds:=by
 induction ds with
 |nil=>exact .nil
 |cons d ds ih=>
  obtain⟨ps,rfl,h1,h2⟩:=h d List.mem_cons_self
  obtain⟨g1,g2⟩:=M7 h1 h2
  obtain⟨l1,l2,l3⟩:=Uj g1 (by omega)
  exact .cons l1 l2 l3 (ih fun e he=>h e (List.mem_cons_of_mem _ he))
theorem Nf {H:Hp} {y:V} {d:PyData} (hy:Dv H y d):∀{xs:List V} {ds:List PyData} (j:Nat),cK H xs ds->cK H (xs.set j y) (ds.set j d)
 |[],[],_,_=>.nil
 |_::_,_::_,0,.cons _ t=>.cons hy t
 |_::_,_::_,j+1,.cons h t=>.cons h (Nf hy j t)
theorem Gv {d:PyData} (hd:C8 d=true) {ds:List PyData} (j:Nat) (h:cu ds=true):cu (ds.set j d)=true:=by
 rw [gf] at h ⊢
 intro x hx
 rcases List.mem_or_eq_of_mem_set hx with h1|rfl
 . exact h x h1
 . exact hd
theorem Y9 {D:Ends} {σ:St} {H:Hp} {to ti te:TE} {t:UN} (h:te σ H fun v H1=>to σ H1 fun o H2=>ti σ H2 fun i H3=>t o i v H3 fun H4=>D.nx σ H4):Qa te (aa4 to ti t) D σ H:=h
theorem Zn {H:Hp} {p:Addr} {ds:List PyData} {j:Nat} {k:Int} {y:V} {d:PyData} {R:Hp->Prop} (hp:c9 H p ds) (hk:UJ ds.length k=some j) (hy:Dv H y d) (hi:C8 d=true) (h:∀H2,Mv [p] H H2->c9 H2 p (ds.set j d)->R H2):WD (.ref p) (.int k) y H R:=by
 obtain⟨xs,e,dv,im⟩:=hp
 have m:Mv [p] H (upd H p (.lst (xs.set j y))):=.bq e (by intro _ z;cases z)
 exact⟨p,xs,k,j,rfl,rfl,e,by rw [dv.length];exact hk,h _ m ⟨_,ao,m.Zt (Gv hi j im) (Nf hy j dv),Gv hi j im⟩⟩
local macro_rules|`(tactic|walk_at "rd1")=>`(tactic|first|((with_reducible refine' Zn ?e1 ?e2 ?e3 ?e4 (fun _ _ _=>?_));(case e1=>walk_at "lat");(case e2=>exact rfl);(case e3=>walk_at "dat");(case e4=>exact rfl))|fail)
set_option hygiene false in
local macro_rules|`(tactic|walk_at "rd1")=>`(tactic|first|with_reducible refine Y9 ?_|fail)
structure fL where
 (nm:Str) (kd st sp wd:Int) (m:V) (dy:Bool)
structure Mb where
 (no f l sn:Int)
def mD:V->PyData
 | .int i=>.int i
 |_=>.none
def TU (b:fL):PyData:=.tuple [.int b.kd,.int b.st,.int b.sp,.int b.wd,mD b.m]
def dI (b:fL) (x:Mb):List PyData:=[.str b.nm,TU b,.bool b.dy,.int x.no,.int x.f,.int x.l,.int x.sn]
structure yh (now:Int) (b:fL):Prop where
 k:b.kd=0\/b.kd=1
 s0:now+1<=b.st
 s1:b.st<now+10^20+100
 p0:1<=b.sp
 p1:b.sp<=40
 w0:0<=b.wd
 w1:b.wd<b.sp
 m:b.m=.aQ\/∃i,b.m=.int i/\1<=i/\i<=9
theorem yh.mok {now:Int} {b:fL} (h:yh now b):KZ b.m:=by
 rcases h.m with h|⟨i,h,h1,_⟩
 . exact .inl h
 . exact .inr ⟨i,h,h1⟩
theorem yh.mD {now:Int} {b:fL} (h:yh now b) {H:Hp} {v:V} (hv:Dv H v (mD b.m)):v=b.m:=by
 rcases h.m with e|⟨i,e,_⟩
 . rw [e] at hv ⊢;exact hv.NI
 . rw [e] at hv ⊢;exact hv.int_inv
theorem V0 (b:fL):C8 (TU b)=true:=by
 unfold TU
 cases b.m <;>rfl
theorem Rc (b:fL) (x:Mb):cu (dI b x)=true:=gf.mpr fun d hd=>by
 unfold dI at hd
 simp only [List.mem_cons,List.not_mem_nil,or_false] at hd
 rcases hd with rfl|rfl|rfl|rfl|rfl|rfl|rfl
 all_goals first|exact V0 b|rfl
def Ji (K:PySem.W.Frag):Sp:=fun vs H Q _=>∃c k now,vs=[.int c,.int k,.int now]/\0<=k/\k<61/\∀p H' b,ax H H'->H p=none->c9 H' p (dI b ⟨0,b.st,b.st+b.wd,b.st⟩)->yh now b->b.nm=EW (c / 3 % 3000000007*61+k).toNat->Q (.ref p) H'
theorem ZY {H:Hp} {Q:VK} {E:XK} {c k now:Int} (h0:0<=k) (h1:k<61) (q:∀p H' b,ax H H'->H p=none->c9 H' p (dI b ⟨0,b.st,b.st+b.wd,b.st⟩)->yh now b->b.nm=EW (c / 3 % 3000000007*61+k).toNat->Q (.ref p) H'):Ji K [.int c,.int k,.int now] H Q E:=⟨c,k,now,rfl,h0,h1,q⟩
theorem Vn (T:Txt K mg a):aN P w K mg base fF 2 a.dM a.CQ ["_law_cell","_law_k","_law_now"] (Ji K):=by
 have JR:=Rw (P:=P) (w:=w) (base:=base) T
 refine T.vB.ok cW (fun vs H Q E h=>?_) (fun cR A outer s H vs Q E hr h=>?_)
 . obtain⟨_,_,_,rfl,_⟩:=h;rfl
 . obtain⟨c,k,now,rfl,h0,h1,q⟩:=h
   refine⟨_,(af (aL (i:=3) cW.nd rfl (Or.inl rfl) (av aM ag (av cq (av bN (pv 0) ag) ag)))
    (af (aL (i:=4) cW.nd rfl (Or.inl rfl) dn)
    (cP (cj (aK (ip hr.JF) (av cq (av bN (pv 0) ag) ag) ag (aJ _))
     (ai (aL (i:=4) cW.nd rfl (Or.inl rfl) (av aM ag (av cq (av bN (pv 0) ag) ag))))
     aO)
    (af (aL (i:=5) cW.nd rfl (Or.inl rfl) (av aM (av aM (pv 2) ag) (av cq (av bN (pv 0) ag) ag)))
    (cP (cj (aK (ip hr.JF) (av cq (av bN (pv 0) ag) ag) ag (aJ _))
     (ai (aL (i:=5) cW.nd rfl (Or.inl rfl) (av aM (av aM (pv 2) ag) (av cq (av bN (pv 0) ag) (av Lx ag ag)))))
     aO)
    (af (aL (i:=6) cW.nd rfl (Or.inl rfl) (av cq (av bN (pv 0) ag) (pv 3)))
    (af (aL (i:=7) cW.nd rfl (Or.inl rfl) (eG (ae (av cq (av bN (pv 0) ag) ag) (ae (pv 5) (ae (pv 3) (ae (pv 6) (ae (pv 4) ak)))))))
    (ai (aC (fw (ae (bz JR (hr.mono (by decide)) rfl T.Cv T.Cd (ae (av bN (pv 0) ag) (ae (pv 1) ak))) (ae (pv 7) (ae (iA (ip hr.JF) (av cq (pv 0) ag) ag (aJ _)) (ae ag (ae (pv 5) (ae (av aM (pv 5) (pv 6)) (ae (pv 5) ak))))))))))))))))),?_⟩
   repeat' (walk_at "rd1")
   refine gg (fun σ' H'=>H'=H/\∃m,(m=.aQ\/∃i,m=.int i/\1<=i/\i<=9)/\σ'=[some (.int c),some (.int k),some (.int now),some (.int (1+c / 2 % 40)),some m,none,none,none]) ?_ ?_
   . repeat' (walk_at "rd1")
     . exact⟨rfl,_,.inr ⟨_,rfl,by omega,by omega⟩,rfl⟩
     . exact⟨rfl,_,.inl rfl,rfl⟩
   rintro σ' H' ⟨rfl,m,hm,rfl⟩
   repeat' (walk_at "rd1")
   refine gg (fun σ' H2=>H2=H'/\∃st:Int,now+1<=st/\st<now+10^20+100/\σ'=[some (.int c),some (.int k),some (.int now),some (.int (1+c / 2 % 40)),some m,some (.int st),none,none]) ?_ ?_
   . repeat' (walk_at "rd1")
     all_goals exact⟨rfl,_,by omega,by omega,rfl⟩
   rintro σ' H2 ⟨rfl,st,t0,t1,rfl⟩
   have hmd:Dv H2 m (mD m):=by
    rcases hm with rfl|⟨i,rfl,_⟩
    . exact .aQ
    . exact .int _
   repeat' (walk_at "rd1")
   rename_i p6 H6 s6 hn6 at6 dv6 _
   refine q p6 H6 ⟨EW (c / 3 % 3000000007*61+k).toNat,c / 3 % 2,st,1+c / 2 % 40,c / 5 % (1+c / 2 % 40),m,id (decide (V.int (c % 2)=V.int 1))⟩ (by walk_at "same") (by walk_at "none") ⟨_,at6,dv6,Rc _ _⟩ ⟨?_,t0,t1,?_,?_,?_,?_,hm⟩ rfl
   . show c / 3 % 2=0\/c / 3 % 2=1;omega
   . show 1<=1+c / 2 % 40;omega
   . show 1+c / 2 % 40<=40;omega
   . exact Int.emod_nonneg _ (by omega)
   . exact Int.emod_lt_of_pos _ (by omega)
theorem RM (T:Txt K mg a):dE P w K mg base 2 a.dM ["_law_cell","_law_k","_law_now"] [] (Ji K):=
 ⟨⟨_,_,Vn T,T.vB.binds fun _ _ _ _ _ _=>wa fun _ _ _=>rfl,.nil⟩⟩
def pX (b:fL):RU:=if b.kd=1 then .behind b.st b.sp b.wd b.m else .each b.st b.sp b.wd b.m
def Jy (a:Ad):Sp:=fun vs H Q _=>∃rv b now,vs=[rv]/\Dv H rv (TU b)/\yh now b/\0<=now/\now<60/\∀v H',ax H H'->qF a H' v (pX b)->Q v H'
theorem X8 {H:Hp} {Q:VK} {E:XK} {rv:V} {b:fL} {now:Int} (h1:Dv H rv (TU b)) (h2:yh now b) (h3:0<=now) (h4:now<60) (q:∀v H',ax H H'->qF a H' v (pX b)->Q v H'):Jy a [rv] H Q E:=⟨rv,b,now,rfl,h1,h2,h3,h4,q⟩
theorem Uc (T:Txt K mg a):aN P w K mg base fF 8 a.dN a.CZ ["_law_rule_here"] (Jy a):=by
 have Aq:=Cr (P:=P) (w:=w) (base:=base) T
 have Fw:=Gz (P:=P) (w:=w) (base:=base) T
 refine T.uM.ok IA (fun vs H Q E h=>?_) (fun cR A outer s H vs Q E hr h=>?_)
 . obtain⟨_,_,_,rfl,_⟩:=h;rfl
 . obtain⟨rv,b,now,rfl,h1,ok,h3,h4,q⟩:=h
   unfold TU at h1
   have s0:=ok.s0;have s1:=ok.s1;have p0:=ok.p0;have p1:=ok.p1;have w0:=ok.w0;have w1:=ok.w1;have ho:=ok.mok
   have em:∀{H:Hp} {v:V},Dv H v (mD b.m)->v=b.m:=fun h=>ok.mD h
   unfold pX at q
   refine⟨_,(af (cj (aK (ip hr.JF) (bB fP (pv 0) ag (fun _ _=>rfl)) ag (aJ _))
    (ai (aC (x8 T.FE Aq (hr.mono (by decide)) rfl T.DS (ae (bB fP (pv 0) ag (fun _ _=>rfl)) (ae (bB fP (pv 0) ag (fun _ _=>rfl)) (ae (bB fP (pv 0) ag (fun _ _=>rfl)) (ae (bB fP (pv 0) ag (fun _ _=>rfl)) ak)))))))
    aO)
    (ai (aC (x8 T.MG Fw (hr.mono (by decide)) rfl T.Js (ae (bB fP (pv 0) ag (fun _ _=>rfl)) (ae (bB fP (pv 0) ag (fun _ _=>rfl)) (ae (bB fP (pv 0) ag (fun _ _=>rfl)) (ae (bB fP (pv 0) ag (fun _ _=>rfl)) ak)))))))),?_⟩
   repeat' (walk_at "rd1")
   . rename_i hb x hx
     rw [em hx]
     exact⟨_,_,_,_,rfl,by omega,by omega,by omega,ho⟩
   . rename_i hb x hx v H2 s2 hi
     rw [em hx] at hi
     exact q v H2 s2 (by rw [if_pos hb];exact⟨hi,ho,by omega,by omega,by omega,by omega,by omega⟩)
   . rename_i hb x hx
     rw [em hx]
     exact⟨_,_,_,_,rfl,by omega,by omega,by omega,by omega,ho⟩
   . rename_i hb x hx v H2 s2 hi
     rw [em hx] at hi
     exact q v H2 s2 (by rw [if_neg hb];exact⟨hi,ho,by omega,by omega,by omega,by omega,by omega,by omega⟩)
theorem Se (T:Txt K mg a):dE P w K mg base 8 a.dN ["_law_rule_here"] [] (Jy a):=
 ⟨⟨_,_,Uc T,T.uM.binds fun _ _ _ _ _ _=>kK fun _=>rfl,.nil⟩⟩
def kN (b:fL) (x:Mb) (t:Int):Int:=if b.kd=1 then x.no+(t - x.l) / (b.sp+b.wd)+1 else (t - b.st - b.wd) / b.sp+1
def fN (b:fL) (x:Mb) (t:Int):Int:=if b.kd=1 then x.l+(kN b x t - x.no)*(b.sp+b.wd) - b.wd else b.st+kN b x t*b.sp
def yN (n:Str) (i j:Int):PyData:=.tuple [.str "missed",.str n,.int i,.int j]
def ck (b:fL) (x:Mb) (t:Int):Mb:=if t<x.l then x else match b.m with
 | .int i=>if i<=kN b x t then {x with no:=i} else ⟨kN b x t,fN b x t,fN b x t+b.wd,x.sn⟩
 |_=>⟨kN b x t,fN b x t,fN b x t+b.wd,x.sn⟩
def layR (b:fL) (x:Mb) (t:Int):List PyData:=if t<x.l then [] else match b.m with
 | .int i=>if i<=kN b x t then [yN b.nm x.no (i - 1),GD b.nm] else [yN b.nm x.no (kN b x t - 1)]
 |_=>[yN b.nm x.no (kN b x t - 1)]
theorem aaY {now:Int} {b:fL} {x:Mb} {t:Int} (ok:yh now b) (h0:0<=x.no) (h1:x.no<10^50) (hl:b.st+b.wd<=x.l) (ht:x.l<=t) (h2:t - (b.st+b.wd)<10^60):0<=kN b x t/\kN b x t<10^61:=by
 have p0:=ok.p0;have w0:=ok.w0
 unfold kN
 split
 . have a1:=Int.ediv_nonneg (a:=t - x.l) (b:=b.sp+b.wd) (by omega) (by omega)
   have a2:=Int.ediv_le_self (b.sp+b.wd) (show 0<=t - x.l by omega)
   omega
 . have a1:=Int.ediv_nonneg (a:=t - b.st - b.wd) (b:=b.sp) (by omega) (by omega)
   have a2:=Int.ediv_le_self b.sp (show 0<=t - b.st - b.wd by omega)
   omega
def FR:Sp:=fun vs H Q _=>∃p b x t now,vs=[.ref p,.int t]/\c9 H p (dI b x)/\yh now b/\0<=now/\0<=x.no/\x.no<10^50/\b.st+b.wd<=x.l/\x.l<10^60/\t - (b.st+b.wd)<10^60/\t<10^60/\∀q H',Mv [p] H H'->H q=none->c9 H' q (layR b x t)->c9 H' p (dI b (ck b x t))->Q (.ref q) H'
theorem Wf {H:Hp} {Q:VK} {E:XK} {p:Addr} {b:fL} {x:Mb} {t now:Int} (h1:c9 H p (dI b x)) (h2:yh now b) (h3:0<=now) (h4:0<=x.no) (h5:x.no<10^50) (h6:b.st+b.wd<=x.l) (h7:x.l<10^60) (h8:t - (b.st+b.wd)<10^60) (h9:t<10^60) (q:∀q H',Mv [p] H H'->H q=none->c9 H' q (layR b x t)->c9 H' p (dI b (ck b x t))->Q (.ref q) H'):FR [.ref p,.int t] H Q E:=⟨p,b,x,t,now,rfl,h1,h2,h3,h4,h5,h6,h7,h8,h9,q⟩
theorem Tz (T:Txt K mg a):aN P w K mg base fF 1 a.eS a.EA ["_law_bell_here","_law_shown"] FR:=by
 refine T.Aw.ok bf (fun vs H Q E h=>?_) (fun cR A outer s H vs Q E hr h=>?_)
 . obtain⟨_,_,_,_,_,rfl,_⟩:=h;rfl
 . obtain⟨p,b,x,t,now,rfl,hp,ok,hn,h0,h1,hl,hl2,ht,ht2,q⟩:=h
   have p0:=ok.p0;have p1:=ok.p1;have w0:=ok.w0;have w1:=ok.w1;have s0:=ok.s0;have s1:=ok.s1
   have em:∀{H:Hp} {v:V},Dv H v (mD b.m)->v=b.m:=fun h=>ok.mD h
   unfold dI at hp
   refine⟨_,(af (rh (pv 0) (Z4 (n:=7) rfl (bM (aR (i:=2) bf.nd rfl (Or.inl rfl)) (bM (aR (i:=3) bf.nd rfl (Or.inl rfl)) (bM (aR (i:=4) bf.nd rfl (Or.inl rfl)) (bM (aR (i:=5) bf.nd rfl (Or.inl rfl)) (bM (aR (i:=6) bf.nd rfl (Or.inl rfl)) (bM (aR (i:=7) bf.nd rfl (Or.inl rfl)) (bM (aR (i:=8) bf.nd rfl (Or.inl rfl)) A3)))))))))
    (af (rh (pv 3) (MO (n:=5) rfl (bM (aR (i:=9) bf.nd rfl (Or.inl rfl)) (bM (aR (i:=10) bf.nd rfl (Or.inl rfl)) (bM (aR (i:=11) bf.nd rfl (Or.inl rfl)) (bM (aR (i:=12) bf.nd rfl (Or.inl rfl)) (bM (aR (i:=13) bf.nd rfl (Or.inl rfl)) A3)))))))
    (af (cj (aK TB (pv 7) (pv 1) (aJ _))
     (ai (aC (fw ak)))
     aO)
    (af (rh (av aM (av bN (av eF (av eF (pv 1) (pv 10)) (pv 12)) (pv 11)) ag) (AI (pv 0) ag set_list))
    (cP (cj (aK (ip hr.JF) (pv 9) ag (aJ _))
     (ai (rh (av aM (av aM (pv 5) (av bN (av eF (pv 1) (pv 7)) (av aM (pv 11) (pv 12)))) ag) (AI (pv 0) ag set_list)))
     aO)
    (cP (cj (PW.pt (MJ (aK qQ (pv 13) dn (aJ _)) (Ih (aK Sh (bB fP (pv 0) ag (fun _ _=>rfl)) (pv 13) (aJ _)))))
     (af (rh (pv 13) (AI (pv 0) ag set_list))
     (ai (aC (fw (ae (eG (ae gk (ae (pv 2) (ae (pv 5) (ae (av eF (pv 13) ag) ak))))) (ae (eG (ae gk (ae (pv 2) ak))) ak))))))
     aO)
    (af (rh (av aM (pv 10) (av md (bB fP (pv 0) ag (fun _ _=>rfl)) (pv 11))) (AI (pv 0) ag set_list))
    (cP (cj (aK (ip hr.JF) (pv 9) ag (aJ _))
     (ai (rh (av eF (av aM (pv 7) (av md (av eF (bB fP (pv 0) ag (fun _ _=>rfl)) (pv 5)) (av aM (pv 11) (pv 12)))) (pv 12)) (AI (pv 0) ag set_list)))
     aO)
    (af (rh (av aM (bB fP (pv 0) ag (fun _ _=>rfl)) (pv 12)) (AI (pv 0) ag set_list))
    (ai (aC (fw (ae (eG (ae gk (ae (pv 2) (ae (pv 5) (ae (av eF (bB fP (pv 0) ag (fun _ _=>rfl)) ag) ak))))) ak))))))))))))),?_⟩
   repeat' (walk_at "rd1")
   refine Rl ?_
   repeat' (walk_at "rd1")
   refine Vh hp (fun v1 v2 v3 v4 v5 v6 v7 g1 g2 g3 g4 g5 g6 g7=>?_)
   obtain rfl:=g1.str_inv
   obtain rfl:=g4.int_inv
   obtain rfl:=g5.int_inv
   obtain rfl:=g6.int_inv
   obtain rfl:=g7.int_inv
   unfold TU at g2
   repeat' (walk_at "rd1")
   refine Rl ?_
   repeat' (walk_at "rd1")
   refine Ym g2 (fun y1 y2 y3 y4 y5 e1 e2 e3 e4 e5=>?_)
   obtain rfl:=e1.int_inv
   obtain rfl:=e2.int_inv
   obtain rfl:=e3.int_inv
   obtain rfl:=e4.int_inv
   obtain rfl:=em e5
   repeat' (walk_at "rd1")
   . rename_i hb q1 H1 s1 Dd Fi
     refine q q1 H1 s1.mv Dd ?_ ?_
     . unfold layR;rw [if_pos hb];exact Fi
     . unfold ck;rw [if_pos hb];exact hp.keeps s1
   . rename_i hb H1 m1 Ox
     obtain⟨kb0,kb1⟩:=aaY ok h0 h1 hl (by omega) ht
     refine gg (fun σ' H'=>σ'=[some (.ref p),some (.int t),some (.str b.nm),some v2,some v3,some (.int x.no),some (.int x.f),some (.int x.l),some (.int x.sn),some (.int b.kd),some (.int b.st),some (.int b.sp),some (.int b.wd),some b.m]/\Mv [p] H H'/\c9 H' p [.str b.nm,TU b,.bool b.dy,.int (kN b x t),.int x.f,.int x.l,.int x.sn]) ?_ ?_
     . repeat' (walk_at "rd1")
       . rename_i hk H2 m2 Qm
         have e:kN b x t=x.no+(t - x.l) / (b.sp+b.wd)+1:=by unfold kN;rw [if_pos hk]
         exact⟨rfl,m1.trans m2,by rw [e];exact Qm⟩
       . rename_i hk
         have e:kN b x t=(t - b.st - b.wd) / b.sp+1:=by unfold kN;rw [if_neg hk]
         exact⟨rfl,m1,by rw [e];exact Ox⟩
     rintro σ' H2 ⟨rfl,m2,Qm⟩
     clear Ox m1
     refine gg (fun σ' H'=>σ'=[some (.ref p),some (.int t),some (.str b.nm),some v2,some v3,some (.int x.no),some (.int x.f),some (.int x.l),some (.int x.sn),some (.int b.kd),some (.int b.st),some (.int b.sp),some (.int b.wd),some b.m]/\H'=H2/\ck b x t=⟨kN b x t,fN b x t,fN b x t+b.wd,x.sn⟩/\layR b x t=[yN b.nm x.no (kN b x t - 1)]) ?_ ?_
     . rcases ok.m with Wc|⟨i,Wc,i1,i2⟩
       . have eX:ck b x t=⟨kN b x t,fN b x t,fN b x t+b.wd,x.sn⟩:=by unfold ck;rw [if_neg hb,Wc]
         have eR:layR b x t=[yN b.nm x.no (kN b x t - 1)]:=by unfold layR;rw [if_neg hb,Wc]
         rw [Wc]
         repeat' (walk_at "rd1")
         exact⟨rfl,rfl,eX,eR⟩
       . rw [Wc]
         repeat' (walk_at "rd1")
         . rename_i hi H3 m3 hp3 v4 H4 s4 hv4 v5 H5 s5 hv5 q6 H6 s6 hn6 hq6
           have eX:ck b x t={x with no:=i}:=by unfold ck;rw [if_neg hb,Wc];simp only [if_pos hi]
           have eR:layR b x t=[yN b.nm x.no (i - 1),GD b.nm]:=by unfold layR;rw [if_neg hb,Wc];simp only [if_pos hi]
           have s36:=(s4.trans s5).trans s6
           refine q q6 H6 ((m2.trans m3).Sq s36) ?_ (by rw [eR];exact hq6) (by rw [eX];exact hp3.keeps s36)
           exact(m2.trans m3).none ((s4.trans s5).none hn6)
         . rename_i hi
           exact⟨rfl,rfl,by unfold ck;rw [if_neg hb,Wc];simp only [if_neg hi],by unfold layR;rw [if_neg hb,Wc];simp only [if_neg hi]⟩
     rintro σ' H3 ⟨rfl,rfl,eX,eR⟩
     rw [eX,eR] at q
     repeat' (walk_at "rd1")
     rename_i H4 m4 hp4
     refine gg (fun σ' H'=>σ'=[some (.ref p),some (.int t),some (.str b.nm),some v2,some v3,some (.int x.no),some (.int x.f),some (.int x.l),some (.int x.sn),some (.int b.kd),some (.int b.st),some (.int b.sp),some (.int b.wd),some b.m]/\Mv [p] H H'/\c9 H' p [.str b.nm,TU b,.bool b.dy,.int (kN b x t),.int (fN b x t),.int x.l,.int x.sn]) ?_ ?_
     . repeat' (walk_at "rd1")
       . rename_i hk H5 m5 hp5
         have e:fN b x t=x.l+(kN b x t - x.no)*(b.sp+b.wd) - b.wd:=by unfold fN;rw [if_pos hk]
         exact⟨rfl,(m2.trans m4).trans m5,by rw [e];exact hp5⟩
       . rename_i hk
         have e:fN b x t=b.st+kN b x t*b.sp:=by unfold fN;rw [if_neg hk]
         exact⟨rfl,m2.trans m4,by rw [e];exact hp4⟩
     rintro σ' H5 ⟨rfl,m5,hp5⟩
     clear hp4 m4 Qm
     repeat' (walk_at "rd1")
     rename_i H6 m6 hp6 v7 H7 s7 hv7 q8 H8 s8 ZD hq8
     exact q q8 H8 ((m5.trans m6).Sq (s7.trans s8)) ((m5.trans m6).none (s7.none ZD)) hq8 (hp6.keeps (s7.trans s8))
theorem Oq (T:Txt K mg a):dE P w K mg base 1 a.eS ["_law_bell_here","_law_shown"] [] FR:=
 ⟨⟨_,_,Tz T,T.Aw.binds fun _ _ _ _ _ _=>dR fun _ _=>rfl,.nil⟩⟩
def yf (b:fL) (sh:Int):Int:=if b.dy=true then sh else 0
def qI (b:fL) (x:Mb) (sh:Int):PyData:=.tuple [.str b.nm,.int x.sn,.int (x.l - yf b sh),.int 1]
def Gg:Sp:=fun vs H Q _=>∃p b x sh,vs=[.ref p,.int sh]/\c9 H p (dI b x)/\-(10^60)<sh/\sh<10^60/\∀v H',ax H H'->Dv H' v (qI b x sh)->Q v H'
theorem V9 {H:Hp} {Q:VK} {E:XK} {p:Addr} {b:fL} {x:Mb} {sh:Int} (h1:c9 H p (dI b x)) (h2:-(10^60)<sh) (h3:sh<10^60) (q:∀v H',ax H H'->Dv H' v (qI b x sh)->Q v H'):Gg [.ref p,.int sh] H Q E:=⟨p,b,x,sh,rfl,h1,h2,h3,q⟩
theorem RT (T:Txt K mg a):aN P w K mg base fF 1 a.fj a.ER ["_law_bell_here","_law_shift"] Gg:=by
 refine T.Ap.ok KW (fun vs H Q E h=>?_) (fun cR A outer s H vs Q E hr h=>?_)
 . obtain⟨_,_,_,_,rfl,_⟩:=h;rfl
 . obtain⟨p,b,x,sh,rfl,hp,h2,h3,q⟩:=h
   unfold dI at hp
   unfold qI at q
   have e:sh*(if b.dy=true then (1:Int) else 0)=yf b sh:=by unfold yf;split <;>simp
   refine⟨_,(ai (aC (eG (ae (bB fP (pv 0) ag (fun _ _=>rfl)) (ae (bB fP (pv 0) ag (fun _ _=>rfl)) (ae (av eF (bB fP (pv 0) ag (fun _ _=>rfl)) (av md (pv 1) (OD OA rfl T.Dh PyProof.Rows.boot_int (ae (bB fP (pv 0) ag (fun _ _=>rfl)) ak)))) (ae ag ak))))))),?_⟩
   repeat' (walk_at "rd1")
   refine .inr ⟨_,rfl,?_⟩
   repeat' (walk_at "rd1")
   rename_i v5 H5 s5 hv5
   rw [e] at hv5
   exact q v5 H5 s5 hv5
theorem P4 (T:Txt K mg a):dE P w K mg base 1 a.fj ["_law_bell_here","_law_shift"] [] Gg:=
 ⟨⟨_,_,RT T,T.Ap.binds fun _ _ _ _ _ _=>dR fun _ _=>rfl,.nil⟩⟩
def R1:Sp:=fun vs H Q _=>∃c s,vs=[.int c,.int s]/\0<=s/\∀VR:Int,-s<=VR-> -(10^21)<=VR->VR<10^21->Q (.int VR) H
theorem aeR {H:Hp} {Q:VK} {E:XK} {c s:Int} (h0:0<=s) (q:∀VR:Int,-s<=VR-> -(10^21)<=VR->VR<10^21->Q (.int VR) H):R1 [.int c,.int s] H Q E:=⟨c,s,rfl,h0,q⟩
theorem abm (T:Txt K mg a):aN P w K mg base fF 1 a.gu a.FT ["_law_cell","_law_shown"] R1:=by
 refine T.Di.ok qN (fun vs H Q E h=>?_) (fun cR A outer s H vs Q E hr h=>?_)
 . obtain⟨_,_,rfl,_⟩:=h;rfl
 . obtain⟨c,s',rfl,h0,q⟩:=h
   refine⟨_,(af (aL (i:=2) qN.nd rfl (Or.inl rfl) (av eF (av cq (pv 0) ag) ag))
    (cP (cj (aK (ip hr.JF) (av cq (av bN (pv 0) ag) ag) ag (aJ _))
     (ai (aL (i:=2) qN.nd rfl (Or.inl rfl) (av cq (av bN (pv 0) ag) (av Lx ag ag))))
     aO)
    (cP (cj (aK (ip hr.JF) (av cq (av bN (pv 0) ag) ag) ag (aJ _))
     (ai (aL (i:=2) qN.nd rfl (Or.inl rfl) (av eF ag (av cq (av bN (pv 0) ag) (av Lx ag ag)))))
     aO)
    (ai (aC (cm (x9 rfl) rfl T.Ai PyProof.Rows.boot_max (ae (pv 2) (ae (av eF ag (pv 1)) ak)))))))),?_⟩
   repeat' (walk_at "rd1")
   refine gg (fun σ' H'=>H'=H/\∃d:Int,-(10^21)<=d/\d<10^21/\σ'=[some (.int c),some (.int s'),some (.int d)]) ?_ ?_
   . repeat' (walk_at "rd1")
     all_goals exact⟨rfl,_,by omega,by omega,rfl⟩
   rintro σ' H' ⟨rfl,d,d0,d1,rfl⟩
   repeat' (walk_at "rd1")
   refine gg (fun σ' H2=>H2=H'/\∃d:Int,-(10^21)<=d/\d<10^21/\σ'=[some (.int c),some (.int s'),some (.int d)]) ?_ ?_
   . repeat' (walk_at "rd1")
     all_goals exact⟨rfl,_,by omega,by omega,rfl⟩
   rintro σ' H2 ⟨rfl,d2,d3,d4,rfl⟩
   repeat' (walk_at "rd1")
   rename_i z z1 z2 z3
   exact q _ (by omega) (by omega) (by omega)
theorem Yd (T:Txt K mg a):dE P w K mg base 1 a.gu ["_law_cell","_law_shown"] [] R1:=
 ⟨⟨_,_,abm T,T.Di.binds fun _ _ _ _ _ _=>dR fun _ _=>rfl,.nil⟩⟩
structure uJ (now0:Int) (b:fL) (x:Mb):Prop where
 ok:yh now0 b
 n0:0<=x.no
 l0:x.l=x.f+b.wd
 l1:b.st+b.wd<=x.l
 ea:b.kd=0->x.f=b.st+x.no*b.sp
 ny:∀i,b.m=.int i->x.no<i
def bQ (b:fL) (x:Mb) (sh:Int):jc:=⟨pX b,1,none,b.dy,x.no,some (x.f,x.l),some x.sn,some (x.l - yf b sh)⟩
theorem Ue (b:fL):Dy (pX b)=(b.st,b.st+b.wd)/\mny (pX b)=b.m:=by
 unfold pX
 split <;>exact⟨rfl,rfl⟩
theorem aa9 {now0:Int} {b:fL} {x:Mb} {t:Int} (h:uJ now0 b x) (ht:x.l<=t):K2 (pX b) x.no x.l t=lR b.m (kN b x t) (fN b x t,fN b x t+b.wd):=by
 have p0:=h.ok.p0;have w0:=h.ok.w0;have n0:=h.n0;have l0:=h.l0
 unfold pX
 split
 . rename_i hk
   show lR b.m (WV b.sp b.wd x.no x.l t) (W2 b.sp b.wd x.l t - b.wd,W2 b.sp b.wd x.l t)=_
   have e1:(t - (x.l+b.sp+b.wd)) / (b.sp+b.wd)=(t - x.l) / (b.sp+b.wd)+-1:=by
    rw [show t - (x.l+b.sp+b.wd)=t - x.l+-1*(b.sp+b.wd) by omega]
    exact Int.add_mul_ediv_right _ _ (by omega)
   have a1:=Int.ediv_nonneg (a:=t - x.l) (b:=b.sp+b.wd) (by omega) (by omega)
   have e2:steps (x.l+b.sp+b.wd) (b.sp+b.wd) t=(t - x.l) / (b.sp+b.wd):=by
    unfold steps
    rw [e1]
    omega
   have e3:kN b x t=x.no+(t - x.l) / (b.sp+b.wd)+1:=by unfold kN;rw [if_pos hk]
   have e4:WV b.sp b.wd x.no x.l t=kN b x t:=by unfold WV;rw [e2,e3];omega
   have e5:fN b x t=x.l+((t - x.l) / (b.sp+b.wd)+1)*(b.sp+b.wd) - b.wd:=by
    unfold fN
    rw [if_pos hk,e3]
    congr 3
    omega
   have e6:W2 b.sp b.wd x.l t=fN b x t+b.wd:=by
    unfold W2
    rw [e2,e5,Int.add_mul,Int.one_mul]
    omega
   rw [e4,e6]
   congr 2
   omega
 . rename_i hk
   have hk0:b.kd=0:=by rcases h.ok.k with e|e <;>omega
   have hf:=h.ea hk0
   show lR b.m (Li b.st b.sp b.wd x.no t) (b.st+Li b.st b.sp b.wd x.no t*b.sp,b.st+Li b.st b.sp b.wd x.no t*b.sp+b.wd)=_
   have e1:(t - (b.st+(x.no+1)*b.sp+b.wd)) / b.sp=(t - b.st - b.wd) / b.sp+-(x.no+1):=by
    rw [show t - (b.st+(x.no+1)*b.sp+b.wd)=t - b.st - b.wd+-(x.no+1)*b.sp by rw [Int.neg_mul];omega]
    exact Int.add_mul_ediv_right _ _ (by omega)
   have a1:x.no<=(t - b.st - b.wd) / b.sp:=by
    refine(Int.le_ediv_iff_mul_le (by omega)).mpr ?_
    omega
   have e3:kN b x t=(t - b.st - b.wd) / b.sp+1:=by unfold kN;rw [if_neg hk]
   have e4:Li b.st b.sp b.wd x.no t=kN b x t:=by
    unfold Li steps
    rw [e1,e3]
    omega
   have e5:fN b x t=b.st+kN b x t*b.sp:=by unfold fN;rw [if_neg hk]
   rw [e4,e5]
def Kw (now sh:Int) (x:Mb):Mb:={x with sn:=max (now+1) (x.f - sh)}
theorem U0 {now0:Int} {b:fL} {x:Mb} {k:KS} {sh:Int} (h:uJ now0 b x) (hd:b.dy=true):qR k b.nm (bQ b x sh) x.l=layR b x (k.now+k.sh)/\
 ((∃i,b.m=.int i/\(ck b x (k.now+k.sh)).no=i)/\eP k b.nm (bQ b x sh) x.l={k with f:=cn k.f b.nm none,t:=cn k.t b.nm none}\/
  uJ now0 b (ck b x (k.now+k.sh))/\k.now+k.sh<(ck b x (k.now+k.sh)).l/\eP k b.nm (bQ b x sh) x.l={k with f:=cn k.f b.nm (some (bQ b (Kw k.now k.sh (ck b x (k.now+k.sh))) k.sh)),t:=cn k.t b.nm (some ((ck b x (k.now+k.sh)).l - k.sh))}):=by
 have hl:lead (bQ b x sh) k.sh=k.sh:=by unfold lead bQ;rw [if_pos hd]
 have Nc:eD k (bQ b x sh)=k.now+k.sh:=by unfold eD;rw [hl]
 have hld:yf b k.sh=k.sh:=by unfold yf;rw [if_pos hd]
 generalize ht:k.now+k.sh=t at*
 have p0:=h.ok.p0;have w0:=h.ok.w0
 by_cases fq:t<x.l
 . have eB:layB k (bQ b x sh) x.l=rest (bQ b x sh):=by unfold layB oP;rw [Nc,if_pos fq]
   have eX:ck b x t=x:=by unfold ck;rw [if_pos fq]
   have eR:layR b x t=[]:=by unfold layR;rw [if_pos fq]
   refine⟨?_,.inr ⟨by rw [eX];exact h,by rw [eX];exact fq,?_⟩⟩
   . unfold qR missed
     rw [Nc,if_pos fq,eB,eR]
     rfl
   . unfold eP
     rw [eB,eX]
     show({k with f:=cn k.f b.nm (some (wait (rest (bQ b x sh)) k.now k.sh x.f x.l)),t:=cn k.t b.nm (some (x.l - lead (bQ b x sh) k.sh))}:KS)=_
     rw [hl]
     have ew:wait (rest (bQ b x sh)) k.now k.sh x.f x.l=bQ b (Kw k.now k.sh x) k.sh:=by
      unfold wait
      rw [show lead (rest (bQ b x sh)) k.sh=k.sh from hl]
      unfold bQ Kw rest
      simp only [hld]
      congr 2
      omega
     rw [ew]
 . have ht2:x.l<=t:=by omega
   have e:=aa9 h ht2
   have eB:layB k (bQ b x sh) x.l={rest (bQ b x sh) with no:=(lR b.m (kN b x t) (fN b x t,fN b x t+b.wd)).1,st:=(lR b.m (kN b x t) (fN b x t,fN b x t+b.wd)).2}:=by
    unfold layB oP
    rw [Nc,if_neg fq]
    show({rest (bQ b x sh) with no:=(K2 (pX b) x.no x.l t).1,st:=(K2 (pX b) x.no x.l t).2}:jc)=_
    rw [e]
   have eM:missed b.nm (rest (bQ b x sh)) x.l t=[yN b.nm x.no ((lR b.m (kN b x t) (fN b x t,fN b x t+b.wd)).1 - 1)]:=by
    unfold missed
    rw [if_neg fq]
    show [PyData.tuple [.str "missed",.str b.nm,.int x.no,.int ((K2 (pX b) x.no x.l t).1 - 1)]]=_
    rw [e]
    rfl
   have moved:lR b.m (kN b x t) (fN b x t,fN b x t+b.wd)=(kN b x t,some (fN b x t,fN b x t+b.wd))->ck b x t=⟨kN b x t,fN b x t,fN b x t+b.wd,x.sn⟩->layR b x t=[yN b.nm x.no (kN b x t - 1)]->(∀i,b.m=.int i->kN b x t<i)->qR k b.nm (bQ b x sh) x.l=layR b x t/\uJ now0 b (ck b x t)/\t<(ck b x t).l/\eP k b.nm (bQ b x sh) x.l={k with f:=cn k.f b.nm (some (bQ b (Kw k.now k.sh (ck b x t)) k.sh)),t:=cn k.t b.nm (some ((ck b x t).l - k.sh))}:=by
    intro c eX eR hm
    rw [c] at eB eM
    have hg:t<fN b x t+b.wd/\x.no<kN b x t/\b.st+b.wd<=fN b x t+b.wd:=by
     unfold fN
     have n0:=h.n0
     have l1:=h.l1
     split
     . rename_i hk
       have e3:kN b x t=x.no+(t - x.l) / (b.sp+b.wd)+1:=by unfold kN;rw [if_pos hk]
       have a1:=Int.ediv_nonneg (a:=t - x.l) (b:=b.sp+b.wd) (by omega) (by omega)
       have a2:=Int.emod_add_mul_ediv (t - x.l) (b.sp+b.wd)
       have a3:=Int.emod_lt_of_pos (t - x.l) (show 0<b.sp+b.wd by omega)
       have a5:(kN b x t - x.no)*(b.sp+b.wd)=(b.sp+b.wd)*((t - x.l) / (b.sp+b.wd))+(b.sp+b.wd):=by
        rw [e3,show x.no+(t - x.l) / (b.sp+b.wd)+1 - x.no=(t - x.l) / (b.sp+b.wd)+1 by omega,Int.add_mul,Int.one_mul,Int.mul_comm]
       have a6:0<=(b.sp+b.wd)*((t - x.l) / (b.sp+b.wd)):=Int.mul_nonneg (by omega) a1
       rw [a5]
       omega
     . rename_i hk
       have hk0:b.kd=0:=by rcases h.ok.k with e|e <;>omega
       have hf:=h.ea hk0
       have l0:=h.l0
       have e3:kN b x t=(t - b.st - b.wd) / b.sp+1:=by unfold kN;rw [if_neg hk]
       have a1:x.no<=(t - b.st - b.wd) / b.sp:=(Int.le_ediv_iff_mul_le (by omega)).mpr (by omega)
       have a2:=Int.emod_add_mul_ediv (t - b.st - b.wd) b.sp
       have a3:=Int.emod_lt_of_pos (t - b.st - b.wd) (show 0<b.sp by omega)
       have a5:kN b x t*b.sp=b.sp*((t - b.st - b.wd) / b.sp)+b.sp:=by rw [e3,Int.add_mul,Int.one_mul,Int.mul_comm]
       have a6:0<=b.sp*((t - b.st - b.wd) / b.sp):=Int.mul_nonneg (by omega) (by omega)
       rw [a5]
       omega
    have n0:=h.n0
    refine⟨?_,?_,?_,?_⟩
    . unfold qR
      rw [Nc,eM,eB,eR]
      rfl
    . rw [eX]
      refine⟨h.ok,by show 0<=kN b x t;omega,rfl,hg.2.2,fun hk=>?_,hm⟩
      show fN b x t=b.st+kN b x t*b.sp
      unfold fN
      rw [if_neg (by omega)]
    . rw [eX];exact hg.1
    . unfold eP
      rw [eB,eX]
      show({k with f:=cn k.f b.nm (some (wait {rest (bQ b x sh) with no:=kN b x t,st:=some (fN b x t,fN b x t+b.wd)} k.now k.sh (fN b x t) (fN b x t+b.wd))),t:=cn k.t b.nm (some (fN b x t+b.wd - lead (bQ b x sh) k.sh))}:KS)=_
      rw [hl]
      have ew:wait {rest (bQ b x sh) with no:=kN b x t,st:=some (fN b x t,fN b x t+b.wd)} k.now k.sh (fN b x t) (fN b x t+b.wd)=bQ b (Kw k.now k.sh ⟨kN b x t,fN b x t,fN b x t+b.wd,x.sn⟩) k.sh:=by
       unfold wait
       rw [show lead ({rest (bQ b x sh) with no:=kN b x t,st:=some (fN b x t,fN b x t+b.wd)}:jc) k.sh=k.sh from hl]
       unfold bQ Kw rest
       simp only [hld]
       congr 2
       omega
      rw [ew]
   rcases h.ok.m with em|⟨i,em,i1,i2⟩
   . obtain⟨g1,g2⟩:=moved (by rw [em];rfl) (by unfold ck;rw [if_neg fq,em]) (by unfold layR;rw [if_neg fq,em]) (fun i z=>by rw [em] at z;cases z)
     exact⟨g1,.inr g2⟩
   . by_cases hi:i<=kN b x t
     . have c:lR b.m (kN b x t) (fN b x t,fN b x t+b.wd)=(i,none):=by rw [em];simp [lR,hi]
       have eX:ck b x t={x with no:=i}:=by unfold ck;rw [if_neg fq,em];simp only [if_pos hi]
       have eR:layR b x t=[yN b.nm x.no (i - 1),GD b.nm]:=by unfold layR;rw [if_neg fq,em];simp only [if_pos hi]
       rw [c] at eB eM
       refine⟨?_,.inl ⟨⟨i,em,by rw [eX]⟩,?_⟩⟩
       . unfold qR
         rw [Nc,eM,eB,eR]
         rfl
       . unfold eP
         rw [eB]
     . obtain⟨g1,g2⟩:=moved (by rw [em];simp [lR,hi]) (by unfold ck;rw [if_neg fq,em];simp only [if_neg hi]) (by unfold layR;rw [if_neg fq,em];simp only [if_neg hi]) (fun j z=>by rw [em] at z;cases z;omega)
       exact⟨g1,.inr g2⟩
def WZ (b:fL) (x:Mb):Bool:=decide (b.m=.int x.no)
def gN (r:fL × Mb):Str:=r.1.nm
structure Laid (now0:Int) (k k':KS) (r:fL × Mb):Prop where
 or:(WZ r.1 (ck r.1 r.2 (k.now+k.sh))=true/\k'.f r.1.nm=none/\k'.t r.1.nm=none)\/
  (uJ now0 r.1 (ck r.1 r.2 (k.now+k.sh))/\k.now+k.sh<(ck r.1 r.2 (k.now+k.sh)).l/\k'.f r.1.nm=some (bQ r.1 (Kw k.now k.sh (ck r.1 r.2 (k.now+k.sh))) k.sh)/\k'.t r.1.nm=some ((ck r.1 r.2 (k.now+k.sh)).l - k.sh))
theorem Hw {now0:Int}:∀(ds:List (fL × Mb)),(ds.map gN).Nodup->∀(k:KS) (es:List PyData),(∀r∈ds,r.1.dy=true/\uJ now0 r.1 r.2/\∃K7,k.f r.1.nm=some (bQ r.1 r.2 K7))->
 ((ds.map gN).foldl kA (k,es)).2=es++ds.flatMap (fun r=>layR r.1 r.2 (k.now+k.sh))/\((ds.map gN).foldl kA (k,es)).1.now=k.now/\((ds.map gN).foldl kA (k,es)).1.sh=k.sh/\(∀n,n∉ds.map gN->((ds.map gN).foldl kA (k,es)).1.f n=k.f n/\((ds.map gN).foldl kA (k,es)).1.t n=k.t n)/\∀r∈ds,Laid now0 k ((ds.map gN).foldl kA (k,es)).1 r
 |[],_,k,es,_=>⟨by simp,rfl,rfl,fun _ _=>⟨rfl,rfl⟩,fun r hr=>(by cases hr)⟩
 |r::ds,tH,k,es,h=>by
  rw [List.map_cons,List.nodup_cons] at tH
  obtain⟨hd,bL,K7,hf⟩:=h r List.mem_cons_self
  obtain⟨hE,hK⟩:=U0 (k:=k) (sh:=K7) bL hd
  have e1:kA (k,es) (gN r)=(eP k r.1.nm (bQ r.1 r.2 K7) r.2.l,es++layR r.1 r.2 (k.now+k.sh)):=by
   show(match k.f r.1.nm with|some x=>(eP k r.1.nm x (KL x),es++qR k r.1.nm x (KL x))|none=>(k,es))=_
   rw [hf]
   show(eP k r.1.nm (bQ r.1 r.2 K7) r.2.l,es++qR k r.1.nm (bQ r.1 r.2 K7) r.2.l)=_
   rw [hE]
  have jM:(eP k r.1.nm (bQ r.1 r.2 K7) r.2.l).now=k.now/\(eP k r.1.nm (bQ r.1 r.2 K7) r.2.l).sh=k.sh:=by
   rcases hK with⟨_,e⟩|⟨_,_,e⟩ <;>rw [e] <;>exact⟨rfl,rfl⟩
  have jN:∀n,n≠r.1.nm->(eP k r.1.nm (bQ r.1 r.2 K7) r.2.l).f n=k.f n/\(eP k r.1.nm (bQ r.1 r.2 K7) r.2.l).t n=k.t n:=fun n hn=>by
   rcases hK with⟨_,e⟩|⟨_,_,e⟩ <;>rw [e] <;>exact⟨bT hn,bT hn⟩
  rw [List.map_cons,List.foldl_cons,e1]
  have ih:=Hw ds tH.2 (eP k r.1.nm (bQ r.1 r.2 K7) r.2.l) (es++layR r.1 r.2 (k.now+k.sh)) (fun s hs=>by
   obtain⟨a1,a2,sh1,a3⟩:=h s (List.mem_cons_of_mem _ hs)
   have AV:s.1.nm≠r.1.nm:=fun e=>tH.1 (by show gN r∈_;rw [show gN r=gN s from e.symm];exact List.mem_map_of_mem hs)
   exact⟨a1,a2,sh1,by rw [(jN _ AV).1];exact a3⟩)
  rw [jM.1,jM.2] at ih
  obtain⟨i1,i2,i3,i4,i5⟩:=ih
  have hr:=i4 (gN r) tH.1
  refine⟨by rw [i1,List.flatMap_cons,List.append_assoc],i2,i3,fun n hn=>?_,fun s hs=>?_⟩
  . rw [List.mem_cons,not_or] at hn
    obtain⟨b1,b2⟩:=i4 n hn.2
    obtain⟨c1,c2⟩:=jN n hn.1
    exact⟨b1.trans c1,b2.trans c2⟩
  . rcases List.mem_cons.mp hs with rfl|hs
    . refine⟨?_⟩
      have Wn:((ds.map gN).foldl kA (eP k s.1.nm (bQ s.1 s.2 K7) s.2.l,es++layR s.1 s.2 (k.now+k.sh))).1.f s.1.nm=(eP k s.1.nm (bQ s.1 s.2 K7) s.2.l).f s.1.nm:=hr.1
      have hr2:((ds.map gN).foldl kA (eP k s.1.nm (bQ s.1 s.2 K7) s.2.l,es++layR s.1 s.2 (k.now+k.sh))).1.t s.1.nm=(eP k s.1.nm (bQ s.1 s.2 K7) s.2.l).t s.1.nm:=hr.2
      rw [Wn,hr2]
      rcases hK with⟨⟨i,em,en⟩,e⟩|⟨g1,g2,e⟩
      . left
        rw [e]
        exact⟨decide_eq_true (by rw [em,en]),aG,aG⟩
      . right
        rw [e]
        exact⟨g1,g2,aG,aG⟩
    . obtain⟨o⟩:=i5 s hs
      rw [jM.1,jM.2] at o
      exact⟨o⟩
structure Rel (now0:Int) (rows:List (fL × Mb)) (k:KS):Prop where
 up:TK (rows.map gN)
 nd:(rows.map gN).Nodup
 f:∀r∈rows,k.f r.1.nm=some (bQ r.1 r.2 k.sh)
 t:∀r∈rows,k.t r.1.nm=some (r.2.l - yf r.1 k.sh)
 fn:∀n,n∉rows.map gN->k.f n=none/\k.t n=none
 ok:∀r∈rows,uJ now0 r.1 r.2/\k.now<r.2.l - yf r.1 k.sh
def eQ (now sh:Int) (r:fL × Mb):fL × Mb:=if r.1.dy=true then (r.1,Kw now sh (ck r.1 r.2 (now+sh))) else r
def keepR (r:fL × Mb):Bool:=match r.1.m with
 | .int i=>decide (r.2.no<i)
 |_=>true
theorem Uz (now sh:Int) (r:fL × Mb):gN (eQ now sh r)=gN r:=by unfold eQ gN;split <;>rfl
theorem Sw (now sh:Int) (r:fL × Mb):(eQ now sh r).1=r.1:=by unfold eQ;split <;>rfl
theorem uJ.keep {now0:Int} {b:fL} {x:Mb} (h:uJ now0 b x):keepR (b,x)=true:=by
 unfold keepR
 rcases h.ok.m with e|⟨i,e,_⟩
 . simp only [e]
 . simp only [e]
   exact decide_eq_true (h.ny i e)
theorem Dr {b:fL} {x:Mb} (h:WZ b x=true):keepR (b,x)=false:=by
 have e:b.m=.int x.no:=of_decide_eq_true h
 unfold keepR
 simp only [e]
 exact decide_eq_false (Int.lt_irrefl _)
theorem Fq {b:fL} {x:Mb} {now sh:Int}:keepR (b,Kw now sh x)=keepR (b,x):=rfl
theorem uJ.sn {now0:Int} {b:fL} {x:Mb} {now sh:Int} (h:uJ now0 b x):uJ now0 b (Kw now sh x):=⟨h.ok,h.n0,h.l0,h.l1,h.ea,h.ny⟩
theorem Tq {b:fL} {x:Mb} {sh sh':Int} (h:b.dy=false):bQ b x sh=bQ b x sh':=by
 unfold bQ yf
 rw [if_neg (by rw [h];exact Bool.false_ne_true),if_neg (by rw [h];exact Bool.false_ne_true)]
theorem Rel.names {now0:Int} {rows:List (fL × Mb)} {k:KS} (h:Rel now0 rows k) {ss:List Str} (hN:lS k ss) (tH:ss.Nodup):ss=rows.map gN:=by
 refine HK ((List.perm_ext_iff_of_nodup tH h.nd).mpr fun n=>?_) hN.1 h.up
 rw [hN.2]
 constructor
 . intro hs
   by_cases hm:n∈rows.map gN
   . exact hm
   . rw [(h.fn n hm).1] at hs;cases hs
 . intro hm
   obtain⟨r,hr,rfl⟩:=List.mem_map.mp hm
   show(k.f r.1.nm).isSome=true
   rw [h.f r hr];rfl
theorem Rel.day {now0:Int} {rows:List (fL × Mb)} {k:KS} (h:Rel now0 rows k):rm k (rows.map gN)=(rows.filter (·.1.dy)).map gN:=by
 unfold rm
 rw [List.filter_map]
 congr 1
 refine List.filter_congr fun r hr=>?_
 show(k.f r.1.nm).any (·.dy)=r.1.dy
 rw [h.f r hr];rfl
theorem Rel.turn {now0:Int} {rows:List (fL × Mb)} {k:KS} (h:Rel now0 rows k) (d:Int):(layA {k with sh:=k.sh+d} (rm k (rows.map gN))).2=(rows.filter (·.1.dy)).flatMap (fun r=>layR r.1 r.2 (k.now+(k.sh+d)))/\(layA {k with sh:=k.sh+d} (rm k (rows.map gN))).1.now=k.now/\(layA {k with sh:=k.sh+d} (rm k (rows.map gN))).1.sh=k.sh+d/\Rel now0 ((rows.map (eQ k.now (k.sh+d))).filter keepR) (layA {k with sh:=k.sh+d} (rm k (rows.map gN))).1:=by
 rw [h.day]
 have tH:((rows.filter (·.1.dy)).map gN).Nodup:=h.nd.sublist (List.filter_sublist.map _)
 obtain⟨i1,i2,i3,i4,i5⟩:=Hw (now0:=now0) (rows.filter (·.1.dy)) tH {k with sh:=k.sh+d} [] (fun r hr=>by
  obtain⟨h1,h2⟩:=List.mem_filter.mp hr
  exact⟨h2,(h.ok r h1).1,k.sh,h.f r h1⟩)
 unfold layA
 generalize hR:((rows.filter (·.1.dy)).map gN).foldl kA ({k with sh:=k.sh+d},[])=R at*
 have i2:R.1.now=k.now:=i2
 have i3:R.1.sh=k.sh+d:=i3
 have uniq:∀r∈rows,∀s∈rows,gN r=gN s->r=s:=fun r hr s hs e=>by
  obtain⟨i,hi,rfl⟩:=List.getElem_of_mem hr
  obtain⟨j,hj,rfl⟩:=List.getElem_of_mem hs
  by_cases Et:i=j
  . subst Et;rfl
  . exfalso
    have h1:=List.pairwise_iff_getElem.mp (List.nodup_iff_pairwise_ne.mp h.nd)
    rcases Nat.lt_or_gt_of_ne Et with z|z
    . exact h1 i j (by rw [List.length_map];exact hi) (by rw [List.length_map];exact hj) z (by rw [List.getElem_map,List.getElem_map,e])
    . exact h1 j i (by rw [List.length_map];exact hj) (by rw [List.length_map];exact hi) z (by rw [List.getElem_map,List.getElem_map,e])
 have R7:∀r∈rows,r.1.dy=false->R.1.f r.1.nm=k.f r.1.nm/\R.1.t r.1.nm=k.t r.1.nm:=fun r hr hd=>by
  refine i4 r.1.nm fun hm=>?_
  obtain⟨s,hs,e⟩:=List.mem_map.mp hm
  obtain⟨h1,h2⟩:=List.mem_filter.mp hs
  have:=uniq s h1 r hr e
  rw [this,hd] at h2
  cases h2
 have enm:(rows.map (eQ k.now (k.sh+d))).map gN=rows.map gN:=by
  rw [List.map_map]
  exact List.map_congr_left fun r _=>Uz _ _ r
 have sub:(((rows.map (eQ k.now (k.sh+d))).filter keepR).map gN).Sublist (rows.map gN):=by
  rw [<-enm]
  exact List.filter_sublist.map _
 have day:∀r∈rows,r.1.dy=true->Laid now0 {k with sh:=k.sh+d} R.1 r:=fun r hr hd=>i5 r (List.mem_filter.mpr ⟨hr,hd⟩)
 refine⟨by rw [i1];rfl,i2,i3,⟨h.up.sublist sub,h.nd.sublist sub,fun r' Vl=>?_,fun r' Vl=>?_,fun n hn=>?_,fun r' Vl=>?_⟩⟩
 . obtain⟨hm,hk⟩:=List.mem_filter.mp Vl
   obtain⟨r,hr,rfl⟩:=List.mem_map.mp hm
   rw [i3]
   cases hd:r.1.dy with
   |false=>
    have e:eQ k.now (k.sh+d) r=r:=by unfold eQ;rw [if_neg (by rw [hd];exact Bool.false_ne_true)]
    rw [e,(R7 r hr hd).1,h.f r hr,Tq hd]
   |true=>
    have e:eQ k.now (k.sh+d) r=(r.1,Kw k.now (k.sh+d) (ck r.1 r.2 (k.now+(k.sh+d)))):=by unfold eQ;rw [if_pos hd]
    rw [e] at hk ⊢
    rcases (day r hr hd).or with⟨g,_⟩|⟨_,_,g,_⟩
    . rw [Fq,Dr g] at hk;cases hk
    . exact g
 . obtain⟨hm,hk⟩:=List.mem_filter.mp Vl
   obtain⟨r,hr,rfl⟩:=List.mem_map.mp hm
   rw [i3]
   cases hd:r.1.dy with
   |false=>
    have e:eQ k.now (k.sh+d) r=r:=by unfold eQ;rw [if_neg (by rw [hd];exact Bool.false_ne_true)]
    rw [e,(R7 r hr hd).2,h.t r hr]
    unfold yf
    rw [if_neg (by rw [hd];exact Bool.false_ne_true),if_neg (by rw [hd];exact Bool.false_ne_true)]
   |true=>
    have e:eQ k.now (k.sh+d) r=(r.1,Kw k.now (k.sh+d) (ck r.1 r.2 (k.now+(k.sh+d)))):=by unfold eQ;rw [if_pos hd]
    rw [e] at hk ⊢
    rcases (day r hr hd).or with⟨g,_⟩|⟨_,_,_,g⟩
    . rw [Fq,Dr g] at hk;cases hk
    . have e2:yf r.1 (k.sh+d)=k.sh+d:=by unfold yf;rw [if_pos hd]
      show R.1.t r.1.nm=some ((ck r.1 r.2 (k.now+(k.sh+d))).l - yf r.1 (k.sh+d))
      rw [e2]
      exact g
 . by_cases hm:n∈rows.map gN
   . obtain⟨r,hr,rfl⟩:=List.mem_map.mp hm
     cases hd:r.1.dy with
     |false=>
      exfalso
      have e:eQ k.now (k.sh+d) r=r:=by unfold eQ;rw [if_neg (by rw [hd];exact Bool.false_ne_true)]
      exact hn (List.mem_map.mpr ⟨r,List.mem_filter.mpr ⟨List.mem_map.mpr ⟨r,hr,e⟩,(h.ok r hr).1.keep⟩,rfl⟩)
     |true=>
      have e:eQ k.now (k.sh+d) r=(r.1,Kw k.now (k.sh+d) (ck r.1 r.2 (k.now+(k.sh+d)))):=by unfold eQ;rw [if_pos hd]
      rcases (day r hr hd).or with⟨_,g1,g2⟩|⟨g,_⟩
      . exact⟨g1,g2⟩
      . exfalso
        refine hn (List.mem_map.mpr ⟨_,List.mem_filter.mpr ⟨List.mem_map.mpr ⟨r,hr,e⟩,?_⟩,rfl⟩)
        rw [Fq]
        exact uJ.keep g
   . have hm2:n∉(rows.filter (·.1.dy)).map gN:=fun z=>hm ((List.filter_sublist.map gN).subset z)
     obtain⟨a1,a2⟩:=i4 n hm2
     obtain⟨b1,b2⟩:=h.fn n hm
     exact⟨a1.trans b1,a2.trans b2⟩
 . obtain⟨hm,hk⟩:=List.mem_filter.mp Vl
   obtain⟨r,hr,rfl⟩:=List.mem_map.mp hm
   rw [i2,i3]
   cases hd:r.1.dy with
   |false=>
    have e:eQ k.now (k.sh+d) r=r:=by unfold eQ;rw [if_neg (by rw [hd];exact Bool.false_ne_true)]
    obtain⟨a1,a2⟩:=h.ok r hr
    rw [e]
    refine⟨a1,?_⟩
    have e3:yf r.1 (k.sh+d)=yf r.1 k.sh:=by
     unfold yf
     rw [if_neg (by rw [hd];exact Bool.false_ne_true),if_neg (by rw [hd];exact Bool.false_ne_true)]
    rw [e3];exact a2
   |true=>
    have e:eQ k.now (k.sh+d) r=(r.1,Kw k.now (k.sh+d) (ck r.1 r.2 (k.now+(k.sh+d)))):=by unfold eQ;rw [if_pos hd]
    rw [e] at hk ⊢
    rcases (day r hr hd).or with⟨g,_⟩|⟨g1,g2,_⟩
    . rw [Fq,Dr g] at hk;cases hk
    . have e2:yf r.1 (k.sh+d)=k.sh+d:=by unfold yf;rw [if_pos hd]
      refine⟨uJ.sn g1,?_⟩
      show k.now<(ck r.1 r.2 (k.now+(k.sh+d))).l - yf r.1 (k.sh+d)
      rw [e2]
      have g2:k.now+(k.sh+d)<(ck r.1 r.2 (k.now+(k.sh+d))).l:=g2
      omega
structure JN (now0:Int) (rows:List (fL × Mb)) (k:KS):Prop where
 now:k.now=now0
 sh:k.sh=0
 nd:(rows.map gN).Nodup
 f:∀r∈rows,k.f r.1.nm=some (bQ r.1 r.2 0)
 t:∀r∈rows,k.t r.1.nm=some (r.2.l - yf r.1 0)
 fn:∀n,n∉rows.map gN->k.f n=none/\k.t n=none
 ok:∀r∈rows,uJ now0 r.1 r.2/\k.now<r.2.l - yf r.1 0
theorem JN.sorted {now0:Int} {rows Sn:List (fL × Mb)} {k:KS} (h:JN now0 rows k) (hp:Sn.Perm rows) (hu:TK (Sn.map gN)):Rel now0 Sn k:=by
 refine⟨hu,(hp.map gN).nodup_iff.mpr h.nd,fun r hr=>?_,fun r hr=>?_,fun n hn=>h.fn n fun z=>hn ((hp.map gN).mem_iff.mpr z),fun r hr=>?_⟩
 . rw [h.sh];exact h.f r (hp.mem_iff.mp hr)
 . rw [h.sh];exact h.t r (hp.mem_iff.mp hr)
 . rw [h.sh];exact h.ok r (hp.mem_iff.mp hr)
def Fc (b:fL):Mb:=⟨0,b.st,b.st+b.wd,b.st⟩
theorem GL (b:fL):yf b 0=0:=by unfold yf;split <;>rfl
theorem JN.add {now0:Int} {rows:List (fL × Mb)} {k:KS} {b:fL} (h:JN now0 rows k) (ok:yh now0 b) (hn:b.nm∉rows.map gN) (h0:0<=now0) (h1:now0<60):k.f b.nm=none/\tY k (ib (pX b) 1 none b.dy) (Dy (pX b)).1 (Dy (pX b)).2/\qR k b.nm (ib (pX b) 1 none b.dy) (Dy (pX b)).2=[]/\JN now0 (rows++[(b,Fc b)]) (eP k b.nm (ib (pX b) 1 none b.dy) (Dy (pX b)).2):=by
 obtain⟨e1,_⟩:=Ue b
 have s0:=ok.s0;have s1:=ok.s1;have w0:=ok.w0;have w1:=ok.w1;have p0:=ok.p0;have p1:=ok.p1
 have hl:lead (ib (pX b) 1 none b.dy) k.sh=0:=by unfold lead ib;rw [h.sh];simp
 have Nc:eD k (ib (pX b) 1 none b.dy)=now0:=by unfold eD;rw [hl,h.now];omega
 have fq:eD k (ib (pX b) 1 none b.dy)<(Dy (pX b)).2:=by rw [Nc,e1];show now0<b.st+b.wd;omega
 have eB:layB k (ib (pX b) 1 none b.dy) (Dy (pX b)).2=rest (ib (pX b) 1 none b.dy):=by unfold layB oP;rw [if_pos fq]
 have eE:qR k b.nm (ib (pX b) 1 none b.dy) (Dy (pX b)).2=[]:=by
  unfold qR missed
  rw [if_pos fq,eB]
  rfl
 have ew:wait (rest (ib (pX b) 1 none b.dy)) k.now k.sh (Dy (pX b)).1 (Dy (pX b)).2=bQ b (Fc b) 0:=by
  unfold wait
  rw [show lead (rest (ib (pX b) 1 none b.dy)) k.sh=0 from hl]
  unfold bQ Fc rest ib
  simp only [e1,GL,h.now]
  congr 2
  omega
 have eK:eP k b.nm (ib (pX b) 1 none b.dy) (Dy (pX b)).2={k with f:=cn k.f b.nm (some (bQ b (Fc b) 0)),t:=cn k.t b.nm (some (b.st+b.wd))}:=by
  unfold eP
  rw [eB]
  show({k with f:=cn k.f b.nm (some (wait (rest (ib (pX b) 1 none b.dy)) k.now k.sh (Dy (pX b)).1 (Dy (pX b)).2)),t:=cn k.t b.nm (some ((Dy (pX b)).2 - lead (ib (pX b) 1 none b.dy) k.sh))}:KS)=_
  rw [ew,hl,e1,Int.sub_zero]
 have Yf:uJ now0 b (Fc b):=⟨ok,Int.le_refl _,rfl,Int.le_refl _,fun _=>by show b.st=b.st+0*b.sp;omega,fun i e=>by
  rcases ok.m with z|⟨j,z,z1,_⟩
  . rw [z] at e;cases e
  . rw [z] at e
    injection e with e
    show(0:Int)<i
    omega⟩
 have AV:∀r∈rows,r.1.nm≠b.nm:=fun r hr e=>hn (List.mem_map.mpr ⟨r,hr,e⟩)
 refine⟨(h.fn _ hn).1,⟨by rw [show(ib (pX b) 1 none b.dy).st=some (Dy (pX b)) from rfl],rfl,Int.le_refl _,by show(0:Int)<10^99;decide,by rw [Nc];omega,by rw [Nc,e1];show now0 - (b.st+b.wd)<10^80;omega⟩,eE,?_⟩
 rw [eK]
 refine⟨h.now,h.sh,?_,fun r hr=>?_,fun r hr=>?_,fun n TC=>?_,fun r hr=>?_⟩
 . rw [List.map_append,List.nodup_append]
   refine⟨h.nd,by simp,fun y hy z hz=>?_⟩
   have:z=b.nm:=by simpa [gN] using hz
   rw [this]
   exact fun e=>hn (e▸hy)
 . rcases List.mem_append.mp hr with hr|hr
   . show cn k.f b.nm _ r.1.nm=_
     rw [bT (AV r hr)];exact h.f r hr
   . rw [List.mem_singleton.mp hr];exact aG
 . rcases List.mem_append.mp hr with hr|hr
   . show cn k.t b.nm _ r.1.nm=_
     rw [bT (AV r hr)];exact h.t r hr
   . rw [List.mem_singleton.mp hr]
     show cn k.t b.nm _ b.nm=some ((Fc b).l - yf b 0)
     rw [aG,GL,Int.sub_zero];rfl
 . rw [List.map_append,List.mem_append,not_or] at TC
   have h2:n≠b.nm:=fun e=>TC.2 (by rw [e];exact List.mem_cons_self)
   obtain⟨a1,a2⟩:=h.fn n TC.1
   exact⟨(bT h2).trans a1,(bT h2).trans a2⟩
 . rcases List.mem_append.mp hr with hr|hr
   . exact h.ok r hr
   . rw [List.mem_singleton.mp hr]
     refine⟨Yf,?_⟩
     show k.now<(Fc b).l - yf b 0
     rw [GL,h.now]
     show now0<b.st+b.wd - 0
     omega
theorem Rel.go {now0:Int} {rows:List (fL × Mb)} {k:KS} {to:Int} (h:Rel now0 rows k) (ht:∀r∈rows,to<r.2.l - yf r.1 k.sh):Rel now0 rows {k with now:=to}:=
 ⟨h.up,h.nd,h.f,h.t,h.fn,fun r hr=>⟨(h.ok r hr).1,ht r hr⟩⟩
theorem Rel.known {now0:Int} {rows:List (fL × Mb)} {k:KS} (h:Rel now0 rows k):rp k (rows.map gN)=rows.map fun r=>qI r.1 r.2 k.sh:=by
 unfold rp
 rw [List.filterMap_map]
 have:∀l:List (fL × Mb),(∀r∈l,r∈rows)->l.filterMap (oh k ∘ gN)=l.map fun r=>qI r.1 r.2 k.sh:=by
  intro l
  induction l with
  |nil=>intro _;rfl
  |cons r l ih=>
   intro hl
   have e:(oh k ∘ gN) r=some (qI r.1 r.2 k.sh):=by
    show oh k r.1.nm=_
    unfold oh
    rw [h.f r (hl r List.mem_cons_self)]
    rfl
   rw [List.filterMap_cons,e,List.map_cons,ih fun s hs=>hl s (List.mem_cons_of_mem _ hs)]
 exact this rows fun _ hr=>hr
theorem Rel.R4 {now0:Int} {rows:List (fL × Mb)} {k:KS} {to:Int} (h:Rel now0 rows k) (ht:∀r∈rows,to<r.2.l - yf r.1 k.sh):∀n u,k.t n=some u->to<u:=fun n u e=>by
 by_cases hm:n∈rows.map gN
 . obtain⟨r,hr,rfl⟩:=List.mem_map.mp hm
   have e2:k.t r.1.nm=some u:=e
   rw [h.t r hr] at e2
   cases e2
   exact ht r hr
 . rw [(h.fn n hm).2] at e;cases e
def Bd (x:Mb):Prop:=x.no<=x.l/\x.l<10^40
theorem aaj {now0:Int} {b:fL} {x:Mb} {t:Int} (h:uJ now0 b x) (hn:0<=now0) (hb:Bd x) (ht:t<10^39) (hk:keepR (b,ck b x t)=true):Bd (ck b x t):=by
 have p0:=h.ok.p0;have p1:=h.ok.p1;have w0:=h.ok.w0;have w1:=h.ok.w1;have s0:=h.ok.s0;have n0:=h.n0;have l1:=h.l1;have l0:=h.l0
 obtain⟨b1,b2⟩:=hb
 by_cases fq:t<x.l
 . have e:ck b x t=x:=by unfold ck;rw [if_pos fq]
   rw [e];exact⟨b1,b2⟩
 . have mv:ck b x t=⟨kN b x t,fN b x t,fN b x t+b.wd,x.sn⟩:=by
    unfold ck at hk ⊢
    rw [if_neg fq] at hk ⊢
    rcases h.ok.m with em|⟨i,em,_⟩
    . simp only [em]
    . simp only [em] at hk ⊢
      by_cases hi:i<=kN b x t
      . exfalso
        rw [if_pos hi] at hk
        unfold keepR at hk
        simp only [em] at hk
        have:=of_decide_eq_true hk
        have this:i<i:=this
        omega
      . rw [if_neg hi]
   rw [mv]
   show kN b x t<=fN b x t+b.wd/\fN b x t+b.wd<10^40
   unfold fN
   split
   . rename_i WL
     have e3:kN b x t=x.no+(t - x.l) / (b.sp+b.wd)+1:=by unfold kN;rw [if_pos WL]
     have a1:=Int.ediv_nonneg (a:=t - x.l) (b:=b.sp+b.wd) (by omega) (by omega)
     have a2:=Int.emod_add_mul_ediv (t - x.l) (b.sp+b.wd)
     have a4:=Int.emod_nonneg (t - x.l) (show b.sp+b.wd≠0 by omega)
     have a5:(kN b x t - x.no)*(b.sp+b.wd)=(b.sp+b.wd)*((t - x.l) / (b.sp+b.wd))+(b.sp+b.wd):=by
      rw [e3,show x.no+(t - x.l) / (b.sp+b.wd)+1 - x.no=(t - x.l) / (b.sp+b.wd)+1 by omega,Int.add_mul,Int.one_mul,Int.mul_comm]
     have a6:(t - x.l) / (b.sp+b.wd)<=(b.sp+b.wd)*((t - x.l) / (b.sp+b.wd)):=by
      have:=Int.mul_le_mul_of_nonneg_right (show 1<=b.sp+b.wd by omega) a1
      rwa [Int.one_mul] at this
     rw [a5,e3]
     generalize (b.sp+b.wd)*((t - x.l) / (b.sp+b.wd))=z at*
     generalize (t - x.l) / (b.sp+b.wd)=y at*
     omega
   . rename_i WL
     have e3:kN b x t=(t - b.st - b.wd) / b.sp+1:=by unfold kN;rw [if_neg WL]
     have a1:=Int.ediv_nonneg (a:=t - b.st - b.wd) (b:=b.sp) (by omega) (by omega)
     have a2:=Int.emod_add_mul_ediv (t - b.st - b.wd) b.sp
     have a4:=Int.emod_nonneg (t - b.st - b.wd) (show b.sp≠0 by omega)
     have a5:kN b x t*b.sp=b.sp*((t - b.st - b.wd) / b.sp)+b.sp:=by rw [e3,Int.add_mul,Int.one_mul,Int.mul_comm]
     have a6:(t - b.st - b.wd) / b.sp<=b.sp*((t - b.st - b.wd) / b.sp):=by
      have:=Int.mul_le_mul_of_nonneg_right (show 1<=b.sp by omega) a1
      rwa [Int.one_mul] at this
     rw [a5,e3]
     generalize b.sp*((t - b.st - b.wd) / b.sp)=z at*
     generalize (t - b.st - b.wd) / b.sp=y at*
     omega
theorem Bd.turn {now0:Int} {rows:List (fL × Mb)} {now sh:Int} (h:∀r∈rows,uJ now0 r.1 r.2) (hn:0<=now0) (hb:∀r∈rows,Bd r.2) (ht:now+sh<10^39):∀r∈(rows.map (eQ now sh)).filter keepR,Bd r.2:=fun r' Vl=>by
 obtain⟨hm,hk⟩:=List.mem_filter.mp Vl
 obtain⟨r,hr,rfl⟩:=List.mem_map.mp hm
 cases hd:r.1.dy with
 |false=>
  have e:eQ now sh r=r:=by unfold eQ;rw [if_neg (by rw [hd];exact Bool.false_ne_true)]
  rw [e];exact hb r hr
 |true=>
  have e:eQ now sh r=(r.1,Kw now sh (ck r.1 r.2 (now+sh))):=by unfold eQ;rw [if_pos hd]
  rw [e] at hk ⊢
  exact aaj (h r hr) hn (hb r hr) ht hk
theorem Rel.all {now0:Int} {rows:List (fL × Mb)} {k:KS} (h:Rel now0 rows k) (hb:∀r∈rows,Bd r.2) (d:Int) (hn:0<=now0) (ht:k.now+(k.sh+d)<10^39) (h0:0<=k.now+(k.sh+d)):JP {k with sh:=k.sh+d} (rm k (rows.map gN)):=by
 rw [h.day]
 refine⟨h.nd.sublist (List.filter_sublist.map _),fun n hm=>?_⟩
 obtain⟨r,hr,rfl⟩:=List.mem_map.mp hm
 obtain⟨h1,h2⟩:=List.mem_filter.mp hr
 obtain⟨b1,b2⟩:=hb r h1
 have ok:=(h.ok r h1).1
 have n0:=ok.n0;have l1:=ok.l1;have s0:=ok.ok.s0;have w0:=ok.ok.w0
 have hl:lead (bQ r.1 r.2 k.sh) (k.sh+d)=k.sh+d:=by unfold lead bQ;rw [if_pos h2]
 have Nc:eD {k with sh:=k.sh+d} (bQ r.1 r.2 k.sh)=k.now+(k.sh+d):=by unfold eD;rw [hl]
 refine⟨bQ r.1 r.2 k.sh,r.2.f,r.2.l,h.f r h1,rfl,rfl,n0,?_,?_,?_⟩
 . show r.2.no<10^99;omega
 . rw [Nc];omega
 . rw [Nc];omega
abbrev PR:=Addr × (fL × Mb)
def bX (ps:List PR):List (Addr × List PyData):=ps.map fun p=>(p.1,dI p.2.1 p.2.2)
def GN (now sh:Int) (p:PR):PR:=(p.1,eQ now sh p.2)
structure K1 (cs S T:List Addr) (H H':Hp):Prop where
 kp:∀x o,H x=some o->x∉T->(∀kvs,o=.dK kvs->x∉S)->(∀C dx fs,o=.ins C dx fs->C∉cs)->H' x=some o
 dm:∀x,H' x=none->H x=none
section
variable {cs S T:List Addr} {H H1 H':Hp}
theorem K1.refl:K1 cs S T H H:=⟨fun _ _ h _ _ _=>h,fun _ h=>h⟩
theorem K1.trans (f:K1 cs S T H H1) (g:K1 cs S T H1 H'):K1 cs S T H H':=⟨fun x o h a b c=>g.kp x o (f.kp x o h a b c) a b c,fun x h=>f.dm x (g.dm x h)⟩
theorem abC (f:Fr cs S H H'):K1 cs S T H H':=⟨fun x o h _ b c=>f.kp x o h b c,f.dm⟩
theorem Tf (s:ax H H'):K1 cs S T H H':=⟨fun x o h _ _ _=>s x o h,fun _ h=>s.none h⟩
theorem QU {p:Addr} (m:Mv [p] H H') (hp:p∈T):K1 cs S T H H':=⟨fun x o h a _ _=>m.kp x o (fun z=>a (by rw [List.mem_singleton.mp z];exact hp)) h,m.dm⟩
theorem XY {p:Addr} (f:K1 cs S T H H1) (m:Mv [p] H1 H') (hn:H p=none):K1 cs S T H H':=⟨fun x o h a b c=>m.kp x o (fun z=>by rw [List.mem_singleton.mp z,hn] at h;cases h) (f.kp x o h a b c),fun x h=>f.dm x (m.dm x h)⟩
end
theorem LR.fr {cs S:List Addr} {H H':Hp} {q:Addr} {bs:List (Addr × List PyData)} (f:Fr cs S H H') (h:LR H q bs):LR H' q bs:=⟨f.kp _ _ h.at' (by intro _ z;cases z) (by intro _ _ _ z;cases z),h.nd,h.ne,fun b hb=>f.lat (h.row b hb)⟩
theorem To {l1 l2:List (Addr × List PyData)} {b:Addr × List PyData} {r:List PyData} (h:((l1++b::l2).map (·.1)).Nodup):((l1++b::l2).map fun c=>if c.1=b.1 then (c.1,r) else c)=l1++(b.1,r)::l2:=by
 rw [List.map_append,List.nodup_append] at h
 obtain⟨_,h2,h3⟩:=h
 rw [List.map_cons,List.nodup_cons] at h2
 rw [List.map_append,List.map_cons,if_pos rfl]
 congr 1
 . conv=>rhs;rw [<-List.map_id l1]
   refine List.map_congr_left fun c hc=>?_
   rw [if_neg (fun e=>h3 c.1 (List.mem_map_of_mem hc) b.1 (by rw [List.map_cons];exact List.mem_cons_self) e)];rfl
 . congr 1
   conv=>rhs;rw [<-List.map_id l2]
   refine List.map_congr_left fun c hc=>?_
   rw [if_neg (fun e=>h2.1 (by rw [<-e];exact List.mem_map_of_mem hc))];rfl
def GA (now sh:Int) (rows:List (fL × Mb)):List PyData:=(rows.filter (·.1.dy)).flatMap fun r=>layR r.1 r.2 (now+sh)
theorem KA (b:fL) (x:Mb) (t:Int):(layR b x t).length<=2:=by
 unfold layR
 split
 . simp
 . split
   . split <;>simp
   . simp
theorem L6 (now sh:Int) (rows:List (fL × Mb)) (r:fL × Mb):GA now sh (rows++[r])=GA now sh rows++(if r.1.dy=true then layR r.1 r.2 (now+sh) else []):=by
 unfold GA
 rw [List.filter_append,List.flatMap_append]
 congr 1
 rw [List.filter_cons,List.filter_nil]
 split <;>simp
theorem HB (now sh:Int):∀rows:List (fL × Mb),(GA now sh rows).length<=2*rows.length
 |[]=>Nat.le_refl _
 |r::rows=>by
  have ih:=HB now sh rows
  have h2:=KA r.1 r.2 (now+sh)
  unfold GA at ih ⊢
  rw [List.filter_cons]
  split
  . rw [List.flatMap_cons,List.length_append,List.length_cons];omega
  . rw [List.length_cons];omega
theorem Qe {now sh:Int} {rows:List (fL × Mb)} (h:∀r∈rows,PyData.canLay0 (.str r.1.nm)=true):∀e∈GA now sh rows,∃ps,e=.tuple ps/\(∀p∈ps,Flat p)/\∀s,PyData.str s∈ps->PyData.canLay0 (.str s)=true:=by
 intro e he
 obtain⟨r,hr,he⟩:=List.mem_flatMap.mp he
 have hc:=h r (List.mem_filter.mp hr).1
 have hm:∀i j,∃ps,yN r.1.nm i j=.tuple ps/\(∀p∈ps,Flat p)/\∀s,PyData.str s∈ps->PyData.canLay0 (.str s)=true:=fun i j=>by
  refine⟨_,rfl,fun p hp=>?_,fun s hs=>?_⟩
  . simp only [List.mem_cons,List.not_mem_nil,or_false] at hp
    rcases hp with rfl|rfl|rfl|rfl
    all_goals first|exact .inl ⟨_,rfl⟩|exact .inr ⟨_,rfl⟩
  . simp only [List.mem_cons,List.not_mem_nil,or_false,PyData.str.injEq,reduceCtorEq] at hs
    rcases hs with rfl|rfl
    . decide+kernel
    . exact hc
 have ho:∃ps,GD r.1.nm=.tuple ps/\(∀p∈ps,Flat p)/\∀s,PyData.str s∈ps->PyData.canLay0 (.str s)=true:=by
  refine⟨_,rfl,fun p hp=>?_,fun s hs=>?_⟩
  . simp only [List.mem_cons,List.not_mem_nil,or_false] at hp
    rcases hp with rfl|rfl
    all_goals exact .inl ⟨_,rfl⟩
  . simp only [List.mem_cons,List.not_mem_nil,or_false,PyData.str.injEq] at hs
    rcases hs with rfl|rfl
    . decide+kernel
    . exact hc
 unfold layR at he
 split at he
 . cases he
 . split at he
   . split at he
     . rcases List.mem_cons.mp he with rfl|he
       . exact hm _ _
       . rw [List.mem_singleton.mp he];exact ho
     . rw [List.mem_singleton.mp he];exact hm _ _
   . rw [List.mem_singleton.mp he];exact hm _ _
def HH (a:Ad):Sp:=fun vs H Q _=>∃L k q ps d now0,vs=[.ref L.p,.ref q,.int d]/\b9 a H L k/\LR H q (bX ps)/\Rel now0 (ps.map (·.2)) k/\(∀p∈ps,Bd p.2.2)/\0<=now0/\(0<=k.now/\k.now<10^30)/\(-(10^30)<k.sh/\k.sh<10^30)/\(-(10^30)<d/\d<10^30)/\0<=k.now+(k.sh+d)/\ps.length<=10/\(∀p∈ps,PyData.canLay0 (.str p.2.1.nm)=true)/\∀H' k2,K1 [a.aq,a.ah,a.aD] [L.td,L.bd] (ps.map (·.1)) H H'->b9 a H' L k2->LR H' q (bX (ps.map (GN k.now (k.sh+d))))->k2.now=k.now->k2.sh=k.sh+d->Rel now0 (((ps.map (·.2)).map (eQ k.now (k.sh+d))).filter keepR) k2->Q (.bl true) H'
theorem Og (T:Txt K mg a):aN P w K mg base fF 10 a.cB a.x4 ["_law_keeper","_law_bells","_law_by_here"] (HH a):=by
 have cl:=T.aB;have n1:=T.aZ;have n2:=T.bb
 have K6:=Oq (P:=P) (w:=w) (base:=base) T
 have G0:=RC (P:=P) (w:=w) (base:=base) T
 refine T.oz.ok gG (fun vs H Q E h=>?_) (fun cR A outer s H vs Q E hr h=>?_)
 . obtain⟨_,_,_,_,_,_,rfl,_⟩:=h;rfl
 . obtain⟨L,k,q0,ps,d,now0,rfl,hk,hL,rel,bd,G3,⟨w0,w1⟩,⟨s0,s1⟩,⟨d0,d1⟩,ht0,hlen,aeC,q⟩:=h
   have hi:=hk.ins
   unfold aP at hi
   refine⟨_,(af (aL (i:=3) gG.nd rfl (Or.inl rfl) (av aM (au (pv 0) rfl) (pv 2)))
    (af (aL (i:=4) gG.nd rfl (Or.inl rfl) (fw ak))
    (af (Gb PassesOwn.never rfl (fx (pv 1)) (aR (i:=5) gG.nd rfl (Or.inl rfl))
     (ai (cj (eg (bB fP (pv 5) ag (fun _ _=>rfl)) (fun _=>rfl))
      (af (aW (Kc PySem.F.plainAttrs_list PySem.F.slot_list_extend PySem.F.type_list_extend Hs (pv 4) (ae (bz K6 (hr.mono (by decide)) rfl T.ED T.Eg (ae (pv 5) (ae (av aM (au (pv 0) rfl) (pv 3)) ak))) ak)))
      (ai (rh (cm (x9 rfl) rfl T.Ai PyProof.Rows.boot_max (ae (av aM (au (pv 0) rfl) ag) (ae (av eF (bB fP (pv 5) ag (fun _ _=>rfl)) (pv 3)) ak))) (AI (pv 5) ag set_list))))
      aO)))
    (ai (aC (iA (ip hr.JF) (aI (pv 0) T.aB T.yp G0 (hr.mono (by decide)) (ae (pv 2) ak)) (pv 4) (aJ _))))))),?_⟩
   repeat' (walk_at "rd1")
   rename_i qd H1 s1 Dd Fi
   have jM:=hk.keeps s1
   have hL1:=hL.keeps s1
   have hqn:∀b∈bX ps,b.1≠qd:=fun b hb e=>by
    obtain⟨xs,ex,_⟩:=hL.row b hb
    rw [e,Dd] at ex
    cases ex
   have hnq:q0≠qd:=fun e=>by
    have:=hL.at'
    rw [e,Dd] at this
    cases this
   have refs:∀i,(bX ((ps.take i).map (GN k.now (k.sh+d))++ps.drop i)).map (fun b=>V.ref b.1)=(bX ps).map fun b=>V.ref b.1:=fun i=>by
    unfold bX
    rw [List.map_map,List.map_map,List.map_append,List.map_map]
    have e1:(ps.take i).map (((fun b:Addr × List PyData=>V.ref b.1) ∘ fun p:PR=>(p.1,dI p.2.1 p.2.2)) ∘ GN k.now (k.sh+d))=(ps.take i).map ((fun b:Addr × List PyData=>V.ref b.1) ∘ fun p:PR=>(p.1,dI p.2.1 p.2.2)):=rfl
    rw [e1,<-List.map_append,List.take_append_drop]
   refine forL (xs:=(bX ps).map fun b=>V.ref b.1) (.inl (.inl hL1.at')) (fun i σ' H'=>∃z,σ'=[some (.ref L.p),some (.ref q0),some (.int d),some (.int (k.sh+d)),some (.ref qd),z]/\b9 a H' L k/\LR H' q0 (bX ((ps.take i).map (GN k.now (k.sh+d))++ps.drop i))/\c9 H' qd (GA k.now (k.sh+d) ((ps.take i).map (·.2)))/\K1 [a.aq,a.ah,a.aD] [L.td,L.bd] (ps.map (·.1)) H H') ⟨none,rfl,jM,hL1,Fi,Tf s1⟩ (fun i σ' H' _ ⟨_,_,_,hL',_⟩=>.inl (.inl (by rw [<-refs i];exact hL'.at'))) ?_ ?_
   . rintro i v σ' H2 hv ⟨z,rfl,jN,Xb,AU,uI⟩
     rw [List.getElem?_map,bX,List.getElem?_map,Option.map_map] at hv
     obtain⟨p,hp,ev⟩:=Option.map_eq_some_iff.mp hv
     have ev:v=.ref p.1:=ev.symm
     subst ev
     have hil:i<ps.length:=(List.getElem?_eq_some_iff.mp hp).1
     have hpm:p∈ps:=List.mem_of_getElem? hp
     have hdr:ps.drop i=p::ps.drop (i+1):=by
      rw [List.drop_eq_getElem_cons hil]
      congr 1
      exact(List.getElem?_eq_some_iff.mp hp).2
     have hbs:bX ((ps.take i).map (GN k.now (k.sh+d))++ps.drop i)=bX ((ps.take i).map (GN k.now (k.sh+d)))++(p.1,dI p.2.1 p.2.2)::bX (ps.drop (i+1)):=by rw [hdr];unfold bX;rw [List.map_append,List.map_cons]
     have acV:∀y,bX ((ps.take i).map (GN k.now (k.sh+d))++(p.1,(p.2.1,y))::ps.drop (i+1))=bX ((ps.take i).map (GN k.now (k.sh+d)))++(p.1,dI p.2.1 y)::bX (ps.drop (i+1)):=fun y=>by unfold bX;rw [List.map_append,List.map_cons]
     have TH:(ps.take (i+1)).map (GN k.now (k.sh+d))++ps.drop (i+1)=(ps.take i).map (GN k.now (k.sh+d))++GN k.now (k.sh+d) p::ps.drop (i+1):=by rw [take_snoc hp,List.map_append,List.append_assoc];rfl
     have adU:(ps.take (i+1)).map (·.2)=(ps.take i).map (·.2)++[p.2]:=by rw [take_snoc hp,List.map_append];rfl
     rw [hbs] at Xb
     have OU:c9 H2 p.1 (dI p.2.1 p.2.2):=Xb.row (p.1,dI p.2.1 p.2.2) (by simp)
     have G8:=jN.ins
     unfold aP at G8
     have Yf:=(rel.ok p.2 (List.mem_map_of_mem hpm)).1
     obtain⟨b1,b2⟩:=bd p hpm
     have n0:=Yf.n0;have l1:=Yf.l1;have e0:=Yf.ok.s0;have e1:=Yf.ok.w0
     have hle:=HB k.now (k.sh+d) ((ps.take i).map (·.2))
     rw [List.length_map,List.length_take] at hle
     rw [TH,adU,L6]
     have R9:=OU
     unfold dI at R9
     cases hd:p.2.1.dy with
     |false=>
      rw [hd] at R9
      have eu:GN k.now (k.sh+d) p=p:=by unfold GN eQ;rw [if_neg (by rw [hd];exact Bool.false_ne_true)]
      repeat' (walk_at "rd1")
      refine⟨_,rfl,jN,?_,by rw [if_neg Bool.false_ne_true,List.append_nil];exact AU,uI⟩
      rw [eu,<-hdr,hbs]
      exact Xb
     |true=>
      rw [hd] at R9
      have AV:qd≠p.1:=fun e=>hqn (p.1,dI p.2.1 p.2.2) (by unfold bX;exact List.mem_map.mpr ⟨p,hpm,rfl⟩) e.symm
      have hlr:=KA p.2.1 p.2.2 (k.now+(k.sh+d))
      have hpT:p.1∈ps.map (·.1):=List.mem_map_of_mem hpm
      have adr:∀y,(bX ((ps.take i).map (GN k.now (k.sh+d))++(p.1,(p.2.1,y))::ps.drop (i+1))).map (·.1)=ps.map (·.1):=fun y=>by
       have e:=congrArg (List.map fun p:PR=>p.1) (List.take_append_drop i ps)
       rw [hdr] at e
       unfold bX
       rw [<-e]
       simp only [List.map_append,List.map_cons,List.map_map]
       rfl
      repeat' (walk_at "rd1")
      refine Wf OU Yf.ok G3 n0 (by omega) l1 (by omega) (by omega) (by omega) (fun q3 H3 m3 MN JD hr3=>?_)
      have Ie:=AU.mv m3 (by simpa using AV)
      have BI:=(IV m3 OU).ZM jN
      have hi3:=BI.ins
      unfold aP at hi3
      repeat' (walk_at "rd1")
      refine Qx Ie JD (by omega) (fun H4 m4 Qo=>?_)
      have RX:=(IV m4 Ie).ZM BI
      have V3:=RX.ins
      unfold aP at V3
      have hr4:=hr3.mv m4 (by simpa using Ne.symm AV)
      have ae0:=hr4
      unfold dI at ae0
      have Xc:=LR.set (b:=(p.1,dI p.2.1 p.2.2)) m3 hr3 (by simp) Xb
      rw [To Xb.nd] at Xc
      have hL4:=Xc.mv m4 (by simpa using hnq) (fun b hb=>by
       have h1:b.1∈ps.map (·.1):=by rw [<-adr (ck p.2.1 p.2.2 (k.now+(k.sh+d))),acV];exact List.mem_map_of_mem hb
       obtain⟨s,hs,es⟩:=List.mem_map.mp h1
       have:=hqn (s.1,dI s.2.1 s.2.2) (by unfold bX;exact List.mem_map.mpr ⟨s,hs,rfl⟩)
       rw [<-es]
       simpa using this)
      repeat' (walk_at "rd1")
      rename_i zz f1 f2 f3 H5 m5 hr5
      have ez:zz=max (k.now+1) ((ck p.2.1 p.2.2 (k.now+(k.sh+d))).f - (k.sh+d)):=by omega
      have hr5:c9 H5 p.1 (dI p.2.1 (Kw k.now (k.sh+d) (ck p.2.1 p.2.2 (k.now+(k.sh+d))))):=by rw [ez] at hr5;exact hr5
      have YQ:=LR.set (b:=(p.1,dI p.2.1 (ck p.2.1 p.2.2 (k.now+(k.sh+d))))) m5 hr5 (by simp) hL4
      rw [To hL4.nd] at YQ
      have eu:GN k.now (k.sh+d) p=(p.1,(p.2.1,Kw k.now (k.sh+d) (ck p.2.1 p.2.2 (k.now+(k.sh+d))))):=by unfold GN eQ;rw [if_pos hd]
      refine⟨_,rfl,(IV m5 hr4).ZM RX,?_,?_,((XY (uI.trans (QU m3 hpT)) m4 Dd).trans (QU m5 hpT))⟩
      . rw [eu,acV];exact YQ
      . rw [if_pos rfl]
        exact Qo.mv m5 (by simpa using AV)
   . rintro σ' H2 ⟨z,rfl,jN,Xb,AU,uI⟩
     have el:((bX ps).map fun b=>V.ref b.1).length=ps.length:=by unfold bX;rw [List.length_map,List.length_map]
     rw [el,List.take_length,List.drop_length,List.append_nil] at Xb
     rw [el,List.take_length] at AU
     have G8:=jN.ins
     unfold aP at G8
     obtain⟨t1,t2,t3,t4⟩:=rel.turn d
     repeat' (walk_at "rd1")
     refine ZI jN (by omega) (fun ss hN tH=>by rw [rel.names hN tH];exact rel.all (fun r hr=>by obtain⟨p,hp,rfl⟩:=List.mem_map.mp hr;exact bd p hp) d G3 (by omega) ht0) (fun q3 H3 ss C6 MN hN tH JD BI=>?_)
     rw [rel.names hN tH] at JD BI
     rw [t1] at JD
     have Ie:=C6.lat AU
     repeat' (walk_at "rd1")
     refine M8 JD.dv Ie.dv (Nn (Qe (fun r hr=>by obtain⟨p,hp,rfl⟩:=List.mem_map.mp hr;exact aeC p hp))) ?_
     repeat' (walk_at "rd1")
     exact q _ _ (uI.trans (abC C6)) BI (LR.fr C6 Xb) t2 t3 t4
theorem K9 (T:Txt K mg a):dE P w K mg base 10 a.cB ["_law_keeper","_law_bells","_law_by_here"] [] (HH a):=
 ⟨⟨_,_,Og T,T.oz.binds fun _ _ _ _ _ _=>wa fun _ _ _=>rfl,.nil⟩⟩
theorem K1.sql {cs S T:List Addr} {H H':Hp} {l:Addr} {xs:List V} (f:K1 cs S T H H') (n:l∉T) (h:iH K H l xs):iH K H' l xs:=by
 rcases h with(h|⟨o,h⟩)|h
 . exact .inl (.inl (f.kp _ _ h n (by intro _ z;cases z) (by intro _ _ _ z;cases z)))
 . exact .inl (.inr ⟨o,f.kp _ _ h n (by intro _ z;cases z) (by intro _ _ _ z;cases z)⟩)
 . exact .inr h
theorem LR.script {cs S:List Addr} {H H':Hp} {l q:Addr} {ns:List Int} {ps:List PR} (hL:LR H q (bX ps)) (f:K1 cs S (ps.map (·.1)) H H') (h:iH K H l (ns.map V.int)):iH K H' l (ns.map V.int):=by
 by_cases hm:l∈ps.map (·.1)
 . obtain⟨p,hp,rfl⟩:=List.mem_map.mp hm
   obtain⟨xs,e1,e2,_⟩:=hL.row (p.1,dI p.2.1 p.2.2) (List.mem_map.mpr ⟨p,hp,rfl⟩)
   rcases h with(h|⟨o,h⟩)|h
   . exfalso
     rw [h] at e1
     cases e1
     cases ns with
     |nil=>cases e2
     |cons n ns=>
      unfold dI at e2
      cases e2 with
      |cons g _=>cases g
   . exfalso
     rw [h] at e1
     cases e1
   . exact .inr h
 . exact f.sql hm h
def acS (sh:Int) (r:fL × Mb):Int:=r.2.l - yf r.1 sh
def IM (a:Ad):Sp:=fun vs H Q _=>∃L k rv rows d now0,vs=[.ref L.p,rv,.int d]/\b9 a H L k/\Dv H rv (.list (rows.map fun r=>qI r.1 r.2 k.sh))/\Rel now0 rows k/\rows.length<=10/\0<=d/\∀H' to,qO a L H H'->b9 a H' L {k with now:=to}->k.now<=to->to<=k.now+d->Rel now0 rows {k with now:=to}->Q (.bl true) H'
theorem Yc {H:Hp} {Q:VK} {E:XK} {L:Lay} {k:KS} {rv:V} {rows:List (fL × Mb)} {d now0:Int} (h1:b9 a H L k) (h2:Dv H rv (.list (rows.map fun r=>qI r.1 r.2 k.sh))) (h3:Rel now0 rows k) (h4:rows.length<=10) (h5:0<=d) (q:∀H' to,qO a L H H'->b9 a H' L {k with now:=to}->k.now<=to->to<=k.now+d->Rel now0 rows {k with now:=to}->Q (.bl true) H'):IM a [.ref L.p,rv,.int d] H Q E:=⟨L,k,rv,rows,d,now0,rfl,h1,h2,h3,h4,h5,q⟩
set_option hygiene false in
local macro_rules|`(tactic|walk_at "rd1")=>`(tactic|first|with_reducible refine R6 ?_|fail)
theorem Vj (T:Txt K mg a):aN P w K mg base fF 8 a.bZ a.ug ["_law_keeper","_law_rows","_law_by_here"] (IM a):=by
 have cl:=T.aB;have n1:=T.aZ
 have oB:=Hd (P:=P) (w:=w) (base:=base) T
 refine T.kc.ok jH (fun vs H Q E h=>?_) (fun cR A outer s H vs Q E hr h=>?_)
 . obtain⟨_,_,_,_,_,_,rfl,_⟩:=h;rfl
 . obtain⟨L,k,rv,rows,d,now0,rfl,hk,hv,rel,hlen,h0,q⟩:=h
   have hi:=hk.ins
   unfold aP at hi
   refine⟨_,(af (aL (i:=3) jH.nd rfl (Or.inl rfl) (Q6 (D5 (T:=["_law_row_here"]) (M:=["_law_keeper","_law_rows","_law_by_here","_law_least","_law_to"]) (SY (aj gQ) ["_law_keeper","_law_rows","_law_by_here","_law_least","_law_to"] rfl rfl (by decide+kernel)) rfl (fx (pv 1)) (fun _ _ _ _ _=>(aR (i:=0) (show List.Nodup (["_law_row_here","_law_keeper","_law_rows","_law_by_here","_law_least","_law_to"]:List Str) by decide+kernel) rfl (Or.inl rfl))) (fA (by decide)) (fun _ _ _ _ _=>rH) (fun _ _ _ _ _=>(bB (EE (K:=K) rfl) (pv 0) ag (fun _ _=>rfl)))) (av aM (au (pv 0) rfl) ag) rfl rfl T.Ar))
    (af (aL (i:=4) jH.nd rfl (Or.inl rfl) (cm (HF rfl) rfl T.Ar PyProof.Rows.boot_min (ae (av aM (au (pv 0) rfl) (pv 2)) (ae (av eF (pv 3) ag) ak))))
    (ai (aC (IH (iA (ip hr.JF) (aI (pv 0) T.aB T.xo oB (hr.mono (by decide)) (ae (pv 4) ak)) (fw ak) (aJ _)) (Gy (iA (ip hr.JF) (au (pv 0) rfl) (pv 4) (aJ _)))))))),?_⟩
   repeat' (walk_at "rd1")
   refine Zi (cs:=rows) (gd:=fun r=>qI r.1 r.2 k.sh) (fun _=>true) (fun r=>.int (acS k.sh r)) hv (by omega) (fun _=>rfl) (fun x c H2 N hc C5 hx yes no=>?_) (fun q2 H2 C5 DV AU=>?_)
   . unfold qI at hx
     repeat' (walk_at "rd1")
     refine rR (fun hb=>?_) (fun hb=>by cases hb)
     repeat' (walk_at "rd1")
     exact yes rfl _ _ (ax.refl _) (.int _)
   rw [Fj] at AU
   have ae1:c9 H2 q2 ((rows.map (acS k.sh)).map PyData.int):=by rw [List.map_map];exact AU
   have jN:=hk.keeps C5
   have G8:=jN.ins
   unfold aP at G8
   repeat' (walk_at "rd1")
   have key:∀least:Int,k.now<least->(∀r∈rows,least<=r.2.l - yf r.1 k.sh)->∀to:Int,to<=least - 1->∀r∈rows,to<r.2.l - yf r.1 k.sh:=fun least _ h2 to h3 r hr=>by have:=h2 r hr;omega
   refine T3 ae1.dv (fun e=>?_) (fun m hm hle=>?_)
   . have er:rows=[]:=by simpa using e
     repeat' (walk_at "rd1")
     rename_i to t1 t2 t3
     have hto:∀r∈rows,to<r.2.l - yf r.1 k.sh:=fun r hr=>by rw [er] at hr;cases hr
     refine Rh jN (by omega) (rel.R4 hto) (fun q3 H3 C6 MN JD BI=>?_)
     have hi3:=BI.ins
     unfold aP at hi3
     repeat' (walk_at "rd1")
     rename_i q4 H4 s4 Xh Qo _
     rw [decide_eq_true rfl]
     exact q H4 to ((C5.fr.trans C6).trans s4.fr) (BI.keeps s4) (by omega) (by omega) (rel.go hto)
   . obtain⟨r0,hr0,em⟩:=List.mem_map.mp hm
     have G3:k.now<m:=by rw [<-em];exact(rel.ok r0 hr0).2
     repeat' (walk_at "rd1")
     rename_i to t1 t2 t3
     have hto:∀r∈rows,to<r.2.l - yf r.1 k.sh:=fun r hr=>by have:=hle _ (List.mem_map.mpr ⟨r,hr,rfl⟩);have this:m<=r.2.l - yf r.1 k.sh:=this;omega
     refine Rh jN (by omega) (rel.R4 hto) (fun q3 H3 C6 MN JD BI=>?_)
     have hi3:=BI.ins
     unfold aP at hi3
     repeat' (walk_at "rd1")
     rename_i q4 H4 s4 Xh Qo _
     rw [decide_eq_true rfl]
     exact q H4 to ((C5.fr.trans C6).trans s4.fr) (BI.keeps s4) (by omega) (by omega) (rel.go hto)
theorem QK (T:Txt K mg a):dE P w K mg base 8 a.bZ ["_law_keeper","_law_rows","_law_by_here"] [] (IM a):=
 ⟨⟨_,_,Vj T,T.kc.binds fun _ _ _ _ _ _=>wa fun _ _ _=>rfl,.nil⟩⟩
theorem Pn {α β:Type} (f:α->β) {l1 l2:List β} (h:l1.Perm l2):∀{ps:List α},l2=ps.map f->∃ps':List α,l1=ps'.map f/\ps'.Perm ps:=by
 induction h with
 |nil=>exact fun {ps} _=>⟨[],rfl,by cases ps with|nil=>exact .nil|cons _ _=>contradiction⟩
 |cons x _ ih=>
  intro ps e
  cases ps with
  |nil=>cases e
  |cons p r=>
   rw [List.map_cons] at e
   injection e with e1 e2
   obtain⟨r',h1,h2⟩:=ih e2
   exact⟨p::r',by rw [List.map_cons,<-e1,<-h1],h2.cons p⟩
 |swap x y l=>
  intro ps e
  match ps,e with
  |p::q::r,e=>
   rw [List.map_cons,List.map_cons] at e
   injection e with e1 e2
   injection e2 with e2 e3
   exact⟨q::p::r,by rw [List.map_cons,List.map_cons,<-e1,<-e2,<-e3],.swap ..⟩
 |trans _ _ ih1 ih2=>
  intro ps e
  obtain⟨p2,e2,h2⟩:=ih2 e
  obtain⟨p1,e1,h1⟩:=ih1 e2
  exact⟨p1,e1,h1.trans h2⟩
def w9 (p:PR):Bool:=keepR p.2
theorem Ph (now sh:Int) (ps:List PR):((ps.map (GN now sh)).filter w9).map (·.2)=((ps.map (·.2)).map (eQ now sh)).filter keepR:=by
 rw [List.map_map]
 induction ps with
 |nil=>rfl
 |cons p ps ih=>
  have e1:w9 (GN now sh p)=keepR (eQ now sh p.2):=rfl
  have e2:(eQ now sh ∘ fun x:PR=>x.2) p=eQ now sh p.2:=rfl
  rw [List.map_cons,List.map_cons,List.filter_cons,List.filter_cons,e1,e2]
  split
  . rw [List.map_cons,ih];rfl
  . exact ih
theorem LR.filter {H H':Hp} {q q':Addr} {ps:List PR} {f:PR->Bool} (h:LR H q (bX ps)) (hn:H q'=none) (e:H'=upd H q' (.lst ((ps.filter f).map fun p=>V.ref p.1))):LR H' q' (bX (ps.filter f)):=by
 subst e
 have s:=bS (o:=.lst ((ps.filter f).map fun p=>V.ref p.1)) hn
 have sub:((bX (ps.filter f)).map (·.1)).Sublist ((bX ps).map (·.1)):=by
  unfold bX
  exact(List.filter_sublist.map _).map _
 refine⟨?_,h.nd.sublist sub,fun hm=>?_,fun b hb=>?_⟩
 . rw [ao]
   unfold bX
   rw [List.map_map]
   rfl
 . obtain⟨b,hb,e⟩:=List.mem_map.mp (sub.subset hm)
   obtain⟨xs,ex,_⟩:=h.row b hb
   rw [e,hn] at ex
   cases ex
 . obtain⟨p,hp,rfl⟩:=List.mem_map.mp hb
   exact(h.row _ (List.mem_map.mpr ⟨p,(List.mem_filter.mp hp).1,rfl⟩)).keeps s
theorem R5 {sh:Int} {rows:List (fL × Mb)} (h:∀r∈rows,PyData.canLay0 (.str r.1.nm)=true):E6 (rows.map fun r=>qI r.1 r.2 sh):=Nn fun e he=>by
 obtain⟨r,hr,rfl⟩:=List.mem_map.mp he
 refine⟨_,rfl,fun p hp=>?_,fun s hs=>?_⟩
 . simp only [List.mem_cons,List.not_mem_nil,or_false] at hp
   rcases hp with rfl|rfl|rfl|rfl
   all_goals first|exact .inl ⟨_,rfl⟩|exact .inr ⟨_,rfl⟩
 . simp only [List.mem_cons,List.not_mem_nil,or_false,PyData.str.injEq,reduceCtorEq] at hs
   rcases hs with rfl
   exact h r hr
theorem b9.aeB {H:Hp} {L:Lay} {k:KS} {nm:List Str} (h:b9 a H L k) (ht:∀n,k.t n=none) (hf:∀n,k.f n=none) (hl:nm.length<=55):b9 a H {L with nm:=nm} k:=
 ⟨h.ins,h.wt,h.bd,h.bl,h.ne,hl,fun n e=>(by rw [ht] at e;cases e),fun n e=>(by rw [hf] at e;cases e)⟩
theorem V2 (rows:List (fL × Mb)) (sh:Int):nd (.list (rows.map fun r=>qI r.1 r.2 sh))=true:=by
 show nd.YH (rows.map fun r=>qI r.1 r.2 sh)=true
 induction rows with
 |nil=>rfl
 |cons r l ih=>
  rw [List.map_cons]
  show(nd (qI r.1 r.2 sh)&&nd.YH (l.map fun r=>qI r.1 r.2 sh))=true
  rw [ih];rfl
theorem NK (H:Hp):∀ps:List PR,cK H (ps.map fun r=>V.str r.2.1.nm) (ps.map ((PyData.str ∘ gN) ∘ fun x=>x.2))
 |[]=>.nil
 |r::l=>.cons (.str _) (NK H l)
theorem Ku:∀{ss:List Str},(∀n∈ss,PyData.canLay0 (.str n)=true)->E6 (ss.map PyData.str)
 |[],_=>.nil
 |s::ss,h=>.cons (h s List.mem_cons_self) (Nat.zero_le _) (by simp [PyData.eqv]) (Ku fun n hn=>h n (List.mem_cons_of_mem _ hn))
structure aa2 (a:Ad) (K:PySem.W.Frag) (l0:Addr) (ns:List Int) (now0:Int) (j:Nat) (H:Hp) (L:Lay) (k:KS) (q:Addr) (ps:List PR):Prop where
 ZM:b9 a H L k
 lr:LR H q (bX ps)
 rel:Rel now0 (ps.map (·.2)) k
 bd:∀p∈ps,Bd p.2.2
 len:ps.length<=8
 can:∀p∈ps,PyData.canLay0 (.str p.2.1.nm)=true
 sc:iH K H l0 (ns.map V.int)
 n0:0<=k.now
 n1:k.now<=60+31*(j:Int)
 s0:-(10^22*(j:Int))<=k.sh
 s1:k.sh<=10^22*(j:Int)
 c0:0<=k.now+k.sh
set_option hygiene false in
local macro_rules|`(tactic|walk_at "rd1")=>`(tactic|first|with_reducible refine U5 ?_|fail)
theorem ZV (T:Txt K mg a):aN P w K mg base fF 14 a.ym a.IP ["_law_script"] (QN K):=by
 have cl:=T.aB;have n1:=T.aZ;have n2:=T.bb
 have K5:=Iv (P:=P) (w:=w) (base:=base) T
 have oB:=Hd (P:=P) (w:=w) (base:=base) T
 have Il:=Vc (P:=P) (w:=w) (base:=base) T
 have vv:=Pb (P:=P) (w:=w) (base:=base) T
 have F2:=Ob (P:=P) (w:=w) (base:=base) T
 have g8:=Fe (P:=P) (w:=w) (base:=base) T
 have Ju:=GR (P:=P) (w:=w) (base:=base) T
 have Kp:=RM (P:=P) (w:=w) (base:=base) T
 have Ki:=Se (P:=P) (w:=w) (base:=base) T
 have Oe:=Yd (P:=P) (w:=w) (base:=base) T
 have GY:=K9 (P:=P) (w:=w) (base:=base) T
 have L9:=P4 (P:=P) (w:=w) (base:=base) T
 have F7:=QK (P:=P) (w:=w) (base:=base) T
 refine T.Tv.ok ie (fun vs H Q E h=>?_) (fun cR A outer s H vs Q E hr h=>?_)
 . obtain⟨_,_,rfl,_⟩:=h;rfl
 . obtain⟨l0,ns,rfl,hS,hl,q⟩:=h
   refine⟨_,(af (aL (i:=1) ie.nd rfl (Or.inl rfl) (Kk T.Ky K5 (hr.mono (by decide)) rfl T.Ht))
    (af (aL (i:=2) ie.nd rfl (Or.inr rfl) (av cq (bz g8 (hr.mono (by decide)) rfl T.ef T.d9 (ae (pv 0) (ae ag ak))) ag))
    (af (aW (aI (pv 1) T.aB T.xo oB (hr.mono (by decide)) (ae (pv 2) ak)))
    (cP (RN (i:=3) ie.nd rfl (Or.inl rfl) (T:=["_law_k"]) (M:=["_law_script","_law_keeper","_law_now","_law_bells","_law_bell_here","_law_shift","06","_law_by_here","_law_due"]) (SY (aj FX) ["_law_script","_law_keeper","_law_now","_law_bells","_law_bell_here","_law_shift","_law_k","_law_by_here","_law_due"] rfl rfl (by decide+kernel)) rfl (PU rfl T.vM (ae ag (ae (cm (HF rfl) rfl T.Ar PyProof.Rows.boot_min (ae (cm HL rfl T.Gu PySem.boot_len (ae (pv 0) ak)) (ae ag ak))) ak))) (fun _ _ _ _ _=>(aR (i:=0) (show List.Nodup (["_law_k","_law_script","_law_keeper","_law_now","_law_bells","_law_bell_here","_law_shift","06","_law_by_here","_law_due"]:List Str) by decide+kernel) rfl (Or.inl rfl))) (fA (by decide)) (fun _ _ _ _ _=>rH) (fun _ _ _ _ _=>(bz Kp (hr.mono (by decide)) rfl T.Bp T.Bc (ae (bB (EE (K:=K) rfl) (pv 1) (pv 0) (fun _ _=>rfl)) (ae (pv 0) (ae (pv 3) ak))))) rfl)
    (af (Gb PassesOwn.never rfl (fx (pv 3)) (aR (i:=4) ie.nd rfl (Or.inl rfl))
     (ai (cj (aK (IB hr.JF) (aI (pv 1) T.aB T.Bo Il (hr.mono (by decide)) (ae (bB fP (pv 4) ag (fun _ _=>rfl)) (ae (bz Ki (hr.mono (by decide)) rfl T.Bi T.Br (ae (bB fP (pv 4) ag (fun _ _=>rfl)) ak)) (ae ag (ae dn (ae (bB fP (pv 4) ag (fun _ _=>rfl)) ak)))))) (fw ak) (aJ _))
      (ai (aC NR))
      aO)))
    (af (aL (i:=3) ie.nd rfl (Or.inl rfl) (cm (Mr hr.JF) rfl T.ia PyProof.Rows.boot_sorted (ae (pv 3) ak)))
    (af (aL (i:=5) ie.nd rfl (Or.inr rfl) ag)
    (af (Gb PassesOwn.never rfl (Oh rfl T.vM (ae (av cq (av bN (bz g8 (hr.mono (by decide)) rfl T.ef T.d9 (ae (pv 0) (ae ag ak))) ag) ag) ak)) (aR (i:=6) ie.nd rfl (Or.inl rfl))
     (af (aL (i:=7) ie.nd rfl (Or.inl rfl) (bz Oe (hr.mono (by decide)) rfl T.Gd T.FH (ae (bz g8 (hr.mono (by decide)) rfl T.ef T.d9 (ae (pv 0) (ae (av aM (av md ag (pv 6)) ag) ak))) (ae (av aM (pv 2) (pv 5)) ak))))
     (af (cj (Ax (eg (bz GY (hr.mono (by decide)) rfl T.vg T.u3 (ae (pv 1) (ae (pv 3) (ae (pv 7) ak)))) (fun _=>rfl)))
      (ai (aC NR))
      aO)
     (af (aL (i:=5) ie.nd rfl (Or.inr rfl) (av aM (pv 5) (pv 7)))
     (af (RN (i:=3) ie.nd rfl (Or.inl rfl) (T:=["_law_bell_here"]) (M:=["_law_script","_law_keeper","_law_now","_law_bells","04","_law_shift","_law_k","_law_by_here","_law_due"]) (SY (aj FX) ["_law_script","_law_keeper","_law_now","_law_bells","_law_bell_here","_law_shift","_law_k","_law_by_here","_law_due"] rfl rfl (by decide+kernel)) rfl (fx (pv 3)) (fun _ _ _ _ _=>(aR (i:=0) (show List.Nodup (["_law_bell_here","_law_script","_law_keeper","_law_now","_law_bells","04","_law_shift","_law_k","_law_by_here","_law_due"]:List Str) by decide+kernel) rfl (Or.inl rfl))) (fA (by decide)) (fun _ _ _ _ _=>(Fn (PW.pt (Hl (aK F1 (bB (EE (K:=K) rfl) (bB (EE (K:=K) rfl) (pv 0) ag (fun _ _=>rfl)) ag (fun _ _=>rfl)) dn (aJ _)) (FD (aK GK (bB (EE (K:=K) rfl) (pv 0) ag (fun _ _=>rfl)) (bB (EE (K:=K) rfl) (bB (EE (K:=K) rfl) (pv 0) ag (fun _ _=>rfl)) ag (fun _ _=>rfl)) (aJ _))))))) (fun _ _ _ _ _=>(pv 0)) rfl)
     (af (RN (i:=8) ie.nd rfl (Or.inl rfl) (T:=["_law_bell_here"]) (M:=["_law_script","_law_keeper","_law_now","_law_bells","04","_law_shift","_law_k","_law_by_here","_law_due"]) (SY (aj FX) ["_law_script","_law_keeper","_law_now","_law_bells","_law_bell_here","_law_shift","_law_k","_law_by_here","_law_due"] rfl rfl (by decide+kernel)) rfl (fx (pv 3)) (fun _ _ _ _ _=>(aR (i:=0) (show List.Nodup (["_law_bell_here","_law_script","_law_keeper","_law_now","_law_bells","04","_law_shift","_law_k","_law_by_here","_law_due"]:List Str) by decide+kernel) rfl (Or.inl rfl))) (fA (by decide)) (fun _ _ _ _ _=>rH) (fun _ _ _ _ _=>(bz L9 (hr.mono (by decide)) rfl T.Eu T.D1 (ae (pv 0) (ae (pv 6) ak)))) rfl)
     (af (cj (PW.pt (Hl (Ax (eg (bz Ju (hr.mono (by decide)) rfl T.yx T.zh (ae (au (pv 1) rfl) ak)) (fun _=>rfl))) (Hl (aK (IB hr.JF) (au (pv 1) rfl) (pv 5) (aJ _)) (FD (aK (IB hr.JF) (dG (pv 1) T.aB T.ka vv (hr.mono (by decide))) (pv 8) (aJ _))))))
      (ai (aC NR))
      aO)
     (af (cj (PW.pt (Hl (Ax (eg (bz F7 (hr.mono (by decide)) rfl T.tK T.rK (ae (pv 1) (ae (pv 8) (ae (av cq (bz g8 (hr.mono (by decide)) rfl T.ef T.d9 (ae (pv 0) (ae (av aM (av md ag (pv 6)) ag) ak))) ag) ak)))) (fun _=>rfl))) (FD (aK (IB hr.JF) (dG (pv 1) T.aB T.ka vv (hr.mono (by decide))) (pv 8) (aJ _)))))
      (ai (aC NR))
      aO)
     (ai (aL (i:=2) ie.nd rfl (Or.inr rfl) (au (pv 1) rfl)))))))))))
    (ai (aC (iA (ip hr.JF) (dG (pv 1) T.aB T.xF F2 (hr.mono (by decide))) (D5 (T:=["_law_bell_here"]) (M:=["_law_script","_law_keeper","_law_now","_law_bells","04","_law_shift","_law_k","_law_by_here","_law_due"]) (SY (aj FX) ["_law_script","_law_keeper","_law_now","_law_bells","_law_bell_here","_law_shift","_law_k","_law_by_here","_law_due"] rfl rfl (by decide+kernel)) rfl (fx (pv 3)) (fun _ _ _ _ _=>(aR (i:=0) (show List.Nodup (["_law_bell_here","_law_script","_law_keeper","_law_now","_law_bells","04","_law_shift","_law_k","_law_by_here","_law_due"]:List Str) by decide+kernel) rfl (Or.inl rfl))) (fA (by decide)) (fun _ _ _ _ _=>rH) (fun _ _ _ _ _=>(bB (EE (K:=K) rfl) (pv 0) ag (fun _ _=>rfl)))) (aJ _)))))))))))),?_⟩
   repeat' (walk_at "rd1")
   refine TV [] rfl (by simp) (fun L0 H1 s1 enm etd ebd jM=>?_)
   have uF:=jM.ins
   unfold aP at uF
   have Xd:=ax.seq s1 hS
   repeat' (walk_at "rd1")
   generalize ahB:cell ns (Int.toNat 0) % 60=now
   have G3:0<=now:=by omega
   have Dd:now<60:=by omega
   refine Rh jM (by show(0:Int)<=now;exact G3) (fun n u e=>by cases e) (fun q2 H2 uI DV AU jN=>?_)
   have hS2:=uI.sql Xd
   clear uF Xd
   repeat' (walk_at "rd1")
   refine gg (fun σ' H3=>ax H2 H3/\∃(p:Addr) (ps:List PR),σ'=[some (.ref l0),some (.ref L0.p),some (.int now),some (.ref p),none,none,none,none,none]/\LR H3 p (bX ps)/\(∀r∈ps,yh now r.2.1/\r.2.2=Fc r.2.1/\∃N,r.2.1.nm=EW N)/\((ps.map (·.2)).map gN).Nodup/\ps.length<=8) ?_ ?_
   . repeat' (walk_at "rd1")
     rename_i z ez1 ez2 ez3
     rw [List.length_map] at ez1 ez2
     have hz0:0<=z:=by omega
     refine⟨1,z,rfl,⟨by decide,by decide,by omega,by omega⟩,?_⟩
     refine Ve (by omega) (fun i acc H4=>ax H2 H4/\acc.length=i/\∃ps:List PR,acc=ps.map (fun p=>V.ref p.1)/\(ps.map (·.1)).Nodup/\(∀r∈ps,c9 H4 r.1 (dI r.2.1 r.2.2)/\yh now r.2.1/\r.2.2=Fc r.2.1/\∃N,r.2.1.nm=EW N/\N % 61<=i)/\((ps.map (·.2)).map gN).Nodup) ⟨ax.refl _,rfl,[],rfl,List.nodup_nil,fun b hb=>(by cases hb),List.nodup_nil⟩ (fun i acc H4 hi ⟨_,e,_⟩=>by omega) (fun i acc H4 N hi ⟨s4,ea,ps,eps,hnp,hp,Ry⟩ yes no=>?_) (fun acc H4 q4 ⟨s4,ea,ps,eps,hnp,hp,Ry⟩ Xh=>?_)
     . have hS4:=ax.seq s4 hS2
       repeat' (walk_at "rd1")
       refine rR (fun _=>?_) (fun hb=>by cases hb)
       repeat' (walk_at "rd1")
       refine Xl hS4 (M3 (by omega) (by rw [List.length_map];omega)) ?_
       repeat' (walk_at "rd1")
       refine ZY (by omega) (by omega) (fun v H5 b s5 Yn hv ok RQ=>?_)
       refine yes _ _ ⟨s4.trans s5,by rw [List.length_append,ea];rfl,ps++[(v,(b,Fc b))],by rw [List.map_append,<-eps];rfl,?_,fun c hc=>?_,?_⟩
       . rw [List.map_append,List.nodup_append]
         refine⟨hnp,by simp,fun y hy w hw=>?_⟩
         obtain⟨c,hc,rfl⟩:=List.mem_map.mp hy
         have ew:w=v:=by simpa using hw
         rw [ew]
         intro e
         obtain⟨xs,ex,_⟩:=(hp c hc).1
         rw [e,Yn] at ex
         cases ex
       . rcases List.mem_append.mp hc with hc|hc
         . obtain⟨h1,h2,h3,N,h4,h5⟩:=hp c hc
           exact⟨h1.keeps s5,h2,h3,N,h4,by omega⟩
         . rw [List.mem_singleton.mp hc]
           exact⟨hv,ok,rfl,_,RQ,by omega⟩
       . rw [List.map_append,List.map_append,List.nodup_append]
         refine⟨Ry,by simp,fun y hy w hw=>?_⟩
         obtain⟨c',Qh,rfl⟩:=List.mem_map.mp hy
         obtain⟨c,hc,rfl⟩:=List.mem_map.mp Qh
         have ew:w=b.nm:=by simpa [gN] using hw
         rw [ew]
         obtain⟨_,_,_,N,h2,h3⟩:=hp c hc
         intro e
         have e:c.2.1.nm=b.nm:=e
         rw [h2,RQ] at e
         have:=Sj e
         omega
     . have hsu:=bS (o:=.lst acc) Xh
       refine⟨s4.trans hsu,q4,ps,rfl,⟨?_,?_,?_,?_⟩,fun r hr=>?_,Ry,?_⟩
       . rw [ao,eps]
         unfold bX
         rw [List.map_map]
         rfl
       . unfold bX
         rw [List.map_map]
         exact hnp
       . intro hm
         obtain⟨b,hb,e⟩:=List.mem_map.mp hm
         obtain⟨r,hr,rfl⟩:=List.mem_map.mp hb
         obtain⟨xs,ex,_⟩:=(hp r hr).1
         have e:r.1=q4:=e
         rw [e,Xh] at ex
         cases ex
       . intro b hb
         obtain⟨r,hr,rfl⟩:=List.mem_map.mp hb
         exact(hp r hr).1.keeps hsu
       . obtain⟨_,h2,h3,N,h4,_⟩:=hp r hr
         exact⟨h2,h3,N,h4⟩
       . have:=congrArg List.length eps
         rw [List.length_map] at this
         omega
   rintro σ' H3 ⟨s3,p,ps,rfl,Xc,bL,tH,hlen⟩
   obtain⟨L,eL,eN,BI⟩:∃L:Lay,L0.p=L.p/\L.nm=ps.map (fun r=>r.2.1.nm)/\b9 a H3 L {k0 0 with now:=now}:=⟨{L0 with nm:=ps.map fun r=>r.2.1.nm},rfl,rfl,(jN.keeps s3).aeB (nm:=ps.map fun r=>r.2.1.nm) (fun _=>rfl) (fun _=>rfl) (by rw [List.length_map];omega)⟩
   rw [eL]
   have hS3:=ax.seq s3 hS2
   have hU3:JN now [] {k0 0 with now:=now}:=⟨rfl,rfl,List.nodup_nil,fun r hr=>(by cases hr),fun r hr=>(by cases hr),fun n _=>⟨rfl,rfl⟩,fun r hr=>(by cases hr)⟩
   clear jN hS2 hS uI AU DV jM s1 s3 eL enm etd ebd
   repeat' (walk_at "rd1")
   refine forL (xs:=(bX ps).map fun b=>V.ref b.1) (.inl (.inl Xc.at')) (fun i σ' H'=>∃z L' k,σ'=[some (.ref l0),some (.ref L.p),some (.int now),some (.ref p),z,none,none,none,none]/\L'.p=L.p/\L'.td=L.td/\L'.bd=L.bd/\L'.nm=L.nm/\qO a L H3 H'/\b9 a H' L' k/\JN now ((ps.take i).map (·.2)) k) ⟨_,L,_,rfl,rfl,rfl,rfl,rfl,Fr.refl,BI,hU3⟩ (fun i σ' H' _ ⟨_,_,_,_,_,_,_,_,fr,_⟩=>fr.sql (.inl (.inl Xc.at'))) ?_ ?_
   . rintro i v σ' H4 hv ⟨z,L',k,rfl,e1,e2,e3,e4,fr4,RX,Oc⟩
     rw [List.getElem?_map,bX,List.getElem?_map,Option.map_map] at hv
     obtain⟨r,hr,ev⟩:=Option.map_eq_some_iff.mp hv
     have ev:v=.ref r.1:=ev.symm
     subst ev
     have W6:r∈ps:=List.mem_of_getElem? hr
     obtain⟨ok,en,N,RQ⟩:=bL r W6
     have OU:c9 H4 r.1 (dI r.2.1 r.2.2):=(LR.fr fr4 Xc).row (r.1,dI r.2.1 r.2.2) (List.mem_map.mpr ⟨r,W6,rfl⟩)
     unfold dI at OU
     have U3:r.2.1.nm∉((ps.take i).map (·.2)).map gN:=by
      have abx:=tH
      rw [List.map_map] at abx ⊢
      exact IG (f:=gN ∘ fun p:PR=>p.2) abx hr
     have aaH:r.2.1.nm∈L'.nm:=by rw [e4,eN];exact List.mem_map.mpr ⟨r,W6,rfl⟩
     have V3:=RX.ins
     unfold aP at V3
     rw [e1] at V3
     obtain⟨a1,a2,a3,a4⟩:=Oc.add ok U3 G3 Dd
     rw [take_snoc hr,List.map_append]
     repeat' (walk_at "rd1")
     rename_i rv hrv
     refine X8 hrv ok G3 Dd (fun v5 H5 s5 hR=>?_)
     have afV:=OU.keeps s5
     repeat' (walk_at "rd1")
     rw [<-e1]
     refine acB (RX.keeps s5) a1 aaH hR (by decide) a2 (fun q6 H6 c fr6 hn6 hq6 Ws=>?_)
     have fr6:qO a L H5 H6:=by unfold qO at fr6;rw [e2,e3] at fr6;exact fr6
     rw [a3] at hq6
     repeat' (walk_at "rd1")
     rename_i q7 H7 s7 hn7 hq7 _
     refine⟨_,{L' with ad:=cn L'.ad r.2.1.nm c},_,rfl,rfl,e2,e3,e4,((fr4.trans s5.fr).trans fr6).trans s7.fr,Ws.keeps s7,?_⟩
     have e:r.2=(r.2.1,Fc r.2.1):=by rw [<-en]
     show JN now (((ps.take i).map (·.2))++[r.2]) _
     rw [e]
     exact a4
   . rintro σ' H4 ⟨z,L',k,rfl,e1,e2,e3,e4,fr4,RX,Oc⟩
     have el:((bX ps).map fun b=>V.ref b.1).length=ps.length:=by unfold bX;rw [List.length_map,List.length_map]
     rw [el,List.take_length] at Oc
     have hL4:=LR.fr fr4 Xc
     have hS4:=fr4.sql hS3
     rw [<-e1]
     clear e1 e2 e3 e4 BI Xc hS3 fr4 hU3 el
     repeat' (walk_at "rd1")
     refine T5 hL4 (fun b hb=>by obtain⟨r,hr,rfl⟩:=List.mem_map.mp hb;exact⟨_,_,rfl⟩) (by unfold bX;rw [List.map_map];rw [List.map_map] at tH;exact tH) (by unfold bX;rw [List.length_map];omega) (fun q5 H5 bs5 s5 Yn hp5 hu5 YQ=>?_)
     obtain⟨ps5,rfl,hpp⟩:=Pn _ hp5 rfl
     have YQ:LR H5 q5 (bX ps5):=YQ
     have acY:Rel now (ps5.map (·.2)) k:=Oc.sorted (hpp.map _) (by
      unfold TK
      rw [List.map_map] at hu5 ⊢
      exact hu5)
     have iv5:aa2 a K l0 ns now 0 H5 L' k q5 ps5:=by
      refine⟨RX.keeps s5,YQ,acY,fun r hr=>?_,by rw [hpp.length_eq];exact hlen,fun r hr=>?_,ax.seq s5 hS4,?_,?_,?_,?_,?_⟩
      . obtain⟨ok,en,_⟩:=bL r (hpp.mem_iff.mp hr)
        have t0:=ok.s0;have t1:=ok.s1;have t2:=ok.w0;have t3:=ok.w1;have t4:=ok.p1
        rw [en]
        unfold Bd Fc
        constructor <;>simp only [] <;>omega
      . obtain⟨_,_,N,RQ⟩:=bL r (hpp.mem_iff.mp hr)
        rw [RQ];exact acE N
      . rw [Oc.now];exact G3
      . rw [Oc.now];omega
      . rw [Oc.sh];omega
      . rw [Oc.sh];omega
      . rw [Oc.sh,Oc.now];omega
     have est:some (V.int now)=some (V.int k.now):=by rw [Oc.now]
     have esh:k.sh=0:=Oc.sh
     clear Oc hL4 hS4 YQ acY RX bL tH
     have hS5:=iv5.sc
     repeat' (walk_at "rd1")
     refine Ov (fun j σ' H'=>∃z1 z2 z3 z4 q ps k,σ'=[some (.ref l0),some (.ref L'.p),some (.int k.now),some (.ref q),z1,some (.int k.sh),z2,z3,z4]/\aa2 a K l0 ns now j H' L' k q ps) ⟨z,none,none,none,q5,ps5,k,by rw [esh,<-est];rfl,iv5⟩ ?_ ?_
     . rintro j σ' H6 hj ⟨z1,z2,z3,z4,q6,Pq,k6,rfl,iv⟩
       have hj8:(j:Int)<=8:=by omega
       have hS6:=iv.sc;have Ws:=iv.ZM;have c0:=iv.c0;have t0:=iv.n0;have t1:=iv.n1;have t2:=iv.s0;have t3:=iv.s1
       have hi6:=Ws.ins
       unfold aP at hi6
       have abB:=iv.len
       clear iv5 hS5 Yn s5 hp5 hu5 hpp est esh
       repeat' (walk_at "rd1")
       refine aeR (by omega) (fun d d0 d1 d2=>?_)
       repeat' (walk_at "rd1")
       refine⟨L',k6,q6,Pq,d,now,rfl,Ws,iv.lr,iv.rel,iv.bd,G3,⟨t0,by omega⟩,⟨by omega,by omega⟩,⟨by omega,by omega⟩,by omega,by omega,iv.can,fun H7 k7 fr7 hk7 WY e7 e7' UC=>?_⟩
       have hS7:=LR.script iv.lr fr7 hS6
       have QH:∀r∈Pq.map (GN k6.now (k6.sh+d)),yh now r.2.1/\PyData.canLay0 (.str r.2.1.nm)=true:=fun r hr=>by
        obtain⟨r0,h0,rfl⟩:=List.mem_map.mp hr
        have e:(GN k6.now (k6.sh+d) r0).2.1=r0.2.1:=Sw _ _ _
        rw [e]
        exact⟨(iv.rel.ok r0.2 (List.mem_map_of_mem h0)).1.ok,iv.can r0 h0⟩
       have hb7:=Bd.turn (now:=k6.now) (sh:=k6.sh+d) (fun r hr=>(iv.rel.ok r hr).1) G3 (fun r hr=>by obtain⟨r0,h0,rfl⟩:=List.mem_map.mp hr;exact iv.bd r0 h0) (by omega)
       rw [<-Ph] at hb7 UC
       have hl7:(Pq.map (GN k6.now (k6.sh+d))).length<=8:=by rw [List.length_map];exact abB
       clear iv Ws hi6 fr7 hS6
       generalize Pq.map (GN k6.now (k6.sh+d))=Qj at*
       have hi7:=hk7.ins
       unfold aP at hi7
       rw [e7,e7'] at hi7
       have Qn:((bX Qj).map fun b=>V.ref b.1).length=Qj.length:=by unfold bX;rw [List.length_map,List.length_map]
       have WU:∀r∈Qj,c9 H7 r.1 (dI r.2.1 r.2.2):=fun r hr=>WY.row (r.1,dI r.2.1 r.2.2) (List.mem_map.mpr ⟨r,hr,rfl⟩)
       repeat' (walk_at "rd1")
       refine Hr (xs:=(bX Qj).map fun b=>V.ref b.1) (.inl (.inl WY.at')) (by omega) (fun i acc H'=>H'=H7/\acc=((Qj.take i).filter w9).map fun r=>V.ref r.1) ⟨rfl,rfl⟩ (fun i acc H' hi ⟨e1,e2⟩=>⟨by rw [e1];exact .inl (.inl WY.at'),by
        rw [e2,List.length_map]
        have:=List.length_filter_le w9 (Qj.take i)
        rw [List.length_take] at this
        omega⟩) (fun i x acc H' N hx ⟨e1,e2⟩ yes no=>?_) (fun acc H8' q8 ⟨e1,e2⟩ ZD=>?_)
       . subst e1
         rw [List.getElem?_map,bX,List.getElem?_map,Option.map_map] at hx
         obtain⟨r,hr,ev⟩:=Option.map_eq_some_iff.mp hx
         have ev:x=.ref r.1:=ev.symm
         subst ev
         have W6:r∈Qj:=List.mem_of_getElem? hr
         have ok:=(QH r W6).1
         have Wj:=WU r W6
         unfold dI TU at Wj
         rw [take_snoc hr,List.filter_append,List.map_append,<-e2] at yes no
         have ek:w9 r=keepR r.2:=rfl
         rcases ok.m with em|⟨m,em,m1,m2⟩
         . rw [em] at Wj
           simp only [mD] at Wj
           have ekr:keepR r.2=true:=by unfold keepR;rw [em]
           repeat' (walk_at "rd1")
           refine rR (fun _=>?_) (fun hb=>by cases hb)
           repeat' (walk_at "rd1")
           refine yes _ _ ⟨rfl,?_⟩
           rw [List.filter_cons,ek,ekr]
           rfl
         . rw [em] at Wj
           simp only [mD] at Wj
           have ekr:keepR r.2=decide (r.2.2.no<m):=by unfold keepR;rw [em]
           repeat' (walk_at "rd1")
           refine rR (fun hb=>?_) (fun hb=>?_)
           . repeat' (walk_at "rd1")
             refine yes _ _ ⟨rfl,?_⟩
             rw [List.filter_cons,ek,ekr,hb]
             rfl
           . refine no _ ⟨rfl,?_⟩
             rw [List.filter_cons,ek,ekr,hb]
             exact(List.append_nil _).symm
       subst e1
       rw [Qn,List.take_length] at e2
       subst e2
       have hL8:=LR.filter (f:=w9) WY ZD rfl
       have s8:=bS (o:=.lst ((Qj.filter w9).map fun r=>V.ref r.1)) ZD
       have hk8:=hk7.keeps s8
       have hS8:=ax.seq s8 hS7
       have Xi:∀r∈Qj.filter w9,PyData.canLay0 (.str r.2.1.nm)=true:=fun r hr=>(QH r (List.mem_filter.mp hr).1).2
       have hl8:(Qj.filter w9).length<=8:=Nat.le_trans (List.length_filter_le _ _) hl7
       generalize upd H8' q8 (.lst ((Qj.filter w9).map fun r=>V.ref r.1))=H8 at*
       generalize Qj.filter w9=TQ at*
       clear QH WU WY hk7 hi7 hS7 Qn hl7 ZD s8
       have hi8:=hk8.ins
       unfold aP at hi8
       have Qn:((bX TQ).map fun b=>V.ref b.1).length=TQ.length:=by unfold bX;rw [List.length_map,List.length_map]
       have W4:∀r∈TQ,c9 H8 r.1 (dI r.2.1 r.2.2):=fun r hr=>hL8.row (r.1,dI r.2.1 r.2.2) (List.mem_map.mpr ⟨r,hr,rfl⟩)
       repeat' (walk_at "rd1")
       refine Hr (xs:=(bX TQ).map fun b=>V.ref b.1) (.inl (.inl hL8.at')) (by omega) (fun i acc H'=>ax H8 H'/\cK H' acc ((TQ.take i).map fun r=>qI r.2.1 r.2.2 (k6.sh+d))) ⟨ax.refl _,.nil⟩ (fun i acc H' hi ⟨sm,dv⟩=>⟨ax.seq sm (.inl (.inl hL8.at')),by rw [dv.length,List.length_map,List.length_take];omega⟩) (fun i x acc H' N hx ⟨sm,dv⟩ yes no=>?_) (fun acc H9 q9 ⟨sm,dv⟩ hn9=>?_)
       . rw [List.getElem?_map,bX,List.getElem?_map,Option.map_map] at hx
         obtain⟨r,hr,ev⟩:=Option.map_eq_some_iff.mp hx
         have ev:x=.ref r.1:=ev.symm
         subst ev
         have W6:r∈TQ:=List.mem_of_getElem? hr
         have Wj:=(W4 r W6).keeps sm
         repeat' (walk_at "rd1")
         refine rR (fun _=>?_) (fun hb=>by cases hb)
         repeat' (walk_at "rd1")
         refine V9 Wj (by omega) (by omega) (fun v Hv sv hv=>yes _ _ ⟨sm.trans sv,?_⟩)
         rw [take_snoc hr,List.map_append]
         exact cK.append (dv.keeps sv) (.cons hv .nil)
       rw [Qn,List.take_length] at dv
       have s9:=bS (o:=.lst acc) hn9
       have hk9:=hk8.keeps (sm.trans s9)
       have hL9:=hL8.keeps (sm.trans s9)
       have hS9:=ax.seq (sm.trans s9) hS8
       have aaI:Dv (upd H9 q9 (.lst acc)) (.ref q9) (.list ((TQ.map (·.2)).map fun r=>qI r.1 r.2 k7.sh)):=by
        rw [List.map_map,e7']
        exact .lst (.inl ao) (dv.keeps s9)
       have Zu:E6 ((TQ.map (·.2)).map fun r=>qI r.1 r.2 k7.sh):=R5 fun r hr=>by obtain⟨r0,h0,rfl⟩:=List.mem_map.mp hr;exact Xi r0 h0
       generalize upd H9 q9 (.lst acc)=H10 at*
       have hi9:=hk9.ins
       unfold aP at hi9
       clear hk8 hL8 hS8 W4 hi8 dv sm s9 hn9
       repeat' (walk_at "rd1")
       refine N1 hk9 (fun q11 H11 ss s11 ahC hN abI ZN=>?_)
       rw [UC.names hN abI,UC.known] at ZN
       have Mm:=aaI.keeps s11
       repeat' (walk_at "rd1")
       refine M8 ZN.dv Mm Zu ?_
       have abZ:=hk9.keeps s11
       have acg:=ax.seq s11 hS9
       have abn:=hL9.keeps s11
       clear hk9 hS9 hi9 aaI hL9
       repeat' (walk_at "rd1")
       refine Yc abZ Mm UC (by rw [List.length_map];omega) (by omega) (fun H12 to YG YM t4 t5 Ti=>?_)
       have ZK:Dv H12 (.ref q9) (.list ((TQ.map (·.2)).map fun r=>qI r.1 r.2 k7.sh)):=Dv.fr YG Mm (V2 _ _)
       have aeN:=YM.ins
       unfold aP at aeN
       have aem:=YG.sql acg
       have ae7:=LR.fr YG abn
       clear abZ acg abn ZN
       repeat' (walk_at "rd1")
       refine N1 YM (fun q13 H13 Nx s13 ag3 afb acM abl=>?_)
       rw [Ti.names afb acM,Ti.known] at abl
       repeat' (walk_at "rd1")
       refine M8 abl.dv (ZK.keeps s13) Zu ?_
       have abT:=YM.keeps s13
       have afx:=abT.ins
       unfold aP at afx
       repeat' (walk_at "rd1")
       have u1:=e7;have u2:=e7'
       refine⟨z1,some (.int (0+(j:Int))),some (.int d),some (.ref q9),q8,TQ,{k7 with now:=to},by show _=[_,_,_,_,_,some (V.int k7.sh),_,_,_];rw [e7'];rfl,abT,ae7.keeps s13,Ti,fun r hr=>hb7 r.2 (List.mem_map_of_mem hr),hl8,Xi,ax.seq s13 aem,?_,?_,?_,?_,?_⟩
       . show 0<=to;omega
       . show to<=60+31*((j+1:Nat):Int);omega
       . show -(10^22*((j+1:Nat):Int))<=k7.sh;omega
       . show k7.sh<=10^22*((j+1:Nat):Int);omega
       . show 0<=to+k7.sh;omega
     . rintro σ' H6 ⟨z1,z2,z3,z4,q6,Pq,k6,rfl,iv⟩
       have Ws:=iv.ZM
       have hi6:=Ws.ins
       unfold aP at hi6
       have aaE:∀r∈Pq,c9 H6 r.1 (dI r.2.1 r.2.2):=fun r hr=>iv.lr.row (r.1,dI r.2.1 r.2.2) (List.mem_map.mpr ⟨r,hr,rfl⟩)
       repeat' (walk_at "rd1")
       refine UX Ws (fun q7 H7 ss s7 hn7 hN afv hq7=>?_)
       rw [iv.rel.names hN afv] at hq7
       have WY:=iv.lr.keeps s7
       have Qn:((bX Pq).map fun b=>V.ref b.1).length=Pq.length:=by unfold bX;rw [List.length_map,List.length_map]
       have hl6:=iv.len
       repeat' (walk_at "rd1")
       refine Hr (xs:=(bX Pq).map fun b=>V.ref b.1) (.inl (.inl WY.at')) (by omega) (fun i acc H'=>H'=H7/\acc=(Pq.take i).map fun r=>V.str r.2.1.nm) ⟨rfl,rfl⟩ (fun i acc H' hi ⟨e1,e2⟩=>⟨by rw [e1];exact .inl (.inl WY.at'),by rw [e2,List.length_map,List.length_take];omega⟩) (fun i x acc H' N hx ⟨e1,e2⟩ yes no=>?_) (fun acc H8 q8 ⟨e1,e2⟩ ZD=>?_)
       . subst e1
         rw [List.getElem?_map,bX,List.getElem?_map,Option.map_map] at hx
         obtain⟨r,hr,ev⟩:=Option.map_eq_some_iff.mp hx
         have ev:x=.ref r.1:=ev.symm
         subst ev
         have Wj:=(aaE r (List.mem_of_getElem? hr)).keeps s7
         unfold dI at Wj
         repeat' (walk_at "rd1")
         refine rR (fun _=>?_) (fun hb=>by cases hb)
         repeat' (walk_at "rd1")
         refine yes _ _ ⟨rfl,?_⟩
         rw [take_snoc hr,List.map_append,e2];rfl
       subst e1
       rw [Qn,List.take_length] at e2
       subst e2
       have s8:=bS (o:=.lst (Pq.map fun r=>V.str r.2.1.nm)) ZD
       have hq8:Dv (upd H8 q8 (.lst (Pq.map fun r=>V.str r.2.1.nm))) (.ref q8) (.list (((Pq.map (·.2)).map gN).map PyData.str)):=by
        rw [List.map_map,List.map_map]
        refine .lst (.inl ao) ?_
        exact NK _ _
       refine M8 (hq7.keeps s8).dv hq8 (Ku fun n hn=>?_) ?_
       . obtain⟨r',Vl,rfl⟩:=List.mem_map.mp hn
         obtain⟨r,hr,rfl⟩:=List.mem_map.mp Vl
         exact iv.can r hr
       repeat' (walk_at "rd1")
       exact q _
end
end My
open PySem PySem.W PyProof.Rows
local macro_rules|`(tactic|walk_at "k_dg")=>`(tactic|(refine' ⟨?a,⟨_,L2.NB ?l ?c⟩,?k⟩;(case a=>k_is);(case l=>k_is);(case c=>k_is);(case k=>k_is)))
local macro_rules|`(tactic|walk_at "k_dm")=>`(tactic|(refine' ⟨?a,⟨_,L2.NB ?l ?c⟩,?k,?i⟩;(case a=>k_is);(case l=>k_is);(case c=>k_is);(case k=>k_is);(case i=>k_is)))
local macro_rules|`(tactic|walk_at "k_dt")=>`(tactic|(refine' My.V5 ?l;(case l=>k_is)))
local macro_rules|`(tactic|walk_at "k_ck")=>`(tactic|(refine' ⟨?a,?b,?c,?d,?e,?f,?g⟩;(case a=>k_is);(case b=>k_is);(case c=>k_is);(case d=>k_is);(case e=>k_is);(case f=>k_is);(case g=>k_is)))
set_option maxRecDepth 100000 in
set_option maxHeartbeats 0 in
theorem PySem.Challenge.cw_wakefew_k60_the_days_clock_holds : PySem.Challenge.rw_wakefew_k60_the_days_clock.Holds := by
 refine Hd ?_
 k_fill
 refine L2.Sx (l:=PySem.Challenge.rw_wakefew_k60_the_days_clock) (n:=63) (k:=30) (x:="_law_script") (CX:=L2.fF) (sp:=My.QN) rfl (by decide) rfl ⟨rfl,by decide,by decide⟩ (fun w h Y=>PySem.W.kIn_of Y) ?F ?S ?C
 case F=>
  intro w mg fa h KX G hmg
  have T:∃a:My.Ad,a.ym=a.ym/\My.Txt (L2.KOf KX) mg a:=by
   dsimp only [L2.KOf]
   refine' My.Zg KX G ?h0 ?h1 ?h2 ?h3 ?h4 ?h5 ?h6 ?h7 ?h8 ?h11 ?h12 ?h13 ?h14 ?h15 ?h16 ?h17 ?h19 ?h20 ?h21 ?h22 ?h23 ?h24 ?h25 ?h26 ?h27 ?h28 ?h29 ?h30 ?h31 ?h32 ?h34 ?h35 ?h36 ?h37 ?h38 ?h39 ?h40 ?h41 ?h42 ?h43 ?h44 ?h45 ?h46 ?h47 ?h48 ?h49 ?h50 ?h51 ?h52 ?h53 ?h55 ?h56 ?h57 ?h58 ?h59 ?h60 ?h61 ?h62 ?h63 ?h65 ?h66 ?h67 ?h68 ?h69 ?h70 ?h71 ?h72 ?h73 ?h74 ?h75 ?h76 ?h77 ?h78 ?h79 ?h80 ?h81 ?h82 ?h83 ?h84 ?h85 ?h86 ?h87 ?h88 ?h89 ?h90 ?h91 ?h92 ?h93 ?h94 ?h95 ?h96 ?h97 ?h98 ?h99 ?h100 ?h104 ?h105 ?h106 ?h107 ?h108 ?h109 ?h110 ?h111 ?h112 ?h113 ?h114 ?h115 ?h119 ?h120 ?h121 ?h122 ?h123 ?h124 ?h125 ?h126 ?h127 ?h129 ?h130 ?h131 ?h132 ?h133 ?h134 ?h135 ?h136 ?h137 ?h138 ?h139 ?h143 ?h144 ?h145 ?h146 ?h147 ?h148 ?h149 ?h150 ?h151 ?h152 ?h153 ?h154 ?h155 ?h156 ?h157 ?h158 ?h159 ?h160 ?h161 ?h162 ?h163 ?h164 ?h165 ?h166 ?h167 ?h171 ?h172 ?h173 ?h174 ?h175 ?h176 ?h177 ?h178 ?h179 ?h180 ?h182 ?h183 ?h184 ?h185
   (case h0=>k_is)
   (case h1=>k_is)
   (case h2=>k_is)
   (case h3=>k_is)
   (case h4=>k_is)
   (case h5=>k_is)
   (case h6=>k_is)
   (case h7=>k_is)
   (case h8=>k_is)
   (case h11=>walk_at "k_dm")
   (case h12=>walk_at "k_dm")
   (case h13=>walk_at "k_dm")
   (case h14=>walk_at "k_dm")
   (case h15=>walk_at "k_dm")
   (case h16=>walk_at "k_dm")
   (case h17=>walk_at "k_dm")
   (case h19=>walk_at "k_dm")
   (case h20=>walk_at "k_dm")
   (case h21=>walk_at "k_dt")
   (case h22=>walk_at "k_dm")
   (case h23=>walk_at "k_dm")
   (case h24=>walk_at "k_dm")
   (case h25=>walk_at "k_dm")
   (case h26=>walk_at "k_dm")
   (case h27=>walk_at "k_dm")
   (case h28=>walk_at "k_dm")
   (case h29=>walk_at "k_dm")
   (case h30=>walk_at "k_dm")
   (case h31=>walk_at "k_dg")
   (case h32=>walk_at "k_dm")
   (case h34=>walk_at "k_dm")
   (case h35=>walk_at "k_dm")
   (case h36=>walk_at "k_dm")
   (case h37=>walk_at "k_dm")
   (case h38=>walk_at "k_dm")
   (case h39=>walk_at "k_dm")
   (case h40=>walk_at "k_dm")
   (case h41=>walk_at "k_dm")
   (case h42=>walk_at "k_dm")
   (case h43=>walk_at "k_dm")
   (case h44=>walk_at "k_dm")
   (case h45=>walk_at "k_dm")
   (case h46=>walk_at "k_dt")
   (case h47=>walk_at "k_dm")
   (case h48=>walk_at "k_dt")
   (case h49=>walk_at "k_dm")
   (case h50=>walk_at "k_dm")
   (case h51=>walk_at "k_dt")
   (case h52=>walk_at "k_dm")
   (case h53=>walk_at "k_dm")
   (case h55=>walk_at "k_dm")
   (case h56=>walk_at "k_dg")
   (case h57=>walk_at "k_dg")
   (case h58=>walk_at "k_dm")
   (case h59=>walk_at "k_dm")
   (case h60=>walk_at "k_dm")
   (case h61=>walk_at "k_dt")
   (case h62=>walk_at "k_dm")
   (case h63=>walk_at "k_dm")
   (case h65=>walk_at "k_dm")
   (case h66=>walk_at "k_dm")
   (case h67=>walk_at "k_dm")
   (case h68=>walk_at "k_dt")
   (case h69=>walk_at "k_dm")
   (case h70=>walk_at "k_dm")
   (case h71=>walk_at "k_dm")
   (case h72=>walk_at "k_dm")
   (case h73=>walk_at "k_dg")
   (case h74=>walk_at "k_dg")
   (case h75=>walk_at "k_dg")
   (case h76=>walk_at "k_dg")
   (case h77=>walk_at "k_dg")
   (case h78=>walk_at "k_dg")
   (case h79=>walk_at "k_dg")
   (case h80=>walk_at "k_dg")
   (case h81=>walk_at "k_dg")
   (case h82=>walk_at "k_dg")
   (case h83=>walk_at "k_dg")
   (case h84=>walk_at "k_ck")
   (case h85=>k_is)
   (case h86=>k_is)
   (case h87=>k_is)
   (case h88=>k_is)
   (case h89=>k_is)
   (case h90=>k_is)
   (case h91=>k_is)
   (case h92=>k_is)
   (case h93=>k_is)
   (case h94=>k_is)
   (case h95=>k_is)
   (case h96=>walk_at "k_ck")
   (case h97=>k_is)
   (case h98=>k_is)
   (case h99=>k_is)
   (case h100=>k_is)
   (case h104=>walk_at "k_ck")
   (case h105=>k_is)
   (case h106=>k_is)
   (case h107=>k_is)
   (case h108=>k_is)
   (case h109=>k_is)
   (case h110=>k_is)
   (case h111=>k_is)
   (case h112=>k_is)
   (case h113=>k_is)
   (case h114=>k_is)
   (case h115=>k_is)
   (case h119=>walk_at "k_ck")
   (case h120=>k_is)
   (case h121=>k_is)
   (case h122=>k_is)
   (case h123=>k_is)
   (case h124=>k_is)
   (case h125=>k_is)
   (case h126=>k_is)
   (case h127=>k_is)
   (case h129=>k_is)
   (case h130=>k_is)
   (case h131=>k_is)
   (case h132=>k_is)
   (case h133=>k_is)
   (case h134=>k_is)
   (case h135=>k_is)
   (case h136=>k_is)
   (case h137=>k_is)
   (case h138=>k_is)
   (case h139=>k_is)
   (case h143=>walk_at "k_ck")
   (case h144=>k_is)
   (case h145=>k_is)
   (case h146=>k_is)
   (case h147=>k_is)
   (case h148=>k_is)
   (case h149=>k_is)
   (case h150=>k_is)
   (case h151=>walk_at "k_ck")
   (case h152=>k_is)
   (case h153=>k_is)
   (case h154=>k_is)
   (case h155=>k_is)
   (case h156=>k_is)
   (case h157=>k_is)
   (case h158=>k_is)
   (case h159=>decide)
   (case h160=>decide)
   (case h161=>decide)
   (case h162=>decide)
   (case h163=>decide)
   (case h164=>decide)
   (case h165=>decide)
   (case h166=>decide)
   (case h167=>decide)
   (case h171=>k_is)
   (case h172=>k_is)
   (case h173=>k_is)
   (case h174=>k_is)
   (case h175=>k_is)
   (case h176=>k_is)
   (case h177=>k_is)
   (case h178=>k_is)
   (case h179=>k_is)
   (case h180=>k_is)
   (case h182=>k_is)
   (case h183=>k_is)
   (case h184=>k_is)
   (case h185=>k_is)
  obtain⟨a,_,T⟩:=T
  have e0:=hmg.symm.trans T.Ss
  cases e0
  exact⟨a.IP,fun s u=>My.OQ T s u,fun base kb nb=>(My.ZV T).mono (by decide)⟩
 case S=>exact fun K H l ns hl hO hS=>⟨l,ns,rfl,hS,hl,fun _=>rfl⟩
 case C=>exact fun H s e s' h=>h
