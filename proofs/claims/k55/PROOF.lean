import PyProof.Rows.All
import Wide.All
import OpenK.KSplit
import OpenK.KNot
import OpenK.KApp
import KE.KPop
import KE.KListMore
import KE.RegKMod
import KE.KDictOf
import KE.KDictMeth
import KE.KEqSeq
import KE.KSlice
import KE.GnPush
import KE.KSorted
import KE.KJoinElse
import KE.RegTryLedger
import KE.KTops
import KE.RegKSuper
import KE.KSort
import KE.KDictLoop
import KE.RegLcTurns
import KE.RegLcAnyAll
import KE.KCat
import KE.KTemps
import KE.KTup
import KE.KxMul
import KE.KxSplit
import KE.KxIndex
import KE.KxText
import KE.KCells
import KE.KPassesOwn
import KE.RegKIsNot
import KE.KTempsTwo
import KE.KSetInts
import KE.KSortedL
import KE.KxBytes
import KE.KClos
import KE.KNestStore
import KE.KOwnIter
import KE.KStopIter
import KE.RegKBase
import KE.KDictOne
import KE.RegKMathG
import KE.KDictAny
import KE.RegKCallOwn
import KE.KSliceW
import KE.KxDecode
import KE.RegKMathGB
import KE.KLam
import KE.KDictBranch
import KE.KTree
import KE.KTreeB
import KE.KNestM
import KE.KDflt
import KE.KOwnIterCall
import KE.KSortedM
import KE.KTurns
import KE.KEqText
import KE.KxLen
import KE.RegKMathGC
import KE.KIsClose
import KE.KEqDict
import KE.KDisp
import KE.KDictAnyGet
import KE.KDictObj
import KE.KSetIn
import KE.KRevSl
import KE.KEqDeep
import KE.KAnyBase
import KE.KBoundM
import KE.KWhile
import KE.KRevIter
import KE.KCount
import KE.KTreeR
import KE.KxStill
import KE.KFinally
import KE.KTopLam
import KE.KWithOwn
import KE.KCases
import KE.KOpsOwn
import KE.KDictNew
import KE.KDictList
import KE.KDictIter
import KE.RegKUnpackStar
import KE.KSortAsk
import KE.KWhileD
import KE.KLcTest
import KE.KSumEnd
import KE.KPopAny
import KE.KGrown
import KE.KItemAt
import KE.KTextLit
import KE.KTupDict
import KE.KFmtOwn
import KE.KUnrMore
import KE.KMinKey
import KE.KTurnsDict
import KE.KExtendNil
import KE.KMethU
import KE.BytesMul
import KE.KCompFold
import KE.KDictSum
import KE.KDictName
import KE.KDictSym
import KE.KTurnsAny
import KE.KDictAnyTail
import KE.RegKStar
import KE.RegKParD
import KE.RegKTupTruth
import KE.RegKTupSum
import KE.KCallJoin
import KE.KMethJoin
import KE.KPathRangeEnd
import KE.KStateW
import KE.RegKParC
import KE.KxWritten
import KE.KxAdd
import KE.KxAffix
import KE.KxField
import KE.RegKIsAll
import KE.RegKMatchCls
import KE.KLcPair
import KE.RegKTryDeep
import KE.KJoinL
import KE.RegKNeg
import KE.KxPercentT
import KE.KBytesCut
import KE.KCellOne
import KE.KCompIf
import KE.KMenu
import KE.KxFormat
import KE.KTypeName
import KE.KCompText
import KE.BytesMulAny
import KE.KDictSymLen
import KE.KSortTup
import KE.KPairAssign
import KE.KTypeOf
import KE.KFinEnd
import KE.KMulAny
import KE.KBytesMenu
import KE.KTextDict
import KE.KPathShort
import KE.KSplitRange
import KE.KKinds
import KE.KxPart
import KE.KRangeItem
import KE.KDictLetter
import KE.KRangeNest
import KE.KSetAt
import KE.KWords
import KE.KxTruthy
import KE.KPairRows
import KE.KBytesMore
import KE.RegKStateDown
import KE.KItemsList
import KE.KRangePlain
import KE.KStateGiven
import KE.KBitsMul
import KE.KTextTable
import KE.KForList
import KE.KIdxIf
import KE.KAssignIn
import KE.KFirstTurn
import KE.KOwnRange
import KE.KLooksOwn
import KE.KDictWord
import KE.KStrOpen
import KE.KTurnsGround
import KE.KListEnd
import KE.KSearch
import KE.KFinFacts
import KE.RegKTryOn
import KE.KCenter
import KE.KStrWords
import KE.KStateTextK
import KE.KBools
import KE.KStateWGiven
import KE.KData
import KE.KCallTup
import KE.KTreeD
import KE.KTreeF
import KE.KEndWord
import KE.KStateBytes
import KE.KRangeEnd
import KE.KOf
import KE.KRepItem
import KE.KListLetter
import KE.KSliceSign
import KE.KCallBy
import KE.KToBytes
import KE.KPathText
import KE.KMinBuiltin
import KE.KFromBytes
import KE.KEqDat
import KE.KBytesUnr
import KE.KIsBytes
import KE.KCallRec
import KE.KEndW
import KE.RegLGe
import KE.RegLGeC
import Wide.FinOn
import Wide.FinOn
import Lean
import PyProof.EqAt
import PyProof.EqKinds
import PyProof.TupleCall
import PyProof.StrLawsRepr
import Open.Tops
import PySem.Challenge.RW_wakefew_k55_what_follows
theorem PySem.W.Fast.tw17878773198537129709 : True := trivial
theorem PySem.W.Fast.tw6205779181370732254 : True := trivial
theorem PySem.W.Fast.tw4688899668895332428 : True := trivial
theorem PySem.W.Fast.tw818996134561695058 : True := trivial
theorem PySem.W.Fast.tw10151413363030729255 : True := trivial
theorem PySem.W.Fast.tw11185003161287928108 : True := trivial
theorem PySem.W.Fast.tw16624812027844406731 : True := trivial
theorem PySem.W.Fast.tw7394834720292931699 : True := trivial
theorem PySem.W.Fast.tw5844118565966479794 : True := trivial
theorem PySem.W.Fast.tw9577221689991544876 : True := trivial
theorem PySem.W.Fast.tw14162042446855129748 : True := trivial
theorem PySem.W.Fast.tw9854384245753414132 : True := trivial
theorem PySem.W.Fast.tw219238486271612305 : True := trivial
theorem PySem.W.Fast.tw2083378578840661171 : True := trivial
theorem PySem.W.Fast.tw389460512455375433 : True := trivial
theorem PySem.W.Fast.tw14894360031444770001 : True := trivial
theorem PySem.W.Fast.tw13194152482281430920 : True := trivial
theorem PySem.W.Fast.tw7244325951981790982 : True := trivial
theorem PySem.W.Fast.tw12206040237674822780 : True := trivial
theorem PySem.W.Fast.tw18018394128165263624 : True := trivial
theorem PySem.W.Fast.tw433449533723322577 : True := trivial
theorem PySem.W.Fast.tw7089085081154674473 : True := trivial
theorem PySem.W.Fast.tw8981379171909059516 : True := trivial
theorem PySem.W.Fast.tw4053840547174470956 : True := trivial
theorem PySem.W.Fast.tw17470960011608160548 : True := trivial
theorem PySem.W.Fast.tw5317702083494036362 : True := trivial
theorem PySem.W.Fast.tw982222388608359713 : True := trivial
theorem PySem.W.Fast.tw17803432684127973507 : True := trivial
theorem PySem.W.Fast.tw7366042042178159057 : True := trivial
theorem PySem.W.Fast.tw5384274166274354063 : True := trivial
theorem PySem.W.Fast.tw11805960559011504200 : True := trivial
theorem PySem.W.Fast.tw15717551191377990858 : True := trivial
theorem PySem.W.Fast.tw16950844257568816438 : True := trivial
theorem PySem.W.Fast.tw18419171657143160329 : True := trivial
theorem PySem.W.Fast.tw17740787836525544817 : True := trivial
theorem PySem.W.Fast.tw18237346124708150851 : True := trivial
theorem PySem.W.Fast.tw12581023948866842235 : True := trivial
theorem PySem.W.Fast.tw5811401377831331370 : True := trivial
theorem PySem.W.Fast.tw10127615276258628667 : True := trivial
theorem PySem.W.Fast.tw12472142256307527014 : True := trivial
theorem PySem.W.Fast.tw13089500736524491784 : True := trivial
theorem PySem.W.Fast.tw6850561903244752266 : True := trivial
theorem PySem.W.Fast.tw14866076559255397635 : True := trivial
theorem PySem.W.Fast.tw7737460710696549043 : True := trivial
theorem PySem.W.Fast.tw2407804650245558537 : True := trivial
theorem PySem.W.Fast.tw932839701382126404 : True := trivial
theorem PySem.W.Fast.tw387439790479957101 : True := trivial
theorem PySem.W.Fast.tw12766321275151251858 : True := trivial
theorem PySem.W.Fast.tw1026304854190277863 : True := trivial
theorem PySem.W.Fast.tw2942362052477998075 : True := trivial
theorem PySem.W.Fast.tw4309138924523168392 : True := trivial
theorem PySem.W.Fast.tw7820517584449319492 : True := trivial
theorem PySem.W.Fast.tw11145303427617460817 : True := trivial
theorem PySem.W.Fast.tw9180884327369088417 : True := trivial
theorem PySem.W.Fast.tw2565740928008074661 : True := trivial
theorem PySem.W.Fast.tw1892951376047984078 : True := trivial
theorem PySem.W.Fast.tw212244500341540496 : True := trivial
theorem PySem.W.Fast.tw1760287710840159954 : True := trivial
theorem PySem.W.Fast.tw11482921538907906311 : True := trivial
theorem PySem.W.Fast.tw11914825063717489122 : True := trivial
theorem PySem.W.Fast.tw380436146446339348 : True := trivial
theorem PySem.W.Fast.tw2294418403102800241 : True := trivial
theorem PySem.W.Fast.tw15059220801243882193 : True := trivial
theorem PySem.W.Fast.tw1906427671069177679 : True := trivial
theorem PySem.W.Fast.tw5468161347355754247 : True := trivial
theorem PySem.W.Fast.tw6641742691332238137 : True := trivial
theorem PySem.W.Fast.tw11814690763263429045 : True := trivial
theorem PySem.W.Fast.tw12625478007034190409 : True := trivial
theorem PySem.W.Fast.tw8145289162921337578 : True := trivial
theorem PySem.W.Fast.tw119905698561759969 : True := trivial
theorem PySem.W.Fast.tw3399046053535527167 : True := trivial
theorem PySem.W.Fast.tw14407044084701244284 : True := trivial
theorem PySem.W.Fast.tw9140779041739362165 : True := trivial
theorem PySem.W.Fast.tw9891699520288416642 : True := trivial
theorem PySem.W.Fast.tw1351866352697404703 : True := trivial
theorem PySem.W.Fast.tw748149187538724641 : True := trivial
theorem PySem.W.Fast.tw10212470720385199361 : True := trivial
theorem PySem.W.Fast.tw7927560891241789511 : True := trivial
theorem PySem.W.Fast.tw39935864262516149 : True := trivial
theorem PySem.W.Fast.tw6429869279970101809 : True := trivial
theorem PySem.W.Fast.tw14347113003751706384 : True := trivial
theorem PySem.W.Fast.tw3156621366056172190 : True := trivial
theorem PySem.W.Fast.tw7581625409662590524 : True := trivial
theorem PySem.W.Fast.tw9721885262939799754 : True := trivial
theorem PySem.W.Fast.tw17501279599382823539 : True := trivial
theorem PySem.W.Fast.tw6407227110712465570 : True := trivial
theorem PySem.W.Fast.tw1964642904833710869 : True := trivial
theorem PySem.W.Fast.tw13591436079061601182 : True := trivial
theorem PySem.W.Fast.tw12990989066046625634 : True := trivial
theorem PySem.W.Fast.tw12107527867127949713 : True := trivial
theorem PySem.W.Fast.tw13925150339005124135 : True := trivial
theorem PySem.W.Fast.tw2913750833435349869 : True := trivial
theorem PySem.W.Fast.tw11179917383104445964 : True := trivial
theorem PySem.W.Fast.tw12071291858852918993 : True := trivial
theorem PySem.W.Fast.tw1307544393353837674 : True := trivial
theorem PySem.W.Fast.tw18235393099878211139 : True := trivial
theorem PySem.W.Fast.tw6968123214355550982 : True := trivial
theorem PySem.W.Fast.tw17018168221887167637 : True := trivial
theorem PySem.W.Fast.tw14291182948620310445 : True := trivial
theorem PySem.W.Fast.tw444445074729331875 : True := trivial
theorem PySem.W.Fast.tw7347646299108533977 : True := trivial
theorem PySem.W.Fast.tw15173366979564246683 : True := trivial
theorem PySem.W.Fast.tw13125339067316032245 : True := trivial
theorem PySem.W.Fast.tw2822231583121631232 : True := trivial
theorem PySem.W.Fast.tw308353505034223219 : True := trivial
theorem PySem.W.Fast.tw14677231046333857634 : True := trivial
theorem PySem.W.Fast.tw13310439171616397214 : True := trivial
theorem PySem.W.Fast.tw9951632785380977516 : True := trivial
theorem PySem.W.Fast.tw330155496319486698 : True := trivial
theorem PySem.W.Fast.tw2878675010942456310 : True := trivial
theorem PySem.W.Fast.tw16485079249861435747 : True := trivial
theorem PySem.W.Fast.tw14099154032067854933 : True := trivial
theorem PySem.W.Fast.tw10912852554242822862 : True := trivial
theorem PySem.W.Fast.tw2794473791459032557 : True := trivial
theorem PySem.W.Fast.tw14253553031324457403 : True := trivial
theorem PySem.W.Fast.tw17786680949362927507 : True := trivial
theorem PySem.W.Fast.tw284906294303510122 : True := trivial
theorem PySem.W.Fast.tw9061534103479078433 : True := trivial
theorem PySem.W.Fast.tw14420234992866001998 : True := trivial
theorem PySem.W.Fast.tw16741903990676291244 : True := trivial
theorem PySem.W.Fast.tw15389834410643222801 : True := trivial
theorem PySem.W.Fast.tw17889265433203076371 : True := trivial
theorem PySem.W.Fast.tw14981889246304208723 : True := trivial
theorem PySem.W.Fast.tw10477954568442847293 : True := trivial
theorem PySem.W.Fast.tw16093653414049546652 : True := trivial
theorem PySem.W.Fast.tw14947457668237752282 : True := trivial
theorem PySem.W.Fast.tw3353767071951380034 : True := trivial
theorem PySem.W.Fast.tw5165136663516818375 : True := trivial
theorem PySem.W.Fast.tw3242197841772289459 : True := trivial
theorem PySem.W.Fast.tw14111624326486854553 : True := trivial
theorem PySem.W.Fast.tw8424079334735725799 : True := trivial
theorem PySem.W.Fast.tw15081236047687262128 : True := trivial
theorem PySem.W.Fast.tw15199445844855730559 : True := trivial
theorem PySem.W.Fast.tw1366662211000280441 : True := trivial
theorem PySem.W.Fast.tw9540299111728397919 : True := trivial
theorem PySem.W.Fast.tw6019170903600864635 : True := trivial
theorem PySem.W.Fast.tw11012358312403900441 : True := trivial
theorem PySem.W.Fast.tw5944044104789604262 : True := trivial
theorem PySem.W.Fast.tw15788884795102350304 : True := trivial
theorem PySem.W.Fast.tw2560717606541366124 : True := trivial
theorem PySem.W.Fast.tw1526894229836929839 : True := trivial
theorem PySem.W.Fast.tw14448676985275196306 : True := trivial
theorem PySem.W.Fast.tw10861445820734739572 : True := trivial
theorem PySem.W.Fast.tw2564537010982801535 : True := trivial
theorem PySem.W.Fast.tw10533029409156384213 : True := trivial
theorem PySem.W.Fast.tw9594228919237993028 : True := trivial
theorem PySem.W.Fast.tw17043358873854988142 : True := trivial
theorem PySem.W.Fast.tw4462040801977109988 : True := trivial
theorem PySem.W.Fast.tw1833978884193336600 : True := trivial
theorem PySem.W.Fast.tw2076369439776739980 : True := trivial
theorem PySem.W.Fast.tw12426757024851360890 : True := trivial
theorem PySem.W.Fast.tw5683978775287113040 : True := trivial
theorem PySem.W.Fast.tw5557488513432386349 : True := trivial
theorem PySem.W.Fast.tw8791039300013004528 : True := trivial
theorem PySem.W.Fast.tw12182310775543803801 : True := trivial
theorem PySem.W.Fast.tw1187882972062588736 : True := trivial
theorem PySem.W.Fast.tw7207901180512256519 : True := trivial
theorem PySem.W.Fast.tw4455255329965559759 : True := trivial
theorem PySem.W.Fast.tw3599461420086565053 : True := trivial
theorem PySem.W.Fast.tw6476751086967210748 : True := trivial
theorem PySem.W.Fast.tw11524326961157196150 : True := trivial
theorem PySem.W.Fast.tw4632030239678645568 : True := trivial
theorem PySem.W.Fast.tw7118287117881191995 : True := trivial
theorem PySem.W.Fast.tw7551268745164000144 : True := trivial
theorem PySem.W.Fast.tw17948695273261511480 : True := trivial
theorem PySem.W.Fast.tw11181045733492946789 : True := trivial
theorem PySem.W.Fast.tw13919834685332247677 : True := trivial
theorem PySem.W.Fast.tw8086441514836349272 : True := trivial
theorem PySem.W.Fast.tw6720961196733876561 : True := trivial
theorem PySem.W.Fast.tw17862835070871886679 : True := trivial
theorem PySem.W.Fast.tw1240304842524433879 : True := trivial
theorem PySem.W.Fast.tw9537990068813546550 : True := trivial
theorem PySem.W.Fast.tw2026872144773375673 : True := trivial
theorem PySem.W.Fast.tw3980051727153239036 : True := trivial
theorem PySem.W.Fast.tw9827238231941667573 : True := trivial
theorem PySem.W.Fast.tw4453004579427868663 : True := trivial
theorem PySem.W.Fast.tw15079852113623859005 : True := trivial
theorem PySem.W.Fast.tw6030172380048908837 : True := trivial
theorem PySem.W.Fast.tw13182780279594409503 : True := trivial
theorem PySem.W.Fast.tw753945940515399995 : True := trivial
theorem PySem.W.Fast.tw1050709158331754453 : True := trivial
theorem PySem.W.Fast.tw9415545516455921876 : True := trivial
theorem PySem.W.Fast.tw13400736202888357210 : True := trivial
theorem PySem.W.Fast.tw3596206658881992321 : True := trivial
theorem PySem.W.Fast.tw1977715418491230762 : True := trivial
theorem PySem.W.Fast.tw7834668301975295240 : True := trivial
theorem PySem.W.Fast.tw7317323291525427346 : True := trivial
theorem PySem.W.Fast.tw977691957141392938 : True := trivial
theorem PySem.W.Fast.tw8565271008717102421 : True := trivial
theorem PySem.W.Fast.tw16249601066440288368 : True := trivial
theorem PySem.W.Fast.tw2575711175096378128 : True := trivial
theorem PySem.W.Fast.tw17359472562608848581 : True := trivial
theorem PySem.W.Fast.tw10576397790562642116 : True := trivial
theorem PySem.W.Fast.tw5839811628954936531 : True := trivial
theorem PySem.W.Fast.tw10662273486947106557 : True := trivial
theorem PySem.W.Fast.tw13854082105827200728 : True := trivial
theorem PySem.W.Fast.tw17979580070261624384 : True := trivial
theorem PySem.W.Fast.tw4218860218786981117 : True := trivial
theorem PySem.W.Fast.tw11210968968318344332 : True := trivial
theorem PySem.W.Fast.tw982841736277156856 : True := trivial
theorem PySem.W.Fast.tw4975513086277178841 : True := trivial
theorem PySem.W.Fast.tw10863821998943625736 : True := trivial
theorem PySem.W.Fast.tw6600281296786385625 : True := trivial
theorem PySem.W.Fast.tw14179209121697479999 : True := trivial
theorem PySem.W.Fast.tw16180317692903276554 : True := trivial
theorem PySem.W.Fast.tw16678828470329988300 : True := trivial
theorem PySem.W.Fast.tw15338601281160584150 : True := trivial
theorem PySem.W.Fast.tw9021635154514321135 : True := trivial
theorem PySem.W.Fast.tw16966448446441443068 : True := trivial
theorem PySem.W.Fast.tw17978253909558296913 : True := trivial
theorem PySem.W.Fast.tw18281952040436542241 : True := trivial
theorem PySem.W.Fast.tw6880419655195569729 : True := trivial
theorem PySem.W.Fast.tw4115973798738251835 : True := trivial
theorem PySem.W.Fast.tw15816036160855742018 : True := trivial
theorem PySem.W.Fast.tw18149267477751133311 : True := trivial
theorem PySem.W.Fast.tw17793947221508411462 : True := trivial
theorem PySem.W.Fast.tw5920178813569880808 : True := trivial
theorem PySem.W.Fast.tw658113280966554574 : True := trivial
theorem PySem.W.Fast.tw4988139480266079192 : True := trivial
theorem PySem.W.Fast.tw5946609750684043878 : True := trivial
theorem PySem.W.Fast.tw1268939047144981037 : True := trivial
theorem PySem.W.Fast.tw18078215364868786174 : True := trivial
theorem PySem.W.Fast.tw4458504747134125224 : True := trivial
theorem PySem.W.Fast.tw13320976621430207736 : True := trivial
theorem PySem.W.Fast.tw4918430437565292852 : True := trivial
theorem PySem.W.Fast.tw11038084542628327569 : True := trivial
theorem PySem.W.Fast.tw17975175477570296449 : True := trivial
theorem PySem.W.Fast.tw6287397193617334223 : True := trivial
theorem PySem.W.Fast.tw17439761879875034860 : True := trivial
theorem PySem.W.Fast.tw18315401575844057273 : True := trivial
theorem PySem.W.Fast.tw9718569976908507885 : True := trivial
theorem PySem.W.Fast.tw12026496865941077550 : True := trivial
theorem PySem.W.Fast.tw7318734959406586979 : True := trivial
theorem PySem.W.Fast.tw7025214513970256633 : True := trivial
theorem PySem.W.Fast.tw8064930512264004242 : True := trivial
theorem PySem.W.Fast.tw8933422723426177084 : True := trivial
theorem PySem.W.Fast.tw14735054849823357656 : True := trivial
theorem PySem.W.Fast.tw16632697889459769377 : True := trivial
theorem PySem.W.Fast.tw13051566134867211820 : True := trivial
theorem PySem.W.Fast.tw957670427503256309 : True := trivial
theorem PySem.W.Fast.tw15270067636181877322 : True := trivial
theorem PySem.W.Fast.tw476310757079433885 : True := trivial
theorem PySem.W.Fast.tw14548323457163451643 : True := trivial
theorem PySem.W.Fast.tw5360732557081287197 : True := trivial
theorem PySem.W.Fast.tw13537824549585559560 : True := trivial
theorem PySem.W.Fast.tw1837639620418267082 : True := trivial
theorem PySem.W.Fast.tw10554890785379117758 : True := trivial
theorem PySem.W.Fast.tw10690283753006864979 : True := trivial
theorem PySem.W.Fast.tw16962866602598701259 : True := trivial
theorem PySem.W.Fast.tw11782098921328135167 : True := trivial
theorem PySem.W.Fast.tw18015803555220604798 : True := trivial
theorem PySem.W.Fast.tw15008188029789985582 : True := trivial
theorem PySem.W.Fast.tw16199722058092477377 : True := trivial
theorem PySem.W.Fast.tw6666559043179924279 : True := trivial
theorem PySem.W.Fast.tw7608669079472480322 : True := trivial
theorem PySem.W.Fast.tw5665416448403834472 : True := trivial
theorem PySem.W.Fast.tw2220783733076799773 : True := trivial
theorem PySem.W.Fast.tw8063590797839305651 : True := trivial
theorem PySem.W.Fast.tw16961107188082410440 : True := trivial
theorem PySem.W.Fast.tw11674235701227890782 : True := trivial
theorem PySem.W.Fast.tw13111761946570332661 : True := trivial
theorem PySem.W.Fast.tw9939486631573497674 : True := trivial
theorem PySem.W.Fast.tw2032543033472252152 : True := trivial
theorem PySem.W.Fast.tw1008901440435212883 : True := trivial
theorem PySem.W.Fast.tw6357015326957433426 : True := trivial
theorem PySem.W.Fast.tw4048263236327177369 : True := trivial
theorem PySem.W.Fast.tw2251585011891715662 : True := trivial
theorem PySem.W.Fast.tw17032099095617713375 : True := trivial
theorem PySem.W.Fast.tw4049138910170047373 : True := trivial
theorem PySem.W.Fast.tw18059275656991184227 : True := trivial
theorem PySem.W.Fast.tw15590885761552719664 : True := trivial
theorem PySem.W.Fast.tw9846508814454223313 : True := trivial
theorem PySem.W.Fast.tw12543952639780502126 : True := trivial
theorem PySem.W.Fast.tw4830287607847617366 : True := trivial
theorem PySem.W.Fast.tw15272866178808001886 : True := trivial
theorem PySem.W.Fast.tw5239894190616295485 : True := trivial
theorem PySem.W.Fast.tw3838214434959174751 : True := trivial
theorem PySem.W.Fast.tw5686558104948313441 : True := trivial
theorem PySem.W.Fast.tw8841975695866081122 : True := trivial
theorem PySem.W.Fast.tw14665838936543158005 : True := trivial
theorem PySem.W.Fast.tw2258556112107802059 : True := trivial
theorem PySem.W.Fast.tw14960208021732247765 : True := trivial
theorem PySem.W.Fast.tw1011409171088523512 : True := trivial
theorem PySem.W.Fast.tw14530403189748425150 : True := trivial
theorem PySem.W.Fast.tw8280689904542544944 : True := trivial
theorem PySem.W.Fast.tw7177849561239576040 : True := trivial
theorem PySem.W.Fast.tw15365769621260869489 : True := trivial
theorem PySem.W.Fast.tw11432329810077403914 : True := trivial
theorem PySem.W.Fast.tw16145758369855077985 : True := trivial
theorem PySem.W.Fast.tw15811669350086547624 : True := trivial
theorem PySem.W.Fast.tw4187228424340264485 : True := trivial
theorem PySem.W.Fast.tw8806151841239194061 : True := trivial
theorem PySem.W.Fast.tw10003359563316185606 : True := trivial
theorem PySem.W.Fast.tw4334706134264122961 : True := trivial
theorem PySem.W.Fast.tw3498395524688122836 : True := trivial
theorem PySem.W.Fast.tw139088298226021195 : True := trivial
theorem PySem.W.Fast.tw12520140777470293812 : True := trivial
theorem PySem.W.Fast.tw11039163999734150060 : True := trivial
theorem PySem.W.Fast.tw17699244282683522888 : True := trivial
theorem PySem.W.Fast.tw14496321248538843487 : True := trivial
theorem PySem.W.Fast.tw13908016962937758228 : True := trivial
theorem PySem.W.Fast.tw2610260579920677103 : True := trivial
theorem PySem.W.Fast.tw13598917631396910051 : True := trivial
theorem PySem.W.Fast.tw11836878463227383507 : True := trivial
theorem PySem.W.Fast.tw16249265936117176098 : True := trivial
theorem PySem.W.Fast.tw8918733775260725772 : True := trivial
theorem PySem.W.Fast.tw3631656871647319896 : True := trivial
theorem PySem.W.Fast.tw4713770215593136329 : True := trivial
theorem PySem.W.Fast.tw5945380854829731250 : True := trivial
theorem PySem.W.Fast.tw9665514962018835776 : True := trivial
theorem PySem.W.Fast.tw5314708293304421976 : True := trivial
theorem PySem.W.Fast.tw13020599651616357318 : True := trivial
theorem PySem.W.Fast.tw16349385243127615666 : True := trivial
theorem PySem.W.Fast.tw11876699462326849422 : True := trivial
theorem PySem.W.Fast.tw18147923885424373762 : True := trivial
theorem PySem.W.Fast.tw13139952258709042945 : True := trivial
theorem PySem.W.Fast.tw90803057024536643 : True := trivial
theorem PySem.W.Fast.tw6439467606708576868 : True := trivial
theorem PySem.W.Fast.tw981223384771073339 : True := trivial
theorem PySem.W.Fast.tw15101422108417281561 : True := trivial
theorem PySem.W.Fast.tw16274142391233340478 : True := trivial
theorem PySem.W.Fast.tw14819080291411099926 : True := trivial
theorem PySem.W.Fast.tw898931117918844111 : True := trivial
theorem PySem.W.Fast.tw16206043080574082594 : True := trivial
theorem PySem.W.Fast.tw1672312568993292068 : True := trivial
theorem PySem.W.Fast.tw14415810316836545703 : True := trivial
theorem PySem.W.Fast.tw12969243482328187565 : True := trivial
theorem PySem.W.Fast.tw5568824606943731442 : True := trivial
theorem PySem.W.Fast.tw8816327774009651597 : True := trivial
theorem PySem.W.Fast.tw7581923477882359491 : True := trivial
theorem PySem.W.Fast.tw12083551393614688055 : True := trivial
theorem PySem.W.Fast.tw13581186887240928642 : True := trivial
theorem PySem.W.Fast.tw14847852454305767459 : True := trivial
theorem PySem.W.Fast.tw996080734821944116 : True := trivial
theorem PySem.W.Fast.tw8090576191924319836 : True := trivial
theorem PySem.W.Fast.tw17707832003820305728 : True := trivial
theorem PySem.W.Fast.tw1050825236841125024 : True := trivial
theorem PySem.W.Fast.tw604301372592616398 : True := trivial
theorem PySem.W.Fast.tw11599782932045988894 : True := trivial
theorem PySem.W.Fast.tw10330421472561200414 : True := trivial
theorem PySem.W.Fast.tw16796896876469616136 : True := trivial
theorem PySem.W.Fast.tw13582147454015632383 : True := trivial
theorem PySem.W.Fast.tw17354428055625051372 : True := trivial
theorem PySem.W.Fast.tw15923199285539944563 : True := trivial
theorem PySem.W.Fast.tw16269462389528192016 : True := trivial
theorem PySem.W.Fast.tw13569176247580837492 : True := trivial
theorem PySem.W.Fast.tw1616088456251430509 : True := trivial
theorem PySem.W.Fast.tw9046863066507579496 : True := trivial
theorem PySem.W.Fast.tw14530117190252870098 : True := trivial
theorem PySem.W.Fast.tw12347242164996711798 : True := trivial
theorem PySem.W.Fast.tw10467446253169472007 : True := trivial
theorem PySem.W.Fast.tw1847208595757846004 : True := trivial
theorem PySem.W.Fast.tw6543280322158229823 : True := trivial
theorem PySem.W.Fast.tw15161068708738948699 : True := trivial
theorem PySem.W.Fast.tw3218005775330375077 : True := trivial
theorem PySem.W.Fast.tw17325007919139154964 : True := trivial
theorem PySem.W.Fast.tw8582946061347678823 : True := trivial
theorem PySem.W.Fast.tw8095914666270068446 : True := trivial
theorem PySem.W.Fast.tw14077052950165755145 : True := trivial
theorem PySem.W.Fast.tw12120305364627641649 : True := trivial
theorem PySem.W.Fast.tw1929945619578171999 : True := trivial
theorem PySem.W.Fast.tw6914374587234257311 : True := trivial
theorem PySem.W.Fast.tw15780751172238540915 : True := trivial
theorem PySem.W.Fast.tw9116400142761819889 : True := trivial
theorem PySem.W.Fast.tw17235890082806783455 : True := trivial
theorem PySem.W.Fast.tw7640112058038755959 : True := trivial
theorem PySem.W.Fast.tw12568101204542906755 : True := trivial
theorem PySem.W.Fast.tw5706365199043926465 : True := trivial
theorem PySem.W.Fast.tw3346060146301640042 : True := trivial
theorem PySem.W.Fast.tw4797850638890047102 : True := trivial
theorem PySem.W.Fast.tw12400452388354589192 : True := trivial
theorem PySem.W.Fast.tw5969112466762881230 : True := trivial
theorem PySem.W.Fast.tw4669057591001313601 : True := trivial
theorem PySem.W.Fast.tw3754598805825874024 : True := trivial
theorem PySem.W.Fast.tw8449345750929566000 : True := trivial
theorem PySem.W.Fast.tw6209402406403823640 : True := trivial
theorem PySem.W.Fast.tw6621331363107496018 : True := trivial
theorem PySem.W.Fast.tw997664631286068619 : True := trivial
theorem PySem.W.Fast.tw12988243191092619299 : True := trivial
theorem PySem.W.Fast.tw3417288221038106552 : True := trivial
theorem PySem.W.Fast.tw1025760287752684455 : True := trivial
set_option Elab.async false in
set_option maxRecDepth 100000 in
set_option maxHeartbeats 0 in
open_shared Top for PySem.Challenge.pw_wakefew_k55_what_follows leaving 1
set_option Elab.async false in
set_option maxRecDepth 100000 in
set_option maxHeartbeats 0 in
open_top Hd for PySem.Challenge.rw_wakefew_k55_what_follows
set_option compiler.extract_closed false
set_option Elab.async false
set_option linter.all false
set_option maxRecDepth 100000
namespace L2
open PySem PySem.Spec PyProof.Rows
abbrev Key := Sum Int Str
def HW : Key -> Value -> Bool
 | .inl k, v => Value.isInt k v
 | .inr x, v => Value.isStrOf x v
def agD (w : World) : Key -> Int
 | .inl k => hashInt k
 | .inr x => hashStr w x
theorem cH : ∀ {k : Key} {v : Value}, HW k v = true -> (∃ i t, k = Sum.inl i /\ v = Value.int i t) \/ (∃ x t, k = Sum.inr x /\ v = Value.str x t)
 | .inl i, v, h => by
   obtain ⟨t, e⟩ := Value.isInt_shape (k := i) (v := v) h
   exact .inl ⟨i, t, rfl, e⟩
 | .inr x, v, h => by
   obtain ⟨t, e⟩ := Value.isStrOf_shape (x := x) (v := v) h
   exact .inr ⟨x, t, rfl, e⟩
theorem RB (i : Int) (t : Tok) : HW (.inl i) (.int i t) = true := by simp [HW, Value.isInt]
theorem Rm (x : Str) (t : Tok) : HW (.inr x) (.str x t) = true := by simp [HW, Value.isStrOf]
theorem ZI (a b : Int) : decide ((Sum.inl a : Key) = Sum.inl b) = (a == b) := by
 by_cases e : a = b
 . subst e; simp
 . have h : ¬ (Sum.inl a : Key) = Sum.inl b := fun q => e (Sum.inl.inj q)
   rw [decide_eq_false h]
   exact (beq_eq_false_iff_ne.mpr e).symm
theorem Zj (a b : Str) : decide ((Sum.inr a : Key) = Sum.inr b) = decide (a = b) := by
 by_cases e : a = b
 . subst e; simp
 . have h : ¬ (Sum.inr a : Key) = Sum.inr b := fun q => e (Sum.inr.inj q)
   rw [decide_eq_false h, decide_eq_false e]
theorem ab1 (a : Int) (b : Str) : decide ((Sum.inl a : Key) = Sum.inr b) = false := decide_eq_false (fun q => nomatch q)
theorem Z0 (a : Str) (b : Int) : decide ((Sum.inr a : Key) = Sum.inl b) = false := decide_eq_false (fun q => nomatch q)
def aU (prog : Program) (w : World) : PySem.KeyKind prog w Key where
 is := HW
 hash := agD w
 inj := fun v a b ha hb => by
  rcases cH ha with ⟨i, t, rfl, rfl⟩ | ⟨x, t, rfl, rfl⟩
  . rcases cH hb with ⟨j, u, rfl, e⟩ | ⟨y, u, rfl, e⟩
    . injection e with e1 _; rw [e1]
    . exact nomatch e
  . rcases cH hb with ⟨j, u, rfl, e⟩ | ⟨y, u, rfl, e⟩
    . exact nomatch e
    . injection e with e1 _; rw [e1]
 byValue := fun k v h => by
  rcases cH h with ⟨i, t, rfl, rfl⟩ | ⟨x, t, rfl, rfl⟩ <;> rfl
 pyHash := fun hv h => by
  rcases cH hv with ⟨i, t, rfl, rfl⟩ | ⟨x, t, rfl, rfl⟩
  . exact wpAny_pyHash_int h
  . exact wpAny_pyHash_str h
 eqBool := fun hu hv h => by
  rcases cH hu with ⟨i, t, rfl, rfl⟩ | ⟨x, t, rfl, rfl⟩
  . rcases cH hv with ⟨j, u, rfl, rfl⟩ | ⟨y, u, rfl, rfl⟩
    . rw [ZI] at h; exact wpAny_eqBool_int h
    . rw [ab1] at h; exact SeqAt.EqAt.int_str i t y u _ _ _ _ h
  . rcases cH hv with ⟨j, u, rfl, rfl⟩ | ⟨y, u, rfl, rfl⟩
    . rw [Z0] at h; exact SeqAt.EqAt.str_int x t j u _ _ _ _ h
    . rw [Zj] at h; exact wpAny_eqBool_str h
 «strs» := fun k x t v h => by
  rcases cH h with ⟨i, u, rfl, e⟩ | ⟨y, u, rfl, e⟩
  . exact nomatch e
  . injection e with e1 _
    subst e1
    cases v <;> rfl
theorem Lp (prog : Program) (w : World) (i : Int) (t : Tok) : (aU prog w).is (.inl i) (.int i t) = true := RB i t
theorem L3 (prog : Program) (w : World) (x : Str) (t : Tok) : (aU prog w).is (.inr x) (.str x t) = true := Rm x t
inductive V where
 | aS | bl (b : Bool) | int (i : Int) | str (x : Str) | OY (b : Array UInt8) | flt (b : UInt64) | ref (a : Addr) | ty (n : String)
 deriving DecidableEq
def RelV : V -> Value -> Prop
 | .aS, u => u = Value.none
 | .bl b, u => u = Value.bool b
 | .int i, u => ∃ t, u = Value.int i t
 | .str x, u => ∃ t, u = Value.str x t
 | .OY b, u => ∃ t, u = Value.bytes b t
 | .flt b, u => ∃ t, u = Value.float b t
 | .ref a, u => u = Value.ref a
 | .ty n, u => u = Value.type n
abbrev Vals : List V -> List Value -> Prop := Paired RelV
theorem Vals.length {xs : List V} {us : List Value} (r : Vals xs us) : xs.length = us.length := Paired.length r
theorem Vals.get : ∀ {xs : List V} {us : List Value} {i : Nat} {x : V}, Vals xs us -> xs[i]? = some x -> ∃ u, us[i]? = some u /\ RelV x u
 | _, _, _, _, .nil, e => by simp at e
 | _, _, 0, _, .cons r _, e => by simp at e; subst e; exact ⟨_, rfl, r⟩
 | _, _, i + 1, x, .cons _ t, e => by
   obtain ⟨u, h1, h2⟩ := Vals.get (i := i) (x := x) t (by simpa using e)
   exact ⟨u, by simpa using h1, h2⟩
theorem Vals.append : ∀ {xs ys : List V} {us ws : List Value}, Vals xs us -> Vals ys ws -> Vals (xs ++ ys) (us ++ ws)
 | _, _, _, _, .nil, s => s
 | _, _, _, _, .cons r t, s => .cons r (Vals.append t s)
def rK : Option V -> Option Value -> Prop
 | some v, some u => RelV v u
 | none, none => True
 | _, _ => False
def KV {κ : Type} : List (κ × V) -> List (κ × Value) -> Prop := Paired fun (p : κ × V) (q : κ × Value) => p.1 = q.1 /\ RelV p.2 q.2
def kV : Key -> V
 | .inl i => .int i
 | .inr x => .str x
inductive HO where
 | lst (xs : List V)
 | tup (xs : List V)
 | dK (kvs : List (Key × V)) | dT (kvs : List (List Key × V))
 | set (S : Int -> Bool) (n : Nat)
 | ins (C dx : Addr) (fs : List (Str × V))
 | own (x : Addr)
 | xd (fs : List (Str × V))
 | met (f x : Addr)
 | rng (lo hi : Int)
 | ik (o : Obj) (u : HO)
 | tbl (ps : Array Value)
 | ext (φ : Heap -> Prop)
abbrev Hp := Addr -> Option HO
def upd (H : Hp) (a : Addr) (o : HO) : Hp := fun b => if b = a then some o else H b
theorem ao {H : Hp} {a : Addr} {o : HO} : upd H a o a = some o := by unfold upd; rw [if_pos rfl]
theorem aq {H : Hp} {a b : Addr} {o : HO} (h : b ≠ a) : upd H a o b = H b := by unfold upd; rw [if_neg h]
theorem jY {H : Hp} {a : Addr} {o u : HO} : upd (upd H a o) a u = upd H a u := by
 funext b; unfold upd; split <;> rfl
theorem iq {H : Hp} {a b : Addr} {o u : HO} (h : H a = some o) (h' : H b = some u) (d : o ≠ u) : a ≠ b := by
 intro e; subst e; rw [h] at h'; exact d (Option.some.inj h')
theorem aA {H : Hp} {a b : Addr} {o : HO} (h : H a = some o) (h' : H b = none) : a ≠ b := by
 intro e; subst e; rw [h] at h'; cases h'
section
variable (P : Program) (w : World)
def cD (H : Hp) (h : Heap) (a : Addr) : HO -> Prop
 | .lst xs => xs.length <= sizeLine /\ ∃ (bT : List Value) (n : Nat), Vals xs bT /\ h.get? a = some { cls := .type "list", data := .seq bT.toArray n }
 | .tup xs => xs.length <= sizeLine /\ ∃ bT : List Value, Vals xs bT /\ IsTup h a bT.toArray
 | .dK kvs => kvs.length <= sizeLine /\ (a == sysModules) = false /\ ∃ vs, KV kvs vs /\ h.DictOf (aU P w) a vs
 | .dT kvs => kvs.length <= sizeLine /\ (a == sysModules) = false /\ ∃ xs : List (List Key × Addr × Value),
  Paired (fun (p : List Key × V) (q : List Key × Addr × Value) => p.1 = q.1 /\ H q.2.1 = some (.tup (p.1.map kV)) /\ RelV p.2 q.2.2) kvs xs /\
  ∃ o es ep, h.get? a = some o /\ o.ExactDict /\ o.data = .dict es ep /\ es.toList = xs.map (entryOfKey (tupleKind (aU P w))) /\ (xs.map (·.1)).Nodup
 | .set S n => h.SetOf (intKind P w) a S n
 | .ins C dx fs => H dx = some (.own a) /\ fs.length <= 1000 /\ dx ≠ a /\ h.get? a = some (PySem.W.instObj C dx) /\
  ∃ mA, h.Ns1 dx mA /\ (∀ f, rK (fs.lookup f) (mA f)) /\ PySem.Within mA (fs.map (·.1))
 | .own _ => ∃ o, h.get? a = some o
 | .xd fs => ∃ mA, h.Ns1 a mA /\ ∀ f, rK (fs.lookup f) (mA f)
 | .rng lo hi => ∃ t u v, h.get? a = some { cls := .type "range", data := .fields #[.int lo t, .int hi u, .int 1 v] }
 | .ik o u => h.get? a = some o /\ cD H h a u
 | .tbl ps => h.get? a = some { cls := .none, data := .fields ps }
 | .met f x => h.get? a = some (PySem.W.methodObj (.ref f) (.ref x))
 | .ext φ => φ h /\ (∃ o, h.get? a = some o) /\ ∀ h1 h2 : Heap, φ h1 -> (∀ o, h1.get? a = some o -> h2.get? a = some o) -> φ h2
def rj (H : Hp) (h : Heap) : Prop := ∀ a o, H a = some o -> cD P w H h a o
end
section
variable {P : Program} {w : World} {H H' : Hp} {h h' : Heap} {a : Addr} {o : HO}
theorem cD.lt (x : cD P w H h a o) : a < h.objs.size := by
 cases o with
 | lst xs => obtain ⟨_, _, _, _, e⟩ := x; exact Heap.lt_size e
 | tup xs => obtain ⟨_, _, _, p⟩ := x; exact p.lt
 | dK kvs => obtain ⟨_, _, _, _, o, _, _, e, _⟩ := x; exact Heap.lt_size e
 | dT kvs => obtain ⟨_, _, _, _, o, _, _, e, _⟩ := x; exact Heap.lt_size e
 | set S n => obtain ⟨o, _, _, _, e, _⟩ := x; exact Heap.lt_size e
 | ins C dx fs => obtain ⟨_, _, _, e, _⟩ := x; exact Heap.lt_size e
 | own y => obtain ⟨_, e⟩ := x; exact Heap.lt_size e
 | xd fs => obtain ⟨_, ⟨_, _, _, e, _⟩, _⟩ := x; exact Heap.lt_size e
 | rng lo hi => obtain ⟨_, _, _, e⟩ := x; exact Heap.lt_size e
 | ik ob u => obtain ⟨e, _⟩ := x; exact Heap.lt_size e
 | tbl ps => exact Heap.lt_size (show h.get? a = some _ from x)
 | met f y => exact Heap.lt_size (show h.get? a = some _ from x)
 | ext φ => obtain ⟨_, ⟨_, e⟩, _⟩ := x; exact Heap.lt_size e
theorem Paired.aaj {α β : Type} {F G : α -> β -> Prop} : ∀ {l₁ : List α} {l₂ : List β}, Paired F l₁ l₂ -> (∀ a b, F a b -> G a b) -> Paired G l₁ l₂
 | _, _, .nil, _ => .nil
 | _, _, .cons r t, f => .cons (f _ _ r) (Paired.aaj t f)
theorem cD.J4 (x : cD P w H h a o) (k : ∀ b u, (b = a \/ H b = some (.own a)) -> h.get? b = some u -> h'.get? b = some u)
 (ho : ∀ b, H b = some (.own a) -> H' b = some (.own a)) (ht : ∀ b xs, H b = some (.tup xs) -> H' b = some (.tup xs)) : cD P w H' h' a o := by
 induction o with
 | lst xs => obtain ⟨z, bT, n, r, e⟩ := x; exact ⟨z, bT, n, r, k _ _ (.inl rfl) e⟩
 | tup xs => obtain ⟨z, bT, r, ob, e, c⟩ := x; exact ⟨z, bT, r, ob, k _ _ (.inl rfl) e, c⟩
 | dK kvs => obtain ⟨z, y, vs, r, ob, es, ep, e, c⟩ := x; exact ⟨z, y, vs, r, ob, es, ep, k _ _ (.inl rfl) e, c⟩
 | dT kvs =>
   obtain ⟨z, y, xs, r, ob, es, ep, e, c⟩ := x
   exact ⟨z, y, xs, Paired.aaj r fun p q z => ⟨z.1, ht _ _ z.2.1, z.2.2⟩, ob, es, ep, k _ _ (.inl rfl) e, c⟩
 | set S n => obtain ⟨ob, es, ep, t, e, c⟩ := x; exact ⟨ob, es, ep, t, k _ _ (.inl rfl) e, c⟩
 | ins C dx fs =>
   obtain ⟨d, z, ne, e, mA, ⟨od, es, ep, e2, c⟩, r⟩ := x
   exact ⟨ho _ d, z, ne, k _ _ (.inl rfl) e, mA, ⟨od, es, ep, k _ _ (.inr d) e2, c⟩, r⟩
 | own y => obtain ⟨ob, e⟩ := x; exact ⟨ob, k _ _ (.inl rfl) e⟩
 | xd fs => obtain ⟨mA, ⟨od, es, ep, e, c⟩, r⟩ := x; exact ⟨mA, ⟨od, es, ep, k _ _ (.inl rfl) e, c⟩, r⟩
 | rng lo hi => obtain ⟨t, u, v, e⟩ := x; exact ⟨t, u, v, k _ _ (.inl rfl) e⟩
 | ik ob u ih => obtain ⟨e, q⟩ := x; exact ⟨k _ _ (.inl rfl) e, ih q⟩
 | tbl ps =>
   have e : h.get? a = some { cls := .none, data := .fields ps } := x
   show h'.get? a = some { cls := .none, data := .fields ps }
   exact k a _ (.inl rfl) e
 | met f y =>
   have e : h.get? a = some (PySem.W.methodObj (.ref f) (.ref y)) := x
   show h'.get? a = some (PySem.W.methodObj (.ref f) (.ref y))
   exact k a _ (.inl rfl) e
 | ext φ => obtain ⟨p, ⟨o, e⟩, st⟩ := x; exact ⟨st _ _ p fun o q => k _ _ (.inl rfl) q, ⟨o, k _ _ (.inl rfl) e⟩, st⟩
theorem rj.lt (x : rj P w H h) (e : H a = some o) : a < h.objs.size := (x a o e).lt
theorem rj.fresh (x : rj P w H h) (e : h.objs.size <= a) : H a = none := by
 cases q : H a with
 | none => rfl
 | some u => exact absurd (Nat.lt_of_lt_of_le (x.lt q) e) (Nat.lt_irrefl _)
theorem rj.kept (x : rj P w H h) (k : ∀ b u, h.get? b = some u -> h'.get? b = some u) : rj P w H h' := fun a o e =>
 (x a o e).J4 (fun b u _ q => k b u q) (fun _ q => q) fun _ _ q => q
theorem rj.laid (x : rj P w H h) (k : ∀ b u, h.get? b = some u -> h'.get? b = some u) (hp : h.objs.size <= a) (new : cD P w (upd H a o) h' a o) : rj P w (upd H a o) h' := fun b u e => by
 have hn := x.fresh hp
 by_cases hb : b = a
 . subst hb; rw [ao] at e; cases e; exact new
 . rw [aq hb] at e
   exact (x b u e).J4 (fun c v _ q => k c v q) (fun c q => by rw [aq (aA q hn)]; exact q) fun c xs q => by rw [aq (aA q hn)]; exact q
end
def Rd (H : Hp) (a : Addr) (u : HO) : Prop := H a = some u \/ ∃ o, H a = some (.ik o u)
theorem Rd.of {H : Hp} {a : Addr} {u : HO} (h : H a = some u) : Rd H a u := .inl h
theorem Rd.ok {P : Program} {w : World} {H : Hp} {h : Heap} {a : Addr} {u : HO} (r : Rd H a u) (x : rj P w H h) : cD P w H h a u := by
 rcases r with r | ⟨o, r⟩
 . exact x a u r
 . obtain ⟨_, q⟩ := x a _ r
   exact q
def Mut : Option HO -> Prop
 | some (.lst _) => True
 | some (.dK _) => True
 | some (.dT _) => True
 | some (.set _ _) => True
 | some (.ins _ _ _) => True
 | some (.ext _) => True
 | _ => False
section
variable {P : Program} {w : World} {H : Hp} {h h' : Heap} {x e : Addr} {o' : HO}
theorem rj.write (ok : rj P w H h) (mu : Mut (H x)) (he : e = x \/ H e = some (.own x)) (k : ∀ b u, b ≠ e -> h.get? b = some u -> h'.get? b = some u) (heo : ∃ u, h'.get? e = some u)
 (new : cD P w (upd H x o') h' x o') : rj P w (upd H x o') h' := fun b u q => by
 have aeh : ∀ c y, H c = some (.own y) -> c ≠ x := fun c y r z => by subst z; rw [r] at mu; exact mu
 have ahh : ∀ c xs, H c = some (.tup xs) -> c ≠ x := fun c xs r z => by subst z; rw [r] at mu; exact mu
 by_cases hb : b = x
 . subst hb; rw [ao] at q; cases q; exact new
 . rw [aq hb] at q
   by_cases hbe : b = e
   . have q' : H b = some (.own x) := by
      rcases he with z | z
      . exact absurd (hbe.trans z) hb
      . rw [hbe]; exact z
     rw [q] at q'; cases q'
     obtain ⟨v, hv⟩ := heo
     exact ⟨v, by rw [hbe]; exact hv⟩
   . refine (ok b u q).J4 (fun c v hc r => k c v ?_ r) (fun c r => by rw [aq (aeh c b r)]; exact r) fun c xs r => by rw [aq (ahh c xs r)]; exact r
     rcases hc with rfl | hc
     . exact hbe
     . rintro rfl
       rcases he with z | z
       . exact aeh c b hc z
       . rw [hc] at z; cases z; exact hb rfl
end
structure Un (fs ex : List Addr) (H H' : Hp) (h h' : Heap) : Prop where
 keep : ∀ b o, h.get? b = some o -> H b = none -> b ∉ fs -> b ∉ ex -> h'.get? b = some o
 slot : ∀ b o, h.get? b = some o -> H b = none -> b ∈ fs -> b ∉ ex -> ∃ sl, h'.get? b = some { o with slots := sl }
 free : ∀ b o, h.get? b = some o -> H b = none -> b ∉ ex -> H' b = none
 there : ∀ b o, h.get? b = some o -> b ∉ ex -> ∃ o', h'.get? b = some o'
 Du : ∀ b xs, H b = some (.tup xs) -> H' b = some (.tup xs)
 yL : ∀ b o u, H b = some (.ik o u) -> H' b = some (.ik o u)
 FW : ∀ b ps, H b = some (.tbl ps) -> ∃ more, H' b = some (.tbl (ps ++ more))
section
variable {fs fs' ex ex' : List Addr} {H H1 H2 : Hp} {h h1 h2 h' : Heap} {a x e : Addr} {o : HO}
theorem Un.any (u : Un fs ex H H1 h h1) {b : Addr} {ob : Obj} (q : h.get? b = some ob) (n : H b = none) (hx : b ∉ ex) : ∃ sl, h1.get? b = some { ob with slots := sl } := by
 by_cases hb : b ∈ fs
 . exact u.slot b ob q n hb hx
 . exact ⟨ob.slots, u.keep b ob q n hb hx⟩
theorem Un.kept (k : ∀ b u, h.get? b = some u -> h'.get? b = some u) : Un fs ex H H h h' :=
 ⟨fun b ob q _ _ _ => k b ob q, fun b ob q _ _ _ => ⟨ob.slots, k b ob q⟩, fun _ _ _ n _ => n, fun b ob q _ => ⟨ob, k b ob q⟩, fun _ _ q => q, fun _ _ _ q => q, fun _ ps q => ⟨#[], by rw [q]; simp⟩⟩
theorem Un.refl : Un fs ex H H h h := Un.kept fun _ _ q => q
theorem Un.laid (k : ∀ b u, h.get? b = some u -> h'.get? b = some u) (hp : h.objs.size <= a) (hn : H a = none) : Un fs ex H (upd H a o) h h' where
 keep := fun b u q _ _ _ => k b u q
 slot := fun b u q _ _ _ => ⟨u.slots, k b u q⟩
 free := fun b u q n _ => by rw [aq (Nat.ne_of_lt (Nat.lt_of_lt_of_le (Heap.lt_size q) hp))]; exact n
 there := fun b u q _ => ⟨u, k b u q⟩
 Du := fun b xs q => by rw [aq (aA q hn)]; exact q
 yL := fun b u xs q => by rw [aq (aA q hn)]; exact q
 FW := fun b ps q => ⟨#[], by rw [aq (aA q hn), q]; simp⟩
theorem Un.write (mu : Mut (H x)) (he : e = x \/ H e = some (.own x)) (k : ∀ b u, b ≠ e -> h.get? b = some u -> h'.get? b = some u) (heo : ∃ u, h'.get? e = some u) : Un fs ex H (upd H x o) h h' := by
 have hx : ∀ b, H b = none -> b ≠ x := fun b n z => by subst z; rw [n] at mu; exact mu
 have hb : ∀ b, H b = none -> b ≠ e := fun b n z => by
  subst z
  rcases he with r | r
  . exact hx b n r
  . rw [n] at r; cases r
 have hm : ∀ b u, H b = some u -> ¬ Mut (some u) -> b ≠ x := fun b u q nm z => by subst z; rw [q] at mu; exact nm mu
 refine ⟨fun b u q n _ _ => k b u (hb b n) q, fun b u q n _ _ => ⟨u.slots, k b u (hb b n) q⟩, fun b u q n _ => by rw [aq (hx b n)]; exact n, fun b u q _ => ?_,
  fun b xs q => by rw [aq (hm b _ q fun z => z)]; exact q, fun b u xs q => by rw [aq (hm b _ q fun z => z)]; exact q, fun b ps q => ⟨#[], by rw [aq (hm b _ q fun z => z), q]; simp⟩⟩
 by_cases hbe : b = e
 . subst hbe; exact heo
 . exact ⟨u, k b u hbe q⟩
end
def trk (h : Heap) (H : Hp) : List Addr := (List.range h.objs.size).filter fun a => (H a).isSome
def Ky (h : Heap) (H : Hp) : Heap := PySem.W.hideAll h (trk h H)
theorem QD (h : Heap) (H : Hp) : (Ky h H).objs.size = h.objs.size := PySem.W.hideAll_size _ _
theorem T5 {h : Heap} {H : Hp} {b : Addr} {o : Obj} (e : h.get? b = some o) (n : H b = none) : (Ky h H).get? b = some o :=
 PySem.W.hideAll_get _ e fun hm => by
  have q : (H b).isSome = true := (List.mem_filter.mp hm).2
  rw [n] at q; simp at q
theorem XD {h : Heap} {H : Hp} {b : Addr} {o : Obj} (e : (Ky h H).get? b = some o) : h.get? b = some o /\ H b = none := by
 have e' : h.get? b = some o := PySem.W.of_hideAll (trk h H) e
 refine ⟨e', ?_⟩
 cases q : H b with
 | none => rfl
 | some x =>
   have hm : b ∈ trk h H := List.mem_filter.mpr ⟨List.mem_range.mpr (Heap.lt_size e'), by simp [q]⟩
   have z : (Ky h H).get? b = none := PySem.W.hideAll_none (trk h H) hm
   rw [z] at e; cases e
def V0 (g h : Heap) (L : Addr) : List (Addr × Obj) := (List.range h.objs.size).filterMap fun a => if a = L \/ (g.get? a).isSome = true then none else (h.get? a).map fun o => (a, o)
def rest (g h : Heap) (L d : Addr) : List (Addr × Obj) := (V0 g h L).filter fun p => decide (p.1 ≠ d)
structure Mod (K : PySem.W.Frag) (mg : Str -> Option Value) (base : Heap) : Prop where
 kin : K.In base
 glob : base.Ns mainGlobals mg
 blt : ∃ mb, base.Ns builtinsNs mb /\ ∀ x : Str, x ≠ "__name__" -> mb x = bootBuiltins x
 nolimit : base.NoLimit
structure Cx where
 prog : Program
 w : World
 K : PySem.W.Frag
 mg : Str -> Option Value
 base : Heap
 A : Around
 N : List Str
 gL : Shared
 MX : Hp
 env : Env
 outer : List Env
 stack : List Env
 ex : List Addr
 fn : Str -> Bool
 calm : Bool
 pn : List (Addr × Obj)
 xe : Value -> Shared -> Prop
def MB (l : List Env) : List Addr := l.filterMap (·.frame)
abbrev Cx.fs (X : Cx) : List Addr := MB X.outer
def Vis (sc : Scope) (x : Str) : Prop := sc.names.lookup x = some .local \/ sc.names.lookup x = some .cell \/ sc.names.lookup x = some .free
def Loc (sc : Scope) (x : Str) : Prop := sc.names.lookup x = some .local \/ sc.names.lookup x = some .cell
def Look (env : Env) (h : Heap) (m : Str -> Option Value) (x : Str) (u : Value) : Prop :=
 (env.kindOf x = some .local /\ m x = some u) \/ ((env.kindOf x = some .cell \/ env.kindOf x = some .free) /\ ∃ c, env.cells.lookup x = some c /\ h.IsCell c (some u))
structure Cx.Ok (X : Cx) : Prop where
 mod : Mod X.K X.mg X.base
 kind : X.env.scope.kind = .function
 glob : X.env.globals = mainGlobals
 blt : X.env.builtins = builtinsNs
 above : X.gL.heap.objs.size <= X.env.locals
 inj : ∀ x y c, X.env.cells.lookup x = some c -> X.env.cells.lookup y = some c -> x = y
 has : ∀ x, (X.env.kindOf x = some .cell \/ X.env.kindOf x = some .free) -> ∃ c, X.env.cells.lookup x = some c
 cab : ∀ x c, X.fn x = true -> X.env.cells.lookup x = some c -> X.gL.heap.objs.size <= c
 hd : X.calm = true -> X.A.handled = none
 frames : X.A.frames = some X.stack
 stk : X.stack = X.outer \/ (X.stack = X.env :: X.outer /\ X.env.frame = some X.env.locals)
 exf : ∀ b ∈ X.ex, b ≠ X.env.locals /\ ∀ x c, X.env.cells.lookup x = some c -> c ≠ b
 bs : ∀ b o, X.base.get? b = some o -> X.gL.heap.get? b = some o /\ X.MX b = none
 RP : X.base.objs.size <= X.gL.heap.objs.size
 Qu : ∀ b o, X.base.get? b = some o -> b ∉ X.ex
 Qy : ∀ b ∈ X.ex, b ∉ X.fs
 CA : X.gL.heap.FunFrames X.base X.outer
 VE : ∀ b ∈ X.fs, X.MX b = none
structure Inv (X : Cx) (pins : List (Addr × Obj)) (σ : List (Option V)) (H : Hp) (s : Shared) : Prop where
 ok : X.Ok
 os : s.os = X.gL.os
 bare : AllBare s.gens
 base : Un X.fs X.ex X.MX H X.gL.heap s.heap
 loc : ∃ m, s.heap.Ns X.env.locals m /\ ∀ (i : Nat) (x : Str) (v : V), X.N[i]? = some x -> σ[i]? = some (some v) -> Vis X.env.scope x -> ∃ u, RelV v u /\ Look X.env s.heap m x u
 cell : ∀ x c, X.env.cells.lookup x = some c -> ∃ v, s.heap.IsCell c v
 free : H X.env.locals = none
 mP : ∀ x c, X.env.cells.lookup x = some c -> H c = none
 pin : ∀ p ∈ X.pn ++ pins, s.heap.get? p.1 = some p.2 /\ H p.1 = none /\ p.1 ≠ X.env.locals /\ p.1 ∉ X.fs /\ ∀ v, p.2.data ≠ .cell v
 bD : rj X.prog X.w H s.heap
 len : σ.length = X.N.length
section
variable {X : Cx} {pins : List (Addr × Obj)} {σ : List (Option V)} {H H' : Hp} {s : Shared} {h' : Heap}
theorem Cx.Ok.ag4 (ok : X.Ok) {b : Addr} {o : Obj} (e : X.base.get? b = some o) : b ∉ X.fs := fun hb => by
 have := (ok.CA.mem hb).1
 rw [e] at this; cases this
theorem Inv.bs (I : Inv X pins σ H s) : ∀ b o, X.base.get? b = some o -> s.heap.get? b = some o /\ H b = none := fun b o e =>
 ⟨I.base.keep b o (I.ok.bs b o e).1 (I.ok.bs b o e).2 (I.ok.ag4 e) (I.ok.Qu b o e), I.base.free b o (I.ok.bs b o e).1 (I.ok.bs b o e).2 (I.ok.Qu b o e)⟩
theorem Inv.bk (I : Inv X pins σ H s) : ∀ b o, X.base.get? b = some o -> s.heap.get? b = some o := fun b o e => (I.bs b o e).1
theorem Inv.mod (I : Inv X pins σ H s) : Mod X.K X.mg X.base := I.ok.mod
theorem Inv.Bo (I : Inv X pins σ H s) : X.K.In s.heap := I.ok.mod.kin.keeps I.bk
theorem Inv.fr (I : Inv X pins σ H s) : ∃ m, Fr X.base X.env.locals s.heap m :=
 let ⟨m, hn, _⟩ := I.loc
 ⟨m, hn, I.bk, Nat.le_trans I.ok.RP I.ok.above⟩
theorem Inv.lt (I : Inv X pins σ H s) : X.env.locals < s.heap.objs.size := let ⟨_, hn, _⟩ := I.loc; hn.lt
theorem Inv.sz (I : Inv X pins σ H s) : X.gL.heap.objs.size <= s.heap.objs.size := Nat.le_trans I.ok.above (Nat.le_of_lt I.lt)
theorem Inv.agf (I : Inv X pins σ H s) {a : Addr} (h : s.heap.objs.size <= a) : a ∉ X.fs := fun hb => by
 obtain ⟨_, o, ho, _⟩ := I.ok.CA.mem hb
 exact absurd (Nat.lt_of_lt_of_le (Heap.lt_size ho) (Nat.le_trans I.sz h)) (Nat.lt_irrefl _)
theorem Inv.ZE (I : Inv X pins σ H s) : ∀ x c, X.env.cells.lookup x = some c -> c ≠ X.env.locals := fun x c e z => by
 obtain ⟨v, o, ho, hd⟩ := I.cell x c e
 obtain ⟨m, ⟨o', es, ep, VU, K8, _⟩, _⟩ := I.loc
 rw [z, VU] at ho; cases ho; rw [K8] at hd; cases hd
theorem Inv.CA (I : Inv X pins σ H s) : s.heap.FunFrames X.base X.outer := by
 have all : ∀ (l : List Env), (∀ b ∈ MB l, b ∈ X.fs) -> X.gL.heap.FunFrames X.base l -> s.heap.FunFrames X.base l := by
  intro l
  induction l with
  | nil => intro _ _; trivial
  | cons env r ih =>
    intro hs hl
    obtain ⟨hk, ⟨L, o, hf, hn, ho, hd⟩, hr⟩ := hl
    have hL : L ∈ X.fs := hs L (by unfold MB; rw [List.filterMap_cons, hf]; exact List.mem_cons_self)
    obtain ⟨sl, e⟩ := I.base.slot L o ho (I.ok.VE L hL) hL fun z => I.ok.Qy L z hL
    exact ⟨hk, ⟨L, _, hf, hn, e, hd⟩, ih (fun b hb => hs b (by unfold MB; rw [List.filterMap_cons, hf]; exact List.mem_cons_of_mem _ hb)) hr⟩
 exact all X.outer (fun _ hb => hb) I.ok.CA
theorem Inv.stack (I : Inv X pins σ H s) : s.heap.FunFrames X.base X.stack := by
 rcases I.ok.stk with e | ⟨e, hf⟩
 . rw [e]; exact I.CA
 . rw [e]
   obtain ⟨m, hn, _⟩ := I.loc
   refine .cons (by rw [I.ok.kind]; decide) hf hn ?_ I.CA
   exact Heap.get?_none_of_le (Nat.le_trans I.ok.RP I.ok.above)
theorem Inv.Nu (I : Inv X pins σ H s) : ∀ b ∈ MB X.stack, b ∈ X.env.locals :: X.fs := fun b hb => by
 rcases I.ok.stk with e | ⟨e, hf⟩
 . rw [e] at hb; exact List.mem_cons_of_mem _ hb
 . rw [e] at hb
   unfold MB at hb
   rw [List.filterMap_cons, hf] at hb
   exact hb
theorem Inv.O3 (I : Inv X pins σ H s) : ∀ b ∈ MB X.stack, H b = none := fun b hb => by
 rcases List.mem_cons.mp (I.Nu b hb) with e | hb
 . rw [e]; exact I.free
 . obtain ⟨_, o, ho, _⟩ := I.ok.CA.mem hb
   exact I.base.free b o ho (I.ok.VE b hb) fun z => I.ok.Qy b z hb
theorem Inv.step {g' : Array GenState} {t' : Nat} {d' : Drawn} {ch : List Addr} (I : Inv X pins σ H s)
 (Vg : ∀ b ∈ ch, (b ∈ X.ex \/ X.gL.heap.objs.size <= b) /\ b ≠ X.env.locals /\ (∀ x c, X.env.cells.lookup x = some c -> c ≠ b) /\ ∀ p ∈ X.pn ++ pins, p.1 ≠ b)
 (keep : ∀ b o, b ≠ X.env.locals -> b ∉ X.fs -> b ∉ ch -> s.heap.get? b = some o -> H b = none -> h'.get? b = some o)
 (slot : ∀ b o, b ≠ X.env.locals -> b ∈ X.fs -> b ∉ ch -> s.heap.get? b = some o -> H b = none -> ∃ sl, h'.get? b = some { o with slots := sl }) (free : ∀ b o, b ∉ ch -> s.heap.get? b = some o -> H b = none -> H' b = none)
 (there : ∀ b o, b ∉ ch -> s.heap.get? b = some o -> ∃ o', h'.get? b = some o')
 (Du : ∀ b xs, H b = some (.tup xs) -> H' b = some (.tup xs)) (yL : ∀ b o u, H b = some (.ik o u) -> H' b = some (.ik o u)) (FW : ∀ b ps, H b = some (.tbl ps) -> ∃ more, H' b = some (.tbl (ps ++ more)))
 (ns : ∀ m, s.heap.Ns X.env.locals m -> h'.Ns X.env.locals m) (bD : rj X.prog X.w H' h') (hg : AllBare g') :
 Inv X pins σ H' { s with heap := h', gens := g', drawn := d', toks := t' } := by
 have neL : ∀ b o, X.gL.heap.get? b = some o -> b ≠ X.env.locals := fun b o e => Nat.ne_of_lt (Nat.lt_of_lt_of_le (Heap.lt_size e) I.ok.above)
 have neC : ∀ b o, X.gL.heap.get? b = some o -> b ∉ X.ex -> b ∉ ch := fun b o e hx hb => by
  rcases (Vg b hb).1 with z | z
  . exact hx z
  . exact absurd (Nat.lt_of_lt_of_le (Heap.lt_size e) z) (Nat.lt_irrefl _)
 have cellK : ∀ x c, X.env.cells.lookup x = some c -> ∀ v, s.heap.IsCell c v -> h'.IsCell c v := fun x c e v ⟨o, ho, hd⟩ => by
  have nch : c ∉ ch := fun z => (Vg c z).2.2.1 x c e rfl
  by_cases hc : c ∈ X.fs
  . obtain ⟨sl, q⟩ := slot c o (I.ZE x c e) hc nch ho (I.mP x c e)
    exact ⟨_, q, hd⟩
  . exact ⟨o, keep c o (I.ZE x c e) hc nch ho (I.mP x c e), hd⟩
 refine ⟨I.ok, I.os, hg, ⟨fun b o e n hb hx => ?_, fun b o e n hb hx => ?_, fun b o e n hx => ?_, fun b o e hx => ?_, fun b xs e => Du b xs (I.base.Du b xs e), fun b o xs e => yL b o xs (I.base.yL b o xs e), fun b ps e => ?_⟩, ?_, fun x c e => ?_, ?_, fun x c e => ?_, fun p hp => ?_, bD, I.len⟩
 . exact keep b o (neL b o e) hb (neC b o e hx) (I.base.keep b o e n hb hx) (I.base.free b o e n hx)
 . obtain ⟨sl, e1⟩ := I.base.slot b o e n hb hx
   obtain ⟨sl', e2⟩ := slot b _ (neL b o e) hb (neC b o e hx) e1 (I.base.free b o e n hx)
   exact ⟨sl', e2⟩
 . obtain ⟨o', e1⟩ := I.base.there b o e hx
   exact free b o' (neC b o e hx) e1 (I.base.free b o e n hx)
 . obtain ⟨o', e1⟩ := I.base.there b o e hx
   exact there b o' (neC b o e hx) e1
 . obtain ⟨m1, e1⟩ := I.base.FW b ps e
   obtain ⟨m2, e2⟩ := FW b _ e1
   exact ⟨m1 ++ m2, by rw [e2, Array.append_assoc]⟩
 . obtain ⟨m, hn, hl⟩ := I.loc
   refine ⟨m, ns m hn, fun i x v e1 e2 e3 => ?_⟩
   obtain ⟨u, r, l⟩ := hl i x v e1 e2 e3
   refine ⟨u, r, ?_⟩
   rcases l with l | ⟨k, c, e, z⟩
   . exact .inl l
   . exact .inr ⟨k, c, e, cellK x c e _ z⟩
 . obtain ⟨v, z⟩ := I.cell x c e
   exact ⟨v, cellK x c e v z⟩
 . obtain ⟨m, ⟨o, _, _, ho, _⟩, _⟩ := I.loc
   exact free _ o (fun z => (Vg _ z).2.1 rfl) ho I.free
 . obtain ⟨v, o, ho, hd⟩ := I.cell x c e
   exact free c o (fun z => (Vg c z).2.2.1 x c e rfl) ho (I.mP x c e)
 . obtain ⟨e, n, ne, nf, d⟩ := I.pin p hp
   have nch : p.1 ∉ ch := fun z => (Vg p.1 z).2.2.2 p hp rfl
   exact ⟨keep p.1 p.2 ne nf nch e n, free p.1 p.2 nch e n, ne, nf, d⟩
theorem Inv.un {t' : Nat} (I : Inv X pins σ H s) (u : Un X.fs [] H H' s.heap h') (bD : rj X.prog X.w H' h') : Inv X pins σ H' { s with heap := h', toks := t' } := by
 obtain ⟨m, ⟨o, es, ep, ho, r⟩, _⟩ := id I.loc
 obtain ⟨sl, hL⟩ := u.any ho I.free (by simp)
 exact I.step (g' := s.gens) (d' := s.drawn) (ch := []) (fun _ z => nomatch z) (fun b o _ hb _ e n => u.keep b o e n hb (by simp)) (fun b o _ hb _ e n => u.slot b o e n hb (by simp)) (fun b o _ e n => u.free b o e n (by simp)) (fun b o _ e => u.there b o e (by simp)) u.Du u.yL u.FW (fun m' hm => by
  obtain ⟨o', es', ep', VU, r'⟩ := hm
  rw [ho] at VU; cases VU
  exact ⟨_, es', ep', hL, r'⟩) bD I.bare
theorem Inv.call {g' : Array GenState} {t' : Nat} {d' : Drawn} {ch : List Addr} (I : Inv X pins σ H s) (u : Un (MB X.stack) ch H H' s.heap h') (bD : rj X.prog X.w H' h') (hg : AllBare g')
 (Vg : ∀ b ∈ ch, (b ∈ X.ex \/ X.gL.heap.objs.size <= b) /\ b ≠ X.env.locals /\ (∀ x c, X.env.cells.lookup x = some c -> c ≠ b) /\ ∀ p ∈ X.pn ++ pins, p.1 ≠ b) :
 Inv X pins σ H' { s with heap := h', gens := g', drawn := d', toks := t' } := by
 obtain ⟨m, ⟨o, es, ep, ho, r⟩, _⟩ := id I.loc
 obtain ⟨sl, hL⟩ := u.any ho I.free fun z => (Vg _ z).2.1 rfl
 exact I.step (ch := ch) Vg (fun b o hL hb hc e n => u.keep b o e n (fun z => (List.mem_cons.mp (I.Nu b z)).elim hL hb) hc) (fun b o _ _ hc e n => u.any e n hc) (fun b o hc e n => u.free b o e n hc) (fun b o hc e => u.there b o e hc) u.Du u.yL u.FW (fun m' hm => by
  obtain ⟨o', es', ep', VU, r'⟩ := hm
  rw [ho] at VU; cases VU
  exact ⟨_, es', ep', hL, r'⟩) bD hg
theorem Inv.turned {t' : Nat} {it : Addr} (I : Inv X pins σ H s) (k : ∀ b o, b ≠ it -> s.heap.get? b = some o -> h'.get? b = some o) (hn : H it = none) (hL : it ≠ X.env.locals)
 (h1 : it ∈ X.ex \/ X.gL.heap.objs.size <= it) (h2 : ∀ x c, X.env.cells.lookup x = some c -> c ≠ it) (h3 : ∀ p ∈ X.pn ++ pins, p.1 ≠ it) : Inv X pins σ H { s with heap := h', toks := t' } := by
 have nit : ∀ b u, H b = some u -> b ≠ it := fun b u e z => by rw [z, hn] at e; cases e
 refine I.step (g' := s.gens) (d' := s.drawn) (ch := [it]) (fun b hb => ?_) (fun b o _ _ hc e _ => k b o (fun z => hc (by simp [z])) e) (fun b o _ _ hc e _ => ⟨o.slots, k b o (fun z => hc (by simp [z])) e⟩) (fun _ _ _ _ n => n)
  (fun b o hc e => ⟨o, k b o (fun z => hc (by simp [z])) e⟩) (fun _ _ e => e) (fun _ _ _ e => e) (fun b ps e => ⟨#[], by rw [e]; simp⟩) (fun m hm => ?_) (fun b u e => ?_) I.bare
 . have e : b = it := by simpa using hb
   subst e
   exact ⟨h1, hL, h2, h3⟩
 . obtain ⟨o, es, ep, ho, r⟩ := hm
   exact ⟨o, es, ep, k _ o (Ne.symm hL) ho, r⟩
 . refine (I.bD b u e).J4 (fun c v hc q => k c v ?_ q) (fun _ q => q) fun _ _ q => q
   rcases hc with z | z
   . rw [z]; exact nit b u e
   . exact nit c _ z
theorem Inv.tok (I : Inv X pins σ H s) (t : Nat) : Inv X pins σ H { s with toks := t } := I.un (h' := s.heap) (t' := t) Un.refl I.bD
theorem Inv.kept {t' : Nat} (I : Inv X pins σ H s) (k : ∀ b u, s.heap.get? b = some u -> h'.get? b = some u) : Inv X pins σ H { s with heap := h', toks := t' } := I.un (Un.kept k) (I.bD.kept k)
theorem Inv.laid {a : Addr} {o : HO} {t' : Nat} (I : Inv X pins σ H s) (k : ∀ b u, s.heap.get? b = some u -> h'.get? b = some u) (hp : s.heap.objs.size <= a) (new : cD X.prog X.w (upd H a o) h' a o) :
 Inv X pins σ (upd H a o) { s with heap := h', toks := t' } := I.un (Un.laid k hp (I.bD.fresh hp)) (I.bD.laid k hp new)
theorem Inv.write {x e : Addr} {o : HO} {t' : Nat} (I : Inv X pins σ H s) (mu : Mut (H x)) (he : e = x \/ H e = some (.own x)) (k : ∀ b u, b ≠ e -> s.heap.get? b = some u -> h'.get? b = some u) (heo : ∃ u, h'.get? e = some u)
 (new : cD X.prog X.w (upd H x o) h' x o) : Inv X pins σ (upd H x o) { s with heap := h', toks := t' } := I.un (Un.write mu he k heo) (I.bD.write mu he k heo new)
theorem Inv.weak {σ' : List (Option V)} (I : Inv X pins σ H s) (hl : σ'.length = σ.length) (w : ∀ (i : Nat) v, σ'[i]? = some (some v) -> σ[i]? = some (some v)) : Inv X pins σ' H s :=
 ⟨I.ok, I.os, I.bare, I.base, let ⟨m, hn, UE⟩ := I.loc; ⟨m, hn, fun i x v e1 e2 e3 => UE i x v e1 (w i v e2) e3⟩, I.cell, I.free, I.mP, I.pin, I.bD, hl.trans I.len⟩
theorem Inv.yF {Yo : List (Addr × Obj)} (I : Inv X pins σ H s) (h : ∀ p ∈ Yo, s.heap.get? p.1 = some p.2 /\ H p.1 = none /\ p.1 ≠ X.env.locals /\ p.1 ∉ X.fs /\ ∀ v, p.2.data ≠ .cell v) : Inv X Yo σ H s :=
 ⟨I.ok, I.os, I.bare, I.base, I.loc, I.cell, I.free, I.mP, fun p hp => (List.mem_append.mp hp).elim (fun z => I.pin p (List.mem_append_left _ z)) (h p), I.bD, I.len⟩
theorem Lq {N : List Str} (hN : N.Nodup) {i j : Nat} {x : Str} (a : N[i]? = some x) (b : N[j]? = some x) : i = j := by
 obtain ⟨h1, e1⟩ := List.getElem?_eq_some_iff.mp a
 obtain ⟨h2, e2⟩ := List.getElem?_eq_some_iff.mp b
 exact (List.getElem_inj hN).mp (e1.trans e2.symm)
theorem JB {M : Model} {A : Around} {E : Value -> Shared -> Prop} {i : Nat} {x : Str} {v : V} {u : Value} {Q : Unit -> Shared -> Prop} (I : Inv X pins σ H s) (hN : X.N.Nodup) (hi : X.N[i]? = some x) (hx : Loc X.env.scope x) (r : RelV v u)
 (h : ∀ s', Inv X pins (σ.set i (some v)) H s' -> (∃ a, Heap.SameBut a s.heap s'.heap /\ (a = X.env.locals \/ X.env.cells.lookup x = some a)) -> Q () s') (hf : X.fn x = true \/ X.env.scope.names.lookup x = some .local := by first | exact .inl rfl | exact .inr rfl | assumption) : wpAny M A (storeName X.env x u) Q E s := by
 obtain ⟨m, hn, hl⟩ := id I.loc
 have aha : (X.env.scope.kind == .class || (X.env.scope.kind == .module && X.env.locals != X.env.globals)) = false := by rw [I.ok.kind]; rfl
 have ad9 : i < σ.length := by rw [I.len]; exact (List.getElem?_eq_some_iff.mp hi).1
 have ZE := I.ZE
 have tracked : ∀ {a : Addr} {h' : Heap}, (∃ o, s.heap.get? a = some o /\ H a = none) -> Heap.SameBut a s.heap h' -> rj X.prog X.w H h' := fun {a h'} ha hs b ob e => by
  obtain ⟨_, _, Y3⟩ := ha
  refine (I.bD b ob e).J4 (fun c w' hc q => (hs.2 c ?_).trans q) (fun _ q => q) fun _ _ q => q
  rintro rfl
  rcases hc with rfl | hc
  . rw [Y3] at e; cases e
  . rw [Y3] at hc; cases hc
 rcases hx with hk | hk
 . refine wpAny_storeName_local hk hn (fun h' hn' hs => ?_) aha
   obtain ⟨oL, _, _, Oc, _⟩ := id hn
   refine h _ ⟨I.ok, I.os, I.bare, ⟨fun b o e n hb hx => ?_, fun b o e n hb hx => ?_, I.base.free, fun b o e hx => ?_, I.base.Du, I.base.yL, I.base.FW⟩, ⟨_, hn', fun j y v' e1 e2 e3 => ?_⟩, fun y c e => ?_, I.free, I.mP, fun p hp => ?_, tracked ⟨oL, Oc, I.free⟩ hs, by simpa using I.len⟩ ⟨_, hs, .inl rfl⟩
   . exact (hs.2 b (Nat.ne_of_lt (Nat.lt_of_lt_of_le (Heap.lt_size e) I.ok.above))).trans (I.base.keep b o e n hb hx)
   . obtain ⟨sl, e1⟩ := I.base.slot b o e n hb hx
     exact ⟨sl, (hs.2 b (Nat.ne_of_lt (Nat.lt_of_lt_of_le (Heap.lt_size e) I.ok.above))).trans e1⟩
   . obtain ⟨o', e1⟩ := I.base.there b o e hx
     exact ⟨o', (hs.2 b (Nat.ne_of_lt (Nat.lt_of_lt_of_le (Heap.lt_size e) I.ok.above))).trans e1⟩
   . by_cases hj : j = i
     . subst hj
       rw [hi] at e1; cases e1
       rw [List.getElem?_set_self ad9] at e2
       cases e2
       exact ⟨u, r, .inl ⟨hk, by simp⟩⟩
     . rw [List.getElem?_set_ne (Ne.symm hj)] at e2
       obtain ⟨u', r', q⟩ := hl j y v' e1 e2 e3
       refine ⟨u', r', ?_⟩
       rcases q with ⟨k, e⟩ | ⟨k, c, e, z⟩
       . refine .inl ⟨k, ?_⟩
         have : y ≠ x := fun e => hj (Lq hN e1 (e ▸ hi))
         simp [this, e]
       . exact .inr ⟨k, c, e, z.sameBut hs (ZE y c e)⟩
   . obtain ⟨w', z⟩ := I.cell y c e
     exact ⟨w', z.sameBut hs (ZE y c e)⟩
   . obtain ⟨e, n, ne, nf, d⟩ := I.pin p hp
     exact ⟨(hs.2 p.1 ne).trans e, n, ne, nf, d⟩
 . have hfn : X.fn x = true := by
    rcases hf with z | z
    . exact z
    . rw [z] at hk; cases hk
   obtain ⟨c, hc⟩ := I.ok.has x (.inl hk)
   obtain ⟨w', z⟩ := I.cell x c hc
   refine wpAny_storeName_cell I.ok.kind hk hc z (fun h' Vm hs => ?_)
   obtain ⟨oc, hoc, agG⟩ := id z
   refine h { s with heap := h' } ⟨I.ok, I.os, I.bare, ⟨fun b o e n hb hx => ?_, fun b o e n hb hx => ?_, I.base.free, fun b o e hx => ?_, I.base.Du, I.base.yL, I.base.FW⟩, ⟨m, hn.sameBut hs (Ne.symm (ZE x c hc)), fun j y v' e1 e2 e3 => ?_⟩, fun y c' e => ?_, I.free, I.mP, fun p hp => ?_, tracked ⟨oc, hoc, I.mP x c hc⟩ hs, by simpa using I.len⟩ ⟨c, hs, .inr hc⟩
   . exact (hs.2 b (Nat.ne_of_lt (Nat.lt_of_lt_of_le (Heap.lt_size e) (I.ok.cab x c hfn hc)))).trans (I.base.keep b o e n hb hx)
   . obtain ⟨sl, e1⟩ := I.base.slot b o e n hb hx
     exact ⟨sl, (hs.2 b (Nat.ne_of_lt (Nat.lt_of_lt_of_le (Heap.lt_size e) (I.ok.cab x c hfn hc)))).trans e1⟩
   . obtain ⟨o', e1⟩ := I.base.there b o e hx
     exact ⟨o', (hs.2 b (Nat.ne_of_lt (Nat.lt_of_lt_of_le (Heap.lt_size e) (I.ok.cab x c hfn hc)))).trans e1⟩
   . by_cases hj : j = i
     . subst hj
       rw [hi] at e1; cases e1
       rw [List.getElem?_set_self ad9] at e2
       cases e2
       exact ⟨u, r, .inr ⟨.inl hk, c, hc, Vm⟩⟩
     . rw [List.getElem?_set_ne (Ne.symm hj)] at e2
       obtain ⟨u', r', q⟩ := hl j y v' e1 e2 e3
       refine ⟨u', r', ?_⟩
       rcases q with q | ⟨k, c', e, z'⟩
       . exact .inl q
       . refine .inr ⟨k, c', e, z'.sameBut hs ?_⟩
         rintro rfl
         exact hj (Lq hN e1 (I.ok.inj _ _ _ e hc ▸ hi))
   . by_cases hcc : c' = c
     . subst hcc; exact ⟨_, Vm⟩
     . obtain ⟨w2, z2⟩ := I.cell y c' e
       exact ⟨w2, z2.sameBut hs hcc⟩
   . obtain ⟨e, n, ne, nf, d⟩ := I.pin p hp
     refine ⟨(hs.2 p.1 ?_).trans e, n, ne, nf, d⟩
     intro q
     rw [q, hoc] at e
     have q' : oc = p.2 := Option.some.inj e
     exact d w' (by rw [<- q']; exact agG)
theorem MD {M : Model} {A : Around} {E : Value -> Shared -> Prop} {i : Nat} {x : Str} {v : V} {u : Value} {Q : Unit -> Shared -> Prop} (I : Inv X pins σ H s) (hN : X.N.Nodup) (hi : X.N[i]? = some x) (hx : Loc X.env.scope x) (r : RelV v u)
 (h : ∀ s', Inv X pins (σ.set i (some v)) H s' -> Q () s') (hf : X.fn x = true \/ X.env.scope.names.lookup x = some .local := by first | exact .inl rfl | exact .inr rfl | assumption) : wpAny M A (storeName X.env x u) Q E s :=
 JB I hN hi hx r (fun s' I' _ => h s' I') hf
theorem Inv.adS {s' : Shared} {ch : List Addr} (I : Inv X pins σ H s) (ho : s'.os = s.os) (u : Un (MB X.stack) ch H H' s.heap s'.heap) (bD : rj X.prog X.w H' s'.heap) (hg : AllBare s'.gens)
 (Vg : ∀ b ∈ ch, (b ∈ X.ex \/ X.gL.heap.objs.size <= b) /\ b ≠ X.env.locals /\ (∀ x c, X.env.cells.lookup x = some c -> c ≠ b) /\ ∀ p ∈ X.pn ++ pins, p.1 ≠ b) : Inv X pins σ H' s' := by
 obtain ⟨h', g', d', t', o'⟩ := s'
 have e : o' = s.os := ho
 subst e
 exact I.call (g' := g') (t' := t') (d' := d') u bD hg Vg
end
abbrev XK := Value -> Option Addr -> Hp -> Prop
abbrev St := List (Option V)
abbrev VK := V -> Hp -> Prop
abbrev TE := St -> Hp -> VK -> Prop
abbrev TT := St -> Hp -> (Bool -> Hp -> Prop) -> Prop
abbrev TA := St -> Hp -> (List V -> Hp -> Prop) -> Prop
structure Ends where
 nx : St -> Hp -> Prop
 rt : VK
 bk : St -> Hp -> Prop := fun _ _ => False
 ct : St -> Hp -> Prop := fun _ _ => False
abbrev TS := Ends -> St -> Hp -> Prop
def EP (X : Cx) (pins : List (Addr × Obj)) (σ : St) (Q : VK) (u : Value) (s' : Shared) : Prop := ∃ v H', Inv X pins σ H' s' /\ RelV v u /\ Q v H'
def TP (X : Cx) (pins : List (Addr × Obj)) (σ : St) (Q : Bool -> Hp -> Prop) (b : Bool) (s' : Shared) : Prop := ∃ H', Inv X pins σ H' s' /\ Q b H'
def AP (X : Cx) (pins : List (Addr × Obj)) (σ : St) (Q : List V -> Hp -> Prop) (us : List Value) (s' : Shared) : Prop := ∃ vs H', Inv X pins σ H' s' /\ Vals vs us /\ Q vs H'
def SP (X : Cx) (pins : List (Addr × Obj)) (D : Ends) (f : Flow) (s' : Shared) : Prop :=
 match f with
 | .next => ∃ σ' H', Inv X pins σ' H' s' /\ D.nx σ' H'
 | .brk => ∃ σ' H', Inv X pins σ' H' s' /\ D.bk σ' H'
 | .cont => ∃ σ' H', Inv X pins σ' H' s' /\ D.ct σ' H'
 | .ret u => ∃ v σ' H', Inv X pins σ' H' s' /\ RelV v u /\ D.rt v H'
def PE (X : Cx) (e : Expr) (t : TE) : Prop :=
 ∀ (pins : List (Addr × Obj)) (s : Shared) (σ : St) (H : Hp) (Q : VK), Inv X pins σ H s -> t σ H Q -> wpAny (model X.prog X.w) X.A (eval e X.env) (EP X pins σ Q) X.xe s
def PT (X : Cx) (e : Expr) (t : TT) : Prop :=
 ∀ (pins : List (Addr × Obj)) (s : Shared) (σ : St) (H : Hp) (Q : Bool -> Hp -> Prop), Inv X pins σ H s -> t σ H Q -> wpAny (model X.prog X.w) X.A (isTrue e X.env (eval e X.env)) (TP X pins σ Q) X.xe s
def PW (X : Cx) (e : Expr) (t : TT) : Prop :=
 ∀ (whole : Sem Value) (pins : List (Addr × Obj)) (s : Shared) (σ : St) (H : Hp) (Q : Bool -> Hp -> Prop), Inv X pins σ H s -> t σ H Q -> wpAny (model X.prog X.w) X.A (isTrue e X.env whole) (TP X pins σ Q) X.xe s
theorem PW.pt {X : Cx} {e : Expr} {t : TT} (h : PW X e t) : PT X e t := h _
def PA (X : Cx) (es : List Expr) (t : TA) : Prop :=
 ∀ (pos : Pos) (pins : List (Addr × Obj)) (s : Shared) (σ : St) (H : Hp) (Q : List V -> Hp -> Prop), Inv X pins σ H s -> t σ H Q -> wpAny (model X.prog X.w) X.A (spliced (backTo pos (starEach es X.env))) (AP X pins σ Q) X.xe s
def PS (X : Cx) (st : Stmt) (t : TS) : Prop :=
 ∀ (pins : List (Addr × Obj)) (s : Shared) (σ : St) (H : Hp) (D : Ends), Inv X pins σ H s -> t D σ H -> wpAny (model X.prog X.w) X.A (exec st X.env) (SP X pins D) X.xe s
def MK (X : Cx) (st : List Stmt) (t : TS) : Prop :=
 ∀ (pins : List (Addr × Obj)) (s : Shared) (σ : St) (H : Hp) (D : Ends), Inv X pins σ H s -> t D σ H -> wpAny (model X.prog X.w) X.A (execs st X.env) (SP X pins D) X.xe s
theorem dF {α : Type} {t : Sem α} {Q Q' : α -> Shared -> Prop} {M : Model} {A : Around} {E : Value -> Shared -> Prop} {s : Shared} (h : wpAny M A t Q E s) (hQ : ∀ a s, Q a s -> Q' a s) : wpAny M A t Q' E s := wpAny_mono h hQ fun _ _ x => x
section
variable {X : Cx}
def ZY (i : Nat) : TE := fun σ H Q => ∃ v, σ[i]? = some (some v) /\ Q v H
def tC (v : V) : TE := fun _ H Q => Q v H
theorem aa7 {i : Nat} {x : Str} {pos : Pos} (hN : X.N[i]? = some x) (hv : Vis X.env.scope x) (hd : (x == ("__debug__" : Str)) = false := by decide) (RL : (x == ("__classdict__" : Str)) = false := by decide) : PE X (.Name x pos) (ZY i) := by
 intro pins s σ H Q I h
 obtain ⟨v, e, h⟩ := h
 obtain ⟨m, hn, hl⟩ := I.loc
 obtain ⟨u, r, l⟩ := hl i x v hN e hv
 have fin : EP X pins σ Q u s := ⟨v, H, I, r, h⟩
 rcases l with ⟨hk, hm⟩ | ⟨hk, c, hc, JE⟩
 . exact wpAny_Name (wpAny_loadName_local I.ok.kind hk hn hm fin) hd
 . rcases hk with hk | hk
   . exact wpAny_Name (wpAny_loadName_cell I.ok.kind hk hc JE fin) hd
   . exact wpAny_Name (wpAny_loadName_free I.ok.kind hk hc JE fin RL) hd
theorem ak {i j pos} : PE X (.Constant (.int i) j pos) (tC (.int i)) := fun _ _ _ H _ I h => wpAny_Constant_int ⟨.int i, H, I.tok _, ⟨_, rfl⟩, h⟩
theorem FP {b j pos} : PE X (.Constant (.bool b) j pos) (tC (.bl b)) := fun _ _ _ H _ I h => Constant_bool ⟨.bl b, H, I, rfl, h⟩
theorem d0 {j pos} : PE X (.Constant .none j pos) (tC .aS) := fun _ _ _ H _ I h => Constant_none ⟨.aS, H, I, rfl, h⟩
theorem gY {x j pos} : PE X (.Constant (.str x) j pos) (tC (.str x)) := fun _ _ _ H _ I h => Calls.Constant_str ⟨.str x, H, I.tok _, ⟨_, rfl⟩, h⟩
def Gl (X : Cx) (x : Str) : Prop := X.env.kindOf x = some .globalImplicit
theorem CQ {E : Value -> Shared -> Prop} {pins : List (Addr × Obj)} {s : Shared} {σ : St} {H : Hp} {x : Str} {u : Value} {pos : Pos} {Q : Value -> Shared -> Prop} (I : Inv X pins σ H s) (hg : Gl X x) (hm : X.mg x = some u) (h : Q u s)
 (hd : (x == ("__debug__" : Str)) = false := by decide) : wpAny (model X.prog X.w) X.A (eval (.Name x pos) X.env) Q E s :=
 Calls.Name_function_global I.ok.kind hg (Calls.loadGlobal_global (by rw [I.ok.glob]; exact I.mod.glob.keeps I.bk) hm h) hd
theorem AO {E : Value -> Shared -> Prop} {pins : List (Addr × Obj)} {s : Shared} {σ : St} {H : Hp} {x : Str} {u : Value} {pos : Pos} {Q : Value -> Shared -> Prop} (I : Inv X pins σ H s) (hg : Gl X x) (hm : X.mg x = none) (hv : bootBuiltins x = some u) (h : Q u s)
 (hn : x ≠ "__name__" := by decide) (hd : (x == ("__debug__" : Str)) = false := by decide) : wpAny (model X.prog X.w) X.A (eval (.Name x pos) X.env) Q E s := by
 obtain ⟨mb, h1, h2⟩ := I.mod.blt
 exact Calls.Name_function_global I.ok.kind hg (Calls.loadGlobal_builtin (by rw [I.ok.glob]; exact I.mod.glob.keeps I.bk) hm (by rw [I.ok.blt]; exact h1.keeps I.bk) ((h2 x hn).trans hv) h) hd
theorem X4 {x : Str} {v : V} {u : Value} {pos : Pos} (hg : Gl X x) (hm : X.mg x = some u) (r : RelV v u) (hd : (x == ("__debug__" : Str)) = false := by decide) : PE X (.Name x pos) (tC v) :=
 fun _ _ _ H _ I h => CQ I hg hm ⟨v, H, I, r, h⟩ hd
theorem rR {x : Str} {v : V} {u : Value} {pos : Pos} (hg : Gl X x) (hm : X.mg x = none) (hv : bootBuiltins x = some u) (r : RelV v u) (hn : x ≠ "__name__" := by decide) (hd : (x == ("__debug__" : Str)) = false := by decide) : PE X (.Name x pos) (tC v) :=
 fun _ _ _ H _ I h => AO I hg hm hv ⟨v, H, I, r, h⟩ hn hd
variable {a b : Expr} {ta tb : TE} {pos : Pos}
def PC (X : Cx) (op : CmpOp) (a b : Expr) (t : TE) : Prop :=
 ∀ (pins : List (Addr × Obj)) (s : Shared) (σ : St) (H : Hp) (Q : VK), Inv X pins σ H s -> t σ H Q ->
   wpAny (model X.prog X.w) X.A (eval a X.env) (fun v s₁ => wpAny (model X.prog X.w) X.A (eval b X.env) (fun u s₂ => wpAny (model X.prog X.w) X.A (compareOp op v u) (EP X pins σ Q) X.xe s₂) X.xe s₁) X.xe s
def tB (t : TE) : TT := fun σ H Q => t σ H fun x H1 => ∃ c, x = .bl c /\ Q c H1
theorem J3 {op : CmpOp} {t : TE} (h : PC X op a b t) (h1 : behindInMarks op b = false := by first | exact aeN _ (by decide) (by decide) | rfl) : PT X (.Compare a [op] [b] pos) (tB t) := by
 intro pins s σ H Q I hw
 refine wpAny_isTrue_Compare1 (dF (h pins s σ H _ I hw) fun v s1 h1 => dF h1 fun u s2 h2 => dF h2 fun c s3 ⟨x, H1, I1, r1, q1⟩ => ?_) h1
 obtain ⟨d, rfl, q⟩ := q1
 cases r1
 exact wpAny_truthy_bool ⟨H1, I1, q⟩
variable {tA tB' : TT} {rest : List Expr}
def adZ (t u : TT) : TT := fun σ H Q => t σ H fun c H1 => if c = true then u σ H1 Q else Q false H1
def tOr (t u : TT) : TT := fun σ H Q => t σ H fun c H1 => if c = true then Q true H1 else u σ H1 Q
def adG (t : TT) : TT := fun σ H Q => t σ H fun c H1 => Q (!c) H1
theorem yx (ha : PT X a tA) : PW X (.BoolOp .And [a] pos) tA := by
 intro wh pins s σ H Q I h
 refine isTrue_and (dF (ha pins s σ H Q I h) fun c s1 e => ?_)
 cases c with
 | true => exact isTrue_and_nil e
 | false => exact e
theorem N3 (ha : PT X a tA) : PW X (.BoolOp .Or [a] pos) tA := by
 intro wh pins s σ H Q I h
 refine isTrue_or (dF (ha pins s σ H Q I h) fun c s1 e => ?_)
 cases c with
 | false => exact isTrue_or_nil e
 | true => exact e
theorem EH (ha : PT X a tA) (hb : PW X (.BoolOp .And (b :: rest) pos) tB') : PW X (.BoolOp .And (a :: b :: rest) pos) (adZ tA tB') := by
 intro wh pins s σ H Q I h
 refine isTrue_and (dF (ha pins s σ H _ I h) fun c s1 ⟨H1, I1, q1⟩ => ?_)
 cases c with
 | true => exact hb wh pins s1 σ H1 Q I1 q1
 | false => exact ⟨H1, I1, q1⟩
theorem OX (ha : PT X a tA) (hb : PW X (.BoolOp .Or (b :: rest) pos) tB') : PW X (.BoolOp .Or (a :: b :: rest) pos) (tOr tA tB') := by
 intro wh pins s σ H Q I h
 refine isTrue_or (dF (ha pins s σ H _ I h) fun c s1 ⟨H1, I1, q1⟩ => ?_)
 cases c with
 | true => exact ⟨H1, I1, q1⟩
 | false => exact hb wh pins s1 σ H1 Q I1 q1
theorem rQ (ha : PT X a tA) : PT X (.UnaryOp .Not a pos) (adG tA) := by
 intro pins s σ H Q I h
 exact isTrue_not (ha pins s σ H (fun c H1 => Q (!c) H1) I h)
def YZ (ta tb : TE) : TE := fun σ H Q => ta σ H fun x H1 => ∃ c, x = .bl c /\ if c = true then tb σ H1 Q else Q (.bl false) H1
def ae6 (ta tb : TE) : TE := fun σ H Q => ta σ H fun x H1 => ∃ c, x = .bl c /\ if c = true then Q (.bl true) H1 else tb σ H1 Q
def YR (ta : TE) : TE := fun σ H Q => ta σ H fun x H1 => ∃ c, x = .bl c /\ Q (.bl (!c)) H1
theorem Hx {op} {t : TE} (h : PE X a t) : PE X (.BoolOp op [a] pos) t := fun pins s σ H Q I hw => BoolOp_one (h pins s σ H Q I hw)
theorem Ig (ha : PE X a ta) (hb : PE X (.BoolOp .And (b :: rest) pos) tb) : PE X (.BoolOp .And (a :: b :: rest) pos) (YZ ta tb) := by
 intro pins s σ H Q I h
 refine BoolOp_and (dF (ha pins s σ H _ I h) fun v s1 ⟨x, H1, I1, r1, q1⟩ => ?_)
 obtain ⟨c, rfl, q1⟩ := q1
 cases r1
 refine wpAny_truthy_bool ?_
 cases c with
 | true => exact hb pins s1 σ H1 Q I1 q1
 | false => exact ⟨.bl false, H1, I1, rfl, q1⟩
theorem aer (ha : PE X a ta) (hb : PE X (.BoolOp .Or (b :: rest) pos) tb) : PE X (.BoolOp .Or (a :: b :: rest) pos) (ae6 ta tb) := by
 intro pins s σ H Q I h
 refine BoolOp_or (dF (ha pins s σ H _ I h) fun v s1 ⟨x, H1, I1, r1, q1⟩ => ?_)
 obtain ⟨c, rfl, q1⟩ := q1
 cases r1
 refine wpAny_truthy_bool ?_
 cases c with
 | false => exact hb pins s1 σ H1 Q I1 q1
 | true => exact ⟨.bl true, H1, I1, rfl, q1⟩
theorem S3 (ha : PE X a ta) : PE X (.UnaryOp .Not a pos) (YR ta) := by
 intro pins s σ H Q I h
 refine UnaryOp_ (dF (ha pins s σ H _ I h) fun v s1 ⟨x, H1, I1, r1, q1⟩ => ?_)
 obtain ⟨c, rfl, q1⟩ := q1
 cases r1
 exact not_of (wpAny_truthy_bool ⟨.bl (!c), H1, I1, rfl, q1⟩)
def tIf (t : TT) (ta tb : TE) : TE := fun σ H Q => t σ H fun c H1 => if c = true then ta σ H1 Q else tb σ H1 Q
theorem GA {c : Expr} (hc : PT X c tA) (ha : PE X a ta) (hb : PE X b tb) : PE X (.IfExp c a b pos) (tIf tA ta tb) := by
 intro pins s σ H Q I h
 refine wpAny_IfExp (dF (hc pins s σ H _ I h) fun d s1 ⟨H1, I1, q1⟩ => ?_)
 cases d with
 | true => exact ha pins s1 σ H1 Q I1 q1
 | false => exact hb pins s1 σ H1 Q I1 q1
end
def jj (K : PySem.W.Frag) (H : Hp) (a : Addr) (xs : List V) : Prop :=
 Rd H a (.lst xs) \/
  ∃ (o : Obj) (bT : Array Value) (n : Nat), K.lookup a = some o /\ o.cls = .type "list" /\ o.dict = none /\ o.data = .seq bT n /\ bT.size <= sizeLine /\ Vals xs bT.toList
def IB (K : PySem.W.Frag) (H : Hp) (a : Addr) (xs : List V) : Prop :=
 Rd H a (.tup xs) \/
  ∃ (o : Obj) (bT : Array Value) (n : Nat), K.lookup a = some o /\ o.cls = .type "tuple" /\ o.data = .seq bT n /\ bT.size <= sizeLine /\ Vals xs bT.toList
def ahE : Value -> Option V
 | .none => some .aS
 | .bool b => some (.bl b)
 | .int i _ => some (.int i)
 | .str x _ => some (.str x)
 | .bytes b _ => some (.OY b)
 | .float b _ => some (.flt b)
 | .ref a => some (.ref a)
 | .type n => some (.ty n)
 | _ => none
theorem RelV.abs {x : V} {u : Value} (r : RelV x u) : ahE u = some x := by
 cases x with
 | aS => cases r; rfl
 | bl _ => cases r; rfl
 | int _ => obtain ⟨t, rfl⟩ := r; rfl
 | str _ => obtain ⟨t, rfl⟩ := r; rfl
 | OY _ => obtain ⟨t, rfl⟩ := r; rfl
 | flt _ => obtain ⟨t, rfl⟩ := r; rfl
 | ref _ => cases r; rfl
 | ty _ => cases r; rfl
theorem RelV.inj {x y : V} {u : Value} (r : RelV x u) (q : RelV y u) : x = y := Option.some.inj (r.abs.symm.trans q.abs)
theorem Vals.inj : ∀ {xs ys : List V} {us : List Value}, Vals xs us -> Vals ys us -> xs = ys
 | _, _, _, .nil, .nil => rfl
 | _, _, _, .cons r t, .cons r' t' => by rw [r.inj r', Vals.inj t t']
section
variable {X : Cx} {pins : List (Addr × Obj)} {σ : St} {H : Hp} {s : Shared} {a : Addr} {xs ys : List V}
theorem jj.of {K : PySem.W.Frag} (h : H a = some (.lst xs)) : jj K H a xs := .inl (.inl h)
theorem IB.of {K : PySem.W.Frag} (h : H a = some (.tup xs)) : IB K H a xs := .inl (.inl h)
theorem Inv.list (I : Inv X pins σ H s) (h : jj X.K H a xs) : ∃ bT : List Value, Vals xs bT /\ PlainL s.heap a bT.toArray /\ xs.length <= sizeLine := by
 rcases h with h | ⟨o, bT, n, hk, hc, hd, hs, hz, r⟩
 . obtain ⟨z, bT, n, r, e⟩ := h.ok I.bD
   exact ⟨bT, r, ⟨_, n, e, rfl, rfl, rfl⟩, z⟩
 . refine ⟨bT.toList, r, ⟨o, n, I.Bo a o hk, hc, hd, by simpa using hs⟩, ?_⟩
   have e := r.length
   simp only [Array.length_toList] at e
   omega
theorem Inv.tuple (I : Inv X pins σ H s) (h : IB X.K H a xs) : ∃ bT : List Value, Vals xs bT /\ IsTup s.heap a bT.toArray /\ xs.length <= sizeLine := by
 rcases h with h | ⟨o, bT, n, hk, hc, hs, hz, r⟩
 . obtain ⟨z, bT, r, p⟩ := h.ok I.bD
   exact ⟨bT, r, p, z⟩
 . refine ⟨bT.toList, r, ⟨o, I.Bo a o hk, hc, n, by simpa using hs⟩, ?_⟩
   have e := r.length
   simp only [Array.length_toList] at e
   omega
theorem Inv.Sx (I : Inv X pins σ H s) (h : jj X.K H a xs) (h' : jj X.K H a ys) : xs = ys := by
 obtain ⟨bT, r, ⟨o, n, e, _, _, d⟩, _⟩ := I.list h
 obtain ⟨its', r', ⟨o', n', e', _, _, d'⟩, _⟩ := I.list h'
 rw [e] at e'; cases e'
 rw [d] at d'
 injection d' with d1 _
 have : bT = its' := by simpa using congrArg Array.toList d1
 subst this
 exact r.inj r'
theorem Inv.QX (I : Inv X pins σ H s) (h : IB X.K H a xs) (h' : IB X.K H a ys) : xs = ys := by
 obtain ⟨bT, r, ⟨o, e, _, n, d⟩, _⟩ := I.tuple h
 obtain ⟨its', r', ⟨o', e', _, n', d'⟩, _⟩ := I.tuple h'
 rw [e] at e'; cases e'
 rw [d] at d'
 injection d' with d1 _
 have : bT = its' := by simpa using congrArg Array.toList d1
 subst this
 exact r.inj r'
end
abbrev Cx.Ip (X : Cx) (E : Value -> Shared -> Prop) : Cx := { X with xe := E }
abbrev Cx.nox (X : Cx) : Cx := X.Ip fun _ _ => False
theorem Cx.Ok.Ip {X : Cx} (ok : X.Ok) (E : Value -> Shared -> Prop) : (X.Ip E).Ok :=
 ⟨ok.mod, ok.kind, ok.glob, ok.blt, ok.above, ok.inj, ok.has, ok.cab, ok.hd, ok.frames, ok.stk, ok.exf, ok.bs, ok.RP, ok.Qu, ok.Qy, ok.CA, ok.VE⟩
theorem Cx.Ok.xx {X : Cx} {E : Value -> Shared -> Prop} (ok : (X.Ip E).Ok) : X.Ok :=
 ⟨ok.mod, ok.kind, ok.glob, ok.blt, ok.above, ok.inj, ok.has, ok.cab, ok.hd, ok.frames, ok.stk, ok.exf, ok.bs, ok.RP, ok.Qu, ok.Qy, ok.CA, ok.VE⟩
section
variable {X : Cx} {pins : List (Addr × Obj)} {σ : St} {H : Hp} {s : Shared} {E : Value -> Shared -> Prop}
theorem Inv.Ip (I : Inv X pins σ H s) (E : Value -> Shared -> Prop) : Inv (X.Ip E) pins σ H s := ⟨I.ok.Ip E, I.os, I.bare, I.base, I.loc, I.cell, I.free, I.mP, I.pin, I.bD, I.len⟩
theorem Inv.xx (I : Inv (X.Ip E) pins σ H s) : Inv X pins σ H s := ⟨I.ok.xx, I.os, I.bare, I.base, I.loc, I.cell, I.free, I.mP, I.pin, I.bD, I.len⟩
theorem SP.xx {D : Ends} {f : Flow} {s' : Shared} (h : SP (X.Ip E) pins D f s') : SP X pins D f s' := by
 cases f with
 | next => obtain ⟨σ', H', I, q⟩ := h; exact ⟨σ', H', I.xx, q⟩
 | brk => obtain ⟨σ', H', I, q⟩ := h; exact ⟨σ', H', I.xx, q⟩
 | cont => obtain ⟨σ', H', I, q⟩ := h; exact ⟨σ', H', I.xx, q⟩
 | ret u => obtain ⟨v, σ', H', I, r, q⟩ := h; exact ⟨v, σ', H', I.xx, r, q⟩
theorem MK.nox {st : List Stmt} {t : TS} (h : MK X.nox st t) : MK X st t := fun pins s σ H D I hw =>
 wpAny_mono (h pins s σ H D (I.Ip _) hw) (fun _ _ q => q.xx) fun _ _ z => False.elim z
end
section
variable {X : Cx} {st : Stmt} {rest : List Stmt} {t u : TS} {e : Expr} {te : TE} {pos : Pos}
def UC : TS := fun D σ H => D.nx σ H
theorem aM : MK X [] UC := fun _ _ σ H _ I h => wpAny_execs_nil ⟨σ, H, I, h⟩
theorem ag (h1 : PS X st t) : MK X [st] t := by
 intro pins s σ H D I h
 refine wpAny_execs_cons (dF (h1 pins s σ H D I h) fun f s1 q => ?_)
 cases f with
 | next => exact wpAny_execs_nil q
 | ret v => exact q
 | brk => exact q
 | cont => exact q
theorem Pb : PS X (.Pass pos) UC := fun _ _ σ H _ I h => wpAny_Pass ⟨σ, H, I, h⟩
theorem Inv.quiet {pins : List (Addr × Obj)} {σ : St} {H : Hp} {s : Shared} (I : Inv X pins σ H s) : interactive X.env = false := by simp [interactive, I.ok.kind]
def Y8 (te : TE) : TS := fun D σ H => te σ H fun _ H1 => D.nx σ H1
theorem aT (he : PE X e te) (hs : swapsWith e none pos.line X.env = pure false := by rfl) : PS X (.Expr e pos) (Y8 te) := by
 intro pins s σ H D I h
 exact wpAny_Expr_any (dF (he pins s σ H _ I h) fun v s1 ⟨x, H1, I1, r1, q1⟩ => ⟨σ, H1, I1, q1⟩) I.quiet hs
def aej (te : TE) : TS := fun D σ H => te σ H D.rt
theorem aB (he : PE X e te) : PS X (.Return (some e) pos) (aej te) := by
 intro pins s σ H D I h
 exact wpAny_Return_some (dF (he pins s σ H _ I h) fun v s1 ⟨x, H1, I1, r1, q1⟩ => ⟨x, σ, H1, I1, r1, q1⟩)
def adE (c : TT) (t u : TS) : TS := fun D σ H => c σ H fun b H1 => if b = true then t D σ H1 else u D σ H1
theorem bW {c : Expr} {a b : List Stmt} {tc : TT} (hc : PT X c tc) (ha : MK X a t) (hb : MK X b u) : PS X (.If c a b pos) (adE tc t u) := by
 intro pins s σ H D I h
 refine wpAny_If (dF (hc pins s σ H _ I h) fun d s1 ⟨H1, I1, q1⟩ => ?_)
 cases d with
 | true => exact ha pins s1 σ H1 D I1 q1
 | false => exact hb pins s1 σ H1 D I1 q1
def aaD : TS := fun _ _ _ => False
theorem cP : PS X st aaD := fun _ _ _ _ _ _ h => h.elim
end
abbrev TG := V -> St -> Hp -> (St -> Hp -> Prop) -> Prop
abbrev Tb := List V -> St -> Hp -> (St -> Hp -> Prop) -> Prop
def PG (X : Cx) (target : Expr) (t : TG) : Prop :=
 ∀ (pins : List (Addr × Obj)) (s : Shared) (σ : St) (H : Hp) (v : V) (u : Value) (Q : St -> Hp -> Prop), Inv X pins σ H s -> RelV v u -> t v σ H Q ->
   wpAny (model X.prog X.w) X.A (assign target X.env u) (fun _ s' => ∃ σ' H', Inv X pins σ' H' s' /\ Q σ' H') X.xe s
def PGs (X : Cx) (ts : List Expr) (t : Tb) : Prop :=
 ∀ (pins : List (Addr × Obj)) (s : Shared) (σ : St) (H : Hp) (vs : List V) (us : List Value) (Q : St -> Hp -> Prop), Inv X pins σ H s -> Vals vs us -> t vs σ H Q ->
   wpAny (model X.prog X.w) X.A (assignInOrder ((assignEach ts X.env).map (·.2)) us) (fun _ s' => ∃ σ' H', Inv X pins σ' H' s' /\ Q σ' H') X.xe s
section
variable {X : Cx} {pos : Pos}
def jQ (i : Nat) : TG := fun v σ H Q => Q (σ.set i (some v)) H
theorem aX {i : Nat} {x : Str} (hN : X.N.Nodup) (hi : X.N[i]? = some x) (hx : Loc X.env.scope x) (hf : X.fn x = true \/ X.env.scope.names.lookup x = some .local := by first | exact .inl rfl | exact .inr rfl | assumption) : PG X (.Name x pos) (jQ i) := by
 intro pins s σ H v u Q I r h
 exact wpAny_assign_Name (MD I hN hi hx r (fun s' I' => ⟨_, H, I', h⟩) hf)
def Qa : Tb := fun vs σ H Q => vs = [] /\ Q σ H
def wV (t : TG) (u : Tb) : Tb := fun vs σ H Q => ∃ v r, vs = v :: r /\ t v σ H fun σ' H' => u r σ' H' Q
theorem yE : PGs X [] Qa := by
 intro pins s σ H vs us Q I r h
 obtain ⟨e, h⟩ := h
 subst e
 cases r
 exact assignInOrder_nil ⟨σ, H, I, h⟩
theorem du {e : Expr} {es : List Expr} {t : TG} {u : Tb} (h1 : PG X e t) (h2 : PGs X es u)
 (hs : (assignEach (e :: es) X.env).map (·.2) = assign e X.env :: (assignEach es X.env).map (·.2) := by rfl) : PGs X (e :: es) (wV t u) := by
 intro pins s σ H vs us Q I r h
 obtain ⟨v, vr, e1, h⟩ := h
 subst e1
 cases r with
 | cons r rr =>
   rw [hs]
   refine assignInOrder_cons (dF (h1 pins s σ H _ _ _ I r h) fun _ s1 ⟨σ1, H1, I1, q1⟩ => ?_)
   exact h2 pins s1 σ1 H1 _ _ Q I1 rr q1
def NM (K : PySem.W.Frag) (n : Nat) (t : Tb) : TG := fun v σ H Q => ∃ a xs, v = .ref a /\ IB K H a xs /\ xs.length = n /\ t xs σ H Q
theorem Hr {es : List Expr} {k : Nat} {t : Tb} {n : Nat} (hc : X.calm = true) (h : PGs X es t)
 (hn : (assignEach es X.env).length = n := by rfl) (DI : (assignEach es X.env).findIdx? (·.1) = none := by rfl) : PG X (.Tuple es k pos) (NM X.K n t) := by
 intro pins s σ H v u Q I r hw
 obtain ⟨a, xs, e1, hq, hl, hw⟩ := hw
 subst e1
 cases r
 obtain ⟨bT, rv, ht, hz⟩ := I.tuple hq
 refine assign_Tuple_tuple (I.ok.hd hc) ht (by simp [hn, <- hl, rv.length]) DI fun h' hx => ?_
 have I1 : Inv X pins σ H { s with heap := h' } := I.kept (t' := s.toks) fun b o e => hx b o (Nat.ne_of_lt (Heap.lt_size e)) e
 exact h pins _ σ H xs _ Q I1 (by simpa using rv) hw
def Rx (te : TE) (g : TG) : TS := fun D σ H => te σ H fun x H1 => g x σ H1 D.nx
theorem Od {tg e : Expr} {te : TE} {g : TG} (he : PE X e te) (hg : PG X tg g) (hs : swapsWithSole [tg] e pos.line X.env = pure false := by rfl) (hw : swappedStores [tg] e X.env = pure none := by rfl)
 (h1 : (assignEach [tg] X.env).map (·.2) = [assign tg X.env] := by rfl) : PS X (.Assign [tg] e pos) (Rx te g) := by
 intro pins s σ H D I h
 refine wpAny_Assign_stores (dF (he pins s σ H _ I h) fun v s1 ⟨x, H1, I1, r1, q1⟩ => ?_) hs hw
 rw [h1]
 exact dF (hg pins s1 σ H1 x v _ I1 r1 q1) fun _ s2 q => q
theorem aN {i : Nat} {x : Str} {e : Expr} {te : TE} {pos' : Pos} (hN : X.N.Nodup) (hi : X.N[i]? = some x) (hx : Loc X.env.scope x) (he : PE X e te) (hs : swapsWith e (some (.Name x pos')) pos.line X.env = pure false := by rfl) (hf : X.fn x = true \/ X.env.scope.names.lookup x = some .local := by first | exact .inl rfl | exact .inr rfl | assumption) :
 PS X (.Assign [.Name x pos'] e pos) (Rx te (jQ i)) := by
 intro pins s σ H D I h
 refine wpAny_Assign_Name (dF (he pins s σ H _ I h) fun v s1 ⟨y, H1, I1, r1, q1⟩ => ?_) hs
 exact MD I1 hN hi hx r1 (fun s2 I2 => ⟨_, H1, I2, q1⟩) hf
end
section
variable {X : Cx} {pos : Pos}
def Ub (c : TT) (tb : TS) : TS := fun D σ H => ∃ W : Nat -> St -> Hp -> Prop, (∃ m, W m σ H) /\ ∀ m σ H, W m σ H ->
 c σ H fun b H1 => if b = true then ∃ N : St -> Hp -> Prop, (∀ σ' H', N σ' H' -> ∃ m', m' < m /\ W m' σ' H') /\ tb { D with nx := N, ct := N, bk := D.nx } σ H1 else D.nx σ H1
theorem GJ {c : Expr} {body : List Stmt} {tc : TT} {tb : TS} (hp : PassesOwn (model X.prog X.w) X.A X.env X.xe) (hc : PT X c tc) (hb : MK X body tb) : PS X (.While c body [] pos) (Ub tc tb) := by
 intro pins s σ H D I h
 obtain ⟨W, ⟨m0, w0⟩, turn⟩ := h
 refine wpAny_While (codeAny_whileLoop (fun n s' => ∃ σ' H', Inv X pins σ' H' s' /\ W n σ' H') ?_ m0 ⟨σ, H, I, w0⟩)
 rintro n s1 ⟨σ1, H1, I1, w1⟩
 refine wpAny_passesOwn hp (dF (hc pins s1 σ1 H1 _ I1 (turn n σ1 H1 w1)) fun b s2 ⟨H2, I2, q2⟩ => ?_)
 cases b with
 | true =>
   obtain ⟨N, hN, q2⟩ := q2
   rw [if_pos rfl]
   refine wpAny_passesOwn hp (dF (hb pins s2 σ1 H2 _ I2 q2) fun f s3 q3 => ?_)
   cases f with
   | next =>
     obtain ⟨σ3, H3, I3, n3⟩ := q3
     obtain ⟨m', hm, w3⟩ := hN σ3 H3 n3
     exact ⟨m', hm, σ3, H3, I3, w3⟩
   | cont =>
     obtain ⟨σ3, H3, I3, n3⟩ := q3
     obtain ⟨m', hm, w3⟩ := hN σ3 H3 n3
     exact ⟨m', hm, σ3, H3, I3, w3⟩
   | brk => exact q3
   | ret v => exact q3
 | false =>
   rw [if_neg Bool.false_ne_true]
   exact wpAny_execs_nil ⟨σ1, H2, I2, q2⟩
end
structure It where
 go : Nat -> Hp -> Prop
 Vj : Nat -> Hp -> V -> Hp -> Prop
 stop : Nat -> Hp -> Prop
def iG (X : Cx) (pins : List (Addr × Obj)) (H : Hp) (b : Addr) : Prop :=
 H b = none /\ b ≠ X.env.locals /\ b ∉ X.fs /\ (b ∈ X.ex \/ X.gL.heap.objs.size <= b) /\ (∀ x c, X.env.cells.lookup x = some c -> c ≠ b) /\ ∀ p ∈ X.pn ++ pins, p.1 ≠ b
theorem Inv.Er {X : Cx} {pins : List (Addr × Obj)} {σ : St} {H H' : Hp} {s : Shared} {b : Addr} (I : Inv X pins σ H s) (hb : s.heap.objs.size <= b) (hn : H' b = none) : iG X pins H' b := by
 refine ⟨hn, Nat.ne_of_gt (Nat.lt_of_lt_of_le I.lt hb), I.agf hb, .inr (Nat.le_trans I.sz hb), fun x c e z => ?_, fun p hp z => ?_⟩
 . obtain ⟨v, q⟩ := I.cell x c e
   exact absurd (Nat.lt_of_lt_of_le q.lt (by rw [z]; exact hb)) (Nat.lt_irrefl _)
 . exact absurd (Nat.lt_of_lt_of_le (Heap.lt_size (I.pin p hp).1) (by rw [z]; exact hb)) (Nat.lt_irrefl _)
structure Turn (P : Program) (w : World) (K : PySem.W.Frag) (tg : Expr) (J : It) (fp : List Addr) (it : Addr) (tn : Nat -> Heap -> Prop) : Prop where
 mem : it ∈ fp
 obj : ∀ i h, tn i h -> ∀ b ∈ fp, ∃ o, h.get? b = some o /\ ∀ v, o.data ≠ .cell v
 keep : ∀ i h h', tn i h -> (∀ b ∈ fp, ∀ o, h.get? b = some o -> h'.get? b = some o) -> tn i h'
 item : ∀ (X : Cx), X.prog = P -> X.w = w -> X.K = K -> X.calm = true -> ∀ (i : Nat) (pins : List (Addr × Obj)) (s : Shared) (σ : St) (H : Hp) (E : Value -> Shared -> Prop), Inv X pins σ H s -> (∀ b ∈ fp, iG X pins H b) -> tn i s.heap -> J.go i H ->
  wpAny (model P w) X.A (pyNext (.ref it)) (fun r s1 => ∃ u, r = some u /\
   wpAny (model P w) X.A (letOwnedTupleGo tg (.ref it) u) (fun _ s2 => ∃ x H', Inv X pins σ H' s2 /\ RelV x u /\ J.Vj i H x H' /\ tn (i + 1) s2.heap /\ ∀ b ∈ fp, H' b = none) E s1) E s
 done : ∀ (X : Cx), X.prog = P -> X.w = w -> X.K = K -> X.calm = true -> ∀ (i : Nat) (pins : List (Addr × Obj)) (s : Shared) (σ : St) (H : Hp) (E : Value -> Shared -> Prop), Inv X pins σ H s -> (∀ b ∈ fp, iG X pins H b) -> tn i s.heap -> J.stop i H ->
  wpAny (model P w) X.A (pyNext (.ref it)) (fun r s1 => r = none /\ Inv X pins σ H s1) E s
 self : ∀ (A : Around) (i : Nat) (s : Shared) (Q : Value -> Shared -> Prop) (E : Value -> Shared -> Prop), tn i s.heap -> Q (.ref it) s -> wpAny (model P w) A (pyIter (.ref it)) Q E s
abbrev TI := St -> Hp -> (It -> Hp -> Prop) -> Prop
def PIE (X : Cx) (pins : List (Addr × Obj)) (σ : St) (tg : Expr) (R : It -> Hp -> Prop) (itv : Value) (s2 : Shared) : Prop :=
 ∃ (it : Addr) (fp : List Addr) (tn : Nat -> Heap -> Prop) (J : It) (H' : Hp), itv = .ref it /\ Inv X pins σ H' s2 /\ Turn X.prog X.w X.K tg J fp it tn /\ tn 0 s2.heap /\ (∀ b ∈ fp, iG X pins H' b) /\ R J H'
def PI (X : Cx) (tg iter : Expr) (wi : TI) : Prop :=
 ∀ (pins : List (Addr × Obj)) (s : Shared) (σ : St) (H : Hp) (R : It -> Hp -> Prop), Inv X pins σ H s -> wi σ H R ->
   wpAny (model X.prog X.w) X.A (eval iter X.env) (fun v s1 => wpAny (model X.prog X.w) X.A (pyIter v) (PIE X pins σ tg R) X.xe s1) X.xe s
theorem Ph {M : Model} {A : Around} {E : Value -> Shared -> Prop} {s : Shared} {tg : Expr} {it : Addr} {u : Value} {o : Obj} {n : String} {vs : Array Value} {Q : Unit -> Shared -> Prop} (ho : s.heap.get? it = some o) (hc : o.cls = .type n) (hd : o.data = .fields vs)
 (hn : ["enumerate", "zip", "dict_itemiterator", "dict_reverseitemiterator", "odict_iterator", "itertools.zip_longest", "itertools.pairwise"].contains n = false) (hQ : Q () s) : wpAny M A (letOwnedTupleGo tg (.ref it) u) Q E s := by
 unfold letOwnedTupleGo
 cases tg <;> first
  | exact wpAny_pure hQ
  | (cases u <;> first
   | exact wpAny_pure hQ
   | (refine wpAny_bind (wpAny_load ho ?_)
      rw [hc, hd]
      show wpAny M A (if (["enumerate", "zip", "dict_itemiterator", "dict_reverseitemiterator", "odict_iterator", "itertools.zip_longest", "itertools.pairwise"].contains n && vs[0]? == some (rawInt _)) = true then _ else _) Q E s
      rw [if_neg (by intro h; rw [hn, Bool.false_and] at h; cases h)]
      exact wpAny_pure hQ))
def Sy (K : PySem.W.Frag) (a : Addr) : It :=
 ⟨fun i H => ∃ xs x, jj K H a xs /\ xs[i]? = some x, fun i H x H' => H' = H /\ ∀ xs, jj K H a xs -> xs[i]? = some x, fun i H => ∃ xs, jj K H a xs /\ xs.length <= i⟩
def Y7 (K : PySem.W.Frag) (a : Addr) : It :=
 ⟨fun i H => ∃ xs x, IB K H a xs /\ xs[i]? = some x, fun i H x H' => H' = H /\ ∀ xs, IB K H a xs -> xs[i]? = some x, fun i H => ∃ xs, IB K H a xs /\ xs.length <= i⟩
def Vp (lo : Int) (n : Nat) : It := ⟨fun i _ => i < n, fun i H x H' => H' = H /\ x = .int (lo + i), fun i _ => n <= i⟩
theorem Qz {P : Program} {w : World} {K : PySem.W.Frag} {tg : Expr} (a it : Addr) : Turn P w K tg (Sy K a) [it] it (fun i h => h.IsListIter it a i) where
 mem := by simp
 obj := fun i h st b hb => by
  have e : b = it := by simpa using hb
  subst e
  obtain ⟨o, e, c, d⟩ := st
  exact ⟨o, e, fun v z => by rw [d] at z; cases z⟩
 keep := fun i h h' st k => st.at fun o e => k it (by simp) o e
 item := by
  intro X hP hw hK hc i pins s σ H E I hf st hg
  subst hP hw hK
  obtain ⟨xs, x, hq, hx⟩ := hg
  obtain ⟨bT, rv, p, hz⟩ := I.list hq
  obtain ⟨u, hu, ru⟩ := rv.get hx
  obtain ⟨f0, f1, f2, f3, f4, f5⟩ := hf it (by simp)
  refine wpAny_pyNext_list_item st p.isList (x := u) (by simpa using hu) fun h' HN sb => ?_
  have I1 : Inv X pins σ H { s with heap := h' } := I.turned (t' := s.toks) (fun b o hb e => (sb.2 b hb).trans e) f0 f1 f3 f4 f5
  obtain ⟨o, e, c, d⟩ := id HN
  exact ⟨u, rfl, Ph (s := { s with heap := h' }) e c d (by decide) ⟨x, H, I1, ru, ⟨rfl, fun ys hy => by rw [I.Sx hy hq]; exact hx⟩, HN, fun b hb => (hf b hb).1⟩⟩
 done := by
  intro X hP hw hK hc i pins s σ H E I hf st hg
  subst hP hw hK
  obtain ⟨xs, hq, hx⟩ := hg
  obtain ⟨bT, rv, p, hz⟩ := I.list hq
  obtain ⟨f0, f1, f2, f3, f4, f5⟩ := hf it (by simp)
  have hl := rv.length
  exact wpAny_pyNext_list_end (I.ok.hd hc) st p.isList (by simp; omega) fun h' eb => ⟨rfl, I.turned (t' := s.toks) (fun b o hb e => eb b o hb e) f0 f1 f3 f4 f5⟩
 self := fun _ _ _ _ _ st h => wpAny_pyIter_listiter st h
theorem Nm {P : Program} {w : World} {K : PySem.W.Frag} {tg : Expr} (a it : Addr) : Turn P w K tg (Y7 K a) [it] it (fun i h => h.IsTupleIter it a i) where
 mem := by simp
 obj := fun i h st b hb => by
  have e : b = it := by simpa using hb
  subst e
  obtain ⟨o, e, c, d⟩ := st
  exact ⟨o, e, fun v z => by rw [d] at z; cases z⟩
 keep := fun i h h' st k => st.at fun o e => k it (by simp) o e
 item := by
  intro X hP hw hK hc i pins s σ H E I hf st hg
  subst hP hw hK
  obtain ⟨xs, x, hq, hx⟩ := hg
  obtain ⟨bT, rv, p, hz⟩ := I.tuple hq
  obtain ⟨u, hu, ru⟩ := rv.get hx
  obtain ⟨f0, f1, f2, f3, f4, f5⟩ := hf it (by simp)
  refine wpAny_pyNext_tuple_item st (show s.heap.IsTuple a bT.toArray from p) (x := u) (by simpa using hu) fun h' HN sb => ?_
  have I1 : Inv X pins σ H { s with heap := h' } := I.turned (t' := s.toks) (fun b o hb e => (sb.2 b hb).trans e) f0 f1 f3 f4 f5
  obtain ⟨o, e, c, d⟩ := id HN
  exact ⟨u, rfl, Ph (s := { s with heap := h' }) e c d (by decide) ⟨x, H, I1, ru, ⟨rfl, fun ys hy => by rw [I.QX hy hq]; exact hx⟩, HN, fun b hb => (hf b hb).1⟩⟩
 done := by
  intro X hP hw hK hc i pins s σ H E I hf st hg
  subst hP hw hK
  obtain ⟨xs, hq, hx⟩ := hg
  obtain ⟨bT, rv, p, hz⟩ := I.tuple hq
  obtain ⟨f0, f1, f2, f3, f4, f5⟩ := hf it (by simp)
  have hl := rv.length
  exact wpAny_pyNext_tuple_end (I.ok.hd hc) st (show s.heap.IsTuple a bT.toArray from p) (by simp; omega) fun h' eb => ⟨rfl, I.turned (t' := s.toks) (fun b o hb e => eb b o hb e) f0 f1 f3 f4 f5⟩
 self := fun _ _ _ _ _ st h => wpAny_pyIter_tupleiter st h
theorem MZ {P : Program} {w : World} {K : PySem.W.Frag} {tg : Expr} (it : Addr) (lo : Int) (n : Nat) : Turn P w K tg (Vp lo n) [it] it (fun i h => IsRangeIter h it (lo + (i : Nat) * 1) ((n : Int) - (i : Nat)) 1) where
 mem := by simp
 obj := fun i h st b hb => by
  have e : b = it := by simpa using hb
  subst e
  exact ⟨_, st, fun v z => by
   have z' : Data.fields _ = Data.cell v := z
   cases z'⟩
 keep := fun i h h' st k => k it (by simp) _ st
 item := by
  intro X hP hw hK hc i pins s σ H E I hf st hg
  subst hP hw hK
  obtain ⟨f0, f1, f2, f3, f4, f5⟩ := hf it (by simp)
  have W := Walks.range (prog := X.prog) (w := X.w) (I.ok.hd hc) it lo 1 n
  refine W.item i s _ _ hg st fun v h' tk hv HN kk => ?_
  obtain ⟨t, rfl⟩ := hv
  have I1 : Inv X pins σ H { s with heap := h', toks := tk } := I.turned (fun b o hb e => kk b o (by simpa using hb) e) f0 f1 f3 f4 f5
  refine ⟨_, rfl, Ph (s := { s with heap := h', toks := tk }) (n := "range_iterator") HN rfl rfl (by decide) ⟨.int (lo + i), H, I1, ⟨t, ?_⟩, ⟨rfl, rfl⟩, HN, fun b hb => (hf b hb).1⟩⟩
  rw [Int.mul_one]
 done := by
  intro X hP hw hK hc i pins s σ H E I hf st hg
  subst hP hw hK
  obtain ⟨f0, f1, f2, f3, f4, f5⟩ := hf it (by simp)
  exact wpAny_pyNext_range_end (I.ok.hd hc) st (by have : n <= i := hg; omega) fun h' eb => ⟨rfl, I.turned (t' := s.toks) (fun b o hb e => eb b o hb e) f0 f1 f3 f4 f5⟩
 self := fun _ _ _ _ _ st h => wpAny_pyIter_rangeiter st h
section
variable {X : Cx} {tg : Expr}
def T1 (K : PySem.W.Frag) (tl : TE) : TI := fun σ H R => tl σ H fun x H1 => ∃ a, x = .ref a /\ (∃ xs, jj K H1 a xs) /\ R (Sy K a) H1
def ac7 (K : PySem.W.Frag) (tl : TE) : TI := fun σ H R => tl σ H fun x H1 => ∃ a, x = .ref a /\ (∃ xs, IB K H1 a xs) /\ R (Y7 K a) H1
theorem iO {l : Expr} {tl : TE} (hl : PE X l tl) : PI X tg l (T1 X.K tl) := by
 intro pins s σ H R I h
 refine dF (hl pins s σ H _ I h) fun v s1 ⟨x, H1, I1, r1, q1⟩ => ?_
 obtain ⟨a, e, ⟨xs, hq⟩, q⟩ := q1
 subst e
 cases r1
 obtain ⟨bT, rv, p, hz⟩ := I1.list hq
 refine wpAny_pyIter_list p.isList ?_
 refine ⟨s1.heap.objs.size, [s1.heap.objs.size], _, _, H1, rfl, I1.kept (t' := s1.toks) fun b o e => Heap.get?_push_of_some _ e, Qz a _, ⟨_, Heap.get?_push_size _ rfl, rfl, rfl⟩, fun b hb => ?_, q⟩
 have e : b = s1.heap.objs.size := by simpa using hb
 subst e
 exact I1.Er (Nat.le_refl _) (I1.bD.fresh (Nat.le_refl _))
theorem abK {l : Expr} {tl : TE} (hl : PE X l tl) : PI X tg l (ac7 X.K tl) := by
 intro pins s σ H R I h
 refine dF (hl pins s σ H _ I h) fun v s1 ⟨x, H1, I1, r1, q1⟩ => ?_
 obtain ⟨a, e, ⟨xs, hq⟩, q⟩ := q1
 subst e
 cases r1
 obtain ⟨bT, rv, p, hz⟩ := I1.tuple hq
 refine wpAny_pyIter_tuple (show s1.heap.IsTuple a bT.toArray from p) ?_
 refine ⟨s1.heap.objs.size, [s1.heap.objs.size], _, _, H1, rfl, I1.kept (t' := s1.toks) fun b o e => Heap.get?_push_of_some _ e, Nm a _, ⟨_, Heap.get?_push_size _ rfl, rfl, rfl⟩, fun b hb => ?_, q⟩
 have e : b = s1.heap.objs.size := by simpa using hb
 subst e
 exact I1.Er (Nat.le_refl _) (I1.bD.fresh (Nat.le_refl _))
theorem Md {pins : List (Addr × Obj)} {σ : St} {H : Hp} {s : Shared} {R : It -> Hp -> Prop} {E : Value -> Shared -> Prop} {lo hi : Int} {t u v : Tok} {tk : Nat} (I : Inv X pins σ H s) (h1 : -(2 ^ 62) <= lo) (h2 : lo < 2 ^ 62) (h3 : -(2 ^ 62) <= hi) (h4 : hi < 2 ^ 62)
 (q : R (Vp lo (hi - lo).toNat) H) : wpAny (model X.prog X.w) X.A (pyIter (.ref s.heap.objs.size)) (PIE X pins σ tg R) E { s with heap := s.heap.push { cls := .type "range", data := .fields #[.int lo t, .int hi u, .int 1 v] }, toks := tk } := by
 refine wpAny_pyIter_range (IsRange.new ..) (small_one h1 h2 h3 h4) ?_
 have I1 : Inv X pins σ H { s with heap := s.heap.push { cls := .type "range", data := .fields #[.int lo t, .int hi u, .int 1 v] }, toks := tk } := I.kept fun b o e => Heap.get?_push_of_some _ e
 refine ⟨(s.heap.push { cls := .type "range", data := .fields #[.int lo t, .int hi u, .int 1 v] }).objs.size, [(s.heap.push { cls := .type "range", data := .fields #[.int lo t, .int hi u, .int 1 v] }).objs.size], _, _, H, rfl,
  I1.kept (t' := tk) fun b o e => Heap.get?_push_of_some _ e, MZ _ lo (hi - lo).toNat, ?_, fun b hb => ?_, q⟩
 . have e1 : lo + ((0 : Nat) : Int) * 1 = lo := by simp
   have e2 : (((hi - lo).toNat : Nat) : Int) - ((0 : Nat) : Int) = Builtin.Range.rangeSize lo hi 1 := by rw [rangeSize_one]; split <;> omega
   show IsRangeIter _ _ (lo + ((0 : Nat) : Int) * 1) ((((hi - lo).toNat : Nat) : Int) - ((0 : Nat) : Int)) 1
   rw [e1, e2]
   exact Heap.get?_push_size _ rfl
 . have e : b = (s.heap.push { cls := .type "range", data := .fields #[.int lo t, .int hi u, .int 1 v] }).objs.size := by simpa using hb
   subst e
   exact I1.Er (Nat.le_refl _) (I1.bD.fresh (Nat.le_refl _))
def Zc (ta : TA) : TI := fun σ H R => ta σ H fun vs H1 => ∃ j : Int, vs = [.int j] /\ -(2 ^ 62) <= j /\ j < 2 ^ 62 /\ R (Vp 0 j.toNat) H1
def Y5 (ta : TA) : TI := fun σ H R => ta σ H fun vs H1 => ∃ i j : Int, vs = [.int i, .int j] /\ (-(2 ^ 62) <= i /\ i < 2 ^ 62 /\ -(2 ^ 62) <= j /\ j < 2 ^ 62) /\ R (Vp i (j - i).toNat) H1
theorem JG {a : Expr} {ta : TA} {p pos : Pos} (hg : Gl X "range") (hm : X.mg "range" = none) (ha : PA X [a] ta) (hs : starEach [a] X.env = [(false, eval a X.env)] := by rfl) : PI X tg (.Call (.Name "range" p) [a] [] pos) (Zc ta) := by
 intro pins s σ H R I h
 refine Call_ (AO I hg hm boot_range (PyProof.Rows.callWith_type1 (dF (ha pos pins s σ H _ I h) fun us s1 ⟨vs, H1, I1, r1, q1⟩ => ?_) hs rfl))
 obtain ⟨j, e, q1, q2, q⟩ := q1
 subst e
 cases r1 with
 | cons r rr =>
   cases rr
   obtain ⟨t, rfl⟩ := r
   exact call_range_1 (Md I1 (by omega) (by omega) q1 q2 (by simpa using q))
theorem Rv {a b : Expr} {ta : TA} {p pos : Pos} (hg : Gl X "range") (hm : X.mg "range" = none) (ha : PA X [a, b] ta) (hs : starEach [a, b] X.env = [(false, eval a X.env), (false, eval b X.env)] := by rfl) (KY : starEach [b] X.env = [(false, eval b X.env)] := by rfl) :
 PI X tg (.Call (.Name "range" p) [a, b] [] pos) (Y5 ta) := by
 intro pins s σ H R I h
 refine Call_ (AO I hg hm boot_range (PyProof.Rows.callWith_type1 (dF (ha pos pins s σ H _ I h) fun us s1 ⟨vs, H1, I1, r1, q1⟩ => ?_) (by rw [hs, KY]) (by rw [KY]; rfl)))
 obtain ⟨i, j, e, ⟨q1, q2, q3, q4⟩, q⟩ := q1
 subst e
 cases r1 with
 | cons r rr =>
   cases rr with
   | cons r' rr =>
     cases rr
     obtain ⟨t, rfl⟩ := r
     obtain ⟨t', rfl⟩ := r'
     exact call_range_2 (Md I1 q1 q2 q3 q4 q)
def P6 (wi : TI) (g : TG) (tb : TS) : TS := fun D σ H => wi σ H fun J H1 => ∃ W : Nat -> Nat -> St -> Hp -> Prop, (∃ m, W 0 m σ H1) /\ ∀ i m σ H, W i m σ H ->
 (J.stop i H /\ D.nx σ H) \/ (J.go i H /\ ∃ N : St -> Hp -> Prop, (∀ σ' H', N σ' H' -> ∃ m', m' < m /\ W (i + 1) m' σ' H') /\ ∀ x H', J.Vj i H x H' -> g x σ H' fun σ2 H2 => tb { D with nx := N, ct := N, bk := D.nx } σ2 H2)
def HX (fp : List Addr) (h : Heap) : List (Addr × Obj) := fp.filterMap fun b => (h.get? b).map fun o => (b, o)
theorem rH {fp : List Addr} {h : Heap} {b : Addr} {o : Obj} (hb : b ∈ fp) (e : h.get? b = some o) : (b, o) ∈ HX fp h := List.mem_filterMap.mpr ⟨b, hb, by rw [e]; rfl⟩
theorem QV {fp : List Addr} {h : Heap} {p : Addr × Obj} (hp : p ∈ HX fp h) : p.1 ∈ fp /\ h.get? p.1 = some p.2 := by
 obtain ⟨b, hb, e⟩ := List.mem_filterMap.mp hp
 cases q : h.get? b with
 | none => rw [q] at e; cases e
 | some o =>
   rw [q] at e
   have e' : (b, o) = p := Option.some.inj e
   subst e'
   exact ⟨hb, q⟩
theorem Inv.pinned {pins : List (Addr × Obj)} {σ : St} {H : Hp} {s : Shared} {fp : List Addr} (I : Inv X pins σ H s) (hf : ∀ b ∈ fp, iG X pins H b) (ho : ∀ b ∈ fp, ∃ o, s.heap.get? b = some o /\ ∀ v, o.data ≠ .cell v) : Inv X (pins ++ HX fp s.heap) σ H s :=
 I.yF fun p hp => (List.mem_append.mp hp).elim (fun z => I.pin p (List.mem_append_right _ z)) fun z => by
  obtain ⟨hb, e⟩ := QV z
  obtain ⟨f0, f1, f2, _⟩ := hf p.1 hb
  obtain ⟨o, e', d⟩ := ho p.1 hb
  rw [e] at e'; cases e'
  exact ⟨e, f0, f1, f2, d⟩
theorem Inv.BG {pins pl : List (Addr × Obj)} {σ : St} {H : Hp} {s : Shared} (I : Inv X (pins ++ pl) σ H s) : Inv X pins σ H s := I.yF fun p hp => I.pin p (List.mem_append_right _ (List.mem_append_left _ hp))
theorem oQ {iter : Expr} {body : List Stmt} {wi : TI} {g : TG} {tb : TS} {pos : Pos} (hp : PassesOwn (model X.prog X.w) X.A X.env X.xe) (hc : X.calm = true) (hi : PI X tg iter wi) (hg : PG X tg g) (hb : MK X body tb)
 (hs : ∀ x, foldedSetIterable iter X.env x = pure x := by intro _; rfl) : PS X (.For tg iter body [] pos) (P6 wi g tb) := by
 intro pins s σ H D I h
 refine wpAny_For (dF (hi pins s σ H _ I h) fun v s1 h1 => dF h1 fun itv s2 h2 => ?_) hs
 obtain ⟨it, fp, tn, J, H2, e, I2, T, st2, f2, W, ⟨m0, w0⟩, turn⟩ := h2
 subst e
 have stat : ∀ {H' : Hp}, (∀ b ∈ fp, H' b = none) -> ∀ b ∈ fp, iG X pins H' b := fun hn b hb => ⟨hn b hb, (f2 b hb).2⟩
 refine codeAny_forLoop_any (fun n s' => ∃ i σ' H', Inv X pins σ' H' s' /\ tn i s'.heap /\ (∀ b ∈ fp, H' b = none) /\ W i n σ' H') ?_ m0 ⟨0, σ, H2, I2, st2, fun b hb => (f2 b hb).1, w0⟩
 rintro n s3 ⟨i, σ3, H3, I3, st3, EK, w3⟩
 rcases turn i n σ3 H3 w3 with ⟨stop, qn⟩ | ⟨go, N, hN, step⟩
 . refine wpAny_passesOwn hp (dF (T.done X rfl rfl rfl hc i pins s3 σ3 H3 X.xe I3 (stat EK) st3 stop) fun r s4 ⟨hr, I4⟩ => ?_)
   subst hr
   exact wpAny_execs_nil ⟨σ3, H3, I4, qn⟩
 . refine wpAny_passesOwn hp (dF (T.item X rfl rfl rfl hc i pins s3 σ3 H3 X.xe I3 (stat EK) st3 go) fun r s4 ⟨u, hr, h4⟩ => ?_)
   subst hr
   refine wpAny_passesOwn hp (dF h4 fun _ s5 ⟨x, H5, I5, r5, y5, SX, fr5⟩ => ?_)
   have I5' := I5.pinned (stat fr5) (T.obj _ _ SX)
   refine wpAny_passesOwn hp (dF (hg _ s5 σ3 H5 x u _ I5' r5 (step x H5 y5)) fun _ s6 ⟨σ6, H6, I6, q6⟩ => ?_)
   refine wpAny_passesOwn hp (dF (hb _ s6 σ6 H6 _ I6 q6) fun f s7 q7 => ?_)
   have again : ∀ {σ7 : St} {H7 : Hp}, Inv X (pins ++ HX fp s5.heap) σ7 H7 s7 -> N σ7 H7 -> ∃ m, m < n /\ ∃ i σ' H', Inv X pins σ' H' s7 /\ tn i s7.heap /\ (∀ b ∈ fp, H' b = none) /\ W i m σ' H' := fun {σ7 H7} I7 n7 => by
    obtain ⟨m', hm, w7⟩ := hN σ7 H7 n7
    refine ⟨m', hm, i + 1, σ7, H7, I7.BG, T.keep _ _ _ SX fun b hb o e => (I7.pin (b, o) (List.mem_append_right _ (List.mem_append_right _ (rH hb e)))).1, fun b hb => ?_, w7⟩
    obtain ⟨o, e, d⟩ := T.obj _ _ SX b hb
    exact (I7.pin (b, o) (List.mem_append_right _ (List.mem_append_right _ (rH hb e)))).2.1
   cases f with
   | next => obtain ⟨σ7, H7, I7, n7⟩ := q7; exact again I7 n7
   | cont => obtain ⟨σ7, H7, I7, n7⟩ := q7; exact again I7 n7
   | brk => obtain ⟨σ7, H7, I7, q7⟩ := q7; exact ⟨σ7, H7, I7.BG, q7⟩
   | ret v => obtain ⟨x7, σ7, H7, I7, r7, q7⟩ := q7; exact ⟨x7, σ7, H7, I7.BG, r7, q7⟩
end
theorem UX {K : PySem.W.Frag} {a : Addr} {xs : List V} {g : TG} {tb : TS} {D : Ends} {σ : St} {H : Hp} (Pv : Nat -> St -> Hp -> Prop) (h0 : Pv 0 σ H) (hl : ∀ i σ H, i <= xs.length -> Pv i σ H -> jj K H a xs)
 (hs : ∀ i x σ H, xs[i]? = some x -> Pv i σ H -> g x σ H fun σ2 H2 => tb { D with nx := Pv (i + 1), ct := Pv (i + 1), bk := D.nx } σ2 H2) (hd : ∀ σ H, Pv xs.length σ H -> D.nx σ H) :
 ∃ W : Nat -> Nat -> St -> Hp -> Prop, (∃ m, W 0 m σ H) /\ ∀ i m σ H, W i m σ H ->
   ((Sy K a).stop i H /\ D.nx σ H) \/ ((Sy K a).go i H /\ ∃ N : St -> Hp -> Prop, (∀ σ' H', N σ' H' -> ∃ m', m' < m /\ W (i + 1) m' σ' H') /\ ∀ x H', (Sy K a).Vj i H x H' -> g x σ H' fun σ2 H2 => tb { D with nx := N, ct := N, bk := D.nx } σ2 H2) := by
 refine ⟨fun i m σ H => m = xs.length - i /\ i <= xs.length /\ Pv i σ H, ⟨xs.length, by simp, Nat.zero_le _, h0⟩, ?_⟩
 rintro i m σ H ⟨rfl, hi, p⟩
 have q := hl i σ H hi p
 by_cases lK : i < xs.length
 . refine .inr ⟨⟨xs, xs[i], q, by simp [lK]⟩, Pv (i + 1), fun σ' H' p' => ⟨xs.length - (i + 1), by omega, rfl, lK, p'⟩, fun x H' y => ?_⟩
   obtain ⟨e, y⟩ := y
   subst e
   exact hs i x σ _ (y xs q) p
 . have e : i = xs.length := by omega
   subst e
   exact .inl ⟨⟨xs, q, Nat.le_refl _⟩, hd σ H p⟩
theorem W8 {K : PySem.W.Frag} {a : Addr} {xs : List V} {g : TG} {tb : TS} {D : Ends} {σ : St} {H : Hp} (Pv : Nat -> St -> Hp -> Prop) (h0 : Pv 0 σ H) (hl : ∀ i σ H, i <= xs.length -> Pv i σ H -> IB K H a xs)
 (hs : ∀ i x σ H, xs[i]? = some x -> Pv i σ H -> g x σ H fun σ2 H2 => tb { D with nx := Pv (i + 1), ct := Pv (i + 1), bk := D.nx } σ2 H2) (hd : ∀ σ H, Pv xs.length σ H -> D.nx σ H) :
 ∃ W : Nat -> Nat -> St -> Hp -> Prop, (∃ m, W 0 m σ H) /\ ∀ i m σ H, W i m σ H ->
   ((Y7 K a).stop i H /\ D.nx σ H) \/ ((Y7 K a).go i H /\ ∃ N : St -> Hp -> Prop, (∀ σ' H', N σ' H' -> ∃ m', m' < m /\ W (i + 1) m' σ' H') /\ ∀ x H', (Y7 K a).Vj i H x H' -> g x σ H' fun σ2 H2 => tb { D with nx := N, ct := N, bk := D.nx } σ2 H2) := by
 refine ⟨fun i m σ H => m = xs.length - i /\ i <= xs.length /\ Pv i σ H, ⟨xs.length, by simp, Nat.zero_le _, h0⟩, ?_⟩
 rintro i m σ H ⟨rfl, hi, p⟩
 have q := hl i σ H hi p
 by_cases lK : i < xs.length
 . refine .inr ⟨⟨xs, xs[i], q, by simp [lK]⟩, Pv (i + 1), fun σ' H' p' => ⟨xs.length - (i + 1), by omega, rfl, lK, p'⟩, fun x H' y => ?_⟩
   obtain ⟨e, y⟩ := y
   subst e
   exact hs i x σ _ (y xs q) p
 . have e : i = xs.length := by omega
   subst e
   exact .inl ⟨⟨xs, q, Nat.le_refl _⟩, hd σ H p⟩
theorem EX {lo : Int} {n : Nat} {g : TG} {tb : TS} {D : Ends} {σ : St} {H : Hp} (Pv : Nat -> St -> Hp -> Prop) (h0 : Pv 0 σ H)
 (hs : ∀ i σ H, i < n -> Pv i σ H -> g (.int (lo + i)) σ H fun σ2 H2 => tb { D with nx := Pv (i + 1), ct := Pv (i + 1), bk := D.nx } σ2 H2) (hd : ∀ σ H, Pv n σ H -> D.nx σ H) :
 ∃ W : Nat -> Nat -> St -> Hp -> Prop, (∃ m, W 0 m σ H) /\ ∀ i m σ H, W i m σ H ->
   ((Vp lo n).stop i H /\ D.nx σ H) \/ ((Vp lo n).go i H /\ ∃ N : St -> Hp -> Prop, (∀ σ' H', N σ' H' -> ∃ m', m' < m /\ W (i + 1) m' σ' H') /\ ∀ x H', (Vp lo n).Vj i H x H' -> g x σ H' fun σ2 H2 => tb { D with nx := N, ct := N, bk := D.nx } σ2 H2) := by
 refine ⟨fun i m σ H => m = n - i /\ i <= n /\ Pv i σ H, ⟨n, by simp, Nat.zero_le _, h0⟩, ?_⟩
 rintro i m σ H ⟨rfl, hi, p⟩
 by_cases lK : i < n
 . refine .inr ⟨lK, Pv (i + 1), fun σ' H' p' => ⟨n - (i + 1), by omega, rfl, lK, p'⟩, fun x H' y => ?_⟩
   obtain ⟨e, y⟩ := y
   subst e y
   exact hs i σ _ lK p
 . have e : i = n := by omega
   subst e
   exact .inl ⟨Nat.le_refl _, hd σ H p⟩
abbrev R2 := V -> V -> Hp -> VK -> Prop
def Bb (X : Cx) (f : Value -> Value -> Sem Value) (r : R2) : Prop :=
 ∀ (pins : List (Addr × Obj)) (s : Shared) (σ : St) (H : Hp) (x y : V) (v u : Value) (Q : VK), Inv X pins σ H s -> RelV x v -> RelV y u -> r x y H Q ->
   wpAny (model X.prog X.w) X.A (f v u) (EP X pins σ Q) X.xe s
def UnR (X : Cx) (f : Value -> Sem Value) (r : V -> Hp -> VK -> Prop) : Prop :=
 ∀ (pins : List (Addr × Obj)) (s : Shared) (σ : St) (H : Hp) (x : V) (v : Value) (Q : VK), Inv X pins σ H s -> RelV x v -> r x H Q ->
   wpAny (model X.prog X.w) X.A (f v) (EP X pins σ Q) X.xe s
def i9 (X : Cx) (f : Value) (r : List V -> Hp -> VK -> Prop) : Prop :=
 ∀ (pins : List (Addr × Obj)) (s : Shared) (σ : St) (H : Hp) (xs : List V) (us : List Value) (Q : VK), Inv X pins σ H s -> Vals xs us -> r xs H Q ->
   wpAny (model X.prog X.w) X.A (call f us) (EP X pins σ Q) X.xe s
def afU (X : Cx) (r : V -> Hp -> (Bool -> Hp -> Prop) -> Prop) : Prop :=
 ∀ (pins : List (Addr × Obj)) (s : Shared) (σ : St) (H : Hp) (x : V) (v : Value) (Q : Bool -> Hp -> Prop), Inv X pins σ H s -> RelV x v -> r x H Q ->
   wpAny (model X.prog X.w) X.A (truthy v) (TP X pins σ Q) X.xe s
def tOp (r : R2) (ta tb : TE) : TE := fun σ H Q => ta σ H fun x H1 => tb σ H1 fun y H2 => r x y H2 Q
def tUn (r : V -> Hp -> VK -> Prop) (ta : TE) : TE := fun σ H Q => ta σ H fun x H1 => r x H1 Q
def rI (C : Int -> Int -> Prop) (g : Int -> Int -> V) : R2 := fun x y H Q => ∃ i j, x = .int i /\ y = .int j /\ C i j /\ Q (g i j) H
def XX (g : Int -> Int -> V) : R2 := fun x y H Q => ∃ i j, x = .int i /\ y = .int j /\ Q (g i j) H
def rU (g : Int -> V) : V -> Hp -> VK -> Prop := fun x H Q => ∃ i, x = .int i /\ Q (g i) H
section
variable {X : Cx} {a b c : Expr} {ta tb tc : TE} {pos : Pos}
theorem ZW (ha : PE X a ta) (hb : PE X b tb) {pins : List (Addr × Obj)} {s : Shared} {σ : St} {H : Hp} {R : V -> V -> Hp -> Prop} (I : Inv X pins σ H s)
 (h : ta σ H fun x H1 => tb σ H1 fun y H2 => R x y H2) {Q : Value -> Shared -> Prop} {f : Value -> Value -> Sem Value}
 (hf : ∀ v u s2 x y H2, Inv X pins σ H2 s2 -> RelV x v -> RelV y u -> R x y H2 -> wpAny (model X.prog X.w) X.A (f v u) Q X.xe s2) :
 wpAny (model X.prog X.w) X.A (eval a X.env) (fun v s₁ => wpAny (model X.prog X.w) X.A (eval b X.env) (fun u s₂ => wpAny (model X.prog X.w) X.A (f v u) Q X.xe s₂) X.xe s₁) X.xe s := by
 refine dF (ha pins s σ H _ I h) fun v s1 ⟨x, H1, I1, r1, q1⟩ => ?_
 refine dF (hb pins s1 σ H1 _ I1 q1) fun u s2 ⟨y, H2, I2, r2, q2⟩ => ?_
 exact hf v u s2 x y H2 I2 r1 r2 q2
theorem aC {op : Operator} {r : R2} (ho : Bb X (binaryOp op) r) (ha : PE X a ta) (hb : PE X b tb) : PE X (.BinOp a op b pos) (tOp r ta tb) := by
 intro pins s σ H Q I h
 exact wpAny_BinOp (ZW ha hb I h fun v u s2 x y H2 I2 rx ry q => ho pins s2 σ H2 x y v u Q I2 rx ry q)
theorem ael {op : UnaryOp} {r : V -> Hp -> VK -> Prop} (ho : UnR X (unaryOp op) r) (ha : PE X a ta) : PE X (.UnaryOp op a pos) (tUn r ta) := by
 intro pins s σ H Q I h
 exact UnaryOp_ (dF (ha pins s σ H _ I h) fun v s1 ⟨x, H1, I1, r1, q1⟩ => ho pins s1 σ H1 x v Q I1 r1 q1)
theorem opI {f : Value -> Value -> Sem Value} {C : Int -> Int -> Prop} {g : Int -> Int -> Int}
 (rule : ∀ (i j : Int) (t u : Tok) (s : Shared) (Q : Value -> Shared -> Prop) (E : Value -> Shared -> Prop), C i j -> Q (.int (g i j) s.toks) { s with toks := s.toks + 1 } -> wpAny (model X.prog X.w) X.A (f (.int i t) (.int j u)) Q E s) :
 Bb X f (rI C fun i j => .int (g i j)) := by
 intro pins s σ H x y v u Q I rx ry h
 obtain ⟨i, j, rfl, rfl, hc, q⟩ := h
 obtain ⟨t, rfl⟩ := rx
 obtain ⟨t', rfl⟩ := ry
 exact rule i j t t' s _ _ hc ⟨.int (g i j), H, I.tok _, ⟨_, rfl⟩, q⟩
theorem ae5 {f : Value -> Value -> Sem Value} {g : Int -> Int -> Int}
 (rule : ∀ (i j : Int) (t u : Tok) (s : Shared) (Q : Value -> Shared -> Prop) (E : Value -> Shared -> Prop), Q (.int (g i j) s.toks) { s with toks := s.toks + 1 } -> wpAny (model X.prog X.w) X.A (f (.int i t) (.int j u)) Q E s) :
 Bb X f (XX fun i j => .int (g i j)) := by
 intro pins s σ H x y v u Q I rx ry h
 obtain ⟨i, j, rfl, rfl, q⟩ := h
 obtain ⟨t, rfl⟩ := rx
 obtain ⟨t', rfl⟩ := ry
 exact rule i j t t' s _ _ ⟨.int (g i j), H, I.tok _, ⟨_, rfl⟩, q⟩
theorem X1 {f : Value -> Value -> Sem Value} {g : Int -> Int -> Bool}
 (rule : ∀ (i j : Int) (t u : Tok) (s : Shared) (Q : Value -> Shared -> Prop) (E : Value -> Shared -> Prop), Q (.bool (g i j)) s -> wpAny (model X.prog X.w) X.A (f (.int i t) (.int j u)) Q E s) :
 Bb X f (XX fun i j => .bl (g i j)) := by
 intro pins s σ H x y v u Q I rx ry h
 obtain ⟨i, j, rfl, rfl, q⟩ := h
 obtain ⟨t, rfl⟩ := rx
 obtain ⟨t', rfl⟩ := ry
 exact rule i j t t' s _ _ ⟨.bl (g i j), H, I, rfl, q⟩
def aaX (i j : Int) : Prop := 0 <= j /\ j <= 1000000 /\ i.natAbs < 2 ^ 64
theorem bU : Bb X (binaryOp .Add) (XX fun i j => .int (i + j)) := ae5 fun _ _ _ _ _ _ _ q => add_int q
theorem AK : Bb X (binaryOp .Sub) (XX fun i j => .int (i - j)) := ae5 fun _ _ _ _ _ _ _ q => sub_int q
theorem aa6 : Bb X (binaryOp .Mod) (rI (fun _ j => 0 < j) fun i j => .int (i % j)) := opI fun i j _ _ _ _ _ hc q => by
 have h1 : (0 : Int) < j := hc
 exact mod_int' (by omega) (by rw [Int.fmod_eq_emod_of_nonneg i (by omega)]; exact q)
theorem Bd : Bb X (binaryOp .Pow) (rI aaX fun i j => .int (i ^ j.toNat)) := opI fun _ _ _ _ _ _ _ hc q => pow_int_small hc.1 hc.2.1 hc.2.2 q
theorem unI {f : Value -> Sem Value} {g : Int -> Int}
 (rule : ∀ (i : Int) (t : Tok) (s : Shared) (Q : Value -> Shared -> Prop) (E : Value -> Shared -> Prop), Q (.int (g i) s.toks) { s with toks := s.toks + 1 } -> wpAny (model X.prog X.w) X.A (f (.int i t)) Q E s) :
 UnR X f (rU fun i => .int (g i)) := by
 intro pins s σ H x v Q I rx h
 obtain ⟨i, rfl, q⟩ := h
 obtain ⟨t, rfl⟩ := rx
 exact rule i t s _ _ ⟨.int (g i), H, I.tok _, ⟨_, rfl⟩, q⟩
theorem aaM : UnR X (unaryOp .USub) (rU fun i => .int (-i)) := unI fun _ _ _ _ _ q => neg_int q
end
def XC : V -> V -> Bool
 | .aS, .aS => true | .aS, .int _ => true | .int _, .aS => true | .aS, .bl _ => true | .bl _, .aS => true | .aS, .str _ => true | .str _, .aS => true
 | .int _, .int _ => true | .bl _, .bl _ => true | .str _, .str _ => true | .OY _, .OY _ => true
 | .int _, .str _ => true | .str _, .int _ => true | .bl _, .str _ => true | .str _, .bl _ => true
 | _, _ => false
def rEq : R2 := fun x y H Q => XC x y = true /\ Q (.bl (decide (x = y))) H
def rNe : R2 := fun x y H Q => XC x y = true /\ Q (.bl (!decide (x = y))) H
theorem Pq {i j : Int} : decide (V.int i = V.int j) = (i == j) := by
 rw [Bool.eq_iff_iff]
 simp
theorem UT {i j : Bool} : decide (V.bl i = V.bl j) = (i == j) := by
 rw [Bool.eq_iff_iff]
 simp
theorem Pt {i j : Str} : decide (V.str i = V.str j) = (i == j) := by
 rw [Bool.eq_iff_iff]
 simp
theorem OV {i j : Array UInt8} : decide (V.OY i = V.OY j) = (i.toList == j.toList) := by
 rw [Bool.eq_iff_iff]
 cases i
 cases j
 simp
section
variable {X : Cx} {a b c : Expr} {ta tb tc : TE} {pos : Pos}
theorem a9 {pins : List (Addr × Obj)} {σ : St} {H : Hp} {s : Shared} {Q : VK} {k k' : Bool} (I : Inv X pins σ H s) (q : Q (.bl k) H) (e : k = k') : EP X pins σ Q (.bool k') s := by
 subst e
 exact ⟨.bl k, H, I, rfl, q⟩
theorem ad4 : Bb X (compareOp .Eq) rEq := by
 intro pins s σ H x y v u Q I rx ry h
 obtain ⟨hs, q⟩ := h
 cases x with
 | aS =>
   cases rx
   cases y with
   | aS => cases ry; exact PySem.EqNone.eq_none_none (a9 I q (by simp))
   | bl j => cases ry; exact PySem.EqNone.eq_none_bool (a9 I q (by simp))
   | int j => obtain ⟨t', rfl⟩ := ry; exact PySem.EqNone.eq_none_int (a9 I q (by simp))
   | str j => obtain ⟨t', rfl⟩ := ry; exact PySem.EqNone.eq_none_str (a9 I q (by simp))
   | _ => exact absurd (show false = true from hs) Bool.false_ne_true
 | bl i =>
   cases rx
   cases y with
   | aS => cases ry; exact PySem.EqNone.eq_bool_none (a9 I q (by simp))
   | bl j => cases ry; exact eq_bool (a9 I q UT)
   | str j => obtain ⟨t', rfl⟩ := ry; exact PySem.EqMixed.eq_bool_str (a9 I q (by simp))
   | _ => exact absurd (show false = true from hs) Bool.false_ne_true
 | int i =>
   obtain ⟨t, rfl⟩ := rx
   cases y with
   | aS => cases ry; exact PySem.EqNone.eq_int_none (a9 I q (by simp))
   | int j => obtain ⟨t', rfl⟩ := ry; exact eq_int (a9 I q Pq)
   | str j => obtain ⟨t', rfl⟩ := ry; exact PySem.EqMixed.eq_int_str (a9 I q (by simp))
   | _ => exact absurd (show false = true from hs) Bool.false_ne_true
 | str i =>
   obtain ⟨t, rfl⟩ := rx
   cases y with
   | aS => cases ry; exact PySem.EqNone.eq_str_none (a9 I q (by simp))
   | bl j => cases ry; exact PySem.EqMixed.eq_str_bool (a9 I q (by simp))
   | int j => obtain ⟨t', rfl⟩ := ry; exact PySem.EqMixed.eq_str_int (a9 I q (by simp))
   | str j => obtain ⟨t', rfl⟩ := ry; exact eq_str (a9 I q Pt)
   | _ => exact absurd (show false = true from hs) Bool.false_ne_true
 | OY i =>
   obtain ⟨t, rfl⟩ := rx
   cases y with
   | OY j => obtain ⟨t', rfl⟩ := ry; exact PySem.W.eq_bytes (a9 I q OV)
   | _ => exact absurd (show false = true from hs) Bool.false_ne_true
 | _ => cases y <;> exact absurd (show false = true from hs) Bool.false_ne_true
theorem adY : Bb X (compareOp .NotEq) rNe := by
 intro pins s σ H x y v u Q I rx ry h
 obtain ⟨hs, q⟩ := h
 cases x with
 | aS =>
   cases rx
   cases y with
   | aS => cases ry; exact PySem.EqNone.ne_none_none (a9 I q (by simp))
   | bl j => cases ry; exact PySem.EqNone.ne_none_bool (a9 I q (by simp))
   | int j => obtain ⟨t', rfl⟩ := ry; exact PySem.EqNone.ne_none_int (a9 I q (by simp))
   | str j => obtain ⟨t', rfl⟩ := ry; exact PySem.EqNone.ne_none_str (a9 I q (by simp))
   | _ => exact absurd (show false = true from hs) Bool.false_ne_true
 | bl i =>
   cases rx
   cases y with
   | aS => cases ry; exact PySem.EqNone.ne_bool_none (a9 I q (by simp))
   | bl j => cases ry; exact ne_bool (a9 I q (congrArg not UT))
   | str j => obtain ⟨t', rfl⟩ := ry; exact PySem.EqMixed.ne_bool_str (a9 I q (by simp))
   | _ => exact absurd (show false = true from hs) Bool.false_ne_true
 | int i =>
   obtain ⟨t, rfl⟩ := rx
   cases y with
   | aS => cases ry; exact PySem.EqNone.ne_int_none (a9 I q (by simp))
   | int j => obtain ⟨t', rfl⟩ := ry; exact ne_int (a9 I q (congrArg not Pq))
   | str j => obtain ⟨t', rfl⟩ := ry; exact PySem.EqMixed.ne_int_str (a9 I q (by simp))
   | _ => exact absurd (show false = true from hs) Bool.false_ne_true
 | str i =>
   obtain ⟨t, rfl⟩ := rx
   cases y with
   | aS => cases ry; exact PySem.EqNone.ne_str_none (a9 I q (by simp))
   | bl j => cases ry; exact PySem.EqMixed.ne_str_bool (a9 I q (by simp))
   | int j => obtain ⟨t', rfl⟩ := ry; exact PySem.EqMixed.ne_str_int (a9 I q (by simp))
   | str j => obtain ⟨t', rfl⟩ := ry; exact ne_str (a9 I q (congrArg not Pt))
   | _ => exact absurd (show false = true from hs) Bool.false_ne_true
 | OY i =>
   obtain ⟨t, rfl⟩ := rx
   cases y with
   | OY j => obtain ⟨t', rfl⟩ := ry; exact PySem.W.ne_bytes (a9 I q (congrArg not OV))
   | _ => exact absurd (show false = true from hs) Bool.false_ne_true
 | _ => cases y <;> exact absurd (show false = true from hs) Bool.false_ne_true
theorem HK : Bb X (compareOp .Lt) (XX fun i j => .bl (decide (i < j))) := X1 fun _ _ _ _ _ _ _ q => lt_int q
theorem L1 : Bb X (compareOp .LtE) (XX fun i j => .bl (decide (i <= j))) := X1 fun _ _ _ _ _ _ _ q => le_int q
theorem RZ : Bb X (compareOp .Gt) (XX fun i j => .bl (decide (j < i))) := X1 fun _ _ _ _ _ _ _ q => gt_int q
theorem aeS : Bb X (compareOp .GtE) (XX fun i j => .bl (decide (j <= i))) := X1 fun _ _ _ _ _ _ _ q => ge_int q
theorem KD : Bb X (compareOp .Is) (fun x y H Q => y = .aS /\ Q (.bl (decide (x = .aS))) H) := by
 intro pins s σ H x y v u Q I rx ry h
 obtain ⟨rfl, q⟩ := h
 cases ry
 refine is_none_gen (a9 I q ?_)
 cases x <;> first
  | (cases rx; rfl)
  | (obtain ⟨t, rfl⟩ := rx; rfl)
theorem rW : Bb X (compareOp .IsNot) (fun x y H Q => y = .aS /\ Q (.bl (!decide (x = .aS))) H) := by
 intro pins s σ H x y v u Q I rx ry h
 obtain ⟨rfl, q⟩ := h
 cases ry
 refine isnot_none_gen (a9 I q ?_)
 cases x <;> first
  | (cases rx; rfl)
  | (obtain ⟨t, rfl⟩ := rx; rfl)
theorem aI (b : Expr) {op : CmpOp} (h : op ≠ .In := by decide) (h2 : op ≠ .NotIn := by decide) : behindInMarks op b = false := by
 have e1 : (op == CmpOp.In) = false := by cases op <;> first | rfl | exact absurd rfl h
 have e2 : (op == CmpOp.NotIn) = false := by cases op <;> first | rfl | exact absurd rfl h2
 cases b <;> simp [behindInMarks, e1, e2]
theorem iL {op : CmpOp} {r : R2} (ho : Bb X (compareOp op) r) (ha : PE X a ta) (hb : PE X b tb) (hm : behindInMarks op b = false) : PE X (.Compare a [op] [b] pos) (tOp r ta tb) := by
 intro pins s σ H Q I h
 exact wpAny_Compare1 (ZW ha hb I h fun v u s2 x y H2 I2 rx ry q => ho pins s2 σ H2 x y v u Q I2 rx ry q) hm
def Zd (t : TE) : TT := fun σ H Q => t σ H fun x H' => ∃ k, x = .bl k /\ Q k H'
theorem aJ {op : CmpOp} {r : R2} (ho : Bb X (compareOp op) r) (ha : PE X a ta) (hb : PE X b tb) (hm : behindInMarks op b = false) : PT X (.Compare a [op] [b] pos) (Zd (tOp r ta tb)) := by
 intro pins s σ H Q I h
 refine wpAny_isTrue_Compare1 (dF (ha pins s σ H _ I h) fun v s1 ⟨x, H1, I1, r1, q1⟩ => dF (hb pins s1 σ H1 _ I1 q1) fun u s2 ⟨y, H2, I2, r2, q2⟩ =>
  dF (ho pins s2 σ H2 x y v u _ I2 r1 r2 q2) fun c s3 ⟨z, H3, I3, r3, k, e, q3⟩ => ?_) hm
 subst e
 cases r3
 exact wpAny_truthy_bool ⟨H3, I3, q3⟩
def SA (K : PySem.W.Frag) (x : V) (H : Hp) (k : Bool) : Prop :=
 match x with
 | .aS => k = false
 | .bl b => k = b
 | .int i => k = (i != 0)
 | .str y => y.length <= sizeLine /\ k = ((y.length : Int) != 0)
 | .OY y => y.size <= sizeLine /\ k = ((y.size : Int) != 0)
 | .ref p => (∃ xs, jj K H p xs /\ k = !xs.isEmpty) \/ (∃ xs, IB K H p xs /\ k = !xs.isEmpty) \/ ∃ kvs, H p = some (.dK kvs) /\ k = !kvs.isEmpty
 | _ => False
theorem Oj {κ : Type} {kvs : List (κ × V)} {vs : List (κ × Value)} (r : KV kvs vs) : (!vs.isEmpty) = !kvs.isEmpty := by
 cases r <;> rfl
theorem HS {xs : List V} {bT : List Value} (r : Vals xs bT) : (!bT.toArray.isEmpty) = !xs.isEmpty := by
 cases r <;> simp
theorem ED : (sizeLine : Nat) < 2 ^ 63 := by rw [sizeLine_eq]; decide
theorem aaI : afU X (fun x H Q => ∃ k, SA X.K x H k /\ Q k H) := by
 intro pins s σ H x v Q I rx h
 obtain ⟨k, e, q⟩ := h
 have hl := ED
 have hs : sizeLine = 16777216 := sizeLine_eq
 cases x with
 | aS =>
   cases rx
   have e' : k = false := e
   subst e'
   exact truthy_none ⟨H, I, q⟩
 | bl b =>
   cases rx
   have e' : k = b := e
   subst e'
   exact wpAny_truthy_bool ⟨H, I, q⟩
 | int i =>
   obtain ⟨t, rfl⟩ := rx
   have e' : k = (i != 0) := e
   subst e'
   exact PySem.P.truthy_int ⟨H, I, q⟩
 | str y =>
   obtain ⟨t, rfl⟩ := rx
   obtain ⟨hy, e'⟩ : y.length <= sizeLine /\ k = ((y.length : Int) != 0) := e
   subst e'
   exact PySem.P.truthy_str (by omega) ⟨H, I.tok _, q⟩
 | OY y =>
   obtain ⟨t, rfl⟩ := rx
   obtain ⟨hy, e'⟩ : y.size <= sizeLine /\ k = ((y.size : Int) != 0) := e
   subst e'
   exact PySem.W.truthy_bytes (by omega) ⟨H, I.tok _, q⟩
 | ref p =>
   cases rx
   have e' : (∃ xs, jj X.K H p xs /\ k = !xs.isEmpty) \/ (∃ xs, IB X.K H p xs /\ k = !xs.isEmpty) \/ ∃ kvs, H p = some (.dK kvs) /\ k = !kvs.isEmpty := e
   rcases e' with ⟨xs, hx, e'⟩ | ⟨xs, hx, e'⟩ | ⟨kvs, hx, e'⟩
   . subst e'
     obtain ⟨bT, r, pl, hz⟩ := I.list hx
     have hlen := r.length
     exact wpAny_truthy_list pl.isList (by simp only [List.size_toArray]; omega) ⟨H, I.tok _, by rw [HS r]; exact q⟩
   . subst e'
     obtain ⟨bT, r, pl, hz⟩ := I.tuple hx
     have hlen := r.length
     exact truthy_tuple pl (by simp only [List.size_toArray]; omega) ⟨H, I.tok _, by rw [HS r]; exact q⟩
   . subst e'
     obtain ⟨hz, hS, vs, r, m⟩ : kvs.length <= sizeLine /\ (p == sysModules) = false /\ ∃ vs, KV kvs vs /\ s.heap.DictOf (aU X.prog X.w) p vs := I.bD p _ hx
     have hlen : kvs.length = vs.length := Paired.length r
     exact wpAny_truthy_dict hS m (by omega) ⟨H, I.tok _, by rw [Oj r]; exact q⟩
 | _ => exact (show False from e).elim
theorem dC (ha : PE X a ta) (he : ∀ whole, isTrue a X.env whole = (do let v <- whole; standAt a.pos; holding [v] (truthy v))) :
 PT X a (fun σ H Q => ta σ H fun x H' => ∃ k, SA X.K x H' k /\ Q k H') := by
 intro pins s σ H Q I h
 exact isTrue_plain (dF (ha pins s σ H _ I h) fun v s1 ⟨x, H1, I1, r1, q1⟩ => aaI pins s1 σ H1 x v Q I1 r1 q1) (he _)
theorem M7 : Bb X (binaryOp .Add) (fun x y H Q => ∃ i j, x = .str i /\ y = .str j /\ i.length + j.length <= sizeLine /\ Q (.str (i ++ j)) H) := by
 intro pins s σ H x y v u Q I rx ry h
 obtain ⟨i, j, rfl, rfl, hz, q⟩ := h
 obtain ⟨t, rfl⟩ := rx
 obtain ⟨t', rfl⟩ := ry
 exact add_str (fun t' tk => ⟨.str (i ++ j), H, I.tok _, ⟨_, rfl⟩, q⟩) hz
theorem vals1 {x : V} {us : List Value} (r : Vals [x] us) : ∃ u, us = [u] /\ RelV x u := by
 cases r with
 | cons r1 r2 => cases r2; exact ⟨_, rfl, r1⟩
theorem vals2 {x y : V} {us : List Value} (r : Vals [x, y] us) : ∃ u w', us = [u, w'] /\ RelV x u /\ RelV y w' := by
 cases r with
 | cons r1 r2 =>
   cases r2 with
   | cons r3 r4 => cases r4; exact ⟨_, _, rfl, r1, r3⟩
theorem Rw (hc : X.calm = true) : i9 X (.builtin "max") (fun xs H Q => ∃ i j, xs = [.int i, .int j] /\ Q (.int (if j > i then j else i)) H) := by
 intro pins s σ H xs us Q I r h
 obtain ⟨i, j, rfl, q⟩ := h
 obtain ⟨u, w', rfl, ⟨t, rfl⟩, ⟨t', rfl⟩⟩ := vals2 r
 refine max_two_ints (I.ok.hd hc) fun h' tk k => ⟨_, H, I.kept k, ?_, q⟩
 by_cases hj : j > i
 . rw [if_pos hj, if_pos hj]; exact ⟨_, rfl⟩
 . rw [if_neg hj, if_neg hj]; exact ⟨_, rfl⟩
theorem QA (hc : X.calm = true) : i9 X (.builtin "min") (fun xs H Q => ∃ i j, xs = [.int i, .int j] /\ Q (.int (if j < i then j else i)) H) := by
 intro pins s σ H xs us Q I r h
 obtain ⟨i, j, rfl, q⟩ := h
 obtain ⟨u, w', rfl, ⟨t, rfl⟩, ⟨t', rfl⟩⟩ := vals2 r
 refine min_two_ints (I.ok.hd hc) fun h' tk k => ⟨_, H, I.kept k, ?_, q⟩
 by_cases hj : j < i
 . rw [if_pos hj, if_pos hj]; exact ⟨_, rfl⟩
 . rw [if_neg hj, if_neg hj]; exact ⟨_, rfl⟩
end
structure Nt (h : Heap) (x dx C : Addr) (mA : Str -> Option Value) : Prop where
 obj : h.get? x = some (PySem.W.instObj C dx)
 ns : h.Ns1 dx mA
 ne : dx ≠ x
theorem Ra {h : Heap} {dx : Addr} {mA : Str -> Option Value} (n : h.Ns1 dx mA) : ∃ od, h.get? dx = some od /\ ∀ name, PySem.W.lookIn name od = some (mA name) := by
 obtain ⟨o, es, ep, ho, hd, hk, _, hm⟩ := n
 refine ⟨o, ho, fun name => ?_⟩
 have e := hm name
 unfold nsFind findBy at e
 rw [<- Array.find?_toList] at e
 unfold PySem.W.lookIn
 rw [hd]
 dsimp only
 split
 . rename_i y q
   rw [q] at e
   exact congrArg some e
 . rename_i q
   rw [q] at e
   have a : es.toList.any (·.refKey) = false := by
    rw [List.any_eq_false]
    intro y hy
    obtain ⟨z, t, QK⟩ := hk y (Array.mem_toList_iff.mp hy)
    simp [DictEntry.refKey, QK]
   have a' : ¬ es.toList.any (·.refKey) = true := by rw [a]; exact Bool.false_ne_true
   rw [if_neg a']
   exact congrArg some e
theorem Nt.look {h : Heap} {x dx C : Addr} {mA : Str -> Option Value} (I : Nt h x dx C mA) : ∃ od, PySem.W.InstAt h x (PySem.W.instObj C dx) C (some od) /\ ∀ name, PySem.W.lookIn name od = some (mA name) :=
 let ⟨od, ho, hl⟩ := Ra I.ns
 ⟨od, ⟨I.obj, rfl, rfl, ho⟩, hl⟩
section
variable {prog : Program} {w : World} {A : Around} {E : Value -> Shared -> Prop} {s : Shared} {K : PySem.W.Frag} {x dx C f : Addr} {mA : Str -> Option Value} {name : Str} {v : Value}
theorem get_map {expr : Bool} {Q : Value -> Shared -> Prop} (X : K.In s.heap) (I : Nt s.heap x dx C mA) (hg : PySem.W.plainGet K C name = true) (hh : PySem.W.hasDictIn K C = true)
 (ha : PySem.W.findIn K (.ref C) name = some none) (hv : mA name = some v) (hv' : PySem.W.handedIn v = true) (h : Q v { s with toks := s.toks + 1 }) :
 wpAny (model prog w) A (getAttr (.ref x) name expr) Q E s := by
 obtain ⟨od, J, hl⟩ := I.look
 exact PySem.W.get_value X J (PySem.W.plainGet_of hg).1 (PySem.W.findObj_own hh ha rfl (by rw [hl, hv])) hv' h
theorem Uu {pl : Sem Bool} {Q : Value × List Value -> Shared -> Prop} (X : K.In s.heap) (I : Nt s.heap x dx C mA) (hg : PySem.W.plainGet K C name = true)
 (hf : PySem.W.findIn K (.ref C) name = some (some (.ref f))) (ht : PySem.W.isFn K (.ref f) = true) (hv : mA name = none) (h : Q (.ref f, [.ref x]) s) :
 wpAny (model prog w) A (getMethod (.ref x) name pl) Q E s := by
 obtain ⟨od, J, hl⟩ := I.look
 exact PySem.W.method_fn X J (PySem.W.plainGet_of hg).1 (PySem.W.plainGet_of hg).2 hf (beq_iff_eq.mp ht) (by show (PySem.W.lookIn name od).map (·.isSome) = some false; rw [hl, hv]; rfl) h
theorem Wr {ns : List Str} {Q : Unit -> Shared -> Prop} (X : K.In s.heap) (I : Nt s.heap x dx C mA)
 (hs : PySem.W.findIn K (.ref C) "__setattr__" = some (some (.builtin "object.__setattr__"))) (hp : PySem.W.plainOver K C = true) (ht : PySem.W.takerIn K C name = some none) (hh : PySem.W.hasDictIn K C = true)
 (hw : PySem.Within mA ns) (hsz : ns.length <= sizeLine)
 (h : ∀ h', Nt h' x dx C (fun y => if y = name then some v else mA y) -> Heap.SameBut dx s.heap h' -> Q () { s with heap := h', toks := s.toks + 2 }) :
 wpAny (model prog w) A (setAttr (.ref x) name v) Q E s := by
 obtain ⟨od, J, hl⟩ := I.look
 refine PySem.W.set_plain X J hs (PySem.W.osa_open (s := { s with toks := s.toks + 1 }) (r := none) X J hp ht fun b => ?_)
 obtain ⟨cd, hc, K8⟩ := PySem.W.any_some hh
 have hx : s.heap.get? x = some ⟨.ref C, some dx, .plain, #[]⟩ := I.obj
 refine wpAny_bind (wpAny_pure (wpAny_bind (wpAny_bind (wpAny_loadPart hx (wpAny_bind (PySem.W.Looks.here (s := { s with toks := s.toks + 1 }) (PySem.W.looks_clsIn X hc) ?_))))))
 rw [K8]
 refine wpAny_pure (a := some dx) (wpAny_bind (wpAny_pure (wpAny_bind ?_)))
 refine wpAny_nsSet1 (s := { s with toks := s.toks + 1 }) I.ns fun h' Io KY => ?_
 obtain ⟨oD, esD, epD, hoD, hdD, hcD⟩ := Io.count (PySem.Within.cons name v hw)
 refine wpAny_bind (wpAny_lookBehind hoD (by rw [hdD]; exact pastItsLine_dict (Nat.le_trans hcD (by rw [List.length_cons]; omega))) ?_)
 exact wpAny_pure (h _ ⟨(KY.2 _ (Ne.symm I.ne)).trans I.obj, Io, I.ne⟩ KY)
theorem Ta {R : Result -> Shared -> Prop} {vs : List Value} {kw : List (Str × Value)} (X : K.In s.heap) (hm : PySem.W.makesIn K C = true)
 (hi : PySem.W.findIn K (.ref C) "__init__" = some (some (.ref f))) (hf : PySem.W.typeIn K (.ref f) = some (.type "function"))
 (h : codeAny (model prog w) (A.under (.builtin "type.__call__" ⟨.ref C :: vs, kw⟩)) (.call (.ref f) ⟨.ref (s.heap.objs.size + 1) :: vs, kw⟩) (PySem.W.InitBack (s.heap.objs.size + 1) R)
  { s with heap := (s.heap.push PySem.W.emptyDict).push (PySem.W.instObj C s.heap.objs.size) }) :
 codeAny (model prog w) A (.call (.ref C) ⟨vs, kw⟩) R s := by
 obtain ⟨hh, g, d, t, os⟩ := s
 exact PySem.W.make_core (PySem.W.makes_of X hm) (PySem.W.looks_findIn X hi) (fun self => PySem.W.bind_fn X self hf) (.inl rfl) h
end
def qJ (f : Str) (v : V) : List (Str × V) -> List (Str × V)
 | [] => [(f, v)]
 | (g, x) :: r => if g = f then (g, v) :: r else (g, x) :: qJ f v r
theorem FL (f g : Str) (v : V) : ∀ fs : List (Str × V), (qJ f v fs).lookup g = if g = f then some v else fs.lookup g
 | [] => by
   show List.lookup g [(f, v)] = _
   by_cases h : g = f
   . have hb : (g == f) = true := beq_iff_eq.mpr h
     simp only [List.lookup, hb, if_pos h]
   . have hb : (g == f) = false := beq_eq_false_iff_ne.mpr h
     simp only [List.lookup, hb, if_neg h]
 | (k, x) :: r => by
   have ih := FL f g v r
   rw [show qJ f v ((k, x) :: r) = (if k = f then (k, v) :: r else (k, x) :: qJ f v r) from rfl]
   by_cases hk : k = f
   . rw [if_pos hk]
     by_cases h : g = k
     . have hb : (g == k) = true := beq_iff_eq.mpr h
       simp only [List.lookup, hb, if_pos (h.trans hk)]
     . have hb : (g == k) = false := beq_eq_false_iff_ne.mpr h
       simp only [List.lookup, hb, if_neg (fun e : g = f => h (e.trans hk.symm))]
   . rw [if_neg hk]
     by_cases h : g = k
     . have hb : (g == k) = true := beq_iff_eq.mpr h
       simp only [List.lookup, hb, if_neg (fun e : g = f => hk (h.symm.trans e))]
     . have hb : (g == k) = false := beq_eq_false_iff_ne.mpr h
       simp only [List.lookup, hb]
       exact ih
theorem Ew (f : Str) (v : V) : ∀ fs : List (Str × V), f ∈ (qJ f v fs).map (·.1) /\ ∀ g, g ∈ fs.map (·.1) -> g ∈ (qJ f v fs).map (·.1)
 | [] => ⟨by simp [qJ], fun g h => by simp at h⟩
 | (k, x) :: r => by
   obtain ⟨i1, i2⟩ := Ew f v r
   rw [show qJ f v ((k, x) :: r) = (if k = f then (k, v) :: r else (k, x) :: qJ f v r) from rfl]
   by_cases hk : k = f
   . rw [if_pos hk]
     subst hk
     exact ⟨by simp, fun g h => by simpa using h⟩
   . rw [if_neg hk]
     refine ⟨?_, fun g h => ?_⟩
     . rw [List.map_cons]
       exact List.mem_cons_of_mem _ i1
     . rw [List.map_cons] at h ⊢
       rcases List.mem_cons.mp h with e | e
       . exact List.mem_cons.mpr (.inl e)
       . exact List.mem_cons_of_mem _ (i2 g e)
theorem E5 (f : Str) (v : V) : ∀ fs : List (Str × V), (qJ f v fs).length <= fs.length + 1
 | [] => by simp [qJ]
 | (k, x) :: r => by
   have ih := E5 f v r
   rw [show qJ f v ((k, x) :: r) = (if k = f then (k, v) :: r else (k, x) :: qJ f v r) from rfl]
   by_cases hk : k = f
   . rw [if_pos hk, List.length_cons, List.length_cons]; omega
   . rw [if_neg hk, List.length_cons, List.length_cons]; omega
theorem rK.some_of {v : V} {o : Option Value} (r : rK (some v) o) : ∃ u, o = some u /\ RelV v u := by
 cases o with
 | none => exact (show False from r).elim
 | some u => exact ⟨u, rfl, r⟩
theorem rK.none_of {o : Option Value} (r : rK none o) : o = none := by
 cases o with
 | none => rfl
 | some u => exact (show False from r).elim
theorem Ro {v : V} {u : Value} (r : RelV v u) : PySem.W.handedIn u = true := by
 cases v with
 | aS => cases (show u = Value.none from r); rfl
 | bl b => cases (show u = Value.bool b from r); rfl
 | int i => obtain ⟨t, e⟩ := (show ∃ t, u = Value.int i t from r); cases e; rfl
 | str x => obtain ⟨t, e⟩ := (show ∃ t, u = Value.str x t from r); cases e; rfl
 | OY b => obtain ⟨t, e⟩ := (show ∃ t, u = Value.bytes b t from r); cases e; rfl
 | flt b => obtain ⟨t, e⟩ := (show ∃ t, u = Value.float b t from r); cases e; rfl
 | ref a => cases (show u = Value.ref a from r); rfl
 | ty n => cases (show u = Value.type n from r); rfl
section
variable {P : Program} {w : World} {H H' : Hp} {h h' : Heap} {a C dx : Addr} {fs fs' : List (Str × V)}
theorem Gm (bD : rj P w H h) (e : H a = some (.ins C dx fs)) : ∃ mA, Nt h a dx C mA /\ (∀ f, rK (fs.lookup f) (mA f)) /\ PySem.Within mA (fs.map (·.1)) /\ fs.length <= 1000 /\ H dx = some (.own a) := by
 obtain ⟨d, z, ne, ob, mA, n, r, q⟩ := (show cD P w H h a (.ins C dx fs) from bD a _ e)
 exact ⟨mA, ⟨ob, n, ne⟩, r, q, z, d⟩
end
structure vA (K : PySem.W.Frag) (C : Addr) : Prop where
 pg : PySem.W.plainGet K C Str.empty = true
 hd : PySem.W.hasDictIn K C = true
 po : PySem.W.plainOver K C = true
 sa : PySem.W.findIn K (.ref C) "__setattr__" = some (some (.builtin "object.__setattr__"))
theorem vA.get {K : PySem.W.Frag} {C : Addr} (c : vA K C) (f : Str) : PySem.W.plainGet K C f = true := c.pg
def aG (K : PySem.W.Frag) (C : Addr) (f : Str) : Prop := PySem.W.findIn K (.ref C) f = some none
theorem aG.adx {K : PySem.W.Frag} {C : Addr} {f : Str} (n : aG K C f) : PySem.W.takerIn K C f = some none := by
 unfold PySem.W.takerIn
 rw [show PySem.W.findIn K (.ref C) f = some none from n]
 rfl
structure Con (K : PySem.W.Frag) (C : Addr) (f : Str) (v : V) (u : Value) : Prop where
 at_ : PySem.W.findIn K (.ref C) f = some (some u)
 rel : RelV v u
 get : PySem.W.specialIn K u "__get__" = some none
 cp : PySem.W.copiedNames.contains f = false
structure Meth (K : PySem.W.Frag) (C : Addr) (m : Str) (f : Addr) : Prop where
 at_ : PySem.W.findIn K (.ref C) m = some (some (.ref f))
 fn : PySem.W.isFn K (.ref f) = true
 kp : PySem.W.keepIn K (.ref f) = true
section
variable {X : Cx} {pins : List (Addr × Obj)} {σ : St} {H : Hp} {s : Shared} {a C dx : Addr} {fs : List (Str × V)} {f : Str} {v : V} {A : Around} {E : Value -> Shared -> Prop}
theorem MR {b : Bool} {Q : Value -> Shared -> Prop} (I : Inv X pins σ H s) (e : H a = some (.ins C dx fs)) (c : vA X.K C) (n : aG X.K C f) (l : fs.lookup f = some v)
 (h : ∀ u s', Inv X pins σ H s' -> RelV v u -> Q u s') : wpAny (model X.prog X.w) A (getAttr (.ref a) f b) Q E s := by
 obtain ⟨mA, O, r, _, _, _⟩ := Gm I.bD e
 obtain ⟨u, hu, ru⟩ := rK.some_of (v := v) (o := mA f) (by rw [<- l]; exact r f)
 exact get_map I.Bo O (c.get f) c.hd n hu (Ro ru) (h u _ (I.tok _) ru)
theorem GH {m : Str} {g : Addr} {pl : Sem Bool} {Q : Value × List Value -> Shared -> Prop} (I : Inv X pins σ H s) (e : H a = some (.ins C dx fs)) (c : vA X.K C) (k : Meth X.K C m g) (l : fs.lookup m = none)
 (h : Q (.ref g, [.ref a]) s) : wpAny (model X.prog X.w) A (getMethod (.ref a) m pl) Q E s := by
 obtain ⟨mA, O, r, _, _, _⟩ := Gm I.bD e
 have hn : mA m = none := rK.none_of (by rw [<- l]; exact r m)
 exact Uu I.Bo O (c.get m) k.at_ k.fn hn h
theorem N4 {y : V} {u : Value} {Q : Unit -> Shared -> Prop} (I : Inv X pins σ H s) (e : H a = some (.ins C dx fs)) (c : vA X.K C) (n : aG X.K C f) (hl : fs.length < 1000) (ry : RelV y u)
 (h : ∀ s', Inv X pins σ (upd H a (.ins C dx (qJ f y fs))) s' -> Q () s') : wpAny (model X.prog X.w) A (setAttr (.ref a) f u) Q E s := by
 obtain ⟨mA, O, r, wi, _, ho⟩ := Gm I.bD e
 have hz : (fs.map (·.1)).length <= sizeLine := by rw [List.length_map, sizeLine_eq]; omega
 refine Wr I.Bo O c.sa c.po n.adx c.hd wi hz fun h' O' sb => h _ ?_
 have hd : ∃ o, h'.get? dx = some o := let ⟨o, _, _, e', _⟩ := O'.ns; ⟨o, e'⟩
 refine I.write (x := a) (e := dx) (by rw [e]; exact True.intro) (.inr ho) (fun b q hb z => (sb.2 b hb).trans z) hd ?_
 refine ⟨by rw [aq O.ne]; exact ho, ?_, O.ne, O'.obj, _, O'.ns, fun g => ?_, fun g hg => ?_⟩
 . have := E5 f y fs; omega
 . show rK ((qJ f y fs).lookup g) (if g = f then some u else mA g)
   rw [FL]
   by_cases q : g = f
   . rw [if_pos q, if_pos q]; exact ry
   . rw [if_neg q, if_neg q]; exact r g
 . by_cases q : g = f
   . rw [q]; exact (Ew f y fs).1
   . refine (Ew f y fs).2 g (wi g fun z => hg ?_)
     show (if g = f then some u else mA g) = none
     rw [if_neg q]; exact z
theorem Inv.made (I : Inv X pins σ H s) : Inv X pins σ (upd (upd H s.heap.objs.size (.own (s.heap.objs.size + 1))) (s.heap.objs.size + 1) (.ins C s.heap.objs.size []))
 { s with heap := (s.heap.push PySem.W.emptyDict).push (PySem.W.instObj C s.heap.objs.size) } := by
 have e1 : (s.heap.push PySem.W.emptyDict).get? s.heap.objs.size = some PySem.W.emptyDict := Heap.get?_push_size s.heap rfl
 have e2 : ((s.heap.push PySem.W.emptyDict).push (PySem.W.instObj C s.heap.objs.size)).get? (s.heap.objs.size + 1) = some (PySem.W.instObj C s.heap.objs.size) := by
  have := Heap.get?_push_size (s.heap.push PySem.W.emptyDict) (o := PySem.W.instObj C s.heap.objs.size) rfl
  rwa [Heap.size_push] at this
 have e3 : (s.heap.push PySem.W.emptyDict).Ns s.heap.objs.size (fun _ => none) := ⟨PySem.W.emptyDict, #[], _, e1, rfl, (fun e he => absurd he (by simp)), fun _ => rfl⟩
 have I1 := I.laid (a := s.heap.objs.size) (o := .own (s.heap.objs.size + 1)) (h' := s.heap.push PySem.W.emptyDict) (t' := s.toks) (fun b u q => Heap.get?_push_of_some _ q) (Nat.le_refl _) ⟨_, e1⟩
 refine I1.laid (a := s.heap.objs.size + 1) (o := .ins C s.heap.objs.size []) (t' := s.toks) (fun b u q => Heap.get?_push_of_some _ q) (Nat.le_of_eq (Heap.size_push _ _)) ?_
 have ne : s.heap.objs.size ≠ s.heap.objs.size + 1 := Nat.ne_of_lt (Nat.lt_succ_self _)
 refine ⟨by rw [aq ne, ao], Nat.zero_le _, ne, e2, fun _ => none, (Heap.Ns1.of_empty e3).at fun o q => Heap.get?_push_of_some _ q, fun _ => True.intro, fun y hy => absurd rfl hy⟩
theorem Xo {prog : Program} {w : World} {env : Env} {e : Expr} {f : Str} {pos : Pos} {s : Shared} {Q : Value -> Shared -> Prop} (hb : attributeBase e f env (eval e env) = eval e env)
 (h : wpAny (model prog w) A (eval e env) (fun o s₁ => wpAny (model prog w) A (getAttr o f true) Q E s₁) E s) : wpAny (model prog w) A (eval (.Attribute e f pos) env) Q E s :=
 Attribute_any_ h (by rw [arm_eval_Attribute, hb])
end
def aam (K : PySem.W.Frag) (ta : TE) (f : Str) : TE := fun σ H Q => ta σ H fun x H1 => ∃ a C dx fs v, x = .ref a /\ H1 a = some (.ins C dx fs) /\ vA K C /\ aG K C f /\ fs.lookup f = some v /\ Q v H1
def aeb (K : PySem.W.Frag) (ta tv : TE) (f : Str) : TS := fun D σ H => tv σ H fun y H1 => ta σ H1 fun x H2 => ∃ a C dx fs, x = .ref a /\ H2 a = some (.ins C dx fs) /\ vA K C /\ aG K C f /\ fs.length < 1000 /\
 D.nx σ (upd H2 a (.ins C dx (qJ f y fs)))
section
variable {X : Cx} {o e value : Expr} {f : Str} {pos pos' abu : Pos} {ta tv : TE}
theorem av (he : PE X e ta) (hb : attributeBase e f X.env (eval e X.env) = eval e X.env) : PE X (.Attribute e f pos) (aam X.K ta f) := by
 intro pins s σ H Q I h
 refine Xo hb (dF (he pins s σ H _ I h) fun u s1 ⟨x, H1, I1, rx, a, C, dx, fs, v, ex, ea, c, n, l, q⟩ => ?_)
 subst ex
 obtain rfl : u = Value.ref a := rx
 exact MR I1 ea c n l fun u' s2 I2 ru => ⟨v, H1, I2, ru, q⟩
theorem bh (ha : PE X o ta) (hv : PE X value tv) (hs : swapsWith value (some (.Attribute o f pos')) pos.line X.env = pure false) : PS X (.Assign [.Attribute o f pos'] value pos) (aeb X.K ta tv f) := by
 intro pins s σ H D I h
 refine plainObj_wpAny_Assign_Attribute (dF (hv pins s σ H _ I h) fun u s1 ⟨y, H1, I1, ry, q⟩ => dF (ha pins s1 σ H1 _ I1 q) fun ov s2 ⟨x, H2, I2, rx, a, C, dx, fs, ex, ea, c, n, l, q2⟩ => ?_) hs
 subst ex
 obtain rfl : ov = Value.ref a := rx
 exact N4 I2 ea c n l ry fun s3 I3 => ⟨σ, _, I3, q2⟩
end
section
variable {X : Cx} {pins : List (Addr × Obj)} {σ : St} {H : Hp} {s : Shared} {A : Around} {E : Value -> Shared -> Prop} {Q : Value -> Shared -> Prop} {c : Value} {b : Bool}
inductive Dr (K : PySem.W.Frag) (H : Hp) : V -> Value -> Prop where
 | aS : Dr K H .aS (.type "NoneType")
 | bl (x : Bool) : Dr K H (.bl x) (.type "bool")
 | int (i : Int) : Dr K H (.int i) (.type "int")
 | str (x : Str) : Dr K H (.str x) (.type "str")
 | flt (x : UInt64) : Dr K H (.flt x) (.type "float")
 | lst {a : Addr} {xs : List V} (e : H a = some (.lst xs)) : Dr K H (.ref a) (.type "list")
 | ik {a : Addr} {o : Obj} {xs : List V} (e : H a = some (.ik o (.lst xs))) : Dr K H (.ref a) (.type "list")
 | tup {a : Addr} {xs : List V} (e : H a = some (.tup xs)) : Dr K H (.ref a) (.type "tuple")
 | dK {a : Addr} {kvs : List (Key × V)} (e : H a = some (.dK kvs)) : Dr K H (.ref a) (.type "dict")
 | dT {a : Addr} {kvs : List (List Key × V)} (e : H a = some (.dT kvs)) : Dr K H (.ref a) (.type "dict")
 | ins {a C dx : Addr} {fs : List (Str × V)} (e : H a = some (.ins C dx fs)) (cl : vA K C) (ha : PySem.W.findIn K (.ref C) "__class__" = some (some (.builtin "object.__class__")))
  (hn : PySem.W.specialIn K (.builtin "object.__class__") "__get__" = some (some (.builtin "getset_descriptor.__get__"))) (TB : PySem.W.takesIn K (.builtin "object.__class__") = some true)
  (hm : PySem.W.mroIn K C (.type "object") = some true) : Dr K H (.ref a) (.ref C)
theorem Q0 {x : V} {u t : Value} (I : Inv X pins σ H s) (rx : RelV x u) (ty : Dr X.K H x t) (e : PySem.W.kitOne X.K t c = some b) (h : ∀ tk, Q (.bool b) { s with toks := tk }) :
 wpAny (model X.prog X.w) A (call (.builtin "isinstance") [u, c]) Q E s := by
 cases ty with
 | aS => cases (show u = Value.none from rx); exact PySem.W.kia_one PySem.W.kitx_none I.Bo True.intro e (fun z => nomatch z) h
 | bl y => cases (show u = Value.bool y from rx); exact PySem.W.kia_one PySem.W.kitx_bool I.Bo True.intro e (fun z => nomatch z) h
 | int i => obtain ⟨t, q⟩ := (show ∃ t, u = Value.int i t from rx); cases q; exact PySem.W.kia_one PySem.W.kitx_int I.Bo True.intro e (fun z => nomatch z) h
 | str y => obtain ⟨t, q⟩ := (show ∃ t, u = Value.str y t from rx); cases q; exact PySem.W.kia_one PySem.W.kitx_str I.Bo True.intro e (fun z => nomatch z) h
 | flt y => obtain ⟨t, q⟩ := (show ∃ t, u = Value.float y t from rx); cases q; exact PySem.W.kia_one PySem.W.kitx_float I.Bo True.intro e (fun z => nomatch z) h
 | @lst a xs ea =>
   cases (show u = Value.ref a from rx)
   obtain ⟨_, _, n, _, h1⟩ := (show cD X.prog X.w H s.heap a (.lst xs) from I.bD a _ ea)
   exact PySem.W.kia_one PySem.W.kitx_list I.Bo ⟨_, h1, rfl⟩ e (fun z => nomatch z) h
 | @ik a ob xs ea =>
   cases (show u = Value.ref a from rx)
   obtain ⟨_, _, _, n, _, h1⟩ := (show cD X.prog X.w H s.heap a (.ik ob (.lst xs)) from I.bD a _ ea)
   exact PySem.W.kia_one PySem.W.kitx_list I.Bo ⟨_, h1, rfl⟩ e (fun z => nomatch z) h
 | @tup a xs ea =>
   cases (show u = Value.ref a from rx)
   obtain ⟨_, _, _, p⟩ := (show cD X.prog X.w H s.heap a (.tup xs) from I.bD a _ ea)
   obtain ⟨o, h1, h2, _⟩ := p
   exact PySem.W.kia_one PySem.W.kitx_tuple I.Bo ⟨o, h1, h2⟩ e (fun z => nomatch z) h
 | @dK a kvs ea =>
   cases (show u = Value.ref a from rx)
   obtain ⟨_, _, vs, _, p⟩ := (show cD X.prog X.w H s.heap a (.dK kvs) from I.bD a _ ea)
   obtain ⟨o, es, ep, h1, h2, _⟩ := p
   exact PySem.W.kia_one PySem.W.kitx_dict I.Bo ⟨o, h1, h2.1⟩ e (fun z => nomatch z) h
 | @dT a kvs ea =>
   cases (show u = Value.ref a from rx)
   obtain ⟨_, _, xs, _, o, es, ep, h1, h2, _⟩ := (show cD X.prog X.w H s.heap a (.dT kvs) from I.bD a _ ea)
   exact PySem.W.kia_one PySem.W.kitx_dict I.Bo ⟨o, h1, h2.1⟩ e (fun z => nomatch z) h
 | @ins a C dx fs ea cl ha hn TB hm =>
   cases (show u = Value.ref a from rx)
   obtain ⟨mA, O, _⟩ := Gm I.bD ea
   obtain ⟨od, J, _⟩ := O.look
   exact PySem.W.kia_one (PySem.W.kitx_own (cl.get _) cl.hd ha hn TB hm) I.Bo J e (fun z => nomatch z) h
end
structure cF (k : Nat) (A : Around) : Prop where
 hd : A.handled = none
 dp : A.depth + 3 * k + 5 < recursionLimit
 un : A.units + 16 * k + 200 < cLine
theorem cF.mono {j k : Nat} {A : Around} (r : cF k A) (h : j <= k) : cF j A := ⟨r.hd, by have := r.dp; omega, by have := r.un; omega⟩
theorem cF.deeper {k : Nat} {A : Around} (r : cF (k + 1) A) (env : Env) : cF k (A.deeper env) :=
 ⟨r.hd, by have := r.dp; show A.depth + 1 + 3 * k + 5 < _; omega, by have := r.un; show A.units + 3 + 16 * k + 200 < _; omega⟩
theorem cF.in1 {k : Nat} {A : Around} (r : cF (k + 1) A) : cF k A.in1 :=
 ⟨r.hd, by have := r.dp; show A.depth + 3 * k + 5 < _; omega, by have := r.un; show A.units + 1 + 16 * k + 200 < _; omega⟩
theorem N1 {A : Around} {C : Addr} {us : List Value} {kw : List (Str × Value)} : (A.under (.builtin "type.__call__" ⟨.ref C :: us, kw⟩)).depth = A.depth + 1 := by
 first | rfl | simp [Around.under, Code.weight, Code.isCreation, Code.isGuard, Code.isCaller, Code.frames, Code.isFrame, guardIds]
theorem MT {A : Around} {C : Addr} {us : List Value} {kw : List (Str × Value)} : (A.under (.builtin "type.__call__" ⟨.ref C :: us, kw⟩)).units = A.units + 1 := by
 first | rfl | simp [Around.under, Code.cUnits, Code.frames, Code.isFrame]
theorem cF.make {k : Nat} {A : Around} (r : cF (k + 1) A) (C : Addr) (us : List Value) (kw : List (Str × Value)) : cF k (A.under (.builtin "type.__call__" ⟨.ref C :: us, kw⟩)) :=
 ⟨r.hd, by have := r.dp; rw [N1]; omega, by have := r.un; rw [MT]; omega⟩
theorem cF.depth {k : Nat} {A : Around} (r : cF k A) : A.depth < recursionLimit := by have := r.dp; omega
theorem cF.units {k : Nat} {A : Around} (r : cF k A) : A.units + 64 < cLine := by have := r.un; omega
def LU : TA := fun _ H Q => Q [] H
def SH (ta : TE) (tr : TA) : TA := fun σ H Q => ta σ H fun x H1 => tr σ H1 fun xs H2 => Q (x :: xs) H2
section
variable {X : Cx} {e : Expr} {es : List Expr} {te : TE} {t : TA} {pos : Pos}
theorem ai : PA X [] LU := fun _ _ _ _ H Q I h => Calls.spliced_nil ⟨[], H, I, .nil, h⟩
theorem ae (ha : PE X e te) (hr : PA X es t) (hs : starEach (e :: es) X.env = (false, eval e X.env) :: starEach es X.env := by rfl) : PA X (e :: es) (SH te t) := by
 intro pos pins s σ H Q I h
 rw [hs]
 show wpAny _ _ (spliced ((false, eval e X.env) :: backTo pos (starEach es X.env))) _ _ s
 refine Calls.spliced_cons (dF (ha pins s σ H _ I h) fun u s1 ⟨x, H1, I1, r1, q1⟩ => ?_)
 exact dF (hr pos pins s1 σ H1 _ I1 q1) fun us s2 ⟨xs, H2, I2, r2, q2⟩ => ⟨x :: xs, H2, I2, .cons r1 r2, q2⟩
def af0 (t : TA) : TE := fun σ H Q => t σ H fun xs H1 => xs.length <= sizeLine /\ ∀ p, H1 p = none -> Q (.ref p) (upd H1 p (.tup xs))
def ahQ (t : TA) : TE := fun σ H Q => t σ H fun xs H1 => xs.length <= sizeLine /\ ∀ p, H1 p = none -> Q (.ref p) (upd H1 p (.lst xs))
theorem abr {x1} (h : PA X es t) : PE X (.Tuple es x1 pos) (af0 t) := by
 intro pins s σ H Q I hq
 refine wpAny_Tuple_spliced (dF (h pos pins s σ H _ I hq) fun us s1 ⟨xs, H1, I1, r, z, q⟩ => ⟨by rw [<- r.length]; exact z, ?_⟩)
 have hf : H1 s1.heap.objs.size = none := I1.bD.fresh (Nat.le_refl _)
 refine ⟨.ref s1.heap.objs.size, upd H1 s1.heap.objs.size (.tup xs), I1.laid (t' := s1.toks) (fun b u e => Heap.get?_push_of_some _ e) (Nat.le_refl _) ?_, rfl, q _ hf⟩
 exact ⟨z, us, r, ⟨_, Heap.get?_push_size _ rfl, rfl, _, rfl⟩⟩
theorem aaH (h : PA X es t) : PE X (.List es pos) (ahQ t) := by
 intro pins s σ H Q I hq
 refine wpAny_List_spliced (dF (h pos pins s σ H _ I hq) fun us s1 ⟨xs, H1, I1, r, z, q⟩ => ⟨by rw [<- r.length]; exact z, ?_⟩)
 have hf : H1 s1.heap.objs.size = none := I1.bD.fresh (Nat.le_refl _)
 refine ⟨.ref s1.heap.objs.size, upd H1 s1.heap.objs.size (.lst xs), I1.laid (t' := s1.toks) (fun b u e => Heap.get?_push_of_some _ e) (Nat.le_refl _) ?_, rfl, q _ hf⟩
 exact ⟨z, us, 0, r, Heap.get?_push_size _ rfl⟩
end
abbrev Sp := List V -> Hp -> VK -> XK -> Prop
abbrev Jz := List Env -> Hp -> Shared -> XK -> Value -> Shared -> Prop
structure II (P : Program) (w : World) (K : PySem.W.Frag) (mg : Str -> Option Value) (base : Heap) (A : Around) (outer : List Env) (s : Shared) (H : Hp) : Prop where
 frames : A.frames = some outer
 mod : Mod K mg base
 bs : ∀ b o, base.get? b = some o -> s.heap.get? b = some o /\ H b = none
 RP : base.objs.size <= s.heap.objs.size
 CA : s.heap.FunFrames base outer
 VE : ∀ b ∈ MB outer, H b = none
 bD : rj P w H s.heap
 bare : AllBare s.gens
def CE (outer : List Env) (P : Program) (w : World) (H : Hp) (s : Shared) (Q : VK) (u : Value) (s' : Shared) : Prop :=
 ∃ v H', s'.os = s.os /\ AllBare s'.gens /\ Un (MB outer) [] H H' s.heap s'.heap /\ rj P w H' s'.heap /\ RelV v u /\ Q v H'
def CR (CX : Jz) (outer : List Env) (P : Program) (w : World) (H : Hp) (s : Shared) (Q : VK) (E : XK) (r : Result) (s' : Shared) : Prop :=
 match r with
 | .ok (.ret u) => CE outer P w H s Q u s'
 | .ok _ => False
 | .error e => CX outer H s E e s'
structure aL (P : Program) (w : World) (K : PySem.W.Frag) (mg : Str -> Option Value) (base : Heap) (CX : Jz) (k : Nat) (f : Addr) (fd : FuncData) (ps : List Str) (sp : Sp) : Prop where
 len : ∀ vs H Q E, sp vs H Q E -> vs.length = ps.length
 run : ∀ (A : Around) (outer : List Env) (s : Shared) (H : Hp) (args : Args) (us : List Value) (vs : List V) (Q : VK) (E : XK), cF k A -> II P w K mg base A outer s H -> BindsTo s fd args (ps.zip us) -> Vals vs us -> sp vs H Q E ->
  codeAny (model P w) A (.call (.ref f) args) (CR CX outer P w H s Q E) s
theorem aL.mono {P : Program} {w : World} {K : PySem.W.Frag} {mg : Str -> Option Value} {base : Heap} {CX : Jz} {j k : Nat} {f : Addr} {fd : FuncData} {ps : List Str} {sp : Sp} (F : aL P w K mg base CX j f fd ps sp) (h : j <= k) :
 aL P w K mg base CX k f fd ps sp := ⟨F.len, fun A outer s H args us vs Q E hr => F.run A outer s H args us vs Q E (hr.mono h)⟩
theorem II.make {P : Program} {w : World} {K : PySem.W.Frag} {mg : Str -> Option Value} {base : Heap} {A : Around} {outer : List Env} {s : Shared} {H : Hp} (e : II P w K mg base A outer s H) (C : Addr) (us : List Value) (kw : List (Str × Value)) :
 II P w K mg base (A.under (.builtin "type.__call__" ⟨.ref C :: us, kw⟩)) outer s H := ⟨by first | exact e.frames | (simpa [Around.under, Code.envs, Code.isFrame, pushEnvs] using e.frames), e.mod, e.bs, e.RP, e.CA, e.VE, e.bD, e.bare⟩
theorem II.in1 {P : Program} {w : World} {K : PySem.W.Frag} {mg : Str -> Option Value} {base : Heap} {A : Around} {outer : List Env} {s : Shared} {H : Hp} (e : II P w K mg base A outer s H) :
 II P w K mg base A.in1 outer s H := ⟨e.frames, e.mod, e.bs, e.RP, e.CA, e.VE, e.bD, e.bare⟩
section
variable {X : Cx} {pins : List (Addr × Obj)} {σ : St} {H : Hp} {s s' : Shared}
theorem Inv.aaQ (I : Inv X pins σ H s) : II X.prog X.w X.K X.mg X.base X.A X.stack s H :=
 ⟨I.ok.frames, I.ok.mod, I.bs, Nat.le_trans I.ok.RP I.sz, I.stack, I.O3, I.bD, I.bare⟩
theorem Inv.after {Q : VK} {u : Value} (I : Inv X pins σ H s) (h : CE X.stack X.prog X.w H s Q u s') : EP X pins σ Q u s' := by
 obtain ⟨v, H', os, bare, un, bD, r, q⟩ := h
 obtain ⟨hh, g, d, t, os'⟩ := s'
 obtain rfl : os' = s.os := os
 exact ⟨v, H', I.call (h' := hh) (g' := g) (d' := d) (t' := t) (ch := []) un bD bare (fun b z => absurd z (by simp)), r, q⟩
end
def IT (sp : Sp) (dQ : List V) (E : XK) (t : TA) : TE := fun σ H Q => t σ H fun vs H1 => sp (vs ++ dQ) H1 Q E
def Jq (C : Addr) (m : Str) (sp : Sp) (dQ : List V) (E : XK) (ta : TE) (t : TA) : TE := fun σ H Q => ta σ H fun x H1 => ∃ a dx fs, x = .ref a /\ H1 a = some (.ins C dx fs) /\ fs.lookup m = none /\
 t σ H1 fun vs H2 => sp (x :: (vs ++ dQ)) H2 Q E
def Ls (C : Addr) (sp : Sp) (dQ : List V) (E : XK) (t : TA) : TE := fun σ H Q => t σ H fun vs H1 => ∀ x dx, H1 x = none -> H1 dx = none -> dx ≠ x ->
 sp (.ref x :: (vs ++ dQ)) (upd (upd H1 dx (.own x)) x (.ins C dx [])) (fun v H2 => v = .aS /\ Q (.ref x) H2) E
def Binds (K : PySem.W.Frag) (fd : FuncData) (ps : List Str) (ds : List Value) : Prop :=
 ∀ (s : Shared) (us : List Value), K.In s.heap -> (us ++ ds).length = ps.length -> BindsTo s fd ⟨us, []⟩ (ps.zip (us ++ ds))
theorem Binds.all {K : PySem.W.Frag} {fd : FuncData} {ps : List Str} (h : ∀ us : List Value, us.length = ps.length -> bindArgs fd ⟨us, []⟩ = pure (ps.zip us)) : Binds K fd ps [] := fun s us _ hl => by
 rw [List.append_nil] at hl ⊢
 exact .of_eq (h us hl)
def Passes (CX : Jz) (X : Cx) (E : XK) : Prop := ∀ (pins : List (Addr × Obj)) (σ : St) (H : Hp) (s : Shared) (e : Value) (s' : Shared), Inv X pins σ H s -> CX X.stack H s E e s' -> X.xe e s'
section
variable {X : Cx} {CX : Jz} {k : Nat} {f C : Addr} {fd : FuncData} {ps : List Str} {sp : Sp} {dQ : List V} {ds : List Value} {E : XK} {x m : Str} {p pos apos : Pos} {e o : Expr} {es : List Expr} {ta : TE} {t : TA}
theorem K0 {pins : List (Addr × Obj)} {σ : St} {H : Hp} {s : Shared} {Q : VK} {us : List Value} {vs : List V} (F : aL X.prog X.w X.K X.mg X.base CX k f fd ps sp) (hr : cF k X.A) (hb : Binds X.K fd ps ds) (hd : Vals dQ ds) (hx : Passes CX X E)
 (I : Inv X pins σ H s) (r : Vals vs us) (h : sp (vs ++ dQ) H Q E) : wpAny (model X.prog X.w) X.A (call (.ref f) us) (EP X pins σ Q) X.xe s := by
 have r2 : Vals (vs ++ dQ) (us ++ ds) := r.append hd
 have hl : (us ++ ds).length = ps.length := by rw [<- r2.length]; exact F.len _ _ _ _ h
 refine wpAny_call (codeAny_mono (F.run X.A X.stack s H ⟨us, []⟩ (us ++ ds) (vs ++ dQ) Q E hr I.aaQ (hb s us I.Bo hl) r2 h) fun r s' hq => ?_)
 cases r with
 | error e => exact hx pins σ H s e s' I hq
 | ok fl =>
   cases fl with
   | ret u => exact I.after hq
   | next => exact False.elim hq
   | brk => exact False.elim hq
   | cont => exact False.elim hq
theorem WV (F : aL X.prog X.w X.K X.mg X.base CX k f fd ps sp) (hr : cF k X.A) (hg : Gl X x) (hm : X.mg x = some (.ref f)) (hk : PySem.W.keepIn X.K (.ref f) = true) (hb : Binds X.K fd ps ds) (hd : Vals dQ ds) (hx : Passes CX X E)
 (ha : PA X (e :: es) t) (Gd : (x == ("__debug__" : Str)) = false := by decide) (he : starEach (e :: es) X.env = (false, eval e X.env) :: starEach es X.env := by rfl) (Bp : (backTo pos (starEach es X.env)).any (·.1) = false := by rfl) :
 PE X (.Call (.Name x p) (e :: es) [] pos) (IT sp dQ E t) := by
 intro pins s σ H Q I h
 refine wpAny_Call_Name_kw (CQ I hg hm ?_ Gd)
 refine PySem.W.callWith_K (h₀ := X.base) I.ok.mod.kin hk (dF (ha pos pins s σ H _ I h) fun us s1 ⟨vs, H1, I1, r, q⟩ => ⟨I1.Bo, ?_⟩) he Bp
 exact K0 F hr hb hd hx I1 r q
theorem WY {pl : Sem Bool} (he : PE X o ta) (c : vA X.K C) (hm : Meth X.K C m f) (F : aL X.prog X.w X.K X.mg X.base CX k f fd ps sp) (hr : cF k X.A) (hb : Binds X.K fd ps ds) (hd : Vals dQ ds) (hx : Passes CX X E) (ha : PA X (e :: es) t)
 (DI : starEach (e :: es) X.env = (false, eval e X.env) :: starEach es X.env := by rfl) (Bp : (backTo pos (starEach es X.env)).any (·.1) = false := by rfl)
 (ht : eval (.Call (.Attribute o m apos) (e :: es) [] pos) X.env = (do
  let ov <- eval o X.env
  standAt apos.atName
  let (f, first) <- holding [ov] (getMethod ov m pl)
  callWith pos f first (backTo pos (starEach (e :: es) X.env)) (backToKw pos (keywordEach [] X.env))) := by rfl) :
 PE X (.Call (.Attribute o m apos) (e :: es) [] pos) (Jq C m sp dQ E ta t) := by
 intro pins s σ H Q I h
 refine PySem.W.methodCall_KW (pl := pl) (dF (he pins s σ H _ I h) fun u s1 ⟨x, H1, I1, rx, a, dx, fs, ex, ea, l, q⟩ => ?_) ht
 subst ex
 obtain rfl : u = Value.ref a := rx
 refine GH I1 ea c hm l ?_
 refine PySem.W.callWith_K (first := [.ref a]) (h₀ := X.base) I.ok.mod.kin hm.kp (dF (ha pos pins s1 σ H1 _ I1 q) fun us s2 ⟨vs, H2, I2, r, q2⟩ => ⟨I2.Bo, ?_⟩) DI Bp
 exact K0 (us := .ref a :: us) (vs := .ref a :: vs) F hr hb hd hx I2 (.cons rfl r) q2
theorem SG {pl : Sem Bool} (he : PE X o ta) (c : vA X.K C) (hm : Meth X.K C m f) (F : aL X.prog X.w X.K X.mg X.base CX k f fd ps sp) (hr : cF k X.A) (hb : Binds X.K fd ps ds) (hd : Vals dQ ds) (hx : Passes CX X E)
 (ht : eval (.Call (.Attribute o m apos) [] [] pos) X.env = (do
  let ov <- eval o X.env
  standAt apos.atName
  let (f, first) <- holding [ov] (getMethod ov m pl)
  callWith pos f first (backTo pos (starEach [] X.env)) (backToKw pos (keywordEach [] X.env))) := by rfl) :
 PE X (.Call (.Attribute o m apos) [] [] pos) (Jq C m sp dQ E ta LU) := by
 intro pins s σ H Q I h
 refine PySem.W.methodCall_KW (pl := pl) (dF (he pins s σ H _ I h) fun u s1 ⟨x, H1, I1, rx, a, dx, fs, ex, ea, l, q⟩ => ?_) ht
 subst ex
 obtain rfl : u = Value.ref a := rx
 refine GH I1 ea c hm l ?_
 exact PySem.W.callWith_K0 (first := [.ref a]) I1.Bo hm.kp (K0 (us := [.ref a]) (vs := [.ref a]) F hr hb hd hx I1 (.cons rfl .nil) q)
structure Mk (K : PySem.W.Frag) (C f : Addr) : Prop where
 makes : PySem.W.makesIn K C = true
 init : PySem.W.findIn K (.ref C) "__init__" = some (some (.ref f))
 fn : PySem.W.isFn K (.ref f) = true
 kp : PySem.W.keepIn K (.ref C) = true
theorem Mx {pins : List (Addr × Obj)} {σ : St} {H : Hp} {s : Shared} {Q : VK} {us : List Value} {vs : List V} (M : Mk X.K C f) (F : aL X.prog X.w X.K X.mg X.base CX k f fd ps sp) (hr : cF (k + 1) X.A) (hb : Binds X.K fd ps ds) (hd : Vals dQ ds)
 (hx : Passes CX X E) (I : Inv X pins σ H s) (r : Vals vs us)
 (h : ∀ x dx, H x = none -> H dx = none -> dx ≠ x -> sp (.ref x :: (vs ++ dQ)) (upd (upd H dx (.own x)) x (.ins C dx [])) (fun v H2 => v = .aS /\ Q (.ref x) H2) E) :
 wpAny (model X.prog X.w) X.A (call (.ref C) us) (EP X pins σ Q) X.xe s := by
 have hq := h (s.heap.objs.size + 1) s.heap.objs.size (I.bD.fresh (Nat.le_succ _)) (I.bD.fresh (Nat.le_refl _)) (Nat.ne_of_lt (Nat.lt_succ_self _))
 have I2 := Inv.made (C := C) I
 have r2 : Vals (V.ref (s.heap.objs.size + 1) :: (vs ++ dQ)) (Value.ref (s.heap.objs.size + 1) :: (us ++ ds)) := .cons rfl (r.append hd)
 have hl : (Value.ref (s.heap.objs.size + 1) :: us ++ ds).length = ps.length := by
  have e := r2.length
  rw [F.len _ _ _ _ hq] at e
  exact e.symm
 refine wpAny_call (Ta (f := f) I.Bo M.makes M.init (beq_iff_eq.mp M.fn) (codeAny_mono (F.run _ X.stack _ _ ⟨Value.ref (s.heap.objs.size + 1) :: us, []⟩ (Value.ref (s.heap.objs.size + 1) :: (us ++ ds)) _ _ E (hr.make C us [])
  (I2.aaQ.make C us []) (hb _ (Value.ref (s.heap.objs.size + 1) :: us) I2.Bo hl) r2 hq) fun r s' hq' => ?_))
 cases r with
 | error e => exact hx pins σ _ _ e s' I2 hq'
 | ok fl =>
   cases fl with
   | ret u =>
     obtain ⟨v, H', I3, rv, ev, q3⟩ := I2.after hq'
     subst ev
     exact ⟨rv, ⟨V.ref (s.heap.objs.size + 1), H', I3, rfl, q3⟩⟩
   | next => exact False.elim hq'
   | brk => exact False.elim hq'
   | cont => exact False.elim hq'
theorem W7 (M : Mk X.K C f) (F : aL X.prog X.w X.K X.mg X.base CX k f fd ps sp) (hr : cF (k + 1) X.A) (hg : Gl X x) (hm : X.mg x = some (.ref C)) (hb : Binds X.K fd ps ds) (hd : Vals dQ ds) (hx : Passes CX X E)
 (ha : PA X (e :: es) t) (Gd : (x == ("__debug__" : Str)) = false := by decide) (he : starEach (e :: es) X.env = (false, eval e X.env) :: starEach es X.env := by rfl) (Bp : (backTo pos (starEach es X.env)).any (·.1) = false := by rfl) :
 PE X (.Call (.Name x p) (e :: es) [] pos) (Ls C sp dQ E t) := by
 intro pins s σ H Q I h
 refine wpAny_Call_Name_kw (CQ I hg hm ?_ Gd)
 refine PySem.W.callWith_K (h₀ := X.base) I.ok.mod.kin M.kp (dF (ha pos pins s σ H _ I h) fun us s1 ⟨vs, H1, I1, r, q⟩ => ⟨I1.Bo, ?_⟩) he Bp
 exact Mx M F hr hb hd hx I1 r q
theorem Ul (M : Mk X.K C f) (F : aL X.prog X.w X.K X.mg X.base CX k f fd ps sp) (hr : cF (k + 1) X.A) (hg : Gl X x) (hm : X.mg x = some (.ref C)) (hb : Binds X.K fd ps ds) (hd : Vals dQ ds) (hx : Passes CX X E)
 (Gd : (x == ("__debug__" : Str)) = false := by decide) : PE X (.Call (.Name x p) [] [] pos) (Ls C sp dQ E LU) := by
 intro pins s σ H Q I h
 refine wpAny_Call_Name_kw (CQ I hg hm ?_ Gd)
 exact PySem.W.callWith_K0 I.Bo M.kp (Mx (us := []) M F hr hb hd hx I .nil h)
end
def PK (X : Cx) (kws : List Keyword) (t : TA) : Prop :=
 ∀ (pos : Pos) (pins : List (Addr × Obj)) (s : Shared) (σ : St) (H : Hp) (Q : List V -> Hp -> Prop), Inv X pins σ H s -> t σ H Q -> wpAny (model X.prog X.w) X.A (evalAll ((backToKw pos (keywordEach kws X.env)).map (·.2))) (AP X pins σ Q) X.xe s
section
variable {X : Cx} {CX : Jz} {k : Nat} {f C : Addr} {fd : FuncData} {ps ks : List Str} {sp : Sp} {E : XK} {x m : Str} {p pos apos abE : Pos} {e o : Expr} {es : List Expr} {kws : List Keyword} {te ta : TE} {t tk : TA} {nm : Option Str}
theorem abm : PK X [] LU := fun _ _ _ _ H Q I h => wpAny_evalAll_nil ⟨[], H, I, .nil, h⟩
theorem VJ (ha : PE X e te) (hr : PK X kws t) : PK X (⟨nm, e, abE⟩ :: kws) (SH te t) := by
 intro pos pins s σ H Q I h
 show wpAny _ _ (evalAll ((do let v <- eval e X.env; standAt pos; pure v) :: (backToKw pos (keywordEach kws X.env)).map (·.2))) _ _ s
 refine wpAny_evalAll_cons (wpAny_bind (dF (ha pins s σ H _ I h) fun u s1 ⟨x, H1, I1, r1, q1⟩ => wpAny_bind (wpAny_standAt (wpAny_pure ?_))))
 exact dF (hr pos pins s1 σ H1 _ I1 q1) fun us s2 ⟨xs, H2, I2, r2, q2⟩ => ⟨x :: xs, H2, I2, .cons r1 r2, q2⟩
structure ahC (K : PySem.W.Frag) (fd : FuncData) (ps ks : List Str) (g : List Value -> List Value -> List Value) (gV : List V -> List V -> List V) : Prop where
 to : ∀ (s : Shared) (us ws : List Value), K.In s.heap -> (g us ws).length = ps.length -> BindsTo s fd ⟨us, ks.zip ws⟩ (ps.zip (g us ws))
 rel : ∀ {vs : List V} {us : List Value} {zs : List V} {ws : List Value}, Vals vs us -> Vals zs ws -> Vals (gV vs zs) (g us ws)
variable {g : List Value -> List Value -> List Value} {gV : List V -> List V -> List V}
end
structure ax (N P : List Str) (sc : Scope) : Prop where
 kind : sc.kind = .function
 co : sc.isCoroutine = false
 gen : sc.isGenerator = false
 nd : N.Nodup
 pre : N.take P.length = P
 par : ∀ x ∈ P, sc.names.lookup x = some .local \/ sc.names.lookup x = some .cell
 Z7 : ∀ y ∈ sc.names, y.2 ≠ .free
theorem JI {kindOf : Str -> Option NameKind} {x : Str} : ∀ {binds : List (Str × Value)} {m : Str -> Option Value}, (∀ v, (x, v) ∉ binds) -> bindL kindOf binds m x = m x
 | [], _, _ => rfl
 | (n, v) :: r, m, h => by
   unfold bindL
   rw [JI fun w hw => h w (List.mem_cons_of_mem _ hw)]
   split
   . have : x ≠ n := by rintro rfl; exact h v List.mem_cons_self
     simp [this]
   . rfl
theorem Jd {kindOf : Str -> Option NameKind} {x : Str} : ∀ {binds : List (Str × Value)} {m : Str -> Option Value}, (∀ v, (x, v) ∉ binds) -> bindC kindOf binds m x = m x
 | [], _, _ => rfl
 | (n, v) :: r, m, h => by
   unfold bindC
   rw [Jd fun w hw => h w (List.mem_cons_of_mem _ hw)]
   split
   . rfl
   . have : x ≠ n := by rintro rfl; exact h v List.mem_cons_self
     simp [this]
theorem I9 {kindOf : Str -> Option NameKind} {x : Str} {v : Value} : ∀ {P : List Str} {vs : List Value} {i : Nat} {m : Str -> Option Value}, P.Nodup -> P[i]? = some x -> vs[i]? = some v -> kindOf x = some .local ->
 bindL kindOf (P.zip vs) m x = some v
 | [], _, _, _, _, h, _, _ => by simp at h
 | _ :: _, [], _, _, _, _, h, _ => by simp at h
 | p :: P, w :: vs, 0, m, nd, h1, h2, hk => by
   simp at h1 h2; subst h1; subst h2
   show bindL kindOf ((p, w) :: P.zip vs) m p = _
   unfold bindL
   rw [JI fun v hv => (List.nodup_cons.mp nd).1 (List.of_mem_zip hv).1, if_pos hk]
   simp
 | p :: P, w :: vs, i + 1, m, nd, h1, h2, hk => by
   show bindL kindOf ((p, w) :: P.zip vs) m x = _
   unfold bindL
   exact I9 (i := i) (List.nodup_cons.mp nd).2 (by simpa using h1) (by simpa using h2) hk
theorem JK {kindOf : Str -> Option NameKind} {x : Str} {v : Value} : ∀ {P : List Str} {vs : List Value} {i : Nat} {m : Str -> Option Value}, P.Nodup -> P[i]? = some x -> vs[i]? = some v -> kindOf x ≠ some .local ->
 bindC kindOf (P.zip vs) m x = some v
 | [], _, _, _, _, h, _, _ => by simp at h
 | _ :: _, [], _, _, _, _, h, _ => by simp at h
 | p :: P, w :: vs, 0, m, nd, h1, h2, hk => by
   simp at h1 h2; subst h1; subst h2
   show bindC kindOf ((p, w) :: P.zip vs) m p = _
   unfold bindC
   rw [Jd fun v hv => (List.nodup_cons.mp nd).1 (List.of_mem_zip hv).1, if_neg hk]
   simp
 | p :: P, w :: vs, i + 1, m, nd, h1, h2, hk => by
   show bindC kindOf ((p, w) :: P.zip vs) m x = _
   unfold bindC
   exact JK (i := i) (List.nodup_cons.mp nd).2 (by simpa using h1) (by simpa using h2) hk
def start (N : List Str) (vs : List V) : St := vs.map some ++ List.replicate (N.length - vs.length) none
def QF (CX : Jz) (P : Program) (w : World) (K : PySem.W.Frag) (mg : Str -> Option Value) (base : Heap) (N : List Str) (qual : Str) (scope : Scope) (f : Addr) (cd : Value) (A : Around) (outer : List Env) (s : Shared) (H : Hp) (E : XK) : Cx where
 prog := P
 w := w
 K := K
 mg := mg
 base := base
 A := A.deeper (envOfC qual scope s.heap.objs.size f cd)
 N := N
 gL := s
 MX := H
 env := envOfC qual scope s.heap.objs.size f cd
 outer := outer
 stack := envOfC qual scope s.heap.objs.size f cd :: outer
 ex := []
 calm := true
 fn := fun _ => true
 pn := []
 xe := fun e s' => wpAny (model P w) (A.deeper (envOfC qual scope s.heap.objs.size f cd)) («leaving» (envOfC qual scope s.heap.objs.size f cd) e) (fun _ s'' => CX outer H s E e s'') (fun e' s'' => CX outer H s E e' s'') s'
theorem L5 {sc : Scope} {n : Nat} {x : Str} (h : sc.names.lookup x = some .cell) : ∃ c, (cellsFrom n sc.names []).lookup x = some c := by
 have q := PySem.W.cellsFrom_some sc.names n [] (.inl h)
 exact Option.isSome_iff_exists.mp q
theorem Q5 {CX : Jz} {P : Program} {w : World} {K : PySem.W.Frag} {mg : Str -> Option Value} {base : Heap} {N ps : List Str} {qual : Str} {scope : Scope} {f : Addr} {cd : Value} {A : Around} {outer : List Env} {s s1 : Shared} {H : Hp} {E : XK} {us : List Value} {vs : List V}
 (S : ax N ps scope) (hd : A.handled = none) (e0 : II P w K mg base A outer s H) (hl : vs.length = ps.length) (r : Vals vs us)
 (x : InCallC s s.heap.objs.size (bindL (envOfC qual scope s.heap.objs.size f cd).kindOf (ps.zip us) fun _ => none) (cellsFrom (s.heap.objs.size + 1) scope.names []) (bindC (envOfC qual scope s.heap.objs.size f cd).kindOf (ps.zip us) fun _ => none) s1) :
 Inv (QF CX P w K mg base N qual scope f cd A outer s H E) [] (start N vs) H s1 := by
 have Bp : ps.length <= N.length := by have := congrArg List.length S.pre; rw [List.length_take] at this; omega
 obtain ⟨h1, tk, rfl, hk⟩ := x.done
 have noA : ∀ b : Addr, b ∉ (QF CX P w K mg base N qual scope f cd A outer s H E).ex := fun b z => absurd (show b ∈ ([] : List Addr) from z) (by simp)
 refine ⟨⟨e0.mod, S.kind, rfl, rfl, Nat.le_refl _, fun y z c h1 h2 => ?_, fun y hy => ?_, fun y c _ h => ?_, fun _ => hd, Around.frames_deeper e0.frames, .inr ⟨rfl, rfl⟩, fun b z => absurd z (noA b), e0.bs, e0.RP, fun b _ _ => noA b, fun b z => absurd z (noA b), e0.CA, e0.VE⟩,
  rfl, e0.bare, Un.kept hk, ⟨_, x.toInCall.ns, fun i y v h1 h2 h3 => ?_⟩, fun y c h => ⟨_, x.cell y c h⟩, e0.bD.fresh (Nat.le_refl _), fun y c h => ?_, fun p hp => absurd (show p ∈ ([] : List (Addr × Obj)) from hp) (by simp), e0.bD.kept hk, ?_⟩
 . exact name_of_addr x.apart (PySem.mem_of_lookup h1) (PySem.mem_of_lookup h2)
 . have hy : scope.names.lookup y = some .cell \/ scope.names.lookup y = some .free := hy
   rcases hy with hy | hy
   . exact L5 hy
   . exact absurd rfl (S.Z7 _ (PySem.mem_of_lookup hy))
 . exact Nat.le_of_lt (x.above y c (PySem.mem_of_lookup h))
 . have hi : i < vs.length := by
    unfold start at h2
    by_cases hi : i < vs.length
    . exact hi
    . rw [List.getElem?_append_right (by simpa using hi)] at h2
      rw [List.getElem?_replicate] at h2
      split at h2 <;> cases h2
   have ha : vs[i]? = some v := by
    unfold start at h2
    rw [List.getElem?_append_left (by simpa using hi), List.getElem?_map] at h2
    cases e : vs[i]? with
    | none => rw [e] at h2; cases h2
    | some a => rw [e] at h2; cases h2; rfl
   obtain ⟨u, hu, rv⟩ := r.get ha
   have hp : ps[i]? = some y := by
    rw [<- S.pre, List.getElem?_take_of_lt (by omega)]; exact h1
   have ndP : ps.Nodup := by rw [<- S.pre]; exact S.nd.sublist (List.take_sublist _ _)
   refine ⟨u, rv, ?_⟩
   rcases S.par y (List.mem_of_getElem? hp) with k | k
   . exact .inl ⟨k, I9 ndP hp hu k⟩
   . obtain ⟨c, e⟩ := L5 (n := s.heap.objs.size + 1) k
     refine .inr ⟨.inl k, c, e, ?_⟩
     have q := x.cell y c e
     rw [JK ndP hp hu (by show scope.names.lookup y ≠ _; rw [k]; decide)] at q
     exact q
 . exact e0.bD.fresh (Nat.le_of_lt (x.above y c (PySem.mem_of_lookup h)))
 . unfold start
   show _ = N.length
   rw [List.length_append, List.length_map, List.length_replicate]
   omega
theorem adL {CX : Jz} {P : Program} {w : World} {K : PySem.W.Frag} {mg : Str -> Option Value} {base : Heap} {k : Nat} {f : Addr} {name qual : Str} {params : Arguments} {body : List Stmt} {scope : Scope} {dV kV doc pm c3 ct oc : Value} {an od : Option Addr}
 {U1 : Array (Option Value)} {N ps : List Str} {sp : Sp} (lk : K.lookup f = some ⟨oc, od, .func (PySem.W.fnOf name qual params body scope dV kV doc pm an c3 ct), U1⟩) (RL : PySem.W.codeIn K c3 qual = true) (S : ax N ps scope)
 (len : ∀ vs H Q E, sp vs H Q E -> vs.length = ps.length)
 (JL : ∀ (A : Around) (outer : List Env) (s : Shared) (H : Hp) (vs : List V) (Q : VK) (E : XK), cF k (A.deeper (envOfC qual scope s.heap.objs.size f c3)) -> sp vs H Q E ->
  ∃ t, MK (QF CX P w K mg base N qual scope f c3 A outer s H E) body t /\ t { nx := fun _ H' => Q .aS H', rt := Q } (start N vs) H) :
 aL P w K mg base CX (k + 1) f (PySem.W.fnOf name qual params body scope dV kV doc pm an c3 ct) ps sp := by
 refine ⟨len, fun A outer s H args us vs Q E hr e0 hb r Vk => ?_⟩
 have hl := len _ _ _ _ Vk
 have KX : K.In s.heap := e0.mod.kin.keeps fun b o e => (e0.bs b o e).1
 have lim : s.heap.NoLimit := e0.mod.nolimit.keeps fun b o e => (e0.bs b o e).1
 have adw : ∀ y ∈ ps.zip us, scope.names.lookup y.1 = some .local \/ (scope.names.lookup y.1 = some .cell /\ ((cellsFrom (s.heap.objs.size + 1) scope.names []).lookup y.1).isSome = true) := fun ⟨n, v⟩ hy => by
  rcases S.par n (List.of_mem_zip hy).1 with q | q
  . exact .inl q
  . exact .inr ⟨q, PySem.W.cellsFrom_some _ _ _ (.inl q)⟩
 refine codeAny_call_function hr.depth (KX _ _ lk) rfl S.co S.gen rfl (PySem.W.codeRec_of KX RL) (hb _ _ _ _ ?_)
 refine wpAny_newFunctionEnv_cells S.kind adw fun env he s1 x => ?_
 subst he
 refine ⟨lim.keeps x.toInCall.keep, codeAny_func ?_⟩
 obtain ⟨t, ht, hq⟩ := JL A outer s H vs Q E (hr.deeper _) Vk
 have I : Inv (QF CX P w K mg base N qual scope f c3 A outer s H E) [] (start N vs) H s1 := Q5 S hr.hd e0 hl r x
 refine wpAny_mono (ht [] s1 (start N vs) H _ I hq) (fun fl s' hs => ?_) fun e s' hs => hs
 have fin : ∀ {σ' : St} {H' : Hp} {v : V} {u : Value}, Inv (QF CX P w K mg base N qual scope f c3 A outer s H E) [] σ' H' s' -> RelV v u -> Q v H' -> CE outer P w H s Q u s' :=
  fun {σ' H' v u} J rv q => ⟨v, H', J.os, J.bare, J.base, J.bD, rv, q⟩
 cases fl with
 | ret u =>
   obtain ⟨v, σ', H', J, rv, q⟩ := hs
   exact fin J rv q
 | next =>
   obtain ⟨σ', H', J, q⟩ := hs
   exact fin (v := V.aS) (u := Value.none) J rfl q
 | brk =>
   obtain ⟨_, _, _, q⟩ := hs
   exact False.elim q
 | cont =>
   obtain ⟨_, _, _, q⟩ := hs
   exact False.elim q
section
variable {X : Cx} {x : Str} {p pos : Pos} {e : Expr} {es : List Expr} {t : TA} {id T : String} {r : List V -> Hp -> VK -> Prop}
def tCB (r : List V -> Hp -> VK -> Prop) (t : TA) : TE := fun σ H Q => t σ H fun vs H1 => r vs H1 Q
theorem bB (hc : i9 X (.builtin id) r) (hg : Gl X x) (hm : X.mg x = none) (hv : bootBuiltins x = some (.builtin id)) (ha : PA X (e :: es) t) (hn : x ≠ "__name__" := by decide) (Gd : (x == ("__debug__" : Str)) = false := by decide)
 (he : starEach (e :: es) X.env = (false, eval e X.env) :: starEach es X.env := by rfl) (Bp : (backTo pos (starEach es X.env)).any (·.1) = false := by rfl) : PE X (.Call (.Name x p) (e :: es) [] pos) (tCB r t) := by
 intro pins s σ H Q I h
 refine wpAny_Call_Name_kw (AO I hg hm hv ?_ hn Gd)
 exact PyProof.Rows.callWith_builtin1 (dF (ha pos pins s σ H _ I h) fun us s1 ⟨vs, H1, I1, r1, q1⟩ => hc pins s1 σ H1 vs us Q I1 r1 q1) he Bp
theorem Ji (hc : i9 X (.type T) r) (hg : Gl X x) (hm : X.mg x = none) (hv : bootBuiltins x = some (.type T)) (ha : PA X (e :: es) t) (hn : x ≠ "__name__" := by decide) (Gd : (x == ("__debug__" : Str)) = false := by decide)
 (he : starEach (e :: es) X.env = (false, eval e X.env) :: starEach es X.env := by rfl) (Bp : (backTo pos (starEach es X.env)).any (·.1) = false := by rfl) : PE X (.Call (.Name x p) (e :: es) [] pos) (tCB r t) := by
 intro pins s σ H Q I h
 refine wpAny_Call_Name_kw (AO I hg hm hv ?_ hn Gd)
 exact PyProof.Rows.callWith_type1 (dF (ha pos pins s σ H _ I h) fun us s1 ⟨vs, H1, I1, r1, q1⟩ => hc pins s1 σ H1 vs us Q I1 r1 q1) he Bp
end
end L2
namespace HT
open PySem PyProof.Rows
section
open PySem.SeqAt
open PySem.AutoSeq1 (wpAny_loadPart')
open PySem.MeetsSeq PySem.MeetsSeq2 PySem.MeetsSeq3
end
section
variable {prog : Program} {w : World} {A : Around} {E : Value -> Shared -> Prop} {s : Shared}
end
end HT
namespace L2
open PySem PySem.Spec PyProof.Rows
abbrev TO := St -> Hp -> (Option Int -> Hp -> Prop) -> Prop
section
variable {X : Cx} {e : Expr} {te : TE} {lo hi : Option Expr} {tl th : TO} {pos p2 : Pos}
end
def ixN (n : Nat) (i : Int) : Option Nat := if 0 <= i then (if i < n then some i.toNat else none) else if -(n : Int) <= i then some (i + n).toNat else none
def JF {α : Type} (xs : List α) (i : Int) : Option α := (ixN xs.length i).bind fun j => xs[j]?
theorem XR {n : Nat} {i : Int} {j : Nat} (h : ixN n i = some j) : seqIndex? i n = some j /\ j < n /\ -(n : Int) <= i /\ i < n := by
 unfold ixN at h
 by_cases h0 : 0 <= i
 . rw [if_pos h0] at h
   by_cases h1 : i < n
   . rw [if_pos h1] at h
     have e : i.toNat = j := Option.some.inj h
     exact ⟨by rw [seqIndex_of h0 h1, e], by omega, by omega, h1⟩
   . rw [if_neg h1] at h; cases h
 . rw [if_neg h0] at h
   by_cases h1 : -(n : Int) <= i
   . rw [if_pos h1] at h
     have e : (i + n).toNat = j := Option.some.inj h
     exact ⟨by rw [seqIndex_neg (by omega) h1, e], by omega, h1, by omega⟩
   . rw [if_neg h1] at h; cases h
theorem KQ {α : Type} {xs : List α} {i : Int} {v : α} (h : JF xs i = some v) : ∃ j, seqIndex? i xs.length = some j /\ xs[j]? = some v /\ j < xs.length /\ -(xs.length : Int) <= i /\ i < xs.length := by
 unfold JF at h
 cases e : ixN xs.length i with
 | none => rw [e] at h; cases h
 | some j =>
   rw [e] at h
   obtain ⟨h1, h2, h3, h4⟩ := XR e
   exact ⟨j, h1, h, h2, h3, h4⟩
theorem Gn {α : Type} {xs : List α} {j : Nat} {v : α} (h : xs[j]? = some v) : JF xs (j : Int) = some v := by
 have hj : j < xs.length := (List.getElem?_eq_some_iff.mp h).1
 have e : ixN xs.length (j : Int) = some j := by
  unfold ixN
  rw [if_pos (by omega), if_pos (by omega)]; simp
 unfold JF; rw [e]; exact h
def V5 (b : Expr) : Prop := ∀ o i, subscripted b false o i = operate [o, i] (getItem o i)
def RO (X : Cx) (r : R2) : Prop :=
 ∀ (value slice : Expr) (pins : List (Addr × Obj)) (s : Shared) (σ : St) (H : Hp) (x y : V) (v u : Value) (Q : VK), Inv X pins σ H s -> RelV x v -> RelV y u -> r x y H Q ->
   subscripted slice false v u = operate [v, u] (getItem v u) -> wpAny (model X.prog X.w) X.A (subscriptTail value slice v u) (EP X pins σ Q) X.xe s
def MtR (X : Cx) (id : String) (r : V -> List V -> Hp -> VK -> Prop) : Prop :=
 ∀ (pins : List (Addr × Obj)) (s : Shared) (σ : St) (H : Hp) (x : V) (xs : List V) (v : Value) (us : List Value) (Q : VK), Inv X pins σ H s -> RelV x v -> Vals xs us -> r x xs H Q ->
   wpAny (model X.prog X.w) X.A (call (.builtin id) (v :: us)) (EP X pins σ Q) X.xe s
section
variable {X : Cx} {a b : Expr} {ta tb : TE} {pos : Pos}
theorem RO.or {r r' : R2} (h : RO X r) (h' : RO X r') : RO X (fun x y H Q => r x y H Q \/ r' x y H Q) := by
 intro value slice pins s σ H x y v u Q I rx ry q hs
 rcases q with q | q
 . exact h value slice pins s σ H x y v u Q I rx ry q hs
 . exact h' value slice pins s σ H x y v u Q I rx ry q hs
theorem bV {r : R2} (hr : RO X r) (ha : PE X a ta) (hb : PE X b tb) (hs : V5 b) : PE X (.Subscript a b pos) (tOp r ta tb) := by
 intro pins s σ H Q I h
 exact Subscript_ (ZW ha hb I h fun v u s2 x y H2 I2 rx ry q => hr a b pins s2 σ H2 x y v u Q I2 rx ry q (hs _ _))
def Zy (K : PySem.W.Frag) : R2 := fun x y H Q => ∃ p xs i v, x = .ref p /\ y = .int i /\ jj K H p xs /\ JF xs i = some v /\ Q v H
def aes (K : PySem.W.Frag) : R2 := fun x y H Q => ∃ p xs i v, x = .ref p /\ y = .int i /\ IB K H p xs /\ JF xs i = some v /\ Q v H
def aaK : R2 := fun x y H Q => ∃ z i c, x = .str z /\ y = .int i /\ z.length <= sizeLine /\ JF z.cps.toList i = some c /\ Q (.str ⟨#[c]⟩) H
theorem Pz : RO X (Zy X.K) := by
 intro value slice pins s σ H x y v u Q I rx ry h hs
 obtain ⟨p, xs, i, z, rfl, rfl, hq, he, q⟩ := h
 cases rx
 obtain ⟨t, rfl⟩ := ry
 obtain ⟨bT, r, pl, hz⟩ := I.list hq
 obtain ⟨j, h1, h2, h3, h4, h5⟩ := KQ he
 obtain ⟨w, ew, NZ⟩ := r.get h2
 have hl := r.length
 have hn := ED
 have fin : EP X pins σ Q w s := ⟨z, H, I, NZ, q⟩
 by_cases h0 : 0 <= i
 . have hj : i.toNat = j := by
    rw [seqIndex_of h0 h5] at h1
    exact Option.some.inj h1
   exact item_listR pl.isList h0 (by omega) (by rw [hj]; simpa using ew) fin hs
 . have hj : (i + (bT.toArray.size : Int)).toNat = j := by
    rw [seqIndex_neg (by omega) h4] at h1
    rw [List.size_toArray, <- hl]
    exact Option.some.inj h1
   exact subscriptTail_builtinR (x := w) pl.isList.typeIs slot_list_getitem.lookup
    (wpAny_getItem_list_neg (Q := fun r s' => r = w /\ EP X pins σ Q r s') pl.isList (by omega) (by rw [List.size_toArray] <;> omega) (by omega) (by rw [hj]; simpa using ew) ⟨rfl, fin⟩) hs
theorem aay : RO X (aes X.K) := by
 intro value slice pins s σ H x y v u Q I rx ry h hs
 obtain ⟨p, xs, i, z, rfl, rfl, hq, he, q⟩ := h
 cases rx
 obtain ⟨t, rfl⟩ := ry
 obtain ⟨bT, r, pl, hz⟩ := I.tuple hq
 obtain ⟨j, h1, h2, h3, h4, h5⟩ := KQ he
 obtain ⟨w, ew, NZ⟩ := r.get h2
 have hl := r.length
 have hn := ED
 have fin : EP X pins σ Q w s := ⟨z, H, I, NZ, q⟩
 exact subscriptTail_builtinR (x := w) pl.typeIs slot_tuple_getitem.lookup
  (getItem_tuple (j := j) (Q := fun r s' => r = w /\ EP X pins σ Q r s') pl (by omega) (by omega) (by rw [List.size_toArray, <- hl]; exact h1) (by simpa using ew) ⟨rfl, fin⟩) hs
theorem ZT : RO X aaK := by
 intro value slice pins s σ H x y v u Q I rx ry h hs
 obtain ⟨z, i, c, rfl, rfl, hz, he, q⟩ := h
 obtain ⟨t, rfl⟩ := rx
 obtain ⟨t', rfl⟩ := ry
 obtain ⟨j, h1, h2, h3, h4, h5⟩ := KQ he
 have hl : z.cps.toList.length = z.length := by simp [Str.length]
 rw [hl] at h1 h4 h5
 have hn := ED
 exact tail_any (typeIs_str s z t) slot_str_getitem.lookup (getItem_str (c := c) (by
  have e1 : decide (i < -(2 ^ 63 : Int)) = false := decide_eq_false (by omega)
  have e2 : decide (i ≥ 2 ^ 63) = false := decide_eq_false (by omega)
  rw [e1, e2, Bool.or_false]) (by rw [h1]; simpa using h2) ⟨.str ⟨#[c]⟩, H, I.tok _, ⟨_, rfl⟩, q⟩) hs
def rIx (K : PySem.W.Frag) : R2 := fun x y H Q => Zy K x y H Q \/ aes K x y H Q \/ aaK x y H Q
theorem abG : RO X (rIx X.K) := Pz.or (aay.or ZT)
theorem rN : i9 X (.builtin "len") (fun xs H Q => ∃ p ys, xs = [.ref p] /\ (jj X.K H p ys \/ IB X.K H p ys) /\ Q (.int ys.length) H) := by
 intro pins s σ H xs us Q I r h
 obtain ⟨p, ys, rfl, hq, q⟩ := h
 obtain ⟨u, rfl, rx⟩ := vals1 r
 cases rx
 have hn := ED
 rcases hq with hq | hq
 . obtain ⟨bT, r', pl, hz⟩ := I.list hq
   have hlen := r'.length
   exact Calls.call_len_list pl.isList (by simp only [List.size_toArray] <;> omega) ⟨.int ys.length, H, I.tok _, ⟨s.toks + 1, by rw [List.size_toArray, hlen]⟩, q⟩
 . obtain ⟨bT, r', pl, hz⟩ := I.tuple hq
   have hlen := r'.length
   exact len_tuple pl (by simp only [List.size_toArray] <;> omega) ⟨.int ys.length, H, I.tok _, ⟨s.toks + 1, by rw [List.size_toArray, hlen]⟩, q⟩
theorem Km : i9 X (.builtin "len") (fun xs H Q => ∃ z, xs = [.str z] /\ z.length <= sizeLine /\ Q (.int z.length) H) := by
 intro pins s σ H xs us Q I r h
 obtain ⟨z, rfl, hz, q⟩ := h
 obtain ⟨u, rfl, t, rfl⟩ := vals1 r
 have hn := ED
 exact len_str (by omega) ⟨.int z.length, H, I.tok _, ⟨_, rfl⟩, q⟩
def tyV (K : PySem.W.Frag) (T : String) (x : V) (H : Hp) : Prop := match x with
 | .str _ => T = "str"
 | .int _ => T = "int"
 | .ref p => (T = "list" /\ ∃ xs, jj K H p xs) \/ (T = "tuple" /\ ∃ o, K.lookup p = some o /\ o.cls = .type "tuple" /\ o.dict = none) \/
  (T = "dict" /\ ((∃ kvs, H p = some (.dK kvs)) \/ ∃ kvs, H p = some (.dT kvs))) \/ (T = "set" /\ ∃ S n, H p = some (.set S n))
 | _ => False
theorem Nk {pins : List (Addr × Obj)} {σ : St} {H : Hp} {s : Shared} {T : String} {x : V} {v : Value} (I : Inv X pins σ H s) (r : RelV x v) (ty : tyV X.K T x H) :
 s.TypeIs v T /\ ∀ a, v = .ref a -> ∃ ob, s.heap.get? a = some ob /\ ob.dict = none := by
 cases x with
 | str z =>
   obtain ⟨t, rfl⟩ := r
   cases (show T = "str" from ty)
   exact ⟨typeIs_str s z t, fun _ e => nomatch e⟩
 | int i =>
   obtain ⟨t, rfl⟩ := r
   cases (show T = "int" from ty)
   exact ⟨typeIs_int s i t, fun _ e => nomatch e⟩
 | ref p =>
   cases r
   rcases ty with ⟨rfl, xs, hq⟩ | ⟨rfl, o, hk, hc, hd⟩ | ⟨rfl, hk⟩ | ⟨rfl, S, n, hk⟩
   . obtain ⟨bT, _, pl, _⟩ := I.list hq
     refine ⟨pl.isList.typeIs, fun a e => ?_⟩
     cases e
     obtain ⟨o, n, e, c, hd, _⟩ := pl
     exact ⟨o, e, hd⟩
   . refine ⟨⟨o, I.Bo p o hk, hc⟩, fun a e => ?_⟩
     cases e
     exact ⟨o, I.Bo _ o hk, hd⟩
   . have z : ∃ o, s.heap.get? p = some o /\ o.ExactDict := by
      rcases hk with ⟨kvs, hk⟩ | ⟨kvs, hk⟩
      . obtain ⟨_, _, _, _, o, _, _, e, ex, _⟩ := I.bD p _ hk
        exact ⟨o, e, ex⟩
      . obtain ⟨_, _, _, _, o, _, _, e, ex, _⟩ := I.bD p _ hk
        exact ⟨o, e, ex⟩
     obtain ⟨o, e, ex⟩ := z
     refine ⟨⟨o, e, ex.1⟩, fun a e2 => ?_⟩
     cases e2
     exact ⟨o, e, ex.2.1⟩
   . obtain ⟨o, _, _, _, e, ex, _⟩ := I.bD p _ hk
     refine ⟨⟨o, e, ex.1⟩, fun a e2 => ?_⟩
     cases e2
     exact ⟨o, e, ex.2.1⟩
 | _ => exact False.elim ty
def tBM (K : PySem.W.Frag) (T : String) (r : V -> List V -> Hp -> VK -> Prop) (to : TE) (t : TA) : TE := fun σ H Q => to σ H fun x H1 => tyV K T x H1 /\ t σ H1 fun xs H2 => r x xs H2 Q
variable {o e : Expr} {es : List Expr} {to : TE} {t : TA} {name : Str} {apos gO : Pos} {T id : String} {r : V -> List V -> Hp -> VK -> Prop}
theorem B8 (pa : PlainAttrs T) (slot : Slot T name id) (hty : typeOf (.builtin id) = pure (.type "method_descriptor")) (hm : MtR X id r) (ho : PE X o to) (ha : PA X (e :: es) t)
 (LO : attributeBase o name X.env (eval o X.env) = eval o X.env := by rfl)
 (afP : ((backTo gO (starEach (e :: es) X.env)).all (fun x => !x.1) && (backToKw gO (keywordEach [] X.env)).all (fun x => x.1.isSome)
  && decide ((e :: es).length + ([] : List Keyword).length + (if ([] : List Keyword).isEmpty then 0 else 1) < 30)) = true := by rfl)
 (hline : (apos.endLine == gO.line) = true := by rfl) (hs : starEach (e :: es) X.env = (false, eval e X.env) :: starEach es X.env := by rfl) (aaq : (backTo gO (starEach es X.env)).any (·.1) = false := by rfl) :
 PE X (.Call (.Attribute o name apos) (e :: es) [] gO) (tBM X.K T r to t) := by
 intro pins s σ H Q I h
 refine wpAny_Call_method_late LO afP hline rfl (dF (ho pins s σ H _ I h) fun v s1 ⟨x, H1, I1, r1, ty, q1⟩ => ?_)
 obtain ⟨h1, h2⟩ := Nk I1 r1 ty
 refine ⟨T, id, pa, slot, hty, h1, h2, ?_⟩
 have hA := ha gO pins s1 σ H1 _ I1 q1
 rw [hs] at hA ⊢
 refine Calls.callWith_builtin (by show (false || (backTo gO (starEach es X.env)).any (·.1)) = false; rw [aaq] <;> rfl) (Calls.evalArgs_plain ?_)
 exact dF hA fun us s2 ⟨vs, H2, I2, r2, q2⟩ => hm pins s2 σ H2 x vs v us Q I2 r1 r2 q2
end
def MtM (X : Cx) (id : String) (r : V -> List V -> Hp -> VK -> Prop) : Prop :=
 ∀ (pins : List (Addr × Obj)) (s : Shared) (σ : St) (H : Hp) (x : V) (xs : List V) (v : Value) (us : List Value) (Q : VK), Inv X pins σ H s -> RelV x v -> Vals xs us -> r x xs H Q ->
   wpAny (model X.prog X.w) X.A (call (.builtin id) (v :: us)) (EP X pins σ Q) X.xe s
theorem Vals.one : ∀ {x : V} {us : List Value}, Vals [x] us -> ∃ u, us = [u] /\ RelV x u
 | _, _, .cons r .nil => ⟨_, rfl, r⟩
section
variable {X : Cx} {pins : List (Addr × Obj)} {σ : St} {H : Hp} {s : Shared} {l b : Addr} {xs ys zs : List V}
theorem Inv.ac6 {bT its' : List Value} {n : Nat} {f : Array Value -> Array Value} {t' : Nat} (I : Inv X pins σ H s) (hH : H l = some (.lst xs))
 (e : s.heap.get? l = some { cls := .type "list", data := .seq bT.toArray n }) (hf : f bT.toArray = its'.toArray) (hv : Vals ys its') (hz : ys.length <= sizeLine) :
 Inv X pins σ (upd H l (.lst ys)) { s with heap := s.heap.update l (Obj.mapSeq f), toks := t' } := by
 have q := PySem.IsL.update e f
 rw [hf] at q
 refine I.write (x := l) (e := l) (by rw [hH]; exact trivial) (.inl rfl) (fun b' u hb hu => (Heap.get?_update_other s.heap (Obj.mapSeq f) (Ne.symm hb)).trans hu) ⟨_, q⟩ ?_
 exact ⟨hz, its', _, hv, q⟩
theorem Inv.agF {bT : List Value} {t' : Nat} (I : Inv X pins σ H s) (hv : Vals ys bT) (hz : ys.length <= sizeLine) :
 Inv X pins σ (upd H s.heap.objs.size (.lst ys)) { s with heap := s.heap.push { cls := .type "list", data := .seq bT.toArray }, toks := t' } :=
 I.laid (fun _ _ q => Heap.get?_push_of_some _ q) (Nat.le_refl _) ⟨hz, bT, 0, hv, Heap.get?_push_size _ rfl⟩
theorem Inv.fresh (I : Inv X pins σ H s) : H s.heap.objs.size = none := I.bD.fresh (Nat.le_refl _)
theorem Inv.Uv (I : Inv X pins σ H s) (hH : H l = some (.lst xs)) : xs.length <= sizeLine /\ ∃ (bT : List Value) (n : Nat), Vals xs bT /\ xs.length = bT.length /\ s.heap.get? l = some { cls := .type "list", data := .seq bT.toArray n } := by
 obtain ⟨z, bT, n, r, e⟩ := I.bD l _ hH
 exact ⟨z, bT, n, r, r.length, e⟩
theorem RV {n : Nat} (h : n <= sizeLine) : Builtin.List.listTooLong n = false := by
 unfold Builtin.List.listTooLong
 exact decide_eq_false (by omega)
end
section
variable {X : Cx}
def OO : V -> List V -> Hp -> VK -> Prop := fun x vs H Q => ∃ l xs y, x = .ref l /\ vs = [y] /\ H l = some (.lst xs) /\ xs.length < sizeLine /\ Q .aS (upd H l (.lst (xs ++ [y])))
theorem Je : MtM X "list.append" OO := by
 intro pins s σ H x vs v us Q I rx rv h
 obtain ⟨l, xs, y, rfl, rfl, hH, hz, q⟩ := h
 cases rx
 obtain ⟨u, rfl, ru⟩ := rv.one
 obtain ⟨z, bT, n, r, hl, e⟩ := I.Uv hH
 refine call_meets F.slot_list_append ⟨_, e, rfl⟩ F.entry_list_append (F.args_list_append_2 _ _) (PySem.list_append l bT.toArray n u (by rw [List.size_toArray]; omega)) ⟨e, ?_⟩
 refine ⟨.aS, _, I.ac6 (its' := bT ++ [u]) hH e (by simp) (r.append (.cons ru .nil)) ?_, rfl, q⟩
 rw [List.length_append, List.length_singleton]
 omega
def O2 : V -> List V -> Hp -> VK -> Prop := fun x vs H Q => ∃ l b xs zs, x = .ref l /\ vs = [.ref b] /\ H l = some (.lst xs) /\ H b = some (.lst zs) /\ xs.length + zs.length <= sizeLine /\ Q .aS (upd H l (.lst (xs ++ zs)))
theorem Eo : MtM X "list.extend" O2 := by
 intro pins s σ H x vs v us Q I rx rv h
 obtain ⟨l, b, xs, zs, rfl, rfl, hH, hB, hz, q⟩ := h
 cases rx
 obtain ⟨u, rfl, ru⟩ := rv.one
 cases ru
 obtain ⟨z, bT, n, r, hl, e⟩ := I.Uv hH
 obtain ⟨z2, NY, n2, r2, YL, e2⟩ := I.Uv hB
 have hsz : bT.toArray.size + NY.toArray.size <= sizeLine := by rw [List.size_toArray, List.size_toArray]; omega
 have adk : ¬ (!bT.toArray.isEmpty && Builtin.List.listTooLong (bT.toArray.size + NY.toArray.size)) = true := by
  rw [RV hsz, Bool.and_false]
  exact Bool.false_ne_true
 refine call_meets F.slot_list_extend ⟨_, e, rfl⟩ F.entry_list_extend (F.args_list_extend_2 _ _)
  (AutoSeq1.list_extend_list_list_0 l bT.toArray n b NY.toArray n2 adk (by rw [List.size_toArray]; omega) (by omega)) ⟨e, e2, ?_⟩
 refine ⟨.aS, _, I.ac6 (its' := bT ++ NY) hH e (by simp) (r.append r2) ?_, rfl, q⟩
 rw [List.length_append]
 omega
def adT : R2 := fun x y H Q => ∃ l b xs zs, x = .ref l /\ y = .ref b /\ H l = some (.lst xs) /\ H b = some (.lst zs) /\ xs.length + zs.length <= sizeLine /\ ∀ p, H p = none -> Q (.ref p) (upd H p (.lst (xs ++ zs)))
theorem Oi : Bb X (binaryOp .Add) adT := by
 intro pins s σ H x y v u Q I rx ry h
 obtain ⟨l, b, xs, zs, rfl, rfl, hH, hB, hz, q⟩ := h
 cases rx
 cases ry
 obtain ⟨z, bT, n, r, hl, e⟩ := I.Uv hH
 obtain ⟨z2, NY, n2, r2, YL, e2⟩ := I.Uv hB
 refine PySem.P.add_list e e2 ?_ (by rw [List.size_toArray, List.size_toArray]; omega)
 have ea : bT.toArray ++ NY.toArray = (bT ++ NY).toArray := by simp
 rw [ea]
 exact ⟨.ref _, _, I.agF (t' := s.toks) (r.append r2) (by rw [List.length_append]; omega), rfl, q _ I.fresh⟩
end
section
variable {prog : Program} {w : World} {A : Around} {E : Value -> Shared -> Prop} {s : Shared}
set_option maxRecDepth 100000 in
end
section
variable {X : Cx}
end
section
variable {κ : Type} [DecidableEq κ]
def oS (kvs : List (κ × V)) (k : κ) : Option V := (kvs.find? fun kv => decide (kv.1 = k)).map (·.2)
def putK (kvs : List (κ × V)) (k : κ) (v : V) : List (κ × V) :=
 if (kvs.any fun kv => decide (kv.1 = k)) = true then kvs.map (fun kv => if kv.1 = k then (kv.1, v) else kv) else kvs ++ [(k, v)]
def sL (kvs : List (κ × V)) (k : κ) : List (κ × V) := kvs.filter fun kv => decide (kv.1 ≠ k)
theorem uU {p : κ × V} {r : List (κ × V)} {k : κ} (e : p.1 = k) : oS (p :: r) k = some p.2 := by simp [oS, List.find?_cons, e]
theorem qx {p : κ × V} {r : List (κ × V)} {k : κ} (e : ¬ p.1 = k) : oS (p :: r) k = oS r k := by simp [oS, List.find?_cons, e]
theorem G7 (k : κ) : ∀ kvs : List (κ × V), (kvs.any fun kv => decide (kv.1 = k)) = (oS kvs k).isSome
 | [] => rfl
 | p :: r => by
   rw [List.any_cons]
   by_cases e : p.1 = k
   . simp only [uU e, decide_eq_true e, Bool.true_or, Option.isSome_some]
   . rw [qx e, decide_eq_false e, Bool.false_or]; exact G7 k r
theorem Fy (kvs : List (κ × V)) (k : κ) (v : V) : (putK kvs k v).length <= kvs.length + 1 := by
 unfold putK
 split
 . rw [List.length_map]; omega
 . rw [List.length_append, List.length_cons, List.length_nil]; omega
theorem rK.qj {o : Option V} {u : Option Value} (r : rK o u) : o.isSome = u.isSome := by
 cases o with
 | none => cases u with
   | none => rfl
   | some _ => exact (show False from r).elim
 | some _ => cases u with
   | none => exact (show False from r).elim
   | some _ => rfl
theorem rK.getD {o : Option V} {u : Option Value} {d : V} {d' : Value} (r : rK o u) (rd : RelV d d') : RelV (o.getD d) (u.getD d') := by
 cases o with
 | none => cases u with
   | none => exact rd
   | some _ => exact (show False from r).elim
 | some _ => cases u with
   | none => exact (show False from r).elim
   | some _ => exact r
theorem KV.val {kvs : List (κ × V)} {vs : List (κ × Value)} (r : KV kvs vs) (k : κ) : rK (oS kvs k) (valueAt vs k) := by
 unfold KV at r
 induction r with
 | nil => exact True.intro
 | @cons p q ps qs h t ih =>
   obtain ⟨h1, h2⟩ := h
   by_cases e : p.1 = k
   . have e' : q.1 = k := h1.symm.trans e
     have b : valueAt (q :: qs) k = some q.2 := by simp [valueAt, List.find?_cons, e']
     rw [uU e, b]; exact h2
   . have e' : ¬ q.1 = k := fun z => e (h1.trans z)
     have b : valueAt (q :: qs) k = valueAt qs k := by simp [valueAt, List.find?_cons, e']
     rw [qx e, b]; exact ih
theorem KV.any {kvs : List (κ × V)} {vs : List (κ × Value)} (r : KV kvs vs) (k : κ) : (kvs.any fun kv => decide (kv.1 = k)) = vs.any fun kv => decide (kv.1 = k) := by
 unfold KV at r
 induction r with
 | nil => rfl
 | cons h t ih => rw [List.any_cons, List.any_cons, ih, h.1]
theorem KV.repl {kvs : List (κ × V)} {vs : List (κ × Value)} (r : KV kvs vs) (k : κ) {y : V} {u : Value} (ry : RelV y u) :
 KV (kvs.map fun kv => if kv.1 = k then (kv.1, y) else kv) (vs.map fun kv => if kv.1 = k then (kv.1, u) else kv) := by
 unfold KV at r ⊢
 induction r with
 | nil => exact .nil
 | @cons p q ps qs h t ih =>
   rw [List.map_cons, List.map_cons]
   refine .cons ?_ ih
   obtain ⟨h1, h2⟩ := h
   by_cases e : p.1 = k
   . rw [if_pos e, if_pos (h1.symm.trans e)]; exact ⟨h1, ry⟩
   . rw [if_neg e, if_neg (fun z => e (h1.trans z))]; exact ⟨h1, h2⟩
theorem KV.put {kvs : List (κ × V)} {vs : List (κ × Value)} (r : KV kvs vs) (k : κ) {y : V} {u : Value} (ry : RelV y u) : KV (putK kvs k y) (stored vs k u) := by
 unfold putK stored
 rw [r.any k]
 by_cases e : (vs.any fun kv => decide (kv.1 = k)) = true
 . rw [if_pos e, if_pos e]; exact r.repl k ry
 . rw [if_neg e, if_neg e]; exact Paired.snoc r ⟨rfl, ry⟩
theorem KV.drop {kvs : List (κ × V)} {vs : List (κ × Value)} (r : KV kvs vs) (k : κ) : KV (sL kvs k) (without vs k) := by
 unfold KV at r ⊢
 unfold sL without
 induction r with
 | nil => exact .nil
 | @cons p q ps qs h t ih =>
   obtain ⟨h1, h2⟩ := h
   rw [List.filter_cons, List.filter_cons]
   by_cases e : p.1 = k
   . have a : ¬ decide (p.1 ≠ k) = true := by simp [e]
     have b : ¬ decide (q.1 ≠ k) = true := by simp [h1.symm.trans e]
     rw [if_neg a, if_neg b]; exact ih
   . have e' : ¬ q.1 = k := fun z => e (h1.trans z)
     have a : decide (p.1 ≠ k) = true := by simp [e]
     have b : decide (q.1 ≠ k) = true := by simp [e']
     rw [if_pos a, if_pos b]; exact .cons ⟨h1, h2⟩ ih
theorem KV.length {kvs : List (κ × V)} {vs : List (κ × Value)} (r : KV kvs vs) : kvs.length = vs.length := Paired.length r
theorem Uw (kvs : List (κ × V)) (k : κ) : (sL kvs k).length <= kvs.length := List.length_filter_le _ _
end
theorem GN {P : Program} {w : World} {k : Key} {u : Value} (r : RelV (kV k) u) : (aU P w).is k u = true := by
 cases k with
 | inl i => obtain ⟨t, e⟩ := (show ∃ t, u = Value.int i t from r); subst e; exact Lp P w i t
 | inr x => obtain ⟨t, e⟩ := (show ∃ t, u = Value.str x t from r); subst e; exact L3 P w x t
theorem Jn {P : Program} {w : World} : ∀ {ks : List Key} {us : List Value}, Vals (ks.map kV) us -> ItemsAre (aU P w) ks us
 | [], _, r => by rw [List.map_nil] at r; cases r; exact .nil
 | k :: ks, _, r => by
   rw [List.map_cons] at r
   cases r with
   | cons h t => exact .cons (GN h) (Jn t)
abbrev KT (H : Hp) : List (List Key × V) -> List (List Key × Addr × Value) -> Prop := Paired fun p q => p.1 = q.1 /\ H q.2.1 = some (.tup (p.1.map kV)) /\ RelV p.2 q.2.2
theorem KT.val {H : Hp} {kvs : List (List Key × V)} {xs : List (List Key × Addr × Value)} (r : KT H kvs xs) (k : List Key) : rK (oS kvs k) ((atKey xs k).map (·.2)) := by
 induction r with
 | nil => exact True.intro
 | @cons p q ps qs h t ih =>
   obtain ⟨h1, _, h2⟩ := h
   by_cases e : p.1 = k
   . have e' : q.1 = k := h1.symm.trans e
     have b : atKey (q :: qs) k = some q.2 := by simp [atKey, List.find?_cons, e']
     rw [uU e, b]; exact h2
   . have e' : ¬ q.1 = k := fun z => e (h1.trans z)
     have b : atKey (q :: qs) k = atKey qs k := by simp [atKey, List.find?_cons, e']
     rw [qx e, b]; exact ih
theorem KT.repl {H : Hp} {kvs : List (List Key × V)} {xs : List (List Key × Addr × Value)} (r : KT H kvs xs) (k : List Key) {y : V} {u : Value} (ry : RelV y u) :
 KT H (kvs.map fun kv => if kv.1 = k then (kv.1, y) else kv) (xs.map (putAt k u)) := by
 induction r with
 | nil => exact .nil
 | @cons p q ps qs h t ih =>
   rw [List.map_cons, List.map_cons]
   refine .cons ?_ ih
   obtain ⟨h1, h2, h3⟩ := h
   unfold putAt
   by_cases e : p.1 = k
   . rw [if_pos e, if_pos (h1.symm.trans e)]; exact ⟨h1, h2, ry⟩
   . rw [if_neg e, if_neg (fun z => e (h1.trans z))]; exact ⟨h1, h2, h3⟩
theorem KT.put {H : Hp} {kvs : List (List Key × V)} {xs : List (List Key × Addr × Value)} (r : KT H kvs xs) (k : List Key) {b : Addr} {y : V} {u : Value} (hb : H b = some (.tup (k.map kV))) (ry : RelV y u) :
 KT H (putK kvs k y) (storedH xs k b u) := by
 have e : (kvs.any fun kv => decide (kv.1 = k)) = (atKey xs k).isSome := by
  rw [G7, (r.val k).qj, Option.isSome_map]
 unfold putK storedH
 rw [e]
 by_cases q : (atKey xs k).isSome = true
 . rw [if_pos q, if_pos q]; exact r.repl k ry
 . rw [if_neg q, if_neg q]; exact Paired.snoc r ⟨rfl, hb, ry⟩
theorem KT.keeps {H H' : Hp} {kvs : List (List Key × V)} {xs : List (List Key × Addr × Value)} (r : KT H kvs xs) (ht : ∀ b ys, H b = some (.tup ys) -> H' b = some (.tup ys)) : KT H' kvs xs :=
 Paired.aaj r fun _ _ z => ⟨z.1, ht _ _ z.2.1, z.2.2⟩
section
variable {P : Program} {w : World} {H : Hp} {h : Heap} {a : Addr}
theorem Yh {u : HO} (ok : rj P w H h) (e : Rd H a u) : cD P w H h a u := e.ok ok
theorem Hq {kvs : List (Key × V)} (ok : rj P w H h) (e : Rd H a (.dK kvs)) : kvs.length <= sizeLine /\ (a == sysModules) = false /\ ∃ vs, KV kvs vs /\ h.DictOf (aU P w) a vs :=
 show cD P w H h a (.dK kvs) from Yh ok e
theorem Yp {kvs : List (Key × V)} (ok : rj P w H h) (e : H a = some (.dK kvs)) : kvs.length <= sizeLine /\ (a == sysModules) = false /\ ∃ vs, KV kvs vs /\ h.DictOf (aU P w) a vs := Hq ok (.inl e)
theorem Et {ks : List Key} (ok : rj P w H h) (e : H a = some (.tup (ks.map kV))) : (tupleKind (aU P w)).is h ks a := by
 obtain ⟨_, bT, r, o, h1, h2, n, h3⟩ := (show cD P w H h a (.tup (ks.map kV)) from ok a _ e)
 exact ⟨o, bT.toArray, n, h1, h2, h3, by simpa using Jn r⟩
theorem Hd {kvs : List (List Key × V)} (ok : rj P w H h) (e : Rd H a (.dT kvs)) : kvs.length <= sizeLine /\ (a == sysModules) = false /\
 ∃ xs, KT H kvs xs /\ h.DictOfH (tupleKind (aU P w)) a xs := by
 obtain ⟨z, y, xs, r, o, es, ep, h1, h2, h3, h4, h5⟩ := (show cD P w H h a (.dT kvs) from Yh ok e)
 refine ⟨z, y, xs, r, o, es, ep, h1, h2, h3, h4, fun x hx => ?_, h5⟩
 have all : ∀ {l : List (List Key × V)} {m : List (List Key × Addr × Value)}, KT H l m -> ∀ x ∈ m, (tupleKind (aU P w)).is h x.1 x.2.1 := by
  intro l m q
  induction q with
  | nil => intro x hx; exact nomatch hx
  | @cons p q ps qs hq t ih =>
    intro x hx
    rcases List.mem_cons.mp hx with e | hx
    . subst e
      exact Et ok (by rw [<- hq.1]; exact hq.2.1)
    . exact ih x hx
 exact all r x hx
theorem adC {kvs : List (List Key × V)} (ok : rj P w H h) (e : H a = some (.dT kvs)) : kvs.length <= sizeLine /\ (a == sysModules) = false /\
 ∃ xs, KT H kvs xs /\ h.DictOfH (tupleKind (aU P w)) a xs := Hd ok (.inl e)
end
def iD (H : Hp) (a : Addr) (y : V) (r : Option V) : Prop :=
 (∃ kvs k, Rd H a (.dK kvs) /\ y = kV k /\ r = oS kvs k) \/ ∃ kvs k b, Rd H a (.dT kvs) /\ y = .ref b /\ H b = some (.tup (k.map kV)) /\ r = oS kvs k
def JR (H : Hp) (a : Addr) (y v : V) (H' : Hp) : Prop :=
 (∃ kvs k, H a = some (.dK kvs) /\ y = kV k /\ kvs.length < sizeLine /\ H' = upd H a (.dK (putK kvs k v))) \/
 ∃ kvs k b, H a = some (.dT kvs) /\ y = .ref b /\ H b = some (.tup (k.map kV)) /\ kvs.length < sizeLine /\ H' = upd H a (.dT (putK kvs k v))
theorem iD.k {H : Hp} {a : Addr} {kvs : List (Key × V)} {k : Key} (e : H a = some (.dK kvs)) : iD H a (kV k) (oS kvs k) := .inl ⟨kvs, k, .inl e, rfl, rfl⟩
theorem JR.k {H : Hp} {a : Addr} {kvs : List (Key × V)} {k : Key} {v : V} (e : H a = some (.dK kvs)) (hl : kvs.length < sizeLine) : JR H a (kV k) v (upd H a (.dK (putK kvs k v))) := .inl ⟨kvs, k, e, rfl, hl, rfl⟩
section
variable {X : Cx} {pins : List (Addr × Obj)} {σ : St} {H : Hp} {s : Shared} {a : Addr} {y v : V} {u r : Value} {o : Option V} {A : Around} {E : Value -> Shared -> Prop}
theorem Inv.big (I : Inv X pins σ H s) : sysModules < s.heap.objs.size := by
 have h : mainGlobals < s.heap.objs.size := (I.mod.glob.keeps I.bk).lt
 exact Nat.lt_trans (by decide) h
theorem Qn {Q : Value -> Shared -> Prop} (hu : A.units + 1 < cLine) (I : Inv X pins σ H s) (g : iD H a y (some v)) (ry : RelV y u) (h : ∀ w' s', Inv X pins σ H s' -> RelV v w' -> Q w' s') :
 wpAny (model X.prog X.w) A (getItem (.ref a) u) Q E s := by
 rcases g with ⟨kvs, k, e, ey, l⟩ | ⟨kvs, k, b, e, ey, eb, l⟩
 . subst ey
   obtain ⟨z, hd, vs, rel, dd⟩ := Hq I.bD e
   obtain ⟨w', hw, NZ⟩ := rK.some_of (v := v) (o := valueAt vs k) (by rw [l]; exact rel.val k)
   exact wpAny_getItem_of (GN ry) dd.mapOf hw (h w' _ (I.tok _) NZ)
 . subst ey
   cases (show u = Value.ref b from ry)
   obtain ⟨z, hd, xs, rel, dd⟩ := Hd I.bD e
   obtain ⟨w', hw, NZ⟩ := rK.some_of (v := v) (o := (atKey xs k).map (·.2)) (by rw [l]; exact rel.val k)
   obtain ⟨p, hp, X7⟩ := Option.map_eq_some_iff.mp hw
   refine wpAny_getItem_heap (tupleKind_room_in1 hu) (Et I.bD eb) dd hp ?_
   rw [X7]
   exact h w' _ (I.tok _) NZ
theorem aho {Q : Value -> Shared -> Prop} (hu : A.units + 1 < cLine) (I : Inv X pins σ H s) (g : iD H a y o) (ry : RelV y u) (h : ∀ s', Inv X pins σ H s' -> Q (.bool o.isSome) s') :
 wpAny (model X.prog X.w) A (compareOp .In u (.ref a)) Q E s := by
 rcases g with ⟨kvs, k, e, ey, l⟩ | ⟨kvs, k, b, e, ey, eb, l⟩
 . subst ey
   obtain ⟨z, hd, vs, rel, dd⟩ := Hq I.bD e
   refine wpAny_in_of (GN ry) hd dd.mapOf ?_
   rw [<- (rel.val k).qj, <- l]
   exact h _ (I.tok _)
 . subst ey
   cases (show u = Value.ref b from ry)
   obtain ⟨z, hd, xs, rel, dd⟩ := Hd I.bD e
   refine wpAny_in_heap (tupleKind_room_in1 hu) (Et I.bD eb) hd dd ?_
   have q := (rel.val k).qj
   rw [Option.isSome_map] at q
   rw [<- q, <- l]
   exact h _ (I.tok _)
theorem VA {Q : Value -> Shared -> Prop} (hu : A.units + 1 < cLine) (I : Inv X pins σ H s) (g : iD H a y o) (ry : RelV y u) (h : ∀ s', Inv X pins σ H s' -> Q (.bool (!o.isSome)) s') :
 wpAny (model X.prog X.w) A (compareOp .NotIn u (.ref a)) Q E s := by
 rcases g with ⟨kvs, k, e, ey, l⟩ | ⟨kvs, k, b, e, ey, eb, l⟩
 . subst ey
   obtain ⟨z, hd, vs, rel, dd⟩ := Hq I.bD e
   refine wpAny_notIn_of (GN ry) hd dd.mapOf ?_
   rw [<- (rel.val k).qj, <- l]
   exact h _ (I.tok _)
 . subst ey
   cases (show u = Value.ref b from ry)
   obtain ⟨z, hd, xs, rel, dd⟩ := Hd I.bD e
   refine wpAny_notIn_heap (tupleKind_room_in1 hu) (Et I.bD eb) hd dd ?_
   have q := (rel.val k).qj
   rw [Option.isSome_map] at q
   rw [<- q, <- l]
   exact h _ (I.tok _)
theorem Kx {h' : Heap} {t' : Nat} {ob : HO} (I : Inv X pins σ H s) (mu : Mut (H a)) (hs : Heap.SameBut a s.heap h') (he : ∃ q, h'.get? a = some q) (new : cD X.prog X.w (upd H a ob) h' a ob) :
 Inv X pins σ (upd H a ob) { s with heap := h', toks := t' } :=
 I.write (x := a) (e := a) mu (.inl rfl) (fun b q hb z => (hs.2 b hb).trans z) he new
theorem UK {P : Program} {w : World} {H' : Hp} {h' : Heap} {kvs : List (Key × V)} {vs : List (Key × Value)} (z : kvs.length <= sizeLine) (hd : (a == sysModules) = false) (rel : KV kvs vs) (dd : h'.DictOf (aU P w) a vs) :
 cD P w H' h' a (.dK kvs) := ⟨z, hd, vs, rel, dd⟩
theorem Qm {H' : Hp} {Q : Unit -> Shared -> Prop} (hu : A.units + 1 < cLine) (I : Inv X pins σ H s) (g : JR H a y v H') (ry : RelV y u) (rv : RelV v r) (h : ∀ s', Inv X pins σ H' s' -> Q () s') :
 wpAny (model X.prog X.w) A (setItem (.ref a) u r) Q E s := by
 rcases g with ⟨kvs, k, e, ey, l, eH⟩ | ⟨kvs, k, b, e, ey, eb, l, eH⟩
 . subst ey eH
   obtain ⟨z, hd, vs, rel, dd⟩ := Yp I.bD e
   have hz : vs.length <= sizeLine := by rw [<- rel.length]; exact z
   have hl : (putK kvs k v).length <= sizeLine := by have := Fy kvs k v; omega
   refine wpAny_setItem_pairs (hsz := hz) (GN ry) dd fun h' dd' hs => h _ ?_
   have he : ∃ q, h'.get? a = some q := let ⟨q, _, _, hq, _⟩ := dd'; ⟨q, hq⟩
   exact Kx I (by rw [e]; exact True.intro) hs he (UK hl hd (rel.put k rv) dd')
 . subst ey eH
   cases (show u = Value.ref b from ry)
   obtain ⟨z, hd, xs, rel, dd⟩ := adC I.bD e
   have hz : xs.length <= sizeLine := by rw [<- Paired.length rel]; exact z
   have hl : (putK kvs k v).length <= sizeLine := by have := Fy kvs k v; omega
   refine wpAny_setItem_heap (hsz := hz) (tupleKind_room_in1 hu) (Et I.bD eb) dd fun h' dd' hs => h _ ?_
   obtain ⟨q, es, ep, hq, h2, h3, h4, _, h5⟩ := dd'
   refine Kx I (by rw [e]; exact True.intro) hs ⟨q, hq⟩ ⟨hl, hd, _, (rel.put k eb rv).keeps fun c ys ec => ?_, q, es, ep, hq, h2, h3, h4, h5⟩
   rw [aq (iq ec e (fun z => nomatch z))]
   exact ec
end
section
variable {X : Cx} {pins : List (Addr × Obj)} {σ : St} {H : Hp} {s : Shared} {a : Addr} {kvs : List (Key × V)} {k : Key} {u : Value} {A : Around} {E : Value -> Shared -> Prop}
theorem acN {v : V} {more : List Value} {Q : Value -> Shared -> Prop} (I : Inv X pins σ H s) (e : H a = some (.dK kvs)) (ry : RelV (kV k) u) (l : oS kvs k = some v) (hm : more = [] \/ ∃ x, more = [x])
 (h : ∀ w' s', Inv X pins σ (upd H a (.dK (sL kvs k))) s' -> RelV v w' -> Q w' s') : wpAny (model X.prog X.w) A (call (.builtin "dict.pop") (.ref a :: u :: more)) Q E s := by
 obtain ⟨z, hd, vs, rel, dd⟩ := Yp I.bD e
 obtain ⟨w', hw, NZ⟩ := rK.some_of (v := v) (o := valueAt vs k) (by rw [<- l]; exact rel.val k)
 have hp : (keyPart u).isSome = true := by
  cases k with
  | inl i => obtain ⟨t, q⟩ := (show ∃ t, u = Value.int i t from ry); subst q; rfl
  | inr x => obtain ⟨t, q⟩ := (show ∃ t, u = Value.str x t from ry); subst q; rfl
 have ha : argsOk "dict.pop" ⟨.ref a :: u :: more, []⟩ := by
  rcases hm with q | ⟨x, q⟩
  . subst q; exact PySem.F.args_dict_pop_2 _ _
  . subst q; exact PySem.F.args_dict_pop_3 _ _ _
 refine call_meetsIn PySem.F.slot_dict_pop dd.typeIs PySem.F.entry_dict_pop ha (meets_dict_pop_there (aU X.prog X.w) a (GN ry) more hm hp)
  ⟨vs, w', dd, by rw [<- rel.length]; exact z, hw, fun h' dd' hs => h w' _ ?_ NZ⟩
 have he : ∃ q, h'.get? a = some q := let ⟨q, _, _, hq, _⟩ := dd'; ⟨q, hq⟩
 exact Kx I (by rw [e]; exact True.intro) hs he (UK (Nat.le_trans (Uw kvs k) z) hd (rel.drop k) dd')
end
def aeV (i : Expr) : Prop := ∀ ov iv, subscripted i false ov iv = operate [ov, iv] (getItem ov iv)
theorem W9 {prog : Program} {w : World} {A : Around} {E : Value -> Shared -> Prop} {s : Shared} {env : Env} {value slice : Expr} {pos : Pos} {T id : String} {Q : Value -> Shared -> Prop}
 (hl : typeLookup (.type T) "__getitem__" = pure (some (.builtin id))) (hs : aeV slice)
 (h : wpAny (model prog w) A (eval value env) (fun o s₁ => wpAny (model prog w) A (eval slice env) (fun i s₂ => s₂.TypeIs o T /\ wpAny (model prog w) A (getItem o i) Q E s₂) E s₁) E s) :
 wpAny (model prog w) A (eval (.Subscript value slice pos) env) Q E s := by
 refine Subscript_ (wpAny_mono h (fun o s₁ h₁ => wpAny_mono h₁ (fun i s₂ h₂ => ?_) fun _ _ x => x) fun _ _ x => x)
 obtain ⟨hT, h₂⟩ := h₂
 unfold subscriptTail
 refine wpAny_bind ?_
 rw [getitemInPython_of_ne hT.not_modules]
 refine wpAny_bind (wpAny_specialOf hT hl ?_)
 have fin : wpAny (model prog w) A (subscripted slice false o i) (fun r s₃ => wpAny (model prog w) A (letTemporaryGo value o r >>= fun _ => pure r) Q E s₃) E s₂ := by
  rw [hs o i]
  exact wpAny_operating (wpAny_mono h₂ (fun r s₃ h₃ => wpAny_bind (wpAny_letTemporaryGo (wpAny_pure h₃))) fun _ _ x => x)
 first
  | exact wpAny_pure (wpAny_bind fin)
  | exact wpAny_bind (wpAny_pure (wpAny_bind fin))
  | exact wpAny_bind fin
theorem LX {X : Cx} {pins : List (Addr × Obj)} {σ : St} {H : Hp} {s : Shared} {a : Addr} {y : V} {o : Option V} (I : Inv X pins σ H s) (g : iD H a y o) : s.TypeIs (.ref a) "dict" := by
 rcases g with ⟨kvs, k, e, _, _⟩ | ⟨kvs, k, b, e, _, _, _⟩
 . obtain ⟨_, _, vs, _, dd⟩ := Hq I.bD e
   exact dd.typeIs
 . obtain ⟨_, _, xs, _, dd⟩ := Hd I.bD e
   exact dd.typeIs
def YY (td ty : TE) : TE := fun σ H Q => td σ H fun x H1 => ty σ H1 fun y H2 => ∃ a v, x = .ref a /\ iD H2 a y (some v) /\ Q v H2
def aeZ (ty td : TE) : TE := fun σ H Q => ty σ H fun y H1 => td σ H1 fun x H2 => ∃ a o, x = .ref a /\ iD H2 a y o /\ Q (.bl o.isSome) H2
def OM (ty td : TE) : TE := fun σ H Q => ty σ H fun y H1 => td σ H1 fun x H2 => ∃ a o, x = .ref a /\ iD H2 a y o /\ Q (.bl (!o.isSome)) H2
def Yz (td ty tv : TE) : TS := fun D σ H => tv σ H fun v H1 => td σ H1 fun x H2 => ty σ H2 fun y H3 => ∃ a H4, x = .ref a /\ JR H3 a y v H4 /\ D.nx σ H4
section
variable {X : Cx} {o i e value : Expr} {pos pos' abu : Pos} {td ty tv : TE}
theorem gK (hu : X.A.units + 1 < cLine) (ho : PE X o td) (hi : PE X i ty) (hs : aeV i) : PE X (.Subscript o i pos) (YY td ty) := by
 intro pins s σ H Q I h
 refine W9 PySem.F.slot_dict_getitem.lookup hs (dF (ho pins s σ H _ I h) fun u s1 ⟨x, H1, I1, rx, q1⟩ => dF (hi pins s1 σ H1 _ I1 q1) fun iv s2 ⟨y, H2, I2, ry, a, v, ex, g, q2⟩ => ?_)
 subst ex
 obtain rfl : u = Value.ref a := rx
 exact ⟨LX I2 g, Qn hu I2 g ry fun w' s3 I3 NZ => ⟨v, H2, I3, NZ, q2⟩⟩
theorem U2 (hu : X.A.units + 1 < cLine) (hi : PE X i ty) (ho : PE X o td) : PC X .In i o (aeZ ty td) := by
 intro pins s σ H Q I h
 refine dF (hi pins s σ H _ I h) fun iv s1 ⟨y, H1, I1, ry, q1⟩ => dF (ho pins s1 σ H1 _ I1 q1) fun u s2 ⟨x, H2, I2, rx, a, ov, ex, g, q2⟩ => ?_
 subst ex
 obtain rfl : u = Value.ref a := rx
 exact aho hu I2 g ry fun s3 I3 => ⟨.bl ov.isSome, H2, I3, rfl, q2⟩
theorem Jy (hu : X.A.units + 1 < cLine) (hi : PE X i ty) (ho : PE X o td) : PC X .NotIn i o (OM ty td) := by
 intro pins s σ H Q I h
 refine dF (hi pins s σ H _ I h) fun iv s1 ⟨y, H1, I1, ry, q1⟩ => dF (ho pins s1 σ H1 _ I1 q1) fun u s2 ⟨x, H2, I2, rx, a, ov, ex, g, q2⟩ => ?_
 subst ex
 obtain rfl : u = Value.ref a := rx
 exact VA hu I2 g ry fun s3 I3 => ⟨.bl (!ov.isSome), H2, I3, rfl, q2⟩
theorem Cq (hu : X.A.units + 1 < cLine) (ho : PE X o td) (hi : PE X i ty) (hv : PE X value tv) (hs : swapsWith value (some (.Subscript o i pos')) pos.line X.env = pure false) :
 PS X (.Assign [.Subscript o i pos'] value pos) (Yz td ty tv) := by
 intro pins s σ H D I h
 refine wpAny_Assign_Subscript (dF (hv pins s σ H _ I h) fun r s1 ⟨v, H1, I1, rv, q1⟩ => dF (ho pins s1 σ H1 _ I1 q1) fun u s2 ⟨x, H2, I2, rx, q2⟩ => dF (hi pins s2 σ H2 _ I2 q2) fun iv s3 ⟨y, H3, I3, ry, a, H4, ex, g, q3⟩ => ?_) hs
 subst ex
 obtain rfl : u = Value.ref a := rx
 exact Qm hu I3 g ry rv fun s4 I4 => ⟨σ, H4, I4, q3⟩
end
theorem UD {P : Program} {w : World} {H : Hp} (h : Heap) (hb : sysModules < h.objs.size) : cD P w H (h.push { cls := .type "dict", data := .dict #[] }) h.objs.size (.dK []) :=
 ⟨Nat.zero_le _, beq_eq_false_iff_ne.mpr (Ne.symm (Nat.ne_of_lt hb)), [], .nil, Heap.DictOf.new h⟩
def SW : TE := fun _ H Q => ∀ p, H p = none -> Q (.ref p) (upd H p (.dK []))
section
variable {X : Cx} {pos : Pos}
theorem jh : PE X (.Dict [] [] pos) SW := fun pins s σ H Q I h =>
 wpAny_Dict_empty ⟨.ref s.heap.objs.size, _, I.laid (a := s.heap.objs.size) (o := .dK []) (t' := s.toks) (fun _ _ q => Heap.get?_push_of_some _ q) (Nat.le_refl _) (UD s.heap I.big), rfl, h _ (I.bD.fresh (Nat.le_refl _))⟩
end
structure M1 (X : Cx) (o : Expr) (m : Str) (apos : Pos) (e : Expr) (gO : Pos) : Prop where
 base : attributeBase o m X.env (eval o X.env) = eval o X.env
 few : ((backTo gO (starEach [e] X.env)).all (fun x => !x.1) && (backToKw gO (keywordEach [] X.env)).all (fun x => x.1.isSome)
  && decide (([e] : List Expr).length + ([] : List Keyword).length + (if ([] : List Keyword).isEmpty then 0 else 1) < 30)) = true
 line : (apos.endLine == gO.line) = true
 trees : backTo gO (starEach [e] X.env) = [(false, eval e X.env)]
structure M2 (X : Cx) (o : Expr) (m : Str) (apos : Pos) (e f : Expr) (gO : Pos) : Prop where
 base : attributeBase o m X.env (eval o X.env) = eval o X.env
 few : ((backTo gO (starEach [e, f] X.env)).all (fun x => !x.1) && (backToKw gO (keywordEach [] X.env)).all (fun x => x.1.isSome)
  && decide (([e, f] : List Expr).length + ([] : List Keyword).length + (if ([] : List Keyword).isEmpty then 0 else 1) < 30)) = true
 line : (apos.endLine == gO.line) = true
 trees : backTo gO (starEach [e, f] X.env) = [(false, eval e X.env), (false, eval f X.env)]
def IsD (H : Hp) (a : Addr) : Prop := (∃ kvs, Rd H a (.dK kvs)) \/ ∃ kvs, Rd H a (.dT kvs)
theorem ZH {X : Cx} {pins : List (Addr × Obj)} {σ : St} {H : Hp} {s : Shared} {a : Addr} (I : Inv X pins σ H s) (d : IsD H a) :
 s.TypeIs (.ref a) "dict" /\ (∀ b, Value.ref a = .ref b -> ∃ ob, s.heap.get? b = some ob /\ ob.dict = none) /\ (a == sysModules) = false := by
 rcases d with ⟨kvs, e⟩ | ⟨kvs, e⟩
 . obtain ⟨_, hd, vs, _, dd⟩ := Hq I.bD e
   refine ⟨dd.typeIs, fun b q => ?_, hd⟩
   cases q
   obtain ⟨ob, _, _, h1, h2, _⟩ := dd
   exact ⟨ob, h1, h2.2.1⟩
 . obtain ⟨_, hd, xs, _, dd⟩ := Hd I.bD e
   refine ⟨dd.typeIs, fun b q => ?_, hd⟩
   cases q
   obtain ⟨ob, _, _, h1, h2, _⟩ := dd
   exact ⟨ob, h1, h2.2.1⟩
section
variable {X : Cx} {pins : List (Addr × Obj)} {σ : St} {H : Hp} {s : Shared} {a : Addr} {y d : V} {u r : Value} {o : Option V} {A : Around} {E : Value -> Shared -> Prop}
theorem abt {Q : Value -> Shared -> Prop} (hu : A.units + 1 < cLine) (I : Inv X pins σ H s) (g : iD H a y o) (ry : RelV y u) (h : ∀ w' s', Inv X pins σ H s' -> RelV (o.getD .aS) w' -> Q w' s') :
 wpAny (model X.prog X.w) A (call (.builtin "dict.get") [.ref a, u]) Q E s := by
 rcases g with ⟨kvs, k, e, ey, l⟩ | ⟨kvs, k, b, e, ey, eb, l⟩
 . subst ey
   obtain ⟨z, hd, vs, rel, dd⟩ := Hq I.bD e
   refine call_meetsIn PySem.F.slot_dict_get dd.typeIs PySem.F.entry_dict_get (PySem.F.args_dict_get_2 _ _) (meets_dict_get (aU X.prog X.w) a (GN ry) hd) ⟨_, dd.mapOf, h _ _ (I.tok _) ?_⟩
   rw [l]
   exact (rel.val k).getD rfl
 . subst ey
   cases (show u = Value.ref b from ry)
   obtain ⟨z, hd, xs, rel, dd⟩ := Hd I.bD e
   refine call_meetsIn PySem.F.slot_dict_get dd.typeIs PySem.F.entry_dict_get (PySem.F.args_dict_get_2 _ _) (meetsH_dict_get (tupleKind (aU X.prog X.w)) a b hd) ⟨tupleKind_room_in1 hu, k, xs, Et I.bD eb, dd, h _ _ (I.tok _) ?_⟩
   rw [l]
   exact (rel.val k).getD rfl
end
def Va (td ty : TE) : TE := fun σ H Q => td σ H fun x H1 => ∃ a, x = .ref a /\ IsD H1 a /\ ty σ H1 fun y H2 => ∃ o, iD H2 a y o /\ Q (o.getD .aS) H2
section
variable {X : Cx} {o e f : Expr} {apos gO : Pos} {td ty tx : TE}
theorem UG (hu : X.A.units + 1 < cLine) (ho : PE X o td) (he : PE X e ty) (m : M1 X o "get" apos e gO) : PE X (.Call (.Attribute o "get" apos) [e] [] gO) (Va td ty) := by
 intro pins s σ H Q I h
 refine wpAny_Call_method m.base m.few m.line PySem.F.plainAttrs_dict PySem.F.slot_dict_get PySem.F.type_dict_get (dF (ho pins s σ H _ I h) fun u s1 ⟨x, H1, I1, rx, a, ex, d, q1⟩ => ?_)
 subst ex
 obtain rfl : u = Value.ref a := rx
 obtain ⟨t1, t2, _⟩ := ZH I1 d
 refine ⟨t1, t2, ?_⟩
 rw [m.trees]
 refine Calls.callWith_builtin rfl (Calls.evalArgs_plain (Calls.spliced_cons (dF (he pins s1 σ H1 _ I1 q1) fun iv s2 ⟨y, H2, I2, ry, ov, g, q2⟩ => Calls.spliced_nil ?_)))
 exact abt hu I2 g ry fun w' s3 I3 NZ => ⟨_, H2, I3, NZ, q2⟩
end
section
variable {X : Cx} {pins : List (Addr × Obj)} {σ : St} {H : Hp} {s : Shared} {a : Addr} {kvs : List (Key × V)} {A : Around} {E : Value -> Shared -> Prop}
end
section
variable {X : Cx} {pins : List (Addr × Obj)} {σ : St} {H : Hp} {s : Shared} {a : Addr} {y : V} {u : Value} {A : Around} {E : Value -> Shared -> Prop}
end
end L2
namespace Att
open PySem PySem.W PySem.Calls PyProof.Rows
theorem FV {P : Params} {h : Heap} : ∀ (ns : List Int) (vs : List Value), WellAll P h vs (ns.map WData.int) -> IntsAre vs ns := by
 intro ns
 induction ns with
 | nil =>
   intro vs w
   rw [List.map_nil] at w
   cases w
   exact .nil
 | cons n ns ih =>
   intro vs w
   rw [List.map_cons] at w
   cases w with
   | cons a b =>
     cases a
     exact .cons _ _ (ih _ b)
theorem P0 {l : OpenLaw} {n : Nat} (hn : l.most = some n) {P : Params} {h : Heap} {args : List WData} {vals : List Value}
 (XY : l.row.toRowW.claim.pre args = true) (hwl : WellAll P h vals args) :
 ∃ a vs ns, vals = [Value.ref a] /\ args = [WData.list (ns.map WData.int)] /\ h.get? a = some { cls := .type "list", data := .seq vs.toArray } /\ IntsAre vs ns /\ ns.length <= n := by
 have hsh : WShape.hasAll [] args [.list .int] = true := (pre_splitW XY).1
 have hc : l.pre.holds [] { args := args } = true := (pre_splitW XY).2
 obtain ⟨d, r, rfl, h1, h2⟩ := hasAllW_cons hsh
 obtain rfl := hasAllW_nil h2
 obtain ⟨xs, rfl, h3⟩ := hasW_list h1
 obtain ⟨ns, rfl⟩ := items_int h3
 have hlen : ns.length <= n := by
  unfold OpenLaw.pre at hc
  have h4 : (WTm.not (.lt (.lit (.int (n : Int))) (.len (.arg 0)))).holds [] { args := [.list (ns.map .int)] } = true := by
   have h4 := (holds_andW hc).1
   rw [hn] at h4
   exact h4
  have h5 := condW_of h4 (w_not (w_lt w_lit (w_len_list (w_arg rfl))))
  rw [List.length_map] at h5
  refine Nat.le_of_not_lt fun q => ?_
  have q' : (n : Int) < ((ns.length : Nat) : Int) := by omega
  first
   | (rw [decide_eq_true q'] at h5; exact absurd h5 (by decide))
   | (simp at h5; omega)
 cases hwl with
 | cons w1 w2 =>
   cases w2
   cases w1 with
   | list ho Xm => exact ⟨_, _, ns, rfl, rfl, ho, FV ns _ Xm, hlen⟩
theorem Qw (l : OpenLaw) (args : List WData) : l.row.toRowW.claim.post args (.bool true) args = true :=
 postW_of (r := l.row.toRowW) (X := (true == true))
  (show WShape.has [] (.bool true) .bool = true by first | rfl | decide | simp [WShape.has, WShape.arms, WShape.armsAll])
  (show (WTm.eq .res (.lit (.bool true))).value [] { args := args, res := some (.bool true), after := args } = some (.bool (true == true)) from w_eq_bool (w_res rfl) w_lit) rfl
theorem Lr {l : OpenLaw} {n : Nat} {q : Program} {loose : List Str} {XP : (Str -> Option Value) -> Heap -> Prop} {YP : World -> Heap -> Prop} {d : DefRec}
 (hn : l.most = some n) (hdf : d.params.defaults = [])
 (call : ∀ (w : World) (gL s₁ : Shared) (mg mb : Str -> Option Value) (fa : Addr) (o : Obj) (pm cd doc : Value) (a : Addr) (vs : List Value) (ns : List Int),
  Ground q loose [] XP w gL mg mb s₁.heap -> YP w s₁.heap ->
  s₁.heap.get? fa = some o -> o.data = .func (docDef d.name d.params d.body d.scope pm cd doc) -> s₁.heap.CodeRec cd d.name -> mg d.name = some (.ref fa) ->
  s₁.heap.get? a = some { cls := .type "list", data := .seq vs.toArray } -> IntsAre vs ns -> ns.length <= n -> s₁.gens = #[] ->
  codeAny (model l.prog w) callerA (.call (.ref fa) ⟨[.ref a], []⟩) (fun r s' => r = .ok (.ret (.bool true)) /\ OldK s₁.heap s'.heap /\ s'.os = s₁.os /\ AllBare s'.gens) s₁) :
 WalkO q loose XP YP l.row.toRowW d [] (fun f vs => PySem.call f vs) := by
 intro w gL s₁ mg mb G Y fa o pm cd doc dV kV ho hd RL hD hmg hg args vals as XY ajv hrd hwl hlo
 obtain rfl : dV = .none := Dflts.none hD hdf
 obtain rfl : kV = .none := Dflts.noKw hD
 obtain ⟨a, vs, ns, rfl, rfl, abJ, hints, hlen⟩ := P0 hn XY hwl
 refine enter_call (codeAny_mono (call w gL s₁ mg mb fa o pm cd doc a vs ns G Y ho (fd_plain hd) RL hmg abJ hints hlen hg) fun r s' hq => ?_)
 obtain ⟨rfl, h2, h3, h4⟩ := hq
 exact ⟨.inl ⟨.bool true, .bool true, [], rfl, fun _ => rfl, .bool true, Qw l _, fun _ => ⟨List.Pairwise.nil, fun _ hm => (nomatch hm)⟩⟩, h2, h3, h4⟩
section
variable {prog : Program} {w : World} {A : Around} {E : Value -> Shared -> Prop} {s : Shared} {K : Frag}
end
end Att
namespace L2
open PySem PySem.Spec PyProof.Rows
theorem Jb : ∀ {vs : List Value} {ns : List Int}, IntsAre vs ns -> Vals (ns.map V.int) vs
 | _, _, .nil => .nil
 | _, _, .cons n t h => .cons ⟨t, rfl⟩ (Jb h)
def Xl (H : Hp) : Prop := ∀ b, H b = none \/ ∃ o xs, H b = some (.ik o (.lst xs))
theorem Ua {P : Program} {w : World} {K : PySem.W.Frag} {mg mb : Str -> Option Value} {CX : Jz} {k : Nat} {fa a : Addr} {fd : FuncData} {x : Str} {sp : Sp} {s₁ : Shared} {vs : List Value} {ns : List Int}
 (KX : K.In s₁.heap) (Uc : s₁.heap.Ns mainGlobals mg) (hb : s₁.heap.Ns builtinsNs mb) (hbb : ∀ x : Str, x ≠ "__name__" -> mb x = bootBuiltins x) (agy : s₁.heap.NoLimit) (hg : s₁.gens = #[])
 (ha : s₁.heap.get? a = some { cls := .type "list", data := .seq vs.toArray }) (hi : IntsAre vs ns) (hl : ns.length <= sizeLine) (hr : cF k callerA)
 (F : ∀ base : Heap, K.In base -> base.Ns mainGlobals mg -> aL P w K mg base CX k fa fd [x] sp) (ad6 : ∀ (s : Shared) (u : Value), BindsTo s fd ⟨[u], []⟩ [(x, u)])
 (Vk : ∀ H : Hp, Xl H -> jj K H a (ns.map V.int) -> sp [.ref a] H (fun v _ => v = .bl true) fun _ _ _ => False)
 (hCX : ∀ H e s', CX [] H s₁ (fun _ _ _ => False) e s' -> False) :
 codeAny (model P w) callerA (.call (.ref fa) ⟨[.ref a], []⟩) (fun r s' => r = .ok (.ret (.bool true)) /\ OldK s₁.heap s'.heap /\ s'.os = s₁.os /\ AllBare s'.gens) s₁ := by
 have rv := Jb hi
 have af2 := hi.length
 have core : ∀ H : Hp, Xl H -> jj K H a (ns.map V.int) -> rj P w H s₁.heap -> (∀ b, H b ≠ none -> b = a) -> (H a ≠ none -> K.lookup a = none) ->
  codeAny (model P w) callerA (.call (.ref fa) ⟨[.ref a], []⟩) (fun r s' => r = .ok (.ret (.bool true)) /\ OldK s₁.heap s'.heap /\ s'.os = s₁.os /\ AllBare s'.gens) s₁ := by
  intro H hO hS bD hA hK
  have Pn : ∀ {b : Addr} {o : Obj}, s₁.heap.get? b = some o -> H b = none -> (Ky s₁.heap H).get? b = some o := fun e n => T5 e n
  have noA : ∀ {b : Addr} {o : Obj} {es : Array DictEntry} {ep : Nat}, s₁.heap.get? b = some o -> o.data = .dict es ep -> H b = none := fun {b o es ep} e d => by
   cases q : H b with
   | none => rfl
   | some u =>
     have e' : b = a := hA b (by rw [q]; simp)
     subst e'
     rw [ha] at e; cases e
     have d' : Data.seq vs.toArray _ = Data.dict es ep := d
     cases d'
  have nsK : ∀ {b : Addr} {m : Str -> Option Value}, s₁.heap.Ns b m -> (Ky s₁.heap H).Ns b m := fun {b m} ⟨o, es, ep, e, d, r⟩ => ⟨o, es, ep, Pn e (noA e d), d, r⟩
  have hKb : K.In (Ky s₁.heap H) := fun b o e => Pn (KX b o e) (by
   cases q : H b with
   | none => rfl
   | some u =>
     have e' : b = a := hA b (by rw [q]; simp)
     subst e'
     rw [hK (by rw [q]; simp)] at e; cases e)
  have hM : Mod K mg (Ky s₁.heap H) := ⟨hKb, nsK Uc, ⟨mb, nsK hb, hbb⟩, let ⟨mc, h1, h2⟩ := agy; ⟨mc, nsK h1, h2⟩⟩
  have e0 : II P w K mg (Ky s₁.heap H) callerA [] s₁ H := ⟨rfl, hM, fun b o e => XD e, Nat.le_of_eq (QD _ _), trivial, fun b hb => absurd (show b ∈ ([] : List Addr) from hb) (by simp), bD, .of_eq hg⟩
  refine codeAny_mono ((F _ hKb (nsK Uc)).run callerA [] s₁ H ⟨[.ref a], []⟩ [.ref a] [.ref a] _ _ hr e0 (ad6 s₁ (.ref a)) (.cons rfl .nil) (Vk H hO hS)) fun r s' h => ?_
  cases r with
  | error e => exact (hCX H e s' h).elim
  | ok fl =>
    cases fl with
    | next => exact False.elim h
    | brk => exact False.elim h
    | cont => exact False.elim h
    | ret u =>
      obtain ⟨v, H', os, bare, un, ahg, r', q⟩ := h
      have q' : v = .bl true := q
      subst q'
      obtain rfl : u = Value.bool true := r'
      refine ⟨rfl, OldK.of_keep fun b o e => ?_, os, bare⟩
      cases q : H b with
      | none => exact un.keep b o e q (by intro z; exact absurd (show b ∈ ([] : List Addr) from z) (by simp)) (by simp)
      | some u =>
        rcases hO b with z | ⟨ob, xs, z⟩
        . rw [q] at z; cases z
        . have z2 := un.yL b ob _ z
          obtain ⟨e1, _⟩ := bD b _ z
          obtain ⟨e2, _⟩ := ahg b _ z2
          rw [e] at e1; cases e1
          exact e2
 cases hk : K.lookup a with
 | some o =>
   have e := KX a o hk
   rw [ha] at e
   cases e
   refine core (fun _ => none) (fun _ => .inl rfl) (.inr ⟨_, vs.toArray, _, hk, rfl, rfl, rfl, by rw [List.size_toArray, af2]; exact hl, by simpa using rv⟩) (fun b u z => by have z' : (none : Option HO) = some u := z; cases z') (fun b z => absurd rfl z) fun z => absurd rfl z
 | none =>
   refine core (fun b => if b = a then some (.ik { cls := .type "list", data := .seq vs.toArray } (.lst (ns.map V.int))) else none) (fun b => ?_) (.inl (.inr ⟨{ cls := .type "list", data := .seq vs.toArray }, if_pos rfl⟩)) (fun b u z => ?_) (fun b z => ?_) fun _ => hk
   . by_cases hb : b = a
     . exact .inr ⟨_, _, if_pos hb⟩
     . exact .inl (if_neg hb)
   . by_cases hb : b = a
     . have z' := (if_pos hb).symm.trans z
       cases z'
       subst hb
       exact ⟨ha, by rw [List.length_map]; exact hl, vs, _, rv, ha⟩
     . have z' := (if_neg hb).symm.trans z
       cases z'
   . by_cases hb : b = a
     . exact hb
     . exact absurd (if_neg hb) z
abbrev KOf {K : PySem.W.Frag} {h : Heap} (_ : K.In h) : PySem.W.Frag := K
theorem Wc {l : PySem.W.OpenLaw} {n k : Nat} {q : Program} {loose : List Str} {XP : (Str -> Option Value) -> Heap -> Prop} {YP : World -> Heap -> Prop} {d : DefRec} {K : Params -> PySem.W.Frag} {CX : World -> Jz} {sp : World -> Sp} {x : Str}
 (hn : l.most = some n) (Io : n <= sizeLine) (hdf : d.params.defaults = []) (hr : cF k callerA)
 (hY : ∀ (w : World) (h : Heap), YP w h -> (K w.params).In h)
 (F : ∀ (w : World) (mg : Str -> Option Value) (fa : Addr) (h : Heap), (K w.params).In h -> h.Ns mainGlobals mg -> mg d.name = some (.ref fa) ->
  ∃ fd : FuncData, (∀ (s : Shared) (u : Value), BindsTo s fd ⟨[u], []⟩ [(x, u)]) /\
    ∀ base : Heap, (K w.params).In base -> base.Ns mainGlobals mg -> aL l.prog w (K w.params) mg base (CX w) k fa fd [x] (sp w))
 (Vk : ∀ (w : World) (H : Hp) (a : Addr) (ns : List Int), ns.length <= n -> Xl H -> jj (K w.params) H a (ns.map V.int) -> sp w [.ref a] H (fun v _ => v = .bl true) fun _ _ _ => False)
 (hCX : ∀ (w : World) (H : Hp) (s : Shared) (e : Value) (s' : Shared), CX w [] H s (fun _ _ _ => False) e s' -> False) :
 PySem.W.WalkO q loose XP YP l.row.toRowW d [] (fun f vs => PySem.call f vs) := by
 refine Att.Lr hn hdf fun w gL s₁ mg mb fa o pm cd doc a vs ns G Y ho hd RL hmg abJ hints hlen hg => ?_
 have KX := hY w _ Y
 obtain ⟨fd, hb, hF⟩ := F w mg fa _ KX G.T.g hmg
 exact Ua KX G.T.g G.T.b G.T.builtins G.T.nolimit hg abJ hints (Nat.le_trans hlen Io) hr hF hb (fun H hO hS => Vk w H a ns hlen hO hS) fun H e s' => hCX w H s₁ e s'
theorem Sb {l : PySem.W.OpenLaw} {n k : Nat} {q : Program} {loose : List Str} {XP : (Str -> Option Value) -> Heap -> Prop} {YP : World -> Heap -> Prop} {d : DefRec} {K : Params -> PySem.W.Frag} {CX : Jz} {sp : PySem.W.Frag -> Sp} {x : Str}
 (hn : l.most = some n) (Io : n <= sizeLine) (hdf : d.params.defaults = []) (hr : cF k callerA)
 (hY : ∀ (w : World) (h : Heap), YP w h -> (K w.params).In h)
 (F : ∀ (w : World) (mg : Str -> Option Value) (fa : Addr) (h : Heap), (K w.params).In h -> h.Ns mainGlobals mg -> mg d.name = some (.ref fa) ->
  ∃ fd : FuncData, (∀ (s : Shared) (u : Value), BindsTo s fd ⟨[u], []⟩ [(x, u)]) /\
    ∀ base : Heap, (K w.params).In base -> base.Ns mainGlobals mg -> aL l.prog w (K w.params) mg base CX k fa fd [x] (sp (K w.params)))
 (Vk : ∀ (K : PySem.W.Frag) (H : Hp) (a : Addr) (ns : List Int), ns.length <= n -> Xl H -> jj K H a (ns.map V.int) -> sp K [.ref a] H (fun v _ => v = .bl true) fun _ _ _ => False)
 (hCX : ∀ (H : Hp) (s : Shared) (e : Value) (s' : Shared), CX [] H s (fun _ _ _ => False) e s' -> False) :
 PySem.W.WalkO q loose XP YP l.row.toRowW d [] (fun f vs => PySem.call f vs) :=
 Wc (K := K) (CX := fun _ => CX) (sp := fun w => sp (K w.params)) hn Io hdf hr hY F (fun w H a ns h1 h2 h3 => Vk (K w.params) H a ns h1 h2 h3) fun _ H s e s' => hCX H s e s'
def inClass (s : Stmt) (j : Nat) : Stmt := match s with
 | .ClassDef _ _ _ body _ _ _ _ _ _ _ => body.getD j (.Pass ⟨0, 0, 0, 0⟩)
 | _ => .Pass ⟨0, 0, 0, 0⟩
def BL (s : Stmt) : Arguments := match s with
 | .FunctionDef _ a _ _ _ _ _ _ _ _ => a
 | _ => { posonlyargs := [], args := [], vararg := none, kwonlyargs := [], kw_defaults := [], kwarg := none, defaults := [] }
def yC (s : Stmt) : List Stmt := match s with
 | .FunctionDef _ _ b _ _ _ _ _ _ _ => b
 | _ => []
def aj (s : Stmt) : Scope := match s with
 | .FunctionDef _ _ _ _ _ _ sc _ _ _ => sc
 | _ => { kind := .function, names := [], isGenerator := false, isCoroutine := false }
abbrev eU : Jz := fun _ _ _ _ _ _ => False
abbrev E0 : XK := fun _ _ _ => False
theorem JN {X : Cx} : Passes eU X E0 := fun _ _ _ _ _ _ _ h => h.elim
structure Fun (K : PySem.W.Frag) (x qual : Str) (st : Stmt) (f : Addr) (fd : FuncData) : Prop where
 ex : ∃ (oc : Value) (od : Option Addr) (kV doc pm : Value) (an : Option Addr) (c3 ct : Value) (U1 : Array (Option Value)),
  fd = PySem.W.fnOf x qual (BL st) (yC st) (aj st) .none kV doc pm an c3 ct /\ K.lookup f = some ⟨oc, od, .func fd, U1⟩ /\ PySem.W.codeIn K c3 qual = true
 kp : PySem.W.keepIn K (.ref f) = true
section
variable {P : Program} {w : World} {K : PySem.W.Frag} {mg : Str -> Option Value} {base : Heap}
end
theorem fj {A : Around} {k : Nat} (hr : cF k A) : A.units + 1 < cLine := Nat.lt_of_le_of_lt (Nat.add_le_add_left (by decide : 1 <= 64) _) hr.units
section
variable {X : Cx}
theorem pv (i : Nat) {x : Str} {pos : Pos} (hN : X.N[i]? = some x := by rfl) (hv : Vis X.env.scope x := by first | exact Or.inl rfl | exact Or.inr (Or.inl rfl) | exact Or.inr (Or.inr rfl)) (hd : (x == ("__debug__" : Str)) = false := by decide)
 (RL : (x == ("__classdict__" : Str)) = false := by decide) : PE X (.Name x pos) (ZY i) := aa7 hN hv hd RL
end
theorem agH {A B : Prop} (h : B) : if false = true then A else B := by
 rw [if_neg Bool.false_ne_true]
 exact h
theorem agv {A B : Prop} (h : A) : if true = true then A else B := by
 rw [if_pos rfl]
 exact h
def ay (H H' : Hp) : Prop := ∀ b o, H b = some o -> H' b = some o
theorem ay.refl (H : Hp) : ay H H := fun _ _ h => h
theorem ay.trans {H H1 H2 : Hp} (a : ay H H1) (b : ay H1 H2) : ay H H2 := fun c o h => b c o (a c o h)
theorem ay.seq {K : PySem.W.Frag} {H H' : Hp} {a : Addr} {xs : List V} (e : ay H H') (h : jj K H a xs) : jj K H' a xs := by
 rcases h with (h | ⟨o, h⟩) | h
 . exact .inl (.inl (e _ _ h))
 . exact .inl (.inr ⟨o, e _ _ h⟩)
 . exact .inr h
section
variable {κ : Type} [DecidableEq κ]
end
section
variable {X : Cx}
def Pg (i j : Int) : Prop := i.natAbs < 2 ^ 2000 /\ j.natAbs < 2 ^ 2000
theorem Pg.ok {i j : Int} (h : Pg i j) : IntMulOk i j := by
 have h1 : Builtin.Int.intBits i <= 2000 := PyProof.Rows.intBits_le h.1
 have h2 : Builtin.Int.intBits j <= 2000 := PyProof.Rows.intBits_le h.2
 have h3 : Builtin.Int.intTooBig ((Builtin.Int.intBits i + Builtin.Int.intBits j : Nat) : Int) = false := by
  unfold Builtin.Int.intTooBig
  have : (bitsLine : Nat) = 134217728 := rfl
  refine decide_eq_false ?_
  omega
 unfold IntMulOk
 have h4 : Builtin.Int.intTooBig (Builtin.Int.intBits i + Builtin.Int.intBits j) = false := by
  have e : ((Builtin.Int.intBits i : Int) + (Builtin.Int.intBits j : Int)) = ((Builtin.Int.intBits i + Builtin.Int.intBits j : Nat) : Int) := by omega
  rw [e]; exact h3
 rw [h4]
 simp
theorem DH : Bb X (binaryOp .Mult) (rI Pg fun i j => .int (i * j)) := opI fun _ _ _ _ _ _ _ hc q => mul_int q hc.ok
def Zb (_ j : Int) : Prop := 0 < j /\ j.natAbs < 2 ^ 2000
theorem cR : Bb X (binaryOp .FloorDiv) (rI Zb fun i j => .int (i / j)) := opI fun i j _ _ _ _ _ hc q => by
 have e : i.fdiv j = i / j := Int.fdiv_eq_ediv_of_nonneg _ (Int.le_of_lt hc.1)
 have hl : j.natAbs.log2 < 9000 := by
  have h0 : j.natAbs ≠ 0 := by have := hc.1; omega
  have h2 : j.natAbs.log2 < 2000 := (Nat.log2_lt h0).mpr hc.2
  omega
 refine floordiv_int (by have := hc.1; omega) ?_ (.inl (PyProof.noPylong_of_log2 hl))
 rw [e]; exact q
inductive abU : V -> Value -> Prop where
 | ty (n : String) : abU (.ty n) (.type n)
 | ref (C : Addr) : abU (.ref C) (.ref C)
def Om (K : PySem.W.Frag) : List V -> Hp -> VK -> Prop := fun xs H Q => ∃ x c cv t b, xs = [x, c] /\ abU c cv /\ Dr K H x t /\ PySem.W.kitOne K t cv = some b /\ Q (.bl b) H
theorem k7 : i9 X (.builtin "isinstance") (Om X.K) := by
 intro pins s σ H xs us Q I r h
 obtain ⟨x, c, cv, t, b, rfl, hc, ty, e, q⟩ := h
 obtain ⟨u, w', rfl, r1, r2⟩ := vals2 r
 have ew : w' = cv := by cases hc <;> exact r2
 subst ew
 exact Q0 I r1 ty e fun tk => ⟨.bl b, H, I.tok tk, rfl, q⟩
structure IY (K : PySem.W.Frag) (C : Addr) (m : Str) (f : Addr) : Prop where
 ga : PySem.W.specialIn K (.ref C) "__getattribute__" = some (some (.builtin "type.__getattribute__"))
 rd : PySem.W.readsIn K C (.type "type") = true
 fd : PySem.W.findCls K (.ref C) (.type "type") m = some (.val (.ref f))
 kp : PySem.W.keepIn K (.ref f) = true
theorem Xk {CX : Jz} {k : Nat} {f C : Addr} {fd : FuncData} {ps : List Str} {sp : Sp} {dQ : List V} {ds : List Value} {E : XK} {x m : Str} {p pos apos : Pos} {e : Expr} {es : List Expr} {t : TA} {pl : Sem Bool}
 (hg : Gl X x) (hm : X.mg x = some (.ref C)) (B : IY X.K C m f) (F : aL X.prog X.w X.K X.mg X.base CX k f fd ps sp) (hr : cF k X.A) (hb : Binds X.K fd ps ds) (hd : Vals dQ ds) (hx : Passes CX X E) (ha : PA X (e :: es) t)
 (Gd : (x == ("__debug__" : Str)) = false := by decide)
 (DI : starEach (e :: es) X.env = (false, eval e X.env) :: starEach es X.env := by rfl) (Bp : (backTo pos (starEach es X.env)).any (·.1) = false := by rfl)
 (ht : eval (.Call (.Attribute (.Name x p) m apos) (e :: es) [] pos) X.env = (do
  let ov <- eval (.Name x p) X.env
  standAt apos.atName
  let (f, first) <- holding [ov] (getMethod ov m pl)
  callWith pos f first (backTo pos (starEach (e :: es) X.env)) (backToKw pos (keywordEach [] X.env))) := by rfl) :
 PE X (.Call (.Attribute (.Name x p) m apos) (e :: es) [] pos) (IT sp dQ E t) := by
 intro pins s σ H Q I h
 refine PySem.W.methodCall_KW (pl := pl) (CQ I hg hm ?_ Gd) ht
 refine PySem.W.method_cls I.Bo B.ga ?_
 refine PySem.W.cls_value I.Bo B.rd B.fd rfl ?_
 have I' : Inv X pins σ H { s with toks := s.toks + 1 } := I.tok _
 refine PySem.W.callWith_K (first := []) (h₀ := X.base) I.ok.mod.kin B.kp (dF (ha pos pins _ σ H _ I' h) fun us s2 ⟨vs, H2, I2, r, q2⟩ => ⟨I2.Bo, ?_⟩) DI Bp
 exact K0 F hr hb hd hx I2 r q2
end
mutual
inductive vv (K : PySem.W.Frag) (H : Hp) : V -> PyData -> Prop where
 | aS : vv K H .aS .none
 | bl (b : Bool) : vv K H (.bl b) (.bool b)
 | int (i : Int) : vv K H (.int i) (.int i)
 | str (x : Str) : vv K H (.str x) (.str x)
 | tup {a : Addr} {xs : List V} {ds : List PyData} (h : IB K H a xs) (r : jf K H xs ds) : vv K H (.ref a) (.tuple ds)
 | lst {a : Addr} {xs : List V} {ds : List PyData} (h : jj K H a xs) (r : jf K H xs ds) : vv K H (.ref a) (.list ds)
inductive jf (K : PySem.W.Frag) (H : Hp) : List V -> List PyData -> Prop where
 | nil : jf K H [] []
 | cons {x : V} {d : PyData} {xs : List V} {ds : List PyData} (h : vv K H x d) (r : jf K H xs ds) : jf K H (x :: xs) (d :: ds)
end
theorem IB.keeps {K : PySem.W.Frag} {H H' : Hp} {a : Addr} {xs : List V} (e : ay H H') (h : IB K H a xs) : IB K H' a xs := by
 rcases h with (h | ⟨o, h⟩) | h
 . exact .inl (.inl (e _ _ h))
 . exact .inl (.inr ⟨o, e _ _ h⟩)
 . exact .inr h
mutual
theorem vv.keeps {K : PySem.W.Frag} {H H' : Hp} (e : ay H H') : ∀ {v : V} {d : PyData}, vv K H v d -> vv K H' v d
 | _, _, .aS => .aS
 | _, _, .bl b => .bl b
 | _, _, .int i => .int i
 | _, _, .str x => .str x
 | _, _, .tup h r => .tup (IB.keeps e h) (jf.keeps e r)
 | _, _, .lst h r => .lst (ay.seq e h) (jf.keeps e r)
theorem jf.keeps {K : PySem.W.Frag} {H H' : Hp} (e : ay H H') : ∀ {vs : List V} {ds : List PyData}, jf K H vs ds -> jf K H' vs ds
 | _, _, .nil => .nil
 | _, _, .cons h r => .cons (vv.keeps e h) (jf.keeps e r)
end
section
variable {X : Cx} {pins : List (Addr × Obj)} {σ : St} {H : Hp} {s : Shared}
mutual
theorem vv.reads (I : Inv X pins σ H s) : ∀ {v : V} {d : PyData} {u : Value}, vv X.K H v d -> RelV v u -> ∃ as, Reads s.heap u d as
 | _, _, _, .aS, r => by cases r; exact ⟨_, .none⟩
 | _, _, _, .bl b, r => by cases r; exact ⟨_, .bool b⟩
 | _, _, _, .int i, r => by obtain ⟨t, rfl⟩ := r; exact ⟨_, .int i t⟩
 | _, _, _, .str x, r => by obtain ⟨t, rfl⟩ := r; exact ⟨_, .str x t⟩
 | _, _, _, .tup h q, r => by
   cases r
   obtain ⟨bT, rv, ⟨o, h1, h2, n, h3⟩, _⟩ := I.tuple h
   obtain ⟨as, ra⟩ := jf.reads I q rv
   exact ⟨_, .tuple h1 h2 h3 (by simpa using ra)⟩
 | _, _, _, .lst h q, r => by
   cases r
   obtain ⟨bT, rv, ⟨o, n, h1, h2, _, h3⟩, _⟩ := I.list h
   obtain ⟨as, ra⟩ := jf.reads I q rv
   exact ⟨_, .list h1 h2 h3 (by simpa using ra)⟩
theorem jf.reads (I : Inv X pins σ H s) : ∀ {vs : List V} {ds : List PyData} {us : List Value}, jf X.K H vs ds -> Vals vs us -> ∃ as, ReadsAll s.heap us ds as
 | _, _, _, .nil, r => by cases r; exact ⟨_, .nil⟩
 | _, _, _, .cons h q, r => by
   cases r with
   | cons r1 r2 =>
     obtain ⟨as, ra⟩ := vv.reads I h r1
     obtain ⟨bs, rb⟩ := jf.reads I q r2
     exact ⟨_, .cons ra rb⟩
end
end
section
variable {X : Cx}
def aeU (K : PySem.W.Frag) (f : Bool -> Bool) : R2 := fun x y H Q => ∃ d e, vv K H x d /\ vv K H y e /\ d.canLay0 = true /\ e.canLay0 = true /\ d.depth <= 8 /\ Q (.bl (f (PyData.eqv d e))) H
theorem ZD (hu : X.A.units + 8 < cLine) : Bb X (compareOp .Eq) (aeU X.K id) := by
 intro pins s σ H x y v u Q I rx ry h
 obtain ⟨d, e, hd, he, c1, c2, hn, q⟩ := h
 obtain ⟨as, ra⟩ := hd.reads I rx
 obtain ⟨bs, rb⟩ := he.reads I ry
 exact SeqAt.compareEq_reads ra rb c1 c2 (by have := Nat.min_le_left d.depth e.depth; omega) ⟨.bl _, H, I, rfl, q⟩
theorem abl (hu : X.A.units + 8 < cLine) : Bb X (compareOp .NotEq) (aeU X.K not) := by
 intro pins s σ H x y v u Q I rx ry h
 obtain ⟨d, e, hd, he, c1, c2, hn, q⟩ := h
 obtain ⟨as, ra⟩ := hd.reads I rx
 obtain ⟨bs, rb⟩ := he.reads I ry
 exact SeqAt.compareNe_reads ra rb c1 c2 (by have := Nat.min_le_left d.depth e.depth; omega) ⟨.bl _, H, I, rfl, q⟩
end
structure dE (P : Program) (w : World) (K : PySem.W.Frag) (mg : Str -> Option Value) (base : Heap) (k : Nat) (f : Addr) (ps : List Str) (dQ : List V) (sp : Sp) : Prop where
 ex : ∃ (fd : FuncData) (ds : List Value), aL P w K mg base eU k f fd ps sp /\ Binds K fd ps ds /\ Vals dQ ds
section
variable {X : Cx} {k : Nat} {f C : Addr} {ps : List Str} {sp : Sp} {dQ : List V} {x m : Str} {p pos apos : Pos} {e o : Expr} {es : List Expr} {ta : TE} {t : TA}
theorem V4 (c : dE X.prog X.w X.K X.mg X.base k f ps dQ sp) (hr : cF k X.A) (hg : Gl X x) (hm : X.mg x = some (.ref f)) (hk : PySem.W.keepIn X.K (.ref f) = true)
 (ha : PA X (e :: es) t) (Gd : (x == ("__debug__" : Str)) = false := by decide) (he : starEach (e :: es) X.env = (false, eval e X.env) :: starEach es X.env := by rfl) (Bp : (backTo pos (starEach es X.env)).any (·.1) = false := by rfl) :
 PE X (.Call (.Name x p) (e :: es) [] pos) (IT sp dQ E0 t) := by
 obtain ⟨fd, ds, F, hb, hd⟩ := c.ex
 exact WV F hr hg hm hk hb hd JN ha Gd he Bp
theorem XN {pl : Sem Bool} (he : PE X o ta) (c : vA X.K C) (hm : Meth X.K C m f) (F : dE X.prog X.w X.K X.mg X.base k f ps dQ sp) (hr : cF k X.A) (ha : PA X (e :: es) t)
 (DI : starEach (e :: es) X.env = (false, eval e X.env) :: starEach es X.env := by rfl) (Bp : (backTo pos (starEach es X.env)).any (·.1) = false := by rfl)
 (ht : eval (.Call (.Attribute o m apos) (e :: es) [] pos) X.env = (do
  let ov <- eval o X.env
  standAt apos.atName
  let (f, first) <- holding [ov] (getMethod ov m pl)
  callWith pos f first (backTo pos (starEach (e :: es) X.env)) (backToKw pos (keywordEach [] X.env))) := by rfl) :
 PE X (.Call (.Attribute o m apos) (e :: es) [] pos) (Jq C m sp dQ E0 ta t) := by
 obtain ⟨fd, ds, F, hb, hd⟩ := F.ex
 exact WY he c hm F hr hb hd JN ha DI Bp ht
theorem SJ {pl : Sem Bool} (he : PE X o ta) (c : vA X.K C) (hm : Meth X.K C m f) (F : dE X.prog X.w X.K X.mg X.base k f ps dQ sp) (hr : cF k X.A)
 (ht : eval (.Call (.Attribute o m apos) [] [] pos) X.env = (do
  let ov <- eval o X.env
  standAt apos.atName
  let (f, first) <- holding [ov] (getMethod ov m pl)
  callWith pos f first (backTo pos (starEach [] X.env)) (backToKw pos (keywordEach [] X.env))) := by rfl) :
 PE X (.Call (.Attribute o m apos) [] [] pos) (Jq C m sp dQ E0 ta LU) := by
 obtain ⟨fd, ds, F, hb, hd⟩ := F.ex
 exact SG he c hm F hr hb hd JN ht
theorem Ws (M : Mk X.K C f) (F : dE X.prog X.w X.K X.mg X.base k f ps dQ sp) (hr : cF (k + 1) X.A) (hg : Gl X x) (hm : X.mg x = some (.ref C))
 (ha : PA X (e :: es) t) (Gd : (x == ("__debug__" : Str)) = false := by decide) (he : starEach (e :: es) X.env = (false, eval e X.env) :: starEach es X.env := by rfl) (Bp : (backTo pos (starEach es X.env)).any (·.1) = false := by rfl) :
 PE X (.Call (.Name x p) (e :: es) [] pos) (Ls C sp dQ E0 t) := by
 obtain ⟨fd, ds, F, hb, hd⟩ := F.ex
 exact W7 M F hr hg hm hb hd JN ha Gd he Bp
theorem WG {pl : Sem Bool} (hg : Gl X x) (hm : X.mg x = some (.ref C)) (B : IY X.K C m f) (F : dE X.prog X.w X.K X.mg X.base k f ps dQ sp) (hr : cF k X.A) (ha : PA X (e :: es) t)
 (Gd : (x == ("__debug__" : Str)) = false := by decide)
 (DI : starEach (e :: es) X.env = (false, eval e X.env) :: starEach es X.env := by rfl) (Bp : (backTo pos (starEach es X.env)).any (·.1) = false := by rfl)
 (ht : eval (.Call (.Attribute (.Name x p) m apos) (e :: es) [] pos) X.env = (do
  let ov <- eval (.Name x p) X.env
  standAt apos.atName
  let (f, first) <- holding [ov] (getMethod ov m pl)
  callWith pos f first (backTo pos (starEach (e :: es) X.env)) (backToKw pos (keywordEach [] X.env))) := by rfl) :
 PE X (.Call (.Attribute (.Name x p) m apos) (e :: es) [] pos) (IT sp dQ E0 t) := by
 obtain ⟨fd, ds, F, hb, hd⟩ := F.ex
 exact Xk hg hm B F hr hb hd JN ha Gd DI Bp ht
end
structure aY (K : PySem.W.Frag) (x qual : Str) (st : Stmt) (f : Addr) (dV : Value) (fd : FuncData) : Prop where
 ex : ∃ (oc : Value) (od : Option Addr) (kV doc pm : Value) (an : Option Addr) (c3 ct : Value) (U1 : Array (Option Value)),
  fd = PySem.W.fnOf x qual (BL st) (yC st) (aj st) dV kV doc pm an c3 ct /\ K.lookup f = some ⟨oc, od, .func fd, U1⟩ /\ PySem.W.codeIn K c3 qual = true
theorem OZ {K : PySem.W.Frag} {x qual : Str} {st : Stmt} {f : Addr} {oc : Value} {od an : Option Addr} {U1 : Array (Option Value)} {dV kV doc pm c3 ct : Value} (l : K.lookup f = some ⟨oc, od, .func (PySem.W.fnOf x qual (BL st) (yC st) (aj st) dV kV doc pm an c3 ct), U1⟩)
 (c : PySem.W.codeIn K c3 qual = true) : aY K x qual st f dV (PySem.W.fnOf x qual (BL st) (yC st) (aj st) dV kV doc pm an c3 ct) := ⟨⟨oc, od, kV, doc, pm, an, c3, ct, U1, rfl, l, c⟩⟩
section
variable {P : Program} {w : World} {K : PySem.W.Frag} {mg : Str -> Option Value} {base : Heap}
theorem aY.ok {x qual : Str} {st : Stmt} {f : Addr} {dV : Value} {fd : FuncData} {N ps : List Str} {k : Nat} {sp : Sp} (F : aY K x qual st f dV fd) (S : ax N ps (aj st)) (len : ∀ vs H Q E, sp vs H Q E -> vs.length = ps.length)
 (JL : ∀ (c3 : Value) (A : Around) (outer : List Env) (s : Shared) (H : Hp) (vs : List V) (Q : VK) (E : XK), cF k (A.deeper (envOfC qual (aj st) s.heap.objs.size f c3)) -> sp vs H Q E ->
  ∃ t, MK (QF eU P w K mg base N qual (aj st) f c3 A outer s H E).nox (yC st) t /\ t { nx := fun _ H' => Q .aS H', rt := Q } (start N vs) H) : aL P w K mg base eU (k + 1) f fd ps sp := by
 obtain ⟨oc, od, kV, doc, pm, an, c3, ct, U1, rfl, lk, RL⟩ := F.ex
 refine adL lk RL S len fun A outer s H vs Q E hr Vk => ?_
 obtain ⟨t, h, q⟩ := JL c3 A outer s H vs Q E hr Vk
 exact ⟨t, h.nox, q⟩
theorem aY.binds {x qual : Str} {st : Stmt} {f : Addr} {dV : Value} {fd : FuncData} {ps : List Str} {ds : List Value} (F : aY K x qual st f dV fd)
 (h : ∀ (kV doc pm : Value) (an : Option Addr) (c3 ct : Value), Binds K (PySem.W.fnOf x qual (BL st) (yC st) (aj st) dV kV doc pm an c3 ct) ps ds) : Binds K fd ps ds := by
 obtain ⟨oc, od, kV, doc, pm, an, c3, ct, U1, rfl, lk, RL⟩ := F.ex
 exact h kV doc pm an c3 ct
end
structure DW (K : PySem.W.Frag) (T : Addr) (items : Array Value) : Prop where
 ex : ∃ (o : Obj) (n : Nat), K.lookup T = some o /\ o.data = .seq items n
structure adA (K : PySem.W.Frag) (C : Addr) : Prop where
 ha : PySem.W.findIn K (.ref C) "__class__" = some (some (.builtin "object.__class__"))
 hn : PySem.W.specialIn K (.builtin "object.__class__") "__get__" = some (some (.builtin "getset_descriptor.__get__"))
 ht : PySem.W.takesIn K (.builtin "object.__class__") = some true
 hm : PySem.W.mroIn K C (.type "object") = some true
section
variable {σ : St} {H : Hp} {Q : VK} {D : Ends} {K : PySem.W.Frag}
theorem abH (h : D.nx σ H) : UC D σ H := h
theorem aeO {te : TE} (h : te σ H D.rt) : aej te D σ H := h
theorem aa3 {te : TE} (h : te σ H fun _ H1 => D.nx σ H1) : Y8 te D σ H := h
theorem aeL {c : TT} {t u : TS} (h : c σ H fun b H1 => if b = true then t D σ H1 else u D σ H1) : adE c t u D σ H := h
theorem ac9 {te : TE} {i : Nat} (h : te σ H fun x H1 => D.nx (σ.set i (some x)) H1) : Rx te (jQ i) D σ H := h
theorem L9 {i : Nat} {v : V} (e : σ[i]? = some (some v)) (h : Q v H) : ZY i σ H Q := ⟨v, e, h⟩
theorem r_c {v : V} (h : Q v H) : tC v σ H Q := h
theorem ahH {r : R2} {ta tb : TE} (h : ta σ H fun x H1 => tb σ H1 fun y H2 => r x y H2 Q) : tOp r ta tb σ H Q := h
theorem agL {r : V -> Hp -> VK -> Prop} {ta : TE} (h : ta σ H fun x H1 => r x H1 Q) : tUn r ta σ H Q := h
theorem agC {g : Int -> Int -> V} {i j : Int} (h : Q (g i j) H) : XX g (.int i) (.int j) H Q := ⟨i, j, rfl, rfl, h⟩
theorem r_i {C : Int -> Int -> Prop} {g : Int -> Int -> V} {i j : Int} (c : C i j) (h : Q (g i j) H) : rI C g (.int i) (.int j) H Q := ⟨i, j, rfl, rfl, c, h⟩
theorem r_u {g : Int -> V} {i : Int} (h : Q (g i) H) : rU g (.int i) H Q := ⟨i, rfl, h⟩
theorem ZJ {t : TE} {Q : Bool -> Hp -> Prop} (h : t σ H fun x H' => ∃ k, x = .bl k /\ Q k H') : Zd t σ H Q := h
theorem aem {t u : TT} {Q : Bool -> Hp -> Prop} (h : t σ H fun c H1 => if c = true then u σ H1 Q else Q false H1) : adZ t u σ H Q := h
theorem ahU {t u : TT} {Q : Bool -> Hp -> Prop} (h : t σ H fun c H1 => if c = true then Q true H1 else u σ H1 Q) : tOr t u σ H Q := h
theorem ae8 {t : TT} {Q : Bool -> Hp -> Prop} (h : t σ H fun c H1 => Q (!c) H1) : adG t σ H Q := h
theorem aah {ta tb : TE} (h : ta σ H fun x H1 => ∃ c, x = .bl c /\ if c = true then tb σ H1 Q else Q (.bl false) H1) : YZ ta tb σ H Q := h
theorem adf {ta tb : TE} (h : ta σ H fun x H1 => ∃ c, x = .bl c /\ if c = true then Q (.bl true) H1 else tb σ H1 Q) : ae6 ta tb σ H Q := h
theorem aa2 {ta : TE} (h : ta σ H fun x H1 => ∃ c, x = .bl c /\ Q (.bl (!c)) H1) : YR ta σ H Q := h
theorem aeE {t : TT} {ta tb : TE} (h : t σ H fun c H1 => if c = true then ta σ H1 Q else tb σ H1 Q) : tIf t ta tb σ H Q := h
theorem ahi {b : Bool} {R : Bool -> Prop} (h : R b) : ∃ k, V.bl b = .bl k /\ R k := ⟨b, rfl, h⟩
theorem acW {Q : List V -> Hp -> Prop} (h : Q [] H) : LU σ H Q := h
theorem ZU {ta : TE} {tr : TA} {Q : List V -> Hp -> Prop} (h : ta σ H fun x H1 => tr σ H1 fun xs H2 => Q (x :: xs) H2) : SH ta tr σ H Q := h
theorem aga {r : List V -> Hp -> VK -> Prop} {t : TA} (h : t σ H fun vs H1 => r vs H1 Q) : tCB r t σ H Q := h
theorem Xe {C : Addr} {m : Str} {dx p : Addr} {fs : List (Str × V)} {R : Prop} (hp : H p = some (.ins C dx fs)) (hl : fs.lookup m = none) (h : R) : ∃ a dx fs, V.ref p = .ref a /\ H a = some (.ins C dx fs) /\ fs.lookup m = none /\ R := ⟨p, dx, fs, rfl, hp, hl, h⟩
theorem YX {ta : TE} {f : Str} (h : ta σ H fun x H1 => ∃ a C dx fs v, x = .ref a /\ H1 a = some (.ins C dx fs) /\ vA K C /\ aG K C f /\ fs.lookup f = some v /\ Q v H1) : aam K ta f σ H Q := h
theorem U0 {A B : Prop} (h : A) : if true = true then A else B := by rw [if_pos rfl]; exact h
theorem QY {A B : Prop} (h : B) : if false = true then A else B := by rw [if_neg Bool.false_ne_true]; exact h
end
section
variable {X : Cx} {e : Expr} {es : List Expr}
theorem PE.or {t u : TE} (h1 : PE X e t) (h2 : PE X e u) : PE X e (fun σ H Q => t σ H Q \/ u σ H Q) := fun pins s σ H Q I h => h.elim (h1 pins s σ H Q I) (h2 pins s σ H Q I)
theorem PE.weak {t u : TE} (h1 : PE X e t) (h : ∀ σ H Q, u σ H Q -> t σ H Q) : PE X e u := fun pins s σ H Q I q => h1 pins s σ H Q I (h σ H Q q)
def mA (t : TA) : TA := fun σ H Q => ∃ Q' : List V -> Hp -> Prop, t σ H Q' /\ ∀ v H', Q' v H' -> Q v H'
theorem PA.m {t : TA} (h : PA X es t) : PA X es (mA t) := fun pos pins s σ H Q I ⟨Q', q, m⟩ => dF (h pos pins s σ H Q' I q) fun _ _ ⟨v, H', I', r, z⟩ => ⟨v, H', I', r, m v H' z⟩
end
def agn : Key -> PyData
 | .inl i => .int i
 | .inr x => .str x
mutual
inductive Dv (H : Hp) : V -> PyData -> Prop where
 | aS : Dv H .aS .none
 | bl (b : Bool) : Dv H (.bl b) (.bool b)
 | int (i : Int) : Dv H (.int i) (.int i)
 | str (x : Str) : Dv H (.str x) (.str x)
 | tup {a : Addr} {xs : List V} {ds : List PyData} (h : H a = some (.tup xs)) (r : c7 H xs ds) : Dv H (.ref a) (.tuple ds)
 | lst {a : Addr} {xs : List V} {ds : List PyData} (h : Rd H a (.lst xs)) (r : c7 H xs ds) : Dv H (.ref a) (.list ds)
 | dct {a : Addr} {kvs : List (Key × V)} {ds : List (PyData × PyData)} (h : H a = some (.dK kvs)) (r : VY H kvs ds) : Dv H (.ref a) (.dict ds)
inductive VY (H : Hp) : List (Key × V) -> List (PyData × PyData) -> Prop where
 | nil : VY H [] []
 | cons {k : Key} {x : V} {d : PyData} {xs : List (Key × V)} {ds : List (PyData × PyData)} (h : Dv H x d) (r : VY H xs ds) : VY H ((k, x) :: xs) ((agn k, d) :: ds)
inductive c7 (H : Hp) : List V -> List PyData -> Prop where
 | nil : c7 H [] []
 | cons {x : V} {d : PyData} {xs : List V} {ds : List PyData} (h : Dv H x d) (r : c7 H xs ds) : c7 H (x :: xs) (d :: ds)
end
mutual
theorem Dv.has {K : PySem.W.Frag} {H : Hp} : ∀ {v : V} {d : PyData}, Dv H v d -> d.canLay0 = true -> vv K H v d
 | _, _, .aS, _ => .aS
 | _, _, .bl b, _ => .bl b
 | _, _, .int i, _ => .int i
 | _, _, .str x, _ => .str x
 | _, _, .tup h r, c => .tup (.of h) (c7.has r (by simpa [PyData.canLay0] using c))
 | _, _, .lst h r, c => .lst (.inl h) (c7.has r (by simpa [PyData.canLay0] using c))
 | _, _, .dct h r, c => by simp [PyData.canLay0] at c
theorem c7.has {K : PySem.W.Frag} {H : Hp} : ∀ {v : List V} {d : List PyData}, c7 H v d -> PyData.canLayAll0 d = true -> jf K H v d
 | _, _, .nil, _ => .nil
 | _, _, .cons h r, c => by
   have c' := c
   simp only [PyData.canLayAll0, Bool.and_eq_true] at c'
   exact .cons (Dv.has h c'.1) (c7.has r c'.2)
end
theorem ay.rd {H H' : Hp} {a : Addr} {u : HO} (e : ay H H') (h : Rd H a u) : Rd H' a u := by
 rcases h with h | ⟨o, h⟩
 . exact .inl (e _ _ h)
 . exact .inr ⟨o, e _ _ h⟩
mutual
theorem Dv.keeps {H H' : Hp} (e : ay H H') : ∀ {v : V} {d : PyData}, Dv H v d -> Dv H' v d
 | _, _, .aS => .aS
 | _, _, .bl b => .bl b
 | _, _, .int i => .int i
 | _, _, .str x => .str x
 | _, _, .tup h r => .tup (e _ _ h) (c7.keeps e r)
 | _, _, .lst h r => .lst (e.rd h) (c7.keeps e r)
 | _, _, .dct h r => .dct (e _ _ h) (VY.keeps e r)
theorem VY.keeps {H H' : Hp} (e : ay H H') : ∀ {v : List (Key × V)} {d : List (PyData × PyData)}, VY H v d -> VY H' v d
 | _, _, .nil => .nil
 | _, _, .cons h r => .cons (Dv.keeps e h) (VY.keeps e r)
theorem c7.keeps {H H' : Hp} (e : ay H H') : ∀ {v : List V} {d : List PyData}, c7 H v d -> c7 H' v d
 | _, _, .nil => .nil
 | _, _, .cons h r => .cons (Dv.keeps e h) (c7.keeps e r)
end
theorem c7.length {H : Hp} : ∀ {xs : List V} {ds : List PyData}, c7 H xs ds -> xs.length = ds.length
 | _, _, .nil => rfl
 | _, _, .cons _ r => by simp [c7.length r]
theorem c7.get {H : Hp} : ∀ {xs : List V} {ds : List PyData} {i : Nat} {d : PyData}, c7 H xs ds -> ds[i]? = some d -> ∃ x, xs[i]? = some x /\ Dv H x d
 | _, _, _, _, .nil, e => by simp at e
 | _, _, 0, _, .cons h _, e => by simp at e; subst e; exact ⟨_, rfl, h⟩
 | _, _, i + 1, x, .cons _ r, e => by
   obtain ⟨d, h1, h2⟩ := c7.get (i := i) (d := x) r (by simpa using e)
   exact ⟨d, by simpa using h1, h2⟩
theorem c7.append {H : Hp} : ∀ {xs ys : List V} {ds es : List PyData}, c7 H xs ds -> c7 H ys es -> c7 H (xs ++ ys) (ds ++ es)
 | _, _, _, _, .nil, s => s
 | _, _, _, _, .cons r t, s => .cons r (c7.append t s)
theorem Dv.int_inv {H : Hp} {v : V} {i : Int} (h : Dv H v (.int i)) : v = .int i := by cases h; rfl
theorem Dv.PJ {H : Hp} {v : V} (h : Dv H v .none) : v = .aS := by cases h; rfl
theorem Dv.str_inv {H : Hp} {v : V} {i : Str} (h : Dv H v (.str i)) : v = .str i := by cases h; rfl
def F7 (H : Hp) (d : PyData) (Q : VK) : Prop := match d with
 | .none => Q .aS H
 | .bool b => Q (.bl b) H
 | .int i => Q (.int i) H
 | .str x => Q (.str x) H
 | d => ∀ v, Dv H v d -> Q v H
theorem F7.use {H : Hp} {d : PyData} {Q : VK} (g : F7 H d Q) {v : V} (h : Dv H v d) : Q v H := by
 cases h with
 | aS => exact g
 | bl b => exact g
 | int i => exact g
 | str x => exact g
 | tup h r => exact g _ (.tup h r)
 | lst h r => exact g _ (.lst h r)
 | dct h r => exact g _ (.dct h r)
theorem PL {H : Hp} {xs : List V} {ds : List PyData} {i : Int} {d : PyData} (r : c7 H xs ds) (h : JF ds i = some d) : ∃ x, JF xs i = some x /\ Dv H x d := by
 unfold JF at h ⊢
 rw [r.length]
 cases e : ixN ds.length i with
 | none => rw [e] at h; simp at h
 | some j =>
   rw [e] at h
   have h' : ds[j]? = some d := by simpa using h
   obtain ⟨x, h1, h2⟩ := r.get h'
   exact ⟨x, by simpa using h1, h2⟩
def Px (H : Hp) (v : V) (ds : List PyData) : Prop := Dv H v (.tuple ds) \/ Dv H v (.list ds)
def adB : R2 := fun x y H Q => ∃ ds i d, y = .int i /\ Px H x ds /\ JF ds i = some d /\ F7 H d Q
theorem XE {K : PySem.W.Frag} {x y : V} {H : Hp} {Q : VK} (h : adB x y H Q) : rIx K x y H Q := by
 obtain ⟨ds, i, d, rfl, hs, hi, g⟩ := h
 rcases hs with hs | hs
 . cases hs with
   | tup h r =>
     obtain ⟨v, h1, h2⟩ := PL r hi
     exact .inr (.inl ⟨_, _, i, v, rfl, rfl, .of h, h1, g.use h2⟩)
 . cases hs with
   | lst h r =>
     obtain ⟨v, h1, h2⟩ := PL r hi
     exact .inl ⟨_, _, i, v, rfl, rfl, .inl h, h1, g.use h2⟩
section
variable {X : Cx}
def aaA : R2 := fun x y H Q => adB x y H Q \/ aaK x y H Q
theorem afV : RO X aaA := fun value slice pins s σ H x y v u Q I r1 r2 h => abG value slice pins s σ H x y v u Q I r1 r2 (h.elim XE fun z => .inr (.inr z))
def YT : List V -> Hp -> VK -> Prop := fun xs H Q => (∃ v ds, xs = [v] /\ Px H v ds /\ Q (.int (ds.length : Nat)) H) \/ ∃ z, xs = [.str z] /\ z.length <= sizeLine /\ Q (.int (z.length : Nat)) H
theorem Rp : i9 X (.builtin "len") YT := fun pins s σ H xs us Q I r h => by
 rcases h with ⟨v, ds, rfl, hs, q⟩ | h
 . rcases hs with hs | hs
   . cases hs with
     | tup h t => exact rN pins s σ H _ us Q I r ⟨_, _, rfl, .inr (.of h), by rw [t.length]; exact q⟩
   . cases hs with
     | lst h t => exact rN pins s σ H _ us Q I r ⟨_, _, rfl, .inl (.inl h), by rw [t.length]; exact q⟩
 . exact Km pins s σ H _ us Q I r h
def tyN : PyData -> String
 | .none => "NoneType" | .bool _ => "bool" | .int _ => "int" | .str _ => "str" | .list _ => "list" | .tuple _ => "tuple" | .dict _ => "dict"
def T3 (t n : String) : Option Bool := if ((Value.type t) == (Value.type n)) = true then some true else if PySem.W.kitMeta n = true then (PySem.fastBuiltinMro t).map (·.contains (.type n)) else none
theorem Sg {K : PySem.W.Frag} {t n : String} {b : Bool} (h : T3 t n = some b) : PySem.W.kitOne K (.type t) (.type n) = some b := h
def aa8 (t n : String) : Bool := t == n || (t == "bool" && n == "int")
theorem QZ : (["NoneType", "bool", "int", "str", "list", "tuple", "dict"].all fun t => ["int", "bool", "str", "list", "tuple", "dict"].all fun n => T3 t n == some (aa8 t n)) = true := by decide +kernel
theorem R9 {t n : String} (ht : t ∈ ["NoneType", "bool", "int", "str", "list", "tuple", "dict"]) (hn : n ∈ ["int", "bool", "str", "list", "tuple", "dict"]) : T3 t n = some (aa8 t n) := by
 have h := List.all_eq_true.mp (List.all_eq_true.mp QZ t ht) n hn
 exact beq_iff_eq.mp h
theorem VW (d : PyData) : tyN d ∈ ["NoneType", "bool", "int", "str", "list", "tuple", "dict"] := by
 cases d <;> simp [tyN]
theorem Dv.ty {K : PySem.W.Frag} {H : Hp} {v : V} {d : PyData} (h : Dv H v d) : Dr K H v (.type (tyN d)) := by
 cases h with
 | aS => exact .aS
 | bl b => exact .bl b
 | int i => exact .int i
 | str x => exact .str x
 | tup h r => exact .tup h
 | lst h r =>
   rcases h with h | ⟨o, h⟩
   . exact .lst h
   . exact .ik h
 | dct h r => exact .dK h
theorem He {K : PySem.W.Frag} {H : Hp} {v : V} {d : PyData} {n : String} {Q : VK} (h : Dv H v d) (hn : n ∈ ["int", "bool", "str", "list", "tuple", "dict"]) (q : Q (.bl (aa8 (tyN d) n)) H) : Om K [v, .ty n] H Q :=
 ⟨v, .ty n, .type n, _, _, rfl, .ty n, h.ty, Sg (R9 (VW d) hn), q⟩
def Ri (K : PySem.W.Frag) (f : Bool -> Bool) : R2 := fun x y H Q => (XC x y = true /\ Q (.bl (f (decide (x = y)))) H) \/ ∃ d e, Dv H x d /\ Dv H y e /\ d.canLay0 = true /\ e.canLay0 = true /\ d.depth <= 8 /\ Q (.bl (f (PyData.eqv d e))) H
theorem hV (hu : X.A.units + 8 < cLine) : Bb X (compareOp .Eq) (Ri X.K id) := fun pins s σ H x y v u Q I rx ry h => by
 rcases h with h | ⟨d, e, h1, h2, h3, h4, h5, h6⟩
 . exact ad4 pins s σ H x y v u Q I rx ry h
 . exact ZD hu pins s σ H x y v u Q I rx ry ⟨d, e, h1.has h3, h2.has h4, h3, h4, h5, h6⟩
theorem KC (hu : X.A.units + 8 < cLine) : Bb X (compareOp .NotEq) (Ri X.K not) := fun pins s σ H x y v u Q I rx ry h => by
 rcases h with h | ⟨d, e, h1, h2, h3, h4, h5, h6⟩
 . exact adY pins s σ H x y v u Q I rx ry h
 . exact abl hu pins s σ H x y v u Q I rx ry ⟨d, e, h1.has h3, h2.has h4, h3, h4, h5, h6⟩
variable {es : List Expr} {t : TA} {pos : Pos}
def aaF (xs : List V) (H1 : Hp) (Q : VK) : Prop := xs.length <= sizeLine /\ ∃ ds, c7 H1 xs ds /\ ∀ p H2, ay H1 H2 -> H1 p = none -> H2 p = some (.tup xs) -> Dv H2 (.ref p) (.tuple ds) -> Q (.ref p) H2
def aaR (xs : List V) (H1 : Hp) (Q : VK) : Prop := xs.length <= sizeLine /\ ∃ ds, c7 H1 xs ds /\ ∀ p H2, ay H1 H2 -> H1 p = none -> H2 p = some (.lst xs) -> c7 H2 xs ds -> Dv H2 (.ref p) (.list ds) -> Q (.ref p) H2
def YS (t : TA) : TE := fun σ H Q => t σ H fun xs H1 => aaF xs H1 Q
theorem c5 {x1} (h : PA X es t) : PE X (.Tuple es x1 pos) (YS t) := PE.weak (abr h.m) fun σ H Q q => ⟨_, q, fun xs H1 ⟨hl, ds, hd, k⟩ => ⟨hl, fun p hp => by
 have sm : ay H1 (upd H1 p (.tup xs)) := fun b u e => by rw [aq (aA e hp)]; exact e
 exact k p _ sm hp ao (.tup ao (hd.keeps sm))⟩⟩
def Yy (t : TA) : TE := fun σ H Q => t σ H fun xs H1 => aaR xs H1 Q
theorem fY (h : PA X es t) : PE X (.List es pos) (Yy t) := PE.weak (aaH h.m) fun σ H Q q => ⟨_, q, fun xs H1 ⟨hl, ds, hd, k⟩ => ⟨hl, fun p hp => by
 have sm : ay H1 (upd H1 p (.lst xs)) := fun b u e => by rw [aq (aA e hp)]; exact e
 exact k p _ sm hp ao (hd.keeps sm) (.lst (.of ao) (hd.keeps sm))⟩⟩
variable {st : Stmt} {rest : List Stmt}
def ZM (t u : TS) : TS := fun D σ H => ∃ R : St -> Hp -> Prop, t { D with nx := R } σ H /\ ∀ σ' H', R σ' H' -> u D σ' H'
theorem af {t u : TS} (h1 : PS X st t) (h2 : MK X rest u) : MK X (st :: rest) (ZM t u) := by
 intro pins s σ H D I ⟨R, h, k⟩
 refine wpAny_execs_cons (dF (h1 pins s σ H { D with nx := R } I h) fun f s1 q => ?_)
 cases f with
 | next =>
   obtain ⟨σ', H', I', q⟩ := q
   exact h2 pins s1 σ' H' D I' (k _ _ q)
 | ret v => exact q
 | brk => exact q
 | cont => exact q
end
section
variable {σ : St} {H : Hp} {Q : VK} {D : Ends} {K : PySem.W.Frag}
theorem aaE {t u : TS} (h : t { D with nx := u D } σ H) : ZM t u D σ H := ⟨u D, h, fun _ _ z => z⟩
theorem abT {t : TA} (h : t σ H fun xs H1 => aaF xs H1 Q) : YS t σ H Q := h
theorem Zr {xs : List V} {ds : List PyData} (hl : xs.length <= sizeLine) (hd : c7 H xs ds) (k : ∀ v H2, ay H H2 -> Dv H2 v (.tuple ds) -> Q v H2) : aaF xs H Q := ⟨hl, ds, hd, fun p H2 s _ _ d => k (.ref p) H2 s d⟩
theorem Zu {t : TA} (h : t σ H fun xs H1 => aaR xs H1 Q) : Yy t σ H Q := h
theorem acV {f : Bool -> Bool} {x y : V} (e : XC x y = true) (h : Q (.bl (f (decide (x = y)))) H) : Ri K f x y H Q := .inl ⟨e, h⟩
theorem Y6 {f : Bool -> Bool} {x y : V} {d e : PyData} (h1 : Dv H x d) (h2 : Dv H y e) (h3 : d.canLay0 = true) (h4 : e.canLay0 = true) (h5 : d.depth <= 8) (h : Q (.bl (f (PyData.eqv d e))) H) : Ri K f x y H Q := .inr ⟨d, e, h1, h2, h3, h4, h5, h⟩
theorem ads {x : V} {ds : List PyData} {i : Int} {d : PyData} (hs : Px H x ds) (hi : JF ds i = some d) (g : F7 H d Q) : aaA x (.int i) H Q := .inl ⟨ds, i, d, rfl, hs, hi, g⟩
theorem VZ {i : Int} (h : Q (.int i) H) : F7 H (.int i) Q := h
theorem XZ (h : Q .aS H) : F7 H .none Q := h
theorem XU {i : Str} (h : Q (.str i) H) : F7 H (.str i) Q := h
theorem V2 {ds : List PyData} (h : ∀ v, Dv H v (.tuple ds) -> Q v H) : F7 H (.tuple ds) Q := h
theorem aeP {b : Bool} {A B : Prop} (h1 : b = true -> A) (h2 : b = false -> B) : if b = true then A else B := by
 cases b
 . exact agH (h2 rfl)
 . exact agv (h1 rfl)
end
theorem cF.Le {k : Nat} {A : Around} (r : cF k A) : A.units + 8 < cLine := Nat.lt_of_le_of_lt (by omega) r.units
theorem ay.at {H H' : Hp} {a : Addr} {o : HO} (s : ay H H') (h : H a = some o) : H' a = some o := s a o h
theorem dB {H : Hp} {t : Addr} {o : HO} (h : H t = none) : ay H (upd H t o) := fun b u e => by rw [aq (aA e h)]; exact e
section
variable {σ : St} {H : Hp} {Q : VK} {D : Ends} {K : PySem.W.Frag}
theorem XJ {v : V} {R : St -> Hp -> Prop} {rt : VK} {bk ct : St -> Hp -> Prop} (h : rt v H) : (Ends.mk R rt bk ct).rt v H := h
end
def isInt : PyData -> Bool | .int _ => true | .bool _ => true | _ => false
def isBool : PyData -> Bool | .bool _ => true | _ => false
def isStr : PyData -> Bool | .str _ => true | _ => false
def Ze : PyData -> Bool | .list _ => true | _ => false
def isTup : PyData -> Bool | .tuple _ => true | _ => false
def aeM : PyData -> Bool | .dict _ => true | _ => false
section
variable {K : PySem.W.Frag} {H : Hp} {v : V} {d : PyData} {Q : VK}
theorem P5 (h : Dv H v d) (q : Q (.bl (isInt d)) H) : Om K [v, .ty "int"] H Q := He h (by decide) (by cases d <;> exact q)
theorem MN (h : Dv H v d) (q : Q (.bl (isBool d)) H) : Om K [v, .ty "bool"] H Q := He h (by decide) (by cases d <;> exact q)
theorem QB (h : Dv H v d) (q : Q (.bl (isStr d)) H) : Om K [v, .ty "str"] H Q := He h (by decide) (by cases d <;> exact q)
theorem PZ (h : Dv H v d) (q : Q (.bl (Ze d)) H) : Om K [v, .ty "list"] H Q := He h (by decide) (by cases d <;> exact q)
theorem Qx (h : Dv H v d) (q : Q (.bl (isTup d)) H) : Om K [v, .ty "tuple"] H Q := He h (by decide) (by cases d <;> exact q)
def oz (H : Hp) (v : V) (C : Addr) (fs : List (Str × V)) : Prop := ∃ p dx, v = .ref p /\ H p = some (.ins C dx fs)
theorem oz.keeps {H H' : Hp} {C : Addr} {fs : List (Str × V)} (s : ay H H') (h : oz H v C fs) : oz H' v C fs := by
 obtain ⟨p, dx, rfl, e⟩ := h; exact ⟨p, dx, rfl, s _ _ e⟩
theorem Zz {R : V -> Prop} {C : Addr} {fs : List (Str × V)} {f : Str} {x : V} (hp : oz H v C fs) (c : vA K C) (n : aG K C f) (l : fs.lookup f = some x) (h : R x) :
 ∃ a C dx fs x, v = .ref a /\ H a = some (.ins C dx fs) /\ vA K C /\ aG K C f /\ fs.lookup f = some x /\ R x := by
 obtain ⟨p, dx, rfl, e⟩ := hp
 exact ⟨p, C, dx, fs, x, rfl, e, c, n, l, h⟩
theorem Kf {C : Addr} {m : Str} {fs : List (Str × V)} {R : Prop} (hp : oz H v C fs) (hl : fs.lookup m = none) (h : R) : ∃ a dx fs, v = .ref a /\ H a = some (.ins C dx fs) /\ fs.lookup m = none /\ R := by
 obtain ⟨p, dx, rfl, e⟩ := hp
 exact ⟨p, dx, fs, rfl, e, hl, h⟩
end
def look (f : Str) : List (Str × V) -> Option V
 | [] => none
 | (g, v) :: r => if f = g then some v else look f r
theorem FQ (f : Str) : ∀ fs : List (Str × V), fs.lookup f = look f fs
 | [] => rfl
 | (g, v) :: r => by
   show (match f == g with | true => some v | false => r.lookup f) = if f = g then some v else look f r
   by_cases h : f = g
   . subst h; rw [if_pos rfl, beq_self_eq_true]
   . rw [if_neg h, beq_eq_false_iff_ne.mpr h]; exact FQ f r
section
variable {X : Cx}
def Tq (K : PySem.W.Frag) : R2 := fun x y H Q => aaA x y H Q \/ Zy K x y H Q
theorem eV : RO X (Tq X.K) := fun value slice pins s σ H x y v u Q I r1 r2 h => h.elim (afV value slice pins s σ H x y v u Q I r1 r2) (Pz value slice pins s σ H x y v u Q I r1 r2)
def YH (K : PySem.W.Frag) : List V -> Hp -> VK -> Prop := fun xs H Q => YT xs H Q \/ ∃ p ys, xs = [.ref p] /\ jj K H p ys /\ Q (.int ys.length) H
theorem Jx : i9 X (.builtin "len") (YH X.K) := fun pins s σ H xs us Q I r h => by
 rcases h with h | ⟨p, ys, e, hl, q⟩
 . exact Rp pins s σ H xs us Q I r h
 . exact rN pins s σ H xs us Q I r ⟨p, ys, e, .inl hl, q⟩
end
section
variable {σ : St} {H : Hp} {Q : VK} {D : Ends} {K : PySem.W.Frag}
theorem Za {x : V} {ds : List PyData} {i : Int} {d : PyData} (hs : Px H x ds) (hi : JF ds i = some d) (g : F7 H d Q) : Tq K x (.int i) H Q := .inl (ads hs hi g)
theorem Yw {p : Addr} {xs : List V} {i : Int} {v : V} (hs : jj K H p xs) (hi : JF xs i = some v) (g : Q v H) : Tq K (.ref p) (.int i) H Q := .inr ⟨p, xs, i, v, rfl, rfl, hs, hi, g⟩
theorem abh {p : Addr} {xs : List V} (hs : jj K H p xs) (h : Q (.int xs.length) H) : YH K [.ref p] H Q := .inr ⟨p, xs, rfl, hs, h⟩
theorem abY {ta tv : TE} {f : Str} (h : tv σ H fun y H1 => ta σ H1 fun x H2 => ∃ a C dx fs, x = .ref a /\ H2 a = some (.ins C dx fs) /\ vA K C /\ aG K C f /\ fs.length < 1000 /\ D.nx σ (upd H2 a (.ins C dx (qJ f y fs)))) : aeb K ta tv f D σ H := h
theorem WK {p C dx : Addr} {fs fs' : List (Str × V)} {f : Str} {y : V} (hp : H p = some (.ins C dx fs)) (c : vA K C) (n : aG K C f) (hl : fs.length < 1000) (e : qJ f y fs = fs') (h : D.nx σ (upd H p (.ins C dx fs'))) :
 ∃ a C dx fs, V.ref p = .ref a /\ H a = some (.ins C dx fs) /\ vA K C /\ aG K C f /\ fs.length < 1000 /\ D.nx σ (upd H a (.ins C dx (qJ f y fs))) := ⟨p, C, dx, fs, rfl, hp, c, n, hl, by rw [e]; exact h⟩
def wR (C : Addr) (pre : List V -> Prop) (fs : List V -> List (Str × V)) : Sp := fun vs H Q _ => ∃ p dx args, vs = .ref p :: args /\ pre args /\ H p = some (.ins C dx []) /\ Q .aS (upd H p (.ins C dx (fs args)))
theorem VG {C : Addr} {pre : List V -> Prop} {fs : List V -> List (Str × V)} {args : List V} {E : XK} (hp : pre args) (k : ∀ v H2, ay H H2 -> oz H2 v C (fs args) -> Q v H2) :
 ∀ x dx, H x = none -> H dx = none -> dx ≠ x -> wR C pre fs (.ref x :: args) (upd (upd H dx (.own x)) x (.ins C dx [])) (fun v H2 => v = .aS /\ Q (.ref x) H2) E := by
 intro x dx hx hd ne
 refine ⟨x, dx, args, rfl, hp, ao, rfl, k _ _ (fun b u e => ?_) ⟨x, dx, rfl, ao⟩⟩
 rw [aq (aA e hx), aq (aA e hx), aq (aA e hd)]
 exact e
theorem UJ {R : V -> Prop} {C dx p : Addr} {fs : List (Str × V)} {f : Str} {v : V} (hp : H p = some (.ins C dx fs)) (c : vA K C) (n : aG K C f) (l : fs.lookup f = some v) (h : R v) :
 ∃ a C dx fs v, V.ref p = .ref a /\ H a = some (.ins C dx fs) /\ vA K C /\ aG K C f /\ fs.lookup f = some v /\ R v := ⟨p, C, dx, fs, v, rfl, hp, c, n, l, h⟩
theorem ahB {R : Prop} (h : R) : V.aS = V.aS /\ R := ⟨rfl, h⟩
end
theorem bg {i : Int} (h1 : -(10 ^ 200) < i) (h2 : i < 10 ^ 200) : i.natAbs < 2 ^ 2000 := by
 have : (10 : Nat) ^ 200 < 2 ^ 2000 := by decide +kernel
 have h3 : i.natAbs < 10 ^ 200 := by
  have e : ((10 : Nat) ^ 200 : Nat) = ((10 : Int) ^ 200).toNat := by decide +kernel
  rw [e]
  generalize (10 : Int) ^ 200 = m at h1 h2 ⊢
  omega
 exact Nat.lt_trans h3 this
theorem ad0 {i j : Int} (h1 : -(10 ^ 200) < i /\ i < 10 ^ 200) (h2 : -(10 ^ 200) < j /\ j < 10 ^ 200) : Pg i j := ⟨bg h1.1 h1.2, bg h2.1 h2.2⟩
theorem acT {i j : Int} (h1 : 0 < j) (h2 : j < 10 ^ 200) : Zb i j := ⟨h1, bg (Int.lt_trans (by decide) h1) h2⟩
def cell (ns : List Int) (k : Nat) : Int := ns.getD k 0
def M9 (K : PySem.W.Frag) : Sp := fun vs H Q _ => ∃ l ns k, vs = [.ref l, .int k] /\ jj K H l (ns.map V.int) /\ 0 <= k /\ Q (.int (cell ns k.toNat)) H
theorem abb {K : PySem.W.Frag} {H : Hp} {Q : VK} {E : XK} {l : Addr} {ns : List Int} {k : Int} (h : jj K H l (ns.map V.int)) (hk : 0 <= k) (q : Q (.int (cell ns k.toNat)) H) : M9 K [.ref l, .int k] H Q E := ⟨l, ns, k, rfl, h, hk, q⟩
theorem OJ {ns : List Int} {k : Int} (h0 : 0 <= k) (h : k < (ns.map V.int).length) : JF (ns.map V.int) k = some (.int (cell ns k.toNat)) := by
 obtain ⟨n, rfl⟩ := Int.eq_ofNat_of_zero_le h0
 refine Gn ?_
 have hn : n < ns.length := by simpa using h
 simp [cell, hn, List.getD_eq_getElem?_getD]
theorem VP {ns : List Int} {k : Int} (h0 : 0 <= k) (h : ¬ k < (ns.map V.int).length) : cell ns k.toNat = 0 := by
 have : ns.length <= k.toNat := by simp at h; omega
 simp [cell, List.getD_eq_getElem?_getD, this]
def HZ (sp : Sp) (vs : List V) (H : Hp) (Q : VK) (E : XK) : Prop := ∃ ws, vs = ws /\ sp ws H Q E
theorem Li (sp : Sp) (vs : List V) (H : Hp) (Q : VK) (E : XK) : HZ sp vs H Q E = sp vs H Q E := propext ⟨fun ⟨_, e, h⟩ => e ▸ h, fun h => ⟨vs, rfl, h⟩⟩
def GW (sp : Sp) (dQ : List V) (E : XK) (t : TA) : TE := fun σ H Q => t σ H fun vs H1 => HZ sp (vs ++ dQ) H1 Q E
theorem IZ (sp : Sp) (dQ : List V) (E : XK) (t : TA) : GW sp dQ E t = IT sp dQ E t := by
 funext σ H Q; unfold GW IT; congr 1; funext vs H1; exact Li _ _ _ _ _
def G4 (C : Addr) (m : Str) (sp : Sp) (dQ : List V) (E : XK) (ta : TE) (t : TA) : TE := fun σ H Q => ta σ H fun x H1 => ∃ a dx fs, x = .ref a /\ H1 a = some (.ins C dx fs) /\ fs.lookup m = none /\
 t σ H1 fun vs H2 => HZ sp (x :: (vs ++ dQ)) H2 Q E
theorem IX (C : Addr) (m : Str) (sp : Sp) (dQ : List V) (E : XK) (ta : TE) (t : TA) : G4 C m sp dQ E ta t = Jq C m sp dQ E ta t := by
 funext σ H Q; unfold G4 Jq; congr 1; funext x H1
 have : ∀ H2 : Hp, (fun vs H2 => HZ sp (x :: (vs ++ dQ)) H2 Q E) = fun vs H2 => sp (x :: (vs ++ dQ)) H2 Q E := fun _ => by funext vs H2; exact Li _ _ _ _ _
 rw [this H1]
def Fg (C : Addr) (sp : Sp) (vs : List V) (H1 : Hp) (Q : VK) (E : XK) : Prop := ∃ ws, vs = ws /\ ∀ x dx, H1 x = none -> H1 dx = none -> dx ≠ x ->
 sp (.ref x :: ws) (upd (upd H1 dx (.own x)) x (.ins C dx [])) (fun v H2 => v = .aS /\ Q (.ref x) H2) E
def Hg (C : Addr) (sp : Sp) (dQ : List V) (E : XK) (t : TA) : TE := fun σ H Q => t σ H fun vs H1 => Fg C sp (vs ++ dQ) H1 Q E
theorem Ju (C : Addr) (sp : Sp) (dQ : List V) (E : XK) (t : TA) : Hg C sp dQ E t = Ls C sp dQ E t := by
 funext σ H Q; unfold Hg Ls Fg; congr 1; funext vs H1
 exact propext ⟨fun ⟨_, e, h⟩ => by subst e; exact h, fun h => ⟨_, rfl, h⟩⟩
section
variable {X : Cx} {k : Nat} {f C : Addr} {ps : List Str} {sp : Sp} {dQ : List V} {x m : Str} {p pos apos : Pos} {e o : Expr} {es : List Expr} {ta : TE} {t : TA}
theorem c6 (c : dE X.prog X.w X.K X.mg X.base k f ps dQ sp) (hr : cF k X.A) (hg : Gl X x) (hm : X.mg x = some (.ref f)) (hk : PySem.W.keepIn X.K (.ref f) = true)
 (ha : PA X (e :: es) t) (Gd : (x == ("__debug__" : Str)) = false := by decide) (he : starEach (e :: es) X.env = (false, eval e X.env) :: starEach es X.env := by rfl) (Bp : (backTo pos (starEach es X.env)).any (·.1) = false := by rfl) :
 PE X (.Call (.Name x p) (e :: es) [] pos) (GW sp dQ E0 t) := by rw [IZ]; exact V4 c hr hg hm hk ha Gd he Bp
theorem aF {pl : Sem Bool} (he : PE X o ta) (c : vA X.K C) (hm : Meth X.K C m f) (F : dE X.prog X.w X.K X.mg X.base k f ps dQ sp) (hr : cF k X.A) (ha : PA X (e :: es) t)
 (DI : starEach (e :: es) X.env = (false, eval e X.env) :: starEach es X.env := by rfl) (Bp : (backTo pos (starEach es X.env)).any (·.1) = false := by rfl)
 (ht : eval (.Call (.Attribute o m apos) (e :: es) [] pos) X.env = (do
  let ov <- eval o X.env
  standAt apos.atName
  let (f, first) <- holding [ov] (getMethod ov m pl)
  callWith pos f first (backTo pos (starEach (e :: es) X.env)) (backToKw pos (keywordEach [] X.env))) := by rfl) :
 PE X (.Call (.Attribute o m apos) (e :: es) [] pos) (G4 C m sp dQ E0 ta t) := by rw [IX]; exact XN he c hm F hr ha DI Bp ht
theorem cS {pl : Sem Bool} (he : PE X o ta) (c : vA X.K C) (hm : Meth X.K C m f) (F : dE X.prog X.w X.K X.mg X.base k f ps dQ sp) (hr : cF k X.A)
 (ht : eval (.Call (.Attribute o m apos) [] [] pos) X.env = (do
  let ov <- eval o X.env
  standAt apos.atName
  let (f, first) <- holding [ov] (getMethod ov m pl)
  callWith pos f first (backTo pos (starEach [] X.env)) (backToKw pos (keywordEach [] X.env))) := by rfl) :
 PE X (.Call (.Attribute o m apos) [] [] pos) (G4 C m sp dQ E0 ta LU) := by rw [IX]; exact SJ he c hm F hr ht
theorem yA (M : Mk X.K C f) (F : dE X.prog X.w X.K X.mg X.base k f ps dQ sp) (hr : cF (k + 1) X.A) (hg : Gl X x) (hm : X.mg x = some (.ref C))
 (ha : PA X (e :: es) t) (Gd : (x == ("__debug__" : Str)) = false := by decide) (he : starEach (e :: es) X.env = (false, eval e X.env) :: starEach es X.env := by rfl) (Bp : (backTo pos (starEach es X.env)).any (·.1) = false := by rfl) :
 PE X (.Call (.Name x p) (e :: es) [] pos) (Hg C sp dQ E0 t) := by rw [Ju]; exact Ws M F hr hg hm ha Gd he Bp
theorem KO {pl : Sem Bool} (hg : Gl X x) (hm : X.mg x = some (.ref C)) (B : IY X.K C m f) (F : dE X.prog X.w X.K X.mg X.base k f ps dQ sp) (hr : cF k X.A) (ha : PA X (e :: es) t)
 (Gd : (x == ("__debug__" : Str)) = false := by decide)
 (DI : starEach (e :: es) X.env = (false, eval e X.env) :: starEach es X.env := by rfl) (Bp : (backTo pos (starEach es X.env)).any (·.1) = false := by rfl)
 (ht : eval (.Call (.Attribute (.Name x p) m apos) (e :: es) [] pos) X.env = (do
  let ov <- eval (.Name x p) X.env
  standAt apos.atName
  let (f, first) <- holding [ov] (getMethod ov m pl)
  callWith pos f first (backTo pos (starEach (e :: es) X.env)) (backToKw pos (keywordEach [] X.env))) := by rfl) :
 PE X (.Call (.Attribute (.Name x p) m apos) (e :: es) [] pos) (GW sp dQ E0 t) := by rw [IZ]; exact WG hg hm B F hr ha Gd DI Bp ht
end
section
variable {σ : St} {H : Hp} {Q : VK} {D : Ends} {K : PySem.W.Frag}
theorem Ww {sp : Sp} {dQ : List V} {E : XK} {t : TA} (h : t σ H fun vs H1 => HZ sp (vs ++ dQ) H1 Q E) : GW sp dQ E t σ H Q := h
theorem N0 {sp : Sp} {vs ws : List V} {E : XK} (e : vs = ws) (h : sp ws H Q E) : HZ sp vs H Q E := ⟨ws, e, h⟩
theorem Kt {C : Addr} {m : Str} {sp : Sp} {dQ : List V} {E : XK} {ta : TE} {t : TA} (h : ta σ H fun x H1 => ∃ a dx fs, x = .ref a /\ H1 a = some (.ins C dx fs) /\ fs.lookup m = none /\ t σ H1 fun vs H2 => HZ sp (x :: (vs ++ dQ)) H2 Q E) : G4 C m sp dQ E ta t σ H Q := h
theorem XW {C : Addr} {sp : Sp} {dQ : List V} {E : XK} {t : TA} (h : t σ H fun vs H1 => Fg C sp (vs ++ dQ) H1 Q E) : Hg C sp dQ E t σ H Q := h
theorem B4 {C : Addr} {pre : List V -> Prop} {fs : List V -> List (Str × V)} {us args : List V} {E : XK} (e : us = args) (hp : pre args) (k : ∀ v H2, ay H H2 -> oz H2 v C (fs args) -> Q v H2) : Fg C (wR C pre fs) us H Q E := ⟨args, e, VG hp k⟩
theorem aag {b : Bool} {R : Bool -> Prop} (h : R b) : ∃ k, SA K (.bl b) H k /\ R k := ⟨b, rfl, h⟩
end
theorem Yf {n : Nat} (h : Nat.ble n 64 = true) : n <= sizeLine := Nat.le_trans (Nat.le_of_ble_eq_true h) (by decide)
theorem VD {H : Hp} {d : PyData} {Q : VK} (h : ∀ v, Dv H v d -> Q v H) : F7 H d Q := by
 cases d with
 | none => exact h _ .aS
 | bool b => exact h _ (.bl b)
 | int i => exact h _ (.int i)
 | str x => exact h _ (.str x)
 | list l => exact h
 | tuple l => exact h
 | dict l => exact h
section
variable {X : Cx} {st : Stmt} {rest : List Stmt}
def Zf (t u : TS) : TS := ZM t u
theorem fP {t u : TS} (h1 : PS X st t) (h2 : MK X rest u) : MK X (st :: rest) (Zf t u) := af h1 h2
end
section
variable {σ : St} {H : Hp} {Q : VK} {D : Ends} {K : PySem.W.Frag}
theorem oX {t u : TS} (R : St -> Hp -> Prop) (h : t { D with nx := R } σ H) (k : ∀ σ' H', R σ' H' -> u D σ' H') : Zf t u D σ H := ⟨R, h, k⟩
def Wa (K : PySem.W.Frag) (x : V) (g : TG) (tb : TS) (D : Ends) (σ : St) (H1 : Hp) : Prop := ∃ a, x = .ref a /\ (∃ xs, jj K H1 a xs) /\ ∃ W : Nat -> Nat -> St -> Hp -> Prop, (∃ m, W 0 m σ H1) /\ ∀ i m σ H, W i m σ H ->
 ((Sy K a).stop i H /\ D.nx σ H) \/ ((Sy K a).go i H /\ ∃ N : St -> Hp -> Prop, (∀ σ' H', N σ' H' -> ∃ m', m' < m /\ W (i + 1) m' σ' H') /\ ∀ x H', (Sy K a).Vj i H x H' -> g x σ H' fun σ2 H2 => tb { D with nx := N, ct := N, bk := D.nx } σ2 H2)
theorem aew {tl : TE} {g : TG} {tb : TS} (h : tl σ H fun x H1 => Wa K x g tb D σ H1) : P6 (T1 K tl) g tb D σ H := h
theorem forL {a : Addr} {xs : List V} {g : TG} {tb : TS} (hl : jj K H a xs) (Pv : Nat -> St -> Hp -> Prop) (h0 : Pv 0 σ H) (hk : ∀ i σ H, i <= xs.length -> Pv i σ H -> jj K H a xs)
 (hs : ∀ i x σ H, xs[i]? = some x -> Pv i σ H -> g x σ H fun σ2 H2 => tb { D with nx := Pv (i + 1), ct := Pv (i + 1), bk := D.nx } σ2 H2) (hd : ∀ σ H, Pv xs.length σ H -> D.nx σ H) : Wa K (.ref a) g tb D σ H :=
 ⟨a, rfl, ⟨xs, hl⟩, UX Pv h0 hk hs hd⟩
def ae3 (lo : Int) (n : Nat) (g : TG) (tb : TS) (D : Ends) (σ : St) (H1 : Hp) : Prop := ∃ W : Nat -> Nat -> St -> Hp -> Prop, (∃ m, W 0 m σ H1) /\ ∀ i m σ H, W i m σ H ->
 ((Vp lo n).stop i H /\ D.nx σ H) \/ ((Vp lo n).go i H /\ ∃ N : St -> Hp -> Prop, (∀ σ' H', N σ' H' -> ∃ m', m' < m /\ W (i + 1) m' σ' H') /\ ∀ x H', (Vp lo n).Vj i H x H' -> g x σ H' fun σ2 H2 => tb { D with nx := N, ct := N, bk := D.nx } σ2 H2)
theorem X2 {ta : TA} {g : TG} {tb : TS} (h : ta σ H fun vs H1 => ∃ j : Int, vs = [.int j] /\ -(2 ^ 62) <= j /\ j < 2 ^ 62 /\ ae3 0 j.toNat g tb D σ H1) : P6 (Zc ta) g tb D σ H := h
theorem abp {j : Int} {R : Int -> Prop} (h1 : -(2 ^ 62) <= j) (h2 : j < 2 ^ 62) (h : R j) : ∃ i : Int, [V.int j] = [.int i] /\ -(2 ^ 62) <= i /\ i < 2 ^ 62 /\ R i := ⟨j, rfl, h1, h2, h⟩
theorem WD {ta : TA} {g : TG} {tb : TS} (h : ta σ H fun vs H1 => ∃ i j : Int, vs = [.int i, .int j] /\ (-(2 ^ 62) <= i /\ i < 2 ^ 62 /\ -(2 ^ 62) <= j /\ j < 2 ^ 62) /\ ae3 i (j - i).toNat g tb D σ H1) : P6 (Y5 ta) g tb D σ H := h
end
section
variable {X : Cx}
def Yn : List V -> Hp -> VK -> Prop := fun xs H Q => ∃ i j, xs = [.int i, .int j] /\ ∀ k, (k = i \/ k = j) -> k <= i -> k <= j -> Q (.int k) H
theorem DX (hc : X.calm = true) : i9 X (.builtin "min") Yn := fun pins s σ H xs us Q I r ⟨i, j, e, h⟩ => QA hc pins s σ H xs us Q I r ⟨i, j, e, by
 split
 . exact h _ (.inr rfl) (by omega) (by omega)
 . exact h _ (.inl rfl) (by omega) (by omega)⟩
def YK : List V -> Hp -> VK -> Prop := fun xs H Q => ∃ i j, xs = [.int i, .int j] /\ ∀ k, (k = i \/ k = j) -> i <= k -> j <= k -> Q (.int k) H
theorem Rh (hc : X.calm = true) : i9 X (.builtin "max") YK := fun pins s σ H xs us Q I r ⟨i, j, e, h⟩ => Rw hc pins s σ H xs us Q I r ⟨i, j, e, by
 split
 . exact h _ (.inr rfl) (by omega) (by omega)
 . exact h _ (.inl rfl) (by omega) (by omega)⟩
def YN : R2 := fun x y H Q => ∃ i j, x = .int i /\ y = .int j /\ 0 < j /\ (0 <= i % j -> i % j < j -> Q (.int (i % j)) H)
theorem cZ : Bb X (binaryOp .Mod) YN := fun pins s σ H x y v u Q I rx ry ⟨i, j, e1, e2, hj, h⟩ => aa6 pins s σ H x y v u Q I rx ry ⟨i, j, e1, e2, hj, h (Int.emod_nonneg _ (by omega)) (Int.emod_lt_of_pos _ hj)⟩
end
section
variable {σ : St} {H : Hp} {Q : VK} {D : Ends} {K : PySem.W.Frag}
theorem ZP {i j : Int} (h : ∀ k, (k = i \/ k = j) -> k <= i -> k <= j -> Q (.int k) H) : Yn [.int i, .int j] H Q := ⟨i, j, rfl, h⟩
theorem ZS {i j : Int} (h : ∀ k, (k = i \/ k = j) -> i <= k -> j <= k -> Q (.int k) H) : YK [.int i, .int j] H Q := ⟨i, j, rfl, h⟩
theorem ZF {i j : Int} (hj : 0 < j) (h : 0 <= i % j -> i % j < j -> Q (.int (i % j)) H) : YN (.int i) (.int j) H Q := ⟨i, j, rfl, rfl, hj, h⟩
end
theorem aL.ex {ι : Type} {P : Program} {w : World} {K : PySem.W.Frag} {mg : Str -> Option Value} {base : Heap} {CX : Jz} {k : Nat} {f : Addr} {fd : FuncData} {ps : List Str} {sp : ι -> Sp} (h : ∀ i, aL P w K mg base CX k f fd ps (sp i)) :
 aL P w K mg base CX k f fd ps (fun vs H Q E => ∃ i, sp i vs H Q E) :=
 ⟨fun vs H Q E ⟨i, q⟩ => (h i).len vs H Q E q, fun A outer s H args us vs Q E hr he hb hv ⟨i, q⟩ => (h i).run A outer s H args us vs Q E hr he hb hv q⟩
section
variable {σ : St} {H : Hp} {Q : VK} {D : Ends} {K : PySem.W.Frag}
def Yg (Pv : Nat -> St -> Hp -> Prop) (m : Nat) (tb : TS) (D : Ends) (σ : St) (H1 : Hp) : Prop := ∃ N : St -> Hp -> Prop, (∀ σ' H', N σ' H' -> ∃ m', m' < m /\ Pv m' σ' H') /\ tb { D with nx := N, ct := N, bk := D.nx } σ H1
theorem aaY {Pv : Nat -> St -> Hp -> Prop} {m : Nat} {tb : TS} (h : tb { D with nx := fun σ' H' => ∃ m', m' < m /\ Pv m' σ' H', ct := fun σ' H' => ∃ m', m' < m /\ Pv m' σ' H', bk := D.nx } σ H) : Yg Pv m tb D σ H := ⟨_, fun _ _ h => h, h⟩
theorem JV {c : TT} {tb : TS} (Pv : Nat -> St -> Hp -> Prop) (h0 : ∃ m, Pv m σ H) (hs : ∀ m σ H, Pv m σ H -> c σ H fun b H1 => if b = true then Yg Pv m tb D σ H1 else D.nx σ H1) : Ub c tb D σ H := ⟨Pv, h0, hs⟩
theorem abw {C p dx : Addr} {pre : List V -> Prop} {fs : List V -> List (Str × V)} {args : List V} {E : XK} (h : pre args) (hp : H p = some (.ins C dx [])) (q : Q .aS (upd H p (.ins C dx (fs args)))) : wR C pre fs (.ref p :: args) H Q E := ⟨p, dx, args, rfl, h, hp, q⟩
end
theorem Jp {l : Int} (h : 0 < l) : (2 : Int) ^ l.toNat = 2 * 2 ^ (l - 1).toNat := by
 have e : l.toNat = (l - 1).toNat + 1 := by omega
 rw [e, Int.pow_succ, Int.mul_comm]
theorem LD (n : Nat) : (1 : Int) <= 2 ^ n := by
 induction n with
 | zero => decide
 | succ n ih => rw [Int.pow_succ]; omega
end L2
namespace L2
theorem VH {n : Nat} (h : Nat.blt n 1000 = true) : n < 1000 := by
 unfold Nat.blt at h
 exact Nat.le_of_ble_eq_true h
end L2
namespace L2
open PySem PySem.Spec PyProof.Rows
section
variable {X : Cx}
def ag2 (f : Bool -> Bool) : R2 := fun x y H Q => ∃ b c, x = .bl b /\ y = .bl c /\ Q (.bl (f (b == c))) H
theorem aaV : Bb X (compareOp .Is) (ag2 id) := by
 intro pins s σ H x y v u Q I rx ry h
 obtain ⟨b, c, rfl, rfl, q⟩ := h
 cases rx; cases ry
 exact is_bool (a9 I q rfl)
end
section
variable {σ : St} {H : Hp} {Q : VK} {D : Ends} {K : PySem.W.Frag}
end
theorem aa5 {H : Hp} {Q : VK} {i j p : Int} (c : aaX i j) (e : i ^ j.toNat = p) (h : Q (.int p) H) : rI aaX (fun i j => .int (i ^ j.toNat)) (.int i) (.int j) H Q := ⟨i, j, rfl, rfl, c, by show Q (.int (i ^ j.toNat)) H; rw [e]; exact h⟩
section
variable {X : Cx} {e : Expr}
def Zm (t u : TE) : TE := fun σ H Q => t σ H Q \/ u σ H Q
theorem Ou {t u : TE} (h1 : PE X e t) (h2 : PE X e u) : PE X e (Zm t u) := PE.or h1 h2
end
section
variable {σ : St} {H : Hp} {Q : VK} {D : Ends} {K : PySem.W.Frag}
theorem Y2 {t u : TE} (h : t σ H Q) : Zm t u σ H Q := .inl h
theorem ac0 {t u : TE} (h : u σ H Q) : Zm t u σ H Q := .inr h
def ag3 (K : PySem.W.Frag) (x : V) (i j : Nat) (D : Ends) (σ : St) (H : Hp) : Prop := NM K 2 (wV (jQ i) (wV (jQ j) Qa)) x σ H D.nx
theorem Zh {te : TE} {i j : Nat} (h : te σ H fun x H1 => ag3 K x i j D σ H1) : Rx te (NM K 2 (wV (jQ i) (wV (jQ j) Qa))) D σ H := h
end
end L2
namespace L2
end L2
namespace L2
open PySem PySem.Spec PyProof.Rows PySem.W
structure Swo (lt : Nat -> Nat -> Bool) : Prop where
 irr : ∀ a, lt a a = false
 asy : ∀ a b, lt a b = true -> lt b a = false
 Vo : ∀ a b c, lt a b = false -> lt b c = false -> lt a c = false
section
variable {lt : Nat -> Nat -> Bool} {n : Nat} {S : Shared -> Prop} {cmp : Nat -> Nat -> (Bool -> Shared -> Prop) -> Shared -> Prop}
def Up (lt : Nat -> Nat -> Bool) (p : Array Nat) (k : Nat) : Prop := ∀ i j, i < j -> j < k -> lt (p.getD j 0) (p.getD i 0) = false
def Down (lt : Nat -> Nat -> Bool) (p : Array Nat) (k : Nat) : Prop := ∀ i j, i < j -> j < k -> lt (p.getD i 0) (p.getD j 0) = false
def Alike (lt : Nat -> Nat -> Bool) (p : Array Nat) (a b : Nat) : Prop := ∀ i j, a <= i -> i < b -> a <= j -> j < b -> lt (p.getD i 0) (p.getD j 0) = false
structure Ix (n : Nat) (p : Array Nat) : Prop where
 sz : p.size = n
 pm : p.toList.Perm (List.range n)
theorem Ix.low {p : Array Nat} (h : Ix n p) {i : Nat} (hi : i < n) : p.getD i 0 < n := by
 have YC : i < p.size := by rw [h.sz]; exact hi
 have e : p.getD i 0 = p[i] := by simp [Array.getD, YC]
 rw [e]
 have : p[i] ∈ p.toList := by simp
 exact List.mem_range.mp (h.pm.mem_iff.mp this)
theorem Ix.perm {p q : Array Nat} (h : Ix n p) (hq : q.Perm p) : Ix n q := ⟨hq.size_eq.trans h.sz, (Array.perm_iff_toList_perm.mp hq).trans h.pm⟩
theorem jc {p : Array Nat} {i j : Nat} (hj : j <= p.size) (k : Nat) : (kas_rev p i j).getD k 0 = if i <= k /\ k < j then p.getD (i + j - 1 - k) 0 else p.getD k 0 := by
 unfold kas_rev
 rw [Array.getD_eq_getD_getElem?, getElem?_mirror_all hj k]
 by_cases h : i <= k /\ k < j
 . rw [if_pos h, if_pos h, Array.getD_eq_getD_getElem?]
 . rw [if_neg h, if_neg h, Array.getD_eq_getD_getElem?]
theorem HR {p : Array Nat} (h : Ix n p) (i j : Nat) : Ix n (kas_rev p i j) := h.perm (mirror_perm _ _ _ _)
theorem Mq {p : Array Nat} {k d : Nat} (hk : k < p.size) (hd : d <= k) (i : Nat) : (bubble p k d).getD i 0 = if i = k - d then p.getD k 0 else if k - d < i /\ i <= k then p.getD (i - 1) 0 else p.getD i 0 := by
 rw [Array.getD_eq_getD_getElem?, getElem?_bubble hk d hd i]
 by_cases h : i = k - d
 . rw [if_pos h, if_pos h, Array.getD_eq_getD_getElem?]
 . rw [if_neg h, if_neg h]
   by_cases h2 : k - d < i /\ i <= k
   . rw [if_pos h2, if_pos h2, Array.getD_eq_getD_getElem?]
   . rw [if_neg h2, if_neg h2, Array.getD_eq_getD_getElem?]
def ac4 (n : Nat) (lt : Nat -> Nat -> Bool) (S : Shared -> Prop) (cmp : Nat -> Nat -> (Bool -> Shared -> Prop) -> Shared -> Prop) : Prop :=
 ∀ i j C s, i < n -> j < n -> S s -> (∀ s', S s' -> C (lt i j) s') -> cmp i j C s
variable (w : Swo lt) (ha : ac4 n lt S cmp)
include w ha
theorem Nn {p : Array Nat} (hp : Ix n p) {Q : Nat -> Shared -> Prop} : ∀ (f k : Nat), 1 <= k -> k + f <= n -> Up lt p k -> (∀ m s, S s -> k <= m -> m <= k + f -> Up lt p m -> (m = k + f \/ (m < k + f /\ lt (p.getD m 0) (p.getD (m - 1) 0) = true)) -> Q m s) -> ∀ s, S s -> (kas_asc p f k).kasWp cmp Q s
 | 0, k, _, _, hu, hq, s, hs => hq k s hs (Nat.le_refl _) (Nat.le_refl _) hu (.inl rfl)
 | f + 1, k, h1, hf, hu, hq, s, hs => by
   refine ha _ _ _ _ (hp.low (by omega)) (hp.low (by omega)) hs fun s' Ma => ?_
   cases e : lt (p.getD k 0) (p.getD (k - 1) 0) with
   | true => exact hq k s' Ma (Nat.le_refl _) (by omega) hu (.inr ⟨by omega, e⟩)
   | false =>
     refine Nn hp f (k + 1) (by omega) (by omega) (fun i j Jt hj => ?_) (fun m s hs a b c d => hq m s hs (by omega) (by omega) c (by rcases d with d | d; exact .inl (by omega); exact .inr ⟨by omega, d.2⟩)) s' Ma
     by_cases hjk : j < k
     . exact hu i j Jt hjk
     . have : j = k := by omega
       subst this
       by_cases hi : i = j - 1
       . rw [hi]; exact e
       . exact w.Vo _ _ _ e (hu i (j - 1) (by omega) (by omega))
theorem Gi {Q : Array Nat × Nat × Nat -> Shared -> Prop} : ∀ (f : Nat) (p : Array Nat) (k q : Nat), Ix n p -> k + f <= n -> q + 1 <= k -> Down lt p k -> Alike lt p (k - (q + 1)) k ->
 (∀ p' k' q' s, S s -> Ix n p' -> k <= k' -> k' <= k + f -> q' + 1 <= k' -> Down lt p' k' -> Alike lt p' (k' - (q' + 1)) k' -> Q (p', k', q') s) -> ∀ s, S s -> (kas_desc f p k q).kasWp cmp Q s
 | 0, p, k, q, hp, _, h1, hd, hl, hq, s, hs => hq p k q s hs hp (Nat.le_refl _) (Nat.le_refl _) h1 hd hl
 | f + 1, p, k, q, hp, hf, h1, hd, hl, hq, s, hs => by
   refine ha _ _ _ _ (hp.low (by omega)) (hp.low (by omega)) hs fun s' Ma => ?_
   cases e : lt (p.getD k 0) (p.getD (k - 1) 0) with
   | true =>
     have NA : ∀ i, i < k -> lt (p.getD i 0) (p.getD k 0) = false := fun i hi => by
      by_cases h : i = k - 1
      . rw [h]; exact w.asy _ _ e
      . exact w.Vo _ _ _ (hd i (k - 1) (by omega) (by omega)) (w.asy _ _ e)
     by_cases h0 : q > 0
     . simp only [if_true, if_pos h0]
       have hk : k <= p.size := by rw [hp.sz]; omega
       refine Gi f _ (k + 1) 0 (HR hp _ _) (by omega) (by omega) (fun i j Jt hj => ?_) (fun i j a b c d => ?_) (fun p' k' q' s hs a b c d e f => hq p' k' q' s hs a (by omega) (by omega) d e f) s' Ma
       . rw [jc hk, jc hk]
         by_cases hjk : j = k
         . subst hjk
           rw [if_neg (show ¬ (j - (q + 1) <= j /\ j < j) by omega)]
           by_cases hi : j - (q + 1) <= i /\ i < j
           . rw [if_pos hi]; exact NA _ (by omega)
           . rw [if_neg hi]; exact NA _ Jt
         . by_cases hi : k - (q + 1) <= i /\ i < k
           . rw [if_pos hi, if_pos (show k - (q + 1) <= j /\ j < k by omega)]
             exact hl _ _ (by omega) (by omega) (by omega) (by omega)
           . rw [if_neg hi]
             by_cases YD : k - (q + 1) <= j /\ j < k
             . rw [if_pos YD]; exact hd _ _ (by omega) (by omega)
             . rw [if_neg YD]; exact hd _ _ Jt (by omega)
       . have : i = k := by omega
         have : j = k := by omega
         subst_vars
         exact w.irr _
     . simp only [if_true, if_neg h0]
       refine Gi f _ (k + 1) 0 hp (by omega) (by omega) (fun i j Jt hj => ?_) (fun i j a b c d => ?_) (fun p' k' q' s hs a b c d e f => hq p' k' q' s hs a (by omega) (by omega) d e f) s' Ma
       . by_cases hjk : j = k
         . subst hjk; exact NA _ Jt
         . exact hd _ _ Jt (by omega)
       . have : i = k := by omega
         have : j = k := by omega
         subst_vars
         exact w.irr _
   | false =>
     simp only [Bool.false_eq_true, if_false]
     refine ha _ _ _ _ (hp.low (by omega)) (hp.low (by omega)) Ma fun s2 KY => ?_
     cases e2 : lt (p.getD (k - 1) 0) (p.getD k 0) with
     | true => simp only [if_true]; exact hq p k q s2 KY hp (Nat.le_refl _) (by omega) h1 hd hl
     | false =>
       simp only [Bool.false_eq_true, if_false]
       refine Gi f _ (k + 1) (q + 1) hp (by omega) (by omega) (fun i j Jt hj => ?_) (fun i j a b c d => ?_) (fun p' k' q' s hs a b c d e f => hq p' k' q' s hs a (by omega) (by omega) d e f) s2 KY
       . by_cases hjk : j = k
         . subst hjk
           by_cases h : i = j - 1
           . rw [h]; exact e2
           . exact w.Vo _ _ _ (hd i (j - 1) (by omega) (by omega)) e2
         . exact hd _ _ Jt (by omega)
       . by_cases hi : i = k
         . by_cases hj : j = k
           . rw [hi, hj]; exact w.irr _
           . rw [hi]; exact w.Vo _ _ _ e (hl _ _ (by omega) (by omega) (by omega) (by omega))
         . by_cases hj : j = k
           . rw [hj]; exact w.Vo _ _ _ (hl _ _ (by omega) (by omega) (by omega) (by omega)) e2
           . exact hl _ _ (by omega) (by omega) (by omega) (by omega)
theorem Mg {Q : Nat × Array Nat -> Shared -> Prop} {p : Array Nat} {k : Nat} (hp : Ix n p) (h1 : 1 <= k) (hk : k <= n) (hd : Down lt p k) (hq : ∀ m p' s, S s -> Ix n p' -> 1 <= m -> m <= n -> Up lt p' m -> Q (m, p') s) (s : Shared) (hs : S s) : (kas_tail3 k n p).kasWp cmp Q s := by
 unfold kas_tail3
 rw [KasT.kasWp_bind]
 have Q7 : k <= p.size := by rw [hp.sz]; exact hk
 refine Nn w ha (HR hp 0 k) (n - k) k h1 (by omega) (fun i j Jt hj => ?_) (fun m s hs a b c _ => hq m _ s hs (HR hp _ _) (by omega) (by omega) c) s hs
 rw [jc Q7, jc Q7, if_pos (by omega), if_pos (by omega)]
 exact hd _ _ (by omega) (by omega)
theorem Fn {Q : Nat × Array Nat -> Shared -> Prop} {p : Array Nat} {k : Nat} (hp : Ix n p) (h1 : 1 <= k) (hk : k + 1 <= n) (hd : Down lt p (k + 1)) (hq : ∀ m p' s, S s -> Ix n p' -> 1 <= m -> m <= n -> Up lt p' m -> Q (m, p') s) (s : Shared) (hs : S s) : (kas_descPart k n p).kasWp cmp Q s := by
 unfold kas_descPart
 rw [KasT.kasWp_bind]
 refine Gi w ha _ p (k + 1) 0 hp (by omega) (by omega) hd (fun i j a b c d => ?_) (fun p' k' q' s hs TC a b c K8 hl => ?_) s hs
 . have : i = k := by omega
   have : j = k := by omega
   subst_vars
   exact w.irr _
 . by_cases h0 : q' > 0
   . simp only [if_pos h0]
     have Q7 : k' <= p'.size := by rw [TC.sz]; omega
     refine Mg w ha (HR TC _ _) (by omega) (by omega) (fun i j Jt hj => ?_) hq s hs
     rw [jc Q7, jc Q7]
     by_cases hi : k' - (q' + 1) <= i /\ i < k'
     . rw [if_pos hi, if_pos (by omega)]; exact hl _ _ (by omega) (by omega) (by omega) (by omega)
     . rw [if_neg hi]
       by_cases YD : k' - (q' + 1) <= j /\ j < k'
       . rw [if_pos YD]; exact K8 _ _ (by omega) (by omega)
       . rw [if_neg YD]; exact K8 _ _ Jt (by omega)
   . simp only [if_neg h0]
     exact Mg w ha TC (by omega) (by omega) K8 hq s hs
theorem Sw {Q : Nat × Array Nat -> Shared -> Prop} {p : Array Nat} (hn : 1 <= n) (hp : Ix n p) (hq : ∀ m p' s, S s -> Ix n p' -> 1 <= m -> m <= n -> Up lt p' m -> Q (m, p') s) (s : Shared) (hs : S s) : (kas_count n p).kasWp cmp Q s := by
 unfold kas_count
 rw [KasT.kasWp_bind]
 refine Nn w ha hp (n - 1) 1 (Nat.le_refl _) (by omega) (fun i j _ _ => by omega) (fun m s hs a b hu hc => ?_) s hs
 by_cases hm : (m == n) = true
 . simp only [if_pos hm]; exact hq m p s hs hp a (by have := beq_iff_eq.mp hm; omega) hu
 . simp only [if_neg hm]
   have QH : m ≠ n := fun z => hm (beq_iff_eq.mpr z)
   have lK : m < n := by omega
   have Vm : lt (p.getD m 0) (p.getD (m - 1) 0) = true := by
    rcases hc with hc | hc
    . omega
    . exact hc.2
   by_cases h1 : m > 1
   . simp only [if_pos h1]
     refine ha _ _ _ _ (hp.low (by omega)) (hp.low (by omega)) hs fun s2 KY => ?_
     cases e : lt (p.getD 0 0) (p.getD (m - 1) 0) with
     | true => simp only [if_true]; exact hq m p s2 KY hp a (by omega) hu
     | false =>
       simp only [Bool.false_eq_true, if_false]
       have hk : m <= p.size := by rw [hp.sz]; omega
       have al : ∀ i j, i < m -> j < m -> lt (p.getD i 0) (p.getD j 0) = false := fun i j hi hj => by
        have h1 : lt (p.getD i 0) (p.getD 0 0) = false := by
         by_cases h : i = 0
         . rw [h]; exact w.irr _
         . exact hu 0 i (by omega) hi
        have h2 : lt (p.getD i 0) (p.getD (m - 1) 0) = false := w.Vo _ _ _ h1 e
        by_cases h : j = m - 1
        . rw [h]; exact h2
        . exact w.Vo _ _ _ h2 (hu j (m - 1) (by omega) (by omega))
       refine Fn w ha (HR hp _ _) a (by omega) (fun i j Jt hj => ?_) hq s2 KY
       rw [jc hk, jc hk, if_pos (by omega)]
       by_cases hjm : j < m
       . rw [if_pos (by omega)]; exact al _ _ (by omega) (by omega)
       . rw [if_neg (by omega)]
         have : j = m := by omega
         subst this
         exact w.Vo _ _ _ (al _ (j - 1) (by omega) (by omega)) (w.asy _ _ Vm)
   . simp only [if_neg h1]
     refine Fn w ha hp a (by omega) (fun i j Jt hj => ?_) hq s hs
     have h1 : m = 1 := by omega
     have hi : i = m - 1 := by omega
     have hj : j = m := by omega
     rw [hi, hj]
     exact w.asy _ _ Vm
theorem GF {p : Array Nat} {k : Nat} (hp : Ix n p) (hk : k < n) (hu : Up lt p k) {Q : Nat -> Shared -> Prop} : ∀ (f l r : Nat), l <= r -> r <= k -> r - l <= f -> (∀ i, i < l -> lt (p.getD k 0) (p.getD i 0) = false) -> (∀ i, r <= i -> i < k -> lt (p.getD k 0) (p.getD i 0) = true) ->
 (∀ l s, S s -> l <= k -> (∀ i, i < l -> lt (p.getD k 0) (p.getD i 0) = false) -> (∀ i, l <= i -> i < k -> lt (p.getD k 0) (p.getD i 0) = true) -> Q l s) -> ∀ s, S s -> (kas_place p k f l r).kasWp cmp Q s
 | 0, l, r, hlr, hr, hf, h1, h2, hq, s, hs => hq l s hs (by omega) h1 (fun i a b => h2 i (by omega) b)
 | f + 1, l, r, hlr, hr, hf, h1, h2, hq, s, hs => by
   unfold kas_place
   by_cases h : l ≥ r
   . rw [if_pos h]; exact hq l s hs (by omega) h1 (fun i a b => h2 i (by omega) b)
   . rw [if_neg h]
     refine ha _ _ _ _ (hp.low hk) (hp.low (by omega)) hs fun s' Ma => ?_
     cases e : lt (p.getD k 0) (p.getD ((l + r) / 2) 0) with
     | true =>
       simp only [if_true]
       refine GF hp hk hu f l ((l + r) / 2) (by omega) (by omega) (by omega) h1 (fun i a b => ?_) hq s' Ma
       by_cases hi : i = (l + r) / 2
       . rw [hi]; exact e
       . cases e3 : lt (p.getD k 0) (p.getD i 0) with
         | true => rfl
         | false => rw [w.Vo _ _ _ e3 (hu ((l + r) / 2) i (by omega) b)] at e; exact e
     | false =>
       simp only [Bool.false_eq_true, if_false]
       refine GF hp hk hu f ((l + r) / 2 + 1) r (by omega) (by omega) (by omega) (fun i a => ?_) h2 hq s' Ma
       by_cases hi : i = (l + r) / 2
       . rw [hi]; exact e
       . exact w.Vo _ _ _ e (hu i ((l + r) / 2) (by omega) (by omega))
theorem Sl {Q : Array Nat -> Shared -> Prop} : ∀ (f : Nat) (p : Array Nat) (k : Nat), Ix n p -> k + f = n -> Up lt p k -> (∀ p' s, S s -> Ix n p' -> Up lt p' n -> Q p' s) -> ∀ s, S s -> (kas_bin f p k).kasWp cmp Q s
 | 0, p, k, hp, hf, hu, hq, s, hs => by
   have : k = n := by omega
   subst this
   exact hq p s hs hp hu
 | f + 1, p, k, hp, hf, hu, hq, s, hs => by
   unfold kas_bin
   rw [KasT.kasWp_bind]
   refine GF w ha hp (by omega) hu k 0 k (by omega) (Nat.le_refl _) (by omega) (fun i h => by omega) (fun i a b => by omega) (fun l s hs hl h1 h2 => ?_) s hs
   have hk : k < p.size := by rw [hp.sz]; omega
   refine Sl f _ (k + 1) (hp.perm (bubble_perm _ _ _)) (by omega) (fun i j Jt hj => ?_) hq s hs
   rw [Mq hk (by omega), Mq hk (by omega)]
   have el : k - (k - l) = l := by omega
   rw [el]
   by_cases hjl : j = l
   . rw [if_pos hjl, if_neg (by omega), if_neg (by omega)]; exact h1 i (by omega)
   . rw [if_neg hjl]
     by_cases hil : i = l
     . rw [if_pos hil, if_pos (by omega)]; exact w.asy _ _ (h2 _ (by omega) (by omega))
     . rw [if_neg hil]
       by_cases RK : l < i /\ i <= k
       . rw [if_pos RK, if_pos (by omega)]; exact hu _ _ (by omega) (by omega)
       . rw [if_neg RK]
         by_cases YD : l < j /\ j <= k
         . rw [if_pos YD]; exact hu _ _ (by omega) (by omega)
         . rw [if_neg YD]; exact hu _ _ Jt (by omega)
theorem OD {Q : Array Nat -> Shared -> Prop} (hn : 1 <= n) (hq : ∀ p' s, S s -> Ix n p' -> Up lt p' n -> Q p' s) (s : Shared) (hs : S s) : (kas_sort n).kasWp cmp Q s := by
 unfold kas_sort
 rw [KasT.kasWp_bind]
 refine Sw w ha hn ⟨by simp, by simp⟩ (fun m p' s hs hp h1 hm hu => ?_) s hs
 by_cases h : m < n
 . simp only [if_pos h]
   have : max m 1 = m := by omega
   rw [this]
   exact Sl w ha _ p' m hp (by omega) hu hq s hs
 . simp only [if_neg h]
   have : m = n := by omega
   subst this
   exact hq p' s hs hp hu
end
section
variable {X : Cx} {pins : List (Addr × Obj)} {σ : St} {H H' : Hp} {s : Shared} {a : Addr}
theorem Inv.Kd {f : Obj -> Obj} (I : Inv X pins σ H s) (fa : iG X pins H a) : Inv X pins σ H { s with heap := s.heap.update a f } :=
 I.turned (t' := s.toks) (fun b o hb e => by rw [Heap.get?_update_ne _ _ _ _ hb]; exact e) fa.1 fa.2.1 fa.2.2.2.1 fa.2.2.2.2.1 fa.2.2.2.2.2
theorem Inv.Fj {o : Obj} (I : Inv X pins σ H s) : Inv X pins σ H { s with heap := s.heap.push o } := I.kept (t' := s.toks) fun b u e => Heap.get?_push_of_some _ e
theorem iG.keep (fa : iG X pins H a) (h : H' a = none) : iG X pins H' a := ⟨h, fa.2⟩
theorem Inv.SY {acc : List V} {bT : List Value} {n : Nat} (I : Inv X pins σ H s) (fa : iG X pins H a) (MJ : X.gL.heap.objs.size <= a) (hl : acc.length <= sizeLine) (r : Vals acc bT) (hd : s.heap.get? a = some { cls := .type "list", data := .seq bT.toArray n }) :
 Inv X pins σ (upd H a (.lst acc)) s := by
 have ne : ∀ b u, H b = some u -> b ≠ a := fun b u e => aA e fa.1
 have old : ∀ b o, X.gL.heap.get? b = some o -> b ≠ a := fun b o e => Nat.ne_of_lt (Nat.lt_of_lt_of_le (Heap.lt_size e) MJ)
 have U := I.base
 refine ⟨I.ok, I.os, I.bare, ⟨U.keep, U.slot, fun b o e n hx => ?_, U.there, fun b xs e => ?_, fun b o u e => ?_, fun b ps e => ?_⟩, I.loc, I.cell, ?_, fun x c e => ?_, fun p hp => ?_, fun b u e => ?_, I.len⟩
 . rw [aq (old b o e)]; exact U.free b o e n hx
 . rw [aq (ne b _ (U.Du b xs e))]; exact U.Du b xs e
 . rw [aq (ne b _ (U.yL b o u e))]; exact U.yL b o u e
 . obtain ⟨more, q⟩ := U.FW b ps e
   exact ⟨more, by rw [aq (ne b _ q)]; exact q⟩
 . rw [aq (Ne.symm fa.2.1)]; exact I.free
 . rw [aq (fa.2.2.2.2.1 x c e)]; exact I.mP x c e
 . obtain ⟨e1, e2, e3⟩ := I.pin p hp
   exact ⟨e1, by rw [aq (fa.2.2.2.2.2 p hp)]; exact e2, e3⟩
 . by_cases hb : b = a
   . subst hb
     rw [ao] at e
     cases e
     exact ⟨hl, bT, n, r, hd⟩
   . rw [aq hb] at e
     exact (I.bD b u e).J4 (fun c v _ q => q) (fun c q => by rw [aq (ne c _ q)]; exact q) fun c xs q => by rw [aq (ne c _ q)]; exact q
end
def Bn (a b : Str) : Bool := decide (a.cps.toList < b.cps.toList)
def fD (a b : Int × Str) : Bool := decide (a.1 < b.1) || (decide (a.1 = b.1) && Bn a.2 b.2)
theorem Gx (a : Str) : Bn a a = false := decide_eq_false (List.lt_irrefl _)
theorem Xw {a b : Str} (h : Bn a b = true) : Bn b a = false := decide_eq_false (List.lt_asymm (of_decide_eq_true h))
theorem Kn {a b c : Str} (h : Bn a b = false) (h2 : Bn b c = false) : Bn a c = false := by
 unfold Bn at *
 have Vt : b.cps.toList <= a.cps.toList := List.not_lt.mp (of_decide_eq_false h)
 have h2' : c.cps.toList <= b.cps.toList := List.not_lt.mp (of_decide_eq_false h2)
 exact decide_eq_false (List.not_lt.mpr (List.le_trans h2' Vt))
theorem XQ {a b : Str} (h : a.cps.toList = b.cps.toList) : a = b := by
 cases a; cases b
 simp only at h
 rw [Array.toList_inj.mp h]
theorem OS {a b : Str} (h : Bn a b = false) (h2 : Bn b a = false) : a = b := by
 unfold Bn at *
 have Vt : b.cps.toList <= a.cps.toList := List.not_lt.mp (of_decide_eq_false h)
 have h2' : a.cps.toList <= b.cps.toList := List.not_lt.mp (of_decide_eq_false h2)
 exact XQ (List.le_antisymm h2' Vt)
theorem UA {a b : Int × Str} : fD a b = true ↔ a.1 < b.1 \/ (a.1 = b.1 /\ Bn a.2 b.2 = true) := by
 unfold fD; simp
theorem gB {a b : Int × Str} : fD a b = false ↔ ¬ a.1 < b.1 /\ (a.1 = b.1 -> Bn a.2 b.2 = false) := by
 unfold fD; simp
theorem HG (a : Int × Str) : fD a a = false := gB.mpr ⟨by omega, fun _ => Gx _⟩
theorem Ln {a b : Int × Str} (h : fD a b = true) : fD b a = false := by
 rcases UA.mp h with h | ⟨h, h2⟩
 . exact gB.mpr ⟨by omega, fun _ => by omega⟩
 . exact gB.mpr ⟨by omega, fun _ => Xw h2⟩
theorem Lw {a b c : Int × Str} (h : fD a b = false) (h2 : fD b c = false) : fD a c = false := by
 obtain ⟨h1, h3⟩ := gB.mp h
 obtain ⟨h4, h5⟩ := gB.mp h2
 refine gB.mpr ⟨by omega, fun e => ?_⟩
 exact Kn (h3 (by omega)) (h5 (by omega))
section
variable {prog : Program} {w : World} {A : Around} {E : Value -> Shared -> Prop} {s : Shared}
theorem Xj {x y : Addr} {i j : Int} {t u t2 u2 : Tok} {c d : Str} {Q : Bool -> Shared -> Prop} (hx : IsTup s.heap x #[.int i t, .str c t2]) (hy : IsTup s.heap y #[.int j u, .str d u2]) (h : Q (fD (i, c) (j, d)) s) :
 wpAny (model prog w) A (keyLt' (tuples' true) (.ref x) (.ref y)) Q E s := by
 obtain ⟨ox, hox, cx, nx, dx⟩ := hx
 obtain ⟨oy, hoy, cy, ny, dy⟩ := hy
 refine kat_lt hox dx hoy dy ?_
 refine kat_cons (wpAny_eqBool_int ?_)
 by_cases e : i = j
 . rw [show (i == j) = true from beq_iff_eq.mpr e]
   refine kat_yes (kat_cons (wpAny_eqBool_str ?_))
   by_cases e2 : c = d
   . rw [decide_eq_true e2]
     refine kat_yes (kat_nil ?_)
     have : fD (i, c) (j, d) = false := by rw [e, e2]; exact HG _
     rw [this] at h
     exact h
   . rw [decide_eq_false e2]
     refine kat_no (kat_one _ _ (lt_str ?_))
     have : fD (i, c) (j, d) = Bn c d := by unfold fD; simp [e]
     rw [this] at h
     exact h
 . rw [show (i == j) = false from beq_eq_false_iff_ne.mpr e]
   refine kat_no (oneLt_int ?_)
   have : fD (i, c) (j, d) = decide (i < j) := by unfold fD; simp [e]
   rw [this] at h
   exact h
end
def N8 (sp : Sp) (kf : V -> Int × Str) (H : Hp) (xs : List V) : Prop := ∀ v ∈ xs, ∀ H', ay H H' -> sp [v] H' (fun y H2 => ay H' H2 /\ Dv H2 y (.tuple [.int (kf v).1, .str (kf v).2])) E0
def JY {α : Type} (lt : α -> α -> Bool) (kf : V -> α) (ys xs : List V) : Prop := ys.Perm xs /\ ys.Pairwise fun x y => lt (kf y) (kf x) = false
section
variable {X : Cx} {pins : List (Addr × Obj)} {σ : St} {H : Hp} {s : Shared} {k : Nat} {f : Addr} {fd : FuncData} {ps : List Str} {sp : Sp} {kf : V -> Int × Str} {A : Around}
theorem Yb {H' : Hp} {s' : Shared} {v : V} {u : Value} {pl : List (Addr × Obj)} (F : aL X.prog X.w X.K X.mg X.base eU k f fd ps sp) (hb : Binds X.K fd ps []) (hr : cF (k + 2) X.A) (I : Inv X pl σ H' s') (r : RelV v u)
 (hs : sp [v] H' (fun y H2 => ay H' H2 /\ Dv H2 y (.tuple [.int (kf v).1, .str (kf v).2])) E0) :
 wpAny (model X.prog X.w) X.A.in1.in1 (call (.ref f) [u]) (EP X pl σ fun y H2 => ay H' H2 /\ Dv H2 y (.tuple [.int (kf v).1, .str (kf v).2])) (fun _ _ => False) s' := by
 have r2 : Vals [v] [u] := .cons r .nil
 have hl : ([u] ++ []).length = ps.length := by have := F.len _ _ _ _ hs; simpa using this
 have RN := hb s' [u] I.Bo hl
 refine wpAny_call (codeAny_mono (F.run X.A.in1.in1 X.stack s' H' ⟨[u], []⟩ [u] [v] _ E0 (cF.in1 (cF.in1 hr)) (I.aaQ.in1.in1) (by simpa using RN) r2 hs) fun r s2 hq => ?_)
 cases r with
 | error e => exact hq.elim
 | ok fl =>
   cases fl with
   | ret u => exact I.after hq
   | next => exact False.elim hq
   | brk => exact False.elim hq
   | cont => exact False.elim hq
structure abA (X : Cx) (pins : List (Addr × Obj)) (σ : St) (H : Hp) (kf : V -> Int × Str) (a kS : Addr) (oa : Obj) (xs : List V) (s' : Shared) : Prop where
 mk ::
 ex : ∃ H' us e ys, Inv X pins σ H' s' /\ ay H H' /\ H' a = none /\ H' kS = none /\ s'.heap.get? a = some oa /\ s'.heap.get? kS = some (seqObj "list" (List.toArray us) e) /\ Vals ys us /\ c7 H' ys (xs.map fun v => .tuple [.int (kf v).1, .str (kf v).2])
theorem Jw {kS : Addr} {oa : Obj} {body : Value -> PUnit -> Sem (ForInStep PUnit)} {E : Value -> Shared -> Prop} (F : aL X.prog X.w X.K X.mg X.base eU k f fd ps sp) (hb : Binds X.K fd ps []) (hr : cF (k + 2) X.A) (hoa : ∀ v, oa.data ≠ .cell v)
 (JL : ∀ x (s' : Shared) (R : Shared -> Prop), wpAny (model X.prog X.w) X.A.in1.in1 (call (.ref f) [x]) (fun k s2 => ∃ us e, s2.heap.get? kS = some (seqObj "list" (List.toArray us) e) /\ us.length < 64 /\ R { s2 with heap := s2.heap.update kS (Obj.mapSeq (·.push k)) }) (fun _ _ => False) s' ->
  wpAny (model X.prog X.w) X.A.in1.in1 (body x ⟨⟩) (fun r s2 => r = .yield ⟨⟩ /\ R s2) E s')
 (fa : iG X pins H a) (fk : iG X pins H kS) (Vi : a ≠ kS) : ∀ (rx : List V) (r : List Value) (xs : List V) (s' : Shared), Vals rx r -> N8 sp kf H rx -> xs.length + rx.length < 64 -> abA X pins σ H kf a kS oa xs s' ->
  wpAny (model X.prog X.w) X.A.in1.in1 (forIn r PUnit.unit body) (fun _ s2 => abA X pins σ H kf a kS oa (xs ++ rx) s2) E s'
 | [], _, xs, s', hv, _, _, hK => by
   cases hv
   rw [List.forIn_nil, List.append_nil]
   exact wpAny_pure hK
 | v :: rx, _, xs, s', .cons (b := u) (l₂ := r) hu hv, hkr, hlen, ⟨H', us, e, ys, I, sm, ha, hk, oaE, okE, rv, dv⟩ => by
   rw [List.forIn_cons]
   have fa' := fa.keep (H' := H') ha
   have fk' := fk.keep (H' := H') hk
   have I' : Inv X (pins ++ [(a, oa), (kS, seqObj "list" (List.toArray us) e)]) σ H' s' := by
    refine I.yF fun p hp => ?_
    rcases List.mem_append.mp hp with hp | hp
    . exact I.pin p (List.mem_append_right _ hp)
    . rcases List.mem_cons.mp hp with rfl | hp
      . exact ⟨oaE, ha, fa.2.1, fa.2.2.1, hoa⟩
      . have : p = (kS, seqObj "list" (List.toArray us) e) := by simpa using hp
        subst this
        exact ⟨okE, hk, fk.2.1, fk.2.2.1, fun v z => by cases z⟩
   have hul : us.length = xs.length := by rw [<- rv.length, dv.length, List.length_map]
   refine wpAny_bind (wpAny_mono (JL u s' (fun s2 => abA X pins σ H kf a kS oa (xs ++ [v]) s2) (wpAny_mono (Yb F hb hr I' hu (hkr v List.mem_cons_self H' sm)) (fun kv s2 hq => ?_) fun _ _ z => z)) (fun q s2 hq => ?_) fun _ _ z => z)
   . obtain ⟨y, H2, I2, ry, GP, dy⟩ := hq
     have p1 := I2.pin (a, oa) (List.mem_append_right _ (List.mem_append_right _ List.mem_cons_self))
     have p2 := I2.pin (kS, seqObj "list" (List.toArray us) e) (List.mem_append_right _ (List.mem_append_right _ (List.mem_cons_of_mem _ List.mem_cons_self)))
     have I3 : Inv X pins σ H2 s2 := I2.BG
     refine ⟨us, e, p2.1, by simp at hlen; omega, ?_⟩
     obtain ⟨c, hc⟩ : ∃ c, (s2.heap.update kS (Obj.mapSeq (·.push kv))).get? kS = some (seqObj "list" (List.toArray (us ++ [kv])) c) := by
      have ea : (List.toArray us).push kv = List.toArray (us ++ [kv]) := by simp
      rw [<- ea]
      exact ⟨_, get?_update_seq p2.1 (·.push kv)⟩
     refine ⟨H2, us ++ [kv], c, ys ++ [y], I3.Kd (fk.keep p2.2.1), sm.trans GP, p1.2.1, p2.2.1, ?_, hc, rv.append (.cons ry .nil), ?_⟩
     . show (s2.heap.update kS _).get? a = some oa
       rw [Heap.get?_update_ne _ _ _ _ Vi]; exact p1.1
     . rw [List.map_append]
       exact (dv.keeps GP).append (.cons dy .nil)
   . obtain ⟨rfl, hq⟩ := hq
     have := Jw F hb hr hoa JL fa fk Vi rx r (xs ++ [v]) s2 hv (fun z hz => hkr z (List.mem_cons_of_mem _ hz)) (by simp at hlen ⊢; omega) hq
     rw [List.append_assoc] at this
     exact this
theorem LR {xs : List V} {p : Array Nat} {α : Type} {lt : α -> α -> Bool} {kf : V -> α} (hp : Ix xs.length p) (hu : Up (fun i j => lt (kf (xs.getD i .aS)) (kf (xs.getD j .aS))) p xs.length) : JY lt kf (p.toList.map fun i => xs.getD i .aS) xs := by
 refine ⟨?_, ?_⟩
 . have h := hp.pm.map fun i => xs.getD i .aS
   have e : (List.range xs.length).map (fun i => xs.getD i .aS) = xs := by
    refine List.ext_getElem? fun i => ?_
    rw [List.getElem?_map]
    by_cases hi : i < xs.length
    . rw [List.getElem?_range hi]; simp [hi]
    . rw [List.getElem?_eq_none (by simpa using hi), List.getElem?_eq_none (by simpa using hi)]; rfl
   rw [e] at h
   exact h
 . rw [List.pairwise_map, List.pairwise_iff_getElem]
   intro i j hi hj Jt
   have hsz : p.toList.length = xs.length := by simp [hp.sz]
   have := hu i j Jt (by omega)
   have gi : p.getD i 0 = p.toList[i] := by simp [Array.getD, show i < p.size by rw [hp.sz]; omega]
   have gj : p.getD j 0 = p.toList[j] := by simp [Array.getD, show j < p.size by rw [hp.sz]; omega]
   rw [gi, gj] at this
   exact this
theorem Ey : ∀ {xs : List V} {us : List Value} (i : Nat), Vals xs us -> RelV (xs.getD i .aS) (us.getD i Value.none)
 | _, _, _, .nil => rfl
 | _, _, 0, .cons r _ => r
 | _, _, i + 1, .cons _ t => by simpa using Ey i t
theorem DV {xs : List V} {us : List Value} (r : Vals xs us) : ∀ l : List Nat, Vals (l.map fun i => xs.getD i .aS) (l.map fun i => us.getD i Value.none)
 | [] => .nil
 | i :: l => .cons (Ey i r) (DV r l)
theorem MG {H : Hp} {g : V -> PyData} : ∀ {ys : List V} {xs : List V} {i : Nat}, c7 H ys (xs.map g) -> i < xs.length -> Dv H (ys.getD i .aS) (g (xs.getD i .aS))
 | _, [], _, _, h => by simp at h
 | _, _ :: _, 0, .cons h _, _ => h
 | _, _ :: _, i + 1, .cons _ t, hi => by simpa using MG (i := i) t (by simpa using hi)
def JQ (X : Cx) (pins : List (Addr × Obj)) (σ : St) (H : Hp) {α : Type} (lt : α -> α -> Bool) (kf : V -> α) (xs : List V) (Q : VK) : Prop :=
 ∀ a ys H', ay H H' -> H a = none -> H' a = none -> JY lt kf ys xs -> Q (.ref a) (upd H' a (.lst ys))
theorem JC {H' : Hp} {s' : Shared} {xs ys : List V} {us : List Value} {A : Around} (I : Inv X pins σ H' s') (rv : Vals ys us) (dv : c7 H' ys (xs.map fun v => .tuple [.int (kf v).1, .str (kf v).2])) :
 ac4 xs.length (fun i j => fD (kf (xs.getD i .aS)) (kf (xs.getD j .aS))) (fun z => z = s') (kas_ask X.prog X.w A (tuples' true) us) := by
 intro i j C z hi hj hz hC
 subst hz
 have one : ∀ i, i < xs.length -> ∃ x t t2, us.getD i Value.none = .ref x /\ IsTup z.heap x #[.int (kf (xs.getD i .aS)).1 t, .str (kf (xs.getD i .aS)).2 t2] := fun i hi => by
  have d := MG dv hi
  have r := Ey i rv
  generalize ys.getD i .aS = y at d r
  generalize us.getD i Value.none = u at r
  cases d with
  | tup h q =>
    have r' : u = .ref _ := r
    obtain ⟨bT, rr, tt, _⟩ := I.tuple (.of h)
    cases q with
    | cons h1 q =>
      cases q with
      | cons h2 q =>
        cases q
        cases h1; cases h2
        cases rr with
        | cons r1 rr =>
          cases rr with
          | cons r2 rr =>
            cases rr
            obtain ⟨t1, rfl⟩ := r1
            obtain ⟨t2, rfl⟩ := r2
            exact ⟨_, t1, t2, r', tt⟩
 obtain ⟨x, t, t2, e1, hx⟩ := one i hi
 obtain ⟨y, u, u2, e2, hy⟩ := one j hj
 show wpAny (model X.prog X.w) A (keyLt' (tuples' true) (us.getD i Value.none) (us.getD j Value.none)) C (fun _ _ => False) z
 rw [e1, e2]
 exact Xj hx hy (hC _ rfl)
theorem AG {H' : Hp} {s' : Shared} : ∀ {xs ys : List V} {us : List Value}, Inv X pins σ H' s' -> Vals ys us -> c7 H' ys (xs.map fun v => .tuple [.int (kf v).1, .str (kf v).2]) ->
 ∃ fs, KatTups s'.heap us fs /\ fs.length = us.length /\ ∀ v ∈ fs, Looks (model X.prog X.w) s'.heap (typeOf v) (.type "int")
 | [], _, _, I, rv, dv => by
   cases dv
   cases rv
   exact ⟨[], trivial, rfl, fun _ z => nomatch z⟩
 | x :: xs, _, _, I, rv, dv => by
   cases dv with
   | cons d dv =>
     cases rv with
     | cons r rv =>
       obtain ⟨fs, h1, h2, h3⟩ := AG I rv dv
       cases d with
       | tup h q =>
         obtain ⟨bT, rr, tt, _⟩ := I.tuple (.of h)
         cases q with
         | cons q1 q =>
           cases q with
           | cons q2 q =>
             cases q
             cases q1; cases q2
             cases rr with
             | cons r1 rr =>
               cases rr with
               | cons r2 rr =>
                 cases rr
                 obtain ⟨t1, rfl⟩ := r1
                 obtain ⟨t2, rfl⟩ := r2
                 cases r
                 obtain ⟨o, ho, hc, n, hd⟩ := tt
                 refine ⟨_ :: fs, KatTups.cons ho hc hd rfl h1, by simp [h2], fun v hv => ?_⟩
                 rcases List.mem_cons.mp hv with rfl | hv
                 . exact .now
                 . exact h3 v hv
end
section
variable {X : Cx} {pins : List (Addr × Obj)} {σ : St} {H : Hp} {s : Shared} {k : Nat} {f : Addr} {fd : FuncData} {ps : List Str} {sp : Sp} {kf : V -> Int × Str} {A : Around}
theorem IW {H' : Hp} {s' : Shared} {a kS : Addr} {e e1 : Nat} {us out : List Value} {ys : List V} {st : SortSt} {E : Value -> Shared -> Prop} {P : PySem.Fin -> Shared -> Prop} (I : Inv X pins σ H' s') (fa : iG X pins H' a) (fk : iG X pins H' kS) (Vi : a ≠ kS) (MJ : X.gL.heap.objs.size <= a)
 (oa : s'.heap.get? a = some (seqObj "list" #[] e1)) (ok : s'.heap.get? kS = some (seqObj "list" (List.toArray us) e)) (hz : us.length < 64) (abk : (arrOf st).map (·.2) = List.toArray out) (ho : out.length < 64) (hf : failedOf st = none) (rv : Vals ys out)
 (h : ∀ s2, Inv X pins σ (upd H' a (.lst ys)) s2 -> P (.done (.ret .none)) s2) : wpAny (model X.prog X.w) A (ksk_tail a false e1 (.ref kS) st) P E s' := by
 have hsl : (64 : Nat) <= sizeLine := by decide
 unfold ksk_tail
 dsimp only
 rw [abk]
 refine wpAny_bind (listUpdate_at ok rfl ?_ (by rw [List.size_toArray]; omega) (Nat.zero_le _))
 refine wpAny_bind (wpAny_letGo ?_)
 have oa1 : (s'.heap.update kS (Obj.mapSeq fun _ => (#[] : Array Value))).get? a = some (seqObj "list" #[] e1) := by rw [Heap.get?_update_ne _ _ _ _ Vi]; exact oa
 have I1 : Inv X pins σ H' { s' with heap := s'.heap.update kS (Obj.mapSeq fun _ => (#[] : Array Value)) } := I.Kd fk
 refine wpAny_bind (seqEpoch_at oa1 rfl ?_)
 refine wpAny_bind (listUpdate_at oa1 rfl ?_ (Nat.zero_le _) (by show (List.toArray out).size <= _; rw [List.size_toArray]; omega))
 rw [hf]
 simp only [bne_self_eq_false, Bool.false_eq_true, if_false]
 refine wpAny_pure (h _ ?_)
 have I2 := I1.Kd (f := Obj.mapSeq fun _ => List.toArray out) fa
 exact I2.SY fa MJ (by rw [rv.length]; omega) rv (get?_update_seq oa1 fun _ => List.toArray out)
theorem Vc {H' : Hp} {s' : Shared} {a kS : Addr} {e e1 : Nat} {us vs : List Value} {xs ys : List V} {Q : VK} {E : Value -> Shared -> Prop} {P : PySem.Fin -> Shared -> Prop} (sm : ay H H') (hHa : H a = none) (I : Inv X pins σ H' s') (fa : iG X pins H' a) (fk : iG X pins H' kS) (Vi : a ≠ kS) (MJ : X.gL.heap.objs.size <= a)
 (oa : s'.heap.get? a = some (seqObj "list" #[] e1)) (ok : s'.heap.get? kS = some (seqObj "list" (List.toArray us) e)) (h64 : xs.length < 64) (rx : Vals xs vs) (ry : Vals ys us) (dv : c7 H' ys (xs.map fun v => .tuple [.int (kf v).1, .str (kf v).2]))
 (fin : JQ X pins σ H fD kf xs Q) (h : ∀ s2, EP X pins σ Q (.ref a) s2 -> P (.done (.ret .none)) s2) : wpAny (model X.prog X.w) A (ksk_end a false vs.toArray e1 (.ref kS) (List.toArray us)) P E s' := by
 have lx := rx.length
 have ly := ry.length
 have ld := dv.length
 rw [List.length_map] at ld
 unfold ksk_end
 simp only [Bool.false_eq_true, if_false]
 by_cases h2 : vs.toArray.size < 2
 . rw [if_pos h2, if_pos h2]
   refine wpAny_bind (wpAny_pure ?_)
   rw [StateT.run_pure]
   refine wpAny_bind (wpAny_pure ?_)
   refine IW (out := vs) (ys := xs) I fa fk Vi MJ oa ok (by omega) ?_ (by omega) rfl rx (fun s2 I2 => h s2 ⟨.ref a, _, I2, rfl, fin a xs H' sm hHa fa.1 ⟨List.Perm.refl _, ?_⟩⟩)
   . show ((List.toArray us).zip vs.toArray).map (·.2) = List.toArray vs
     apply Array.toList_inj.mp
     have : us.length = vs.length := by omega
     simp [List.map_snd_zip, this]
   . rw [List.size_toArray] at h2
     match xs, lx with
     | [], _ => exact .nil
     | [_], _ => exact List.pairwise_singleton _ _
     | _ :: _ :: _, lx => simp at lx; omega
 . rw [if_neg h2, if_neg h2]
   rw [List.size_toArray] at h2
   obtain ⟨fs, k1, k2, k3⟩ := AG I ry dv
   refine wpAny_bind (kat_kind k1 (by omega) k3 (by decide) ?_)
   have hxy : us.length = vs.length := by omega
   refine wpAny_bind (wpAny_mono (kat_run (Q := fun HN s2 => s2 = s' /\ ∃ p : Array Nat, Ix xs.length p /\ arrOf HN = p.map (kas_item ((List.toArray us).zip (List.toArray vs))) /\ failedOf HN = none /\ Up (fun i j => fD (kf (xs.getD i .aS)) (kf (xs.getD j .aS))) p xs.length)
    (G := fun p s2 => s2 = s' /\ Ix xs.length p /\ Up (fun i j => fD (kf (xs.getD i .aS)) (kf (xs.getD j .aS))) p xs.length) hxy (by omega) (by omega) (fun p HN s2 a1 a2 a3 ⟨a4, a5, a6⟩ => ⟨a4, p, a5, a2, a3, a6⟩) ?_) ?_ fun _ _ z => z)
   . rw [show vs.length = xs.length by omega]
     refine OD (lt := fun i j => fD (kf (xs.getD i .aS)) (kf (xs.getD j .aS))) (S := fun z => z = s') ⟨fun _ => HG _, fun _ _ => Ln, fun _ _ _ => Lw⟩ (JC I ry dv) (by omega) (fun p s2 hs hp hu => ⟨hs, hp, hu⟩) s' rfl
   . rintro ⟨⟨⟩, HN⟩ s2 ⟨rfl, p, hp, har, hf, hu⟩
     dsimp only
     refine IW (out := p.toList.map fun i => vs.getD i Value.none) (ys := p.toList.map fun i => xs.getD i .aS) I fa fk Vi MJ oa ok (by omega) (kat_snds hxy har) (by simp [hp.sz]; omega) hf (DV rx _) (fun s3 I3 => h s3 ⟨.ref a, _, I3, rfl, fin a _ H' sm hHa fa.1 (LR hp hu)⟩)
theorem Og {l : Addr} {xs : List V} {Q : VK} {E : Value -> Shared -> Prop} (I : Inv X pins σ H s) (hl : jj X.K H l xs) (h64 : xs.length < 64) (F : aL X.prog X.w X.K X.mg X.base eU k f fd ps sp) (hb : Binds X.K fd ps []) (hr : cF (k + 2) X.A)
 (hk : N8 sp kf H xs) (fin : JQ X pins σ H fD kf xs Q) : wpAny (model X.prog X.w) X.A (call (.builtin "sorted") [.ref l] [(Str.ofString "key", .ref f)]) (EP X pins σ Q) E s := by
 have hsl : (64 : Nat) <= sizeLine := by decide
 obtain ⟨vs, rv, p, hz⟩ := I.list hl
 have lx := rv.length
 refine call_function_entry_kw kind_sorted plain_sorted entry_sorted (ksk_s1 _ _) ?_
 unfold Builtin.«sorted»
 refine wpAny_bind (m := checkCount "sorted" 1 1 _) (wpAny_pure ?_)
 refine wpAny_bind (collect_list p.isList ?_ (by omega))
 refine wpAny_bind (wpAny_newList ?_ (by omega))
 have fp0 : iG X pins H s.heap.objs.size := I.Er (Nat.le_refl _) (I.bD.fresh (Nat.le_refl _))
 have I2 : Inv X pins σ H { s with heap := (s.heap.push (seqObj "list" #[] 0)).update s.heap.objs.size (Obj.mapSeq (· ++ vs.toArray)) } := (I.Fj (o := seqObj "list" #[] 0)).Kd fp0
 have hsz : ((s.heap.push (seqObj "list" #[] 0)).update s.heap.objs.size (Obj.mapSeq (· ++ vs.toArray))).objs.size = s.heap.objs.size + 1 := by rw [Heap.size_update, size_push']
 generalize hG : (s.heap.push (seqObj "list" #[] 0)).update s.heap.objs.size (Obj.mapSeq (· ++ vs.toArray)) = h2 at I2 hsz ⊢
 have Oc : (h2.push (seqObj "list" vs.toArray 0)).get? h2.objs.size = some (seqObj "list" vs.toArray 0) := Heap.get?_push_size _ rfl
 have I3 : Inv X pins σ H { s with heap := h2.push (seqObj "list" vs.toArray 0) } := I2.Fj
 have fa : iG X pins H h2.objs.size := I2.Er (Nat.le_refl _) (I2.bD.fresh (Nat.le_refl _))
 have MJ : X.gL.heap.objs.size <= h2.objs.size := I2.sz
 show wpAny _ _ _ _ _ { s with heap := h2.push (seqObj "list" vs.toArray 0) }
 generalize h2.objs.size = a at *
 refine wpAny_bind (wpAny_holding (wpAny_call_entry_kw slot_list_sort ⟨_, Oc, rfl⟩ entry_list_sort ?body (ksk_l1 _ _)))
 case body =>
  show wpAny (model X.prog X.w) X.A.in1.in1 (Builtin.«list.sort» ⟨[.ref a], [(Str.ofString "key", .ref f)]⟩) _ _ _
  rw [ksk_t1]
  generalize h2.push (seqObj "list" vs.toArray 0) = h3 at *
  unfold ksk_tree
  refine wpAny_bind (listItems_at Oc rfl ?_)
  refine wpAny_bind (listUpdate_at Oc rfl ?_ (by rw [List.size_toArray]; omega) (Nat.zero_le _))
  have I4 : Inv X pins σ H { s with heap := h3.update a (Obj.mapSeq fun _ => (#[] : Array Value)) } := I3.Kd fa
  obtain ⟨e1, oa⟩ : ∃ e1, (h3.update a (Obj.mapSeq fun _ => (#[] : Array Value))).get? a = some (seqObj "list" #[] e1) := ⟨_, get?_update_seq Oc fun _ => #[]⟩
  generalize h3.update a (Obj.mapSeq fun _ => (#[] : Array Value)) = h4 at *
  refine wpAny_bind (seqEpoch_at oa rfl ?_)
  refine wpAny_bind (wpAny_newTuple ?_ (by show vs.length <= _; omega))
  have I5 : Inv X pins σ H { s with heap := h4.push (seqObj "tuple" vs.toArray 0) } := I4.Fj
  have oa5 : (h4.push (seqObj "tuple" vs.toArray 0)).get? a = some (seqObj "list" #[] e1) := Heap.get?_push_of_some _ oa
  show wpAny _ _ _ _ _ { s with heap := h4.push (seqObj "tuple" vs.toArray 0) }
  generalize h4.push (seqObj "tuple" vs.toArray 0) = h5 at *
  refine wpAny_bind (wpAny_newList ?_ (Nat.zero_le _))
  have I6 : Inv X pins σ H { s with heap := h5.push (seqObj "list" #[] 0) } := I5.Fj
  have fk : iG X pins H h5.objs.size := I5.Er (Nat.le_refl _) (I5.bD.fresh (Nat.le_refl _))
  have Yv : (h5.push (seqObj "list" #[] 0)).get? a = some (seqObj "list" #[] e1) := Heap.get?_push_of_some _ oa5
  have ok6 : (h5.push (seqObj "list" #[] 0)).get? h5.objs.size = some (seqObj "list" #[] 0) := Heap.get?_push_size _ rfl
  have Vi : a ≠ h5.objs.size := Nat.ne_of_lt (Heap.lt_size oa5)
  show wpAny _ _ _ _ _ { s with heap := h5.push (seqObj "list" #[] 0) }
  show wpAny _ _ (holding [_, .ref h5.objs.size] (ksk_rest a (.ref f) false vs.toArray e1 (.ref h5.objs.size))) _ _ _
  generalize h5.objs.size = kS at *
  generalize h5.push (seqObj "list" #[] 0) = h6 at *
  refine wpAny_holding ?_
  unfold ksk_rest
  refine wpAny_bind (wpAny_rule ?_)
  first
   | rw [List.forIn_toArray]
   | (rw [<- Array.forIn_toList]; simp only [List.toList_toArray])
  refine wpAny_bind (wpAny_mono (Jw (kf := kf) F hb hr (oa := seqObj "list" #[] e1) (fun v z => by cases z) (fun x s' R hx => ?_) fa fk Vi xs vs [] { s with heap := h6 } rv hk (by simpa using h64) ⟨H, [], 0, [], I6, ay.refl _, fa.1, fk.1, Yv, ok6, .nil, .nil⟩) (fun _ s7 hK => ?_) fun _ _ z => z)
  . refine wpAny_bind (wpAny_attempt (wpAny_mono hx (fun kv s2 hq => ?_) fun _ _ z => z.elim))
    obtain ⟨us, e, ok, lK, hR⟩ := hq
    dsimp only
    refine wpAny_bind (listUpdate_at ok rfl ?_ (by rw [List.size_toArray]; omega) (by rw [Array.size_push, List.size_toArray]; omega))
    exact wpAny_pure ⟨rfl, hR⟩
  . obtain ⟨H', us, e, ys, I7, sm, ha7, Xh, oa7, ok7, ry, dv⟩ := hK
    try dsimp only
    refine wpAny_bind (listItems_at ok7 rfl ?_)
    refine Vc sm fa.1 I7 (fa.keep ha7) (fk.keep Xh) Vi MJ oa7 ok7 h64 rv ry (by simpa using dv) fin (fun s8 h8 => ⟨_, rfl, wpAny_pure ⟨_, rfl, h8⟩⟩)
end
def SV (sp : Sp) (K : PySem.W.Frag) (vs : List V) (H : Hp) (Q : VK) : Prop := ∃ a xs kf, vs = [.ref a] /\ jj K H a xs /\ xs.length < 64 /\ N8 sp kf H xs /\ ∀ l ys H', ay H H' -> H l = none -> H' l = none -> JY fD kf ys xs -> Q (.ref l) (upd H' l (.lst ys))
def Sz (K : PySem.W.Frag) (sp : Sp) (t : TA) : TE := fun σ H Q => t σ H fun vs H1 => SV sp K vs H1 Q
section
variable {X : Cx} {k : Nat} {f : Addr} {ps : List Str} {sp : Sp} {e : Expr} {t : TA} {x : Str} {p p2 pos abE : Pos}
theorem RT (c : dE X.prog X.w X.K X.mg X.base k f ps [] sp) (hr : cF (k + 2) X.A) (hg : Gl X "sorted") (hm : X.mg "sorted" = none) (hf : PE X (.Name x p2) (tC (.ref f))) (ha : PA X [e] t)
 (DI : backTo pos (starEach [e] X.env) = (false, eval e X.env) :: backTo pos (starEach [] X.env) := by rfl) (Bp : (backTo pos (starEach [e] X.env)).any (·.1) = false := by rfl) : PE X (.Call (.Name "sorted" p) [e] [⟨some "key", .Name x p2, abE⟩] pos) (Sz X.K sp t) := by
 intro pins s σ H Q I h
 obtain ⟨fd, ds, F, hb, hd⟩ := c.ex
 cases hd
 refine wpAny_Call_Name_kw (AO I hg hm boot_sorted ?_)
 refine callWith_kw (dF (ha pos pins s σ H _ I h) fun us s1 ⟨vs, H1, I1, r1, q1⟩ => ?_) DI Bp
 refine dF (VJ hf abm pos pins s1 σ H1 (fun zs H2 => zs = [.ref f] /\ H2 = H1) I1 ⟨rfl, rfl⟩) fun ws s2 ⟨zs, H2, I2, rz, q2, q3⟩ => ?_
 subst q2; subst q3
 obtain ⟨a, xs, kf, e1, hl, h64, hk, fin⟩ := q1
 subst e1
 obtain ⟨u, rfl, ru⟩ := vals1 r1
 obtain ⟨w', rfl, NZ⟩ := vals1 rz
 have e1 : u = .ref a := ru
 have e2 : w' = .ref f := NZ
 subst e1; subst e2
 exact Og I2 hl h64 F hb hr hk (fun a ys H' => fin a ys H')
end
end L2
namespace L2
open PySem PySem.Spec PyProof.Rows
theorem HY {scope : Scope} {env : Env} (h : ∀ x ∈ scope.names, x.2 = .free -> ∃ c, env.cells.lookup x.1 = some c) :
 ∃ cl, closureFor scope env = pure cl /\ (∀ x c, cl.lookup x = some c -> env.cells.lookup x = some c) /\ ∀ x ∈ scope.names, x.2 = .free -> ∃ c, cl.lookup x.1 = some c := by
 have key : ∀ (l : List (Str × NameKind)) (acc : List (Str × Addr)), (∀ x ∈ l, x.2 = .free -> ∃ c, env.cells.lookup x.1 = some c) -> (∀ x c, acc.lookup x = some c -> env.cells.lookup x = some c) ->
  ∃ cl, (forIn l acc (fun (x : Str × NameKind) (r : List (Str × Addr)) => (match x with
    | (name, kind) => if (kind == NameKind.free) = true then (do let c <- cellOf env name; pure (ForInStep.yield ((name, c) :: r))) else pure (ForInStep.yield r) : Sem (ForInStep (List (Str × Addr))))) : Sem _) = pure cl /\
    (∀ x c, cl.lookup x = some c -> env.cells.lookup x = some c) /\ (∀ x ∈ l, x.2 = .free -> ∃ c, cl.lookup x.1 = some c) /\ ∀ x, (∃ c, acc.lookup x = some c) -> ∃ c, cl.lookup x = some c := by
  intro l
  induction l with
  | nil => intro acc _ ha; exact ⟨acc, rfl, ha, fun _ z => (nomatch z), fun _ z => z⟩
  | cons p r ih =>
    intro acc hl ha
    obtain ⟨n, k⟩ := p
    rw [List.forIn_cons]
    by_cases hk : k = .free
    . subst hk
      obtain ⟨c, hc⟩ := hl (n, .free) List.mem_cons_self rfl
      have JE : cellOf env n = pure c := by unfold cellOf; rw [hc]
      obtain ⟨cl, e, h1, h2, h3⟩ := ih ((n, c) :: acc) (fun x hx => hl x (List.mem_cons_of_mem _ hx)) (fun x d hd => by
       rw [List.lookup_cons] at hd
       by_cases hx : x = n
       . subst hx; rw [beq_self_eq_true] at hd; cases hd; exact hc
       . rw [beq_eq_false_iff_ne.mpr hx] at hd; exact ha x d hd)
      refine ⟨cl, ?_, h1, fun x hx hf => ?_, fun x ⟨d, hd⟩ => h3 x ?_⟩
      . simp only [beq_self_eq_true, if_true, JE]
        exact e
      . rcases List.mem_cons.mp hx with rfl | hx
        . exact h3 n ⟨c, by rw [List.lookup_cons, beq_self_eq_true]⟩
        . exact h2 x hx hf
      . rw [List.lookup_cons]
        by_cases hx : x = n
        . subst hx; rw [beq_self_eq_true]; exact ⟨c, rfl⟩
        . rw [beq_eq_false_iff_ne.mpr hx]; exact ⟨d, hd⟩
    . obtain ⟨cl, e, h1, h2, h3⟩ := ih acc (fun x hx => hl x (List.mem_cons_of_mem _ hx)) ha
      refine ⟨cl, ?_, h1, fun x hx hf => ?_, h3⟩
      . have : (k == NameKind.free) = false := by simpa using hk
        simp only [this, Bool.false_eq_true, if_false]
        exact e
      . rcases List.mem_cons.mp hx with rfl | hx
        . exact absurd hf hk
        . exact h2 x hx hf
 obtain ⟨cl, e, h1, h2, _⟩ := key scope.names [] h (fun _ _ z => by simp at z)
 refine ⟨cl, ?_, h1, h2⟩
 unfold closureFor
 show (forIn scope.names [] _ >>= fun cs => pure cs) = _
 refine Eq.trans (congrArg (· >>= _) e) rfl
theorem rX {env : Env} {scope : Scope} {x : Str} : (relabel scope env).names.lookup x = (scope.names.lookup x).map fun k => if (k == NameKind.free && env.scope.kind == .function && env.kindOf x == some .cell) = true then .cell else k := by
 unfold relabel
 show List.lookup x (List.map _ scope.names) = _
 generalize scope.names = l
 induction l with
 | nil => rfl
 | cons p r ih =>
   obtain ⟨n, k⟩ := p
   rw [List.map_cons]
   dsimp only
   by_cases hx : x = n
   . subst hx
     by_cases hc : (k == NameKind.free && env.scope.kind == .function && env.kindOf x == some .cell) = true
     . rw [if_pos hc, List.lookup_cons, List.lookup_cons, beq_self_eq_true]; simp only [Option.map_some, if_pos hc]
     . rw [if_neg hc, List.lookup_cons, List.lookup_cons, beq_self_eq_true]; simp only [Option.map_some, if_neg hc]
   . have hb : (x == n) = false := beq_eq_false_iff_ne.mpr hx
     by_cases hc : (k == NameKind.free && env.scope.kind == .function && env.kindOf n == some .cell) = true
     . rw [if_pos hc, List.lookup_cons, List.lookup_cons, hb]; exact ih
     . rw [if_neg hc, List.lookup_cons, List.lookup_cons, hb]; exact ih
theorem mem_lookup {α : Type} {x : Str} {k : α} : ∀ {l : List (Str × α)}, l.lookup x = some k -> (x, k) ∈ l
 | [], h => by simp at h
 | (n, j) :: r, h => by
   rw [List.lookup_cons] at h
   by_cases hx : x = n
   . subst hx; rw [beq_self_eq_true] at h; cases h; exact List.mem_cons_self
   . rw [beq_eq_false_iff_ne.mpr hx] at h; exact List.mem_cons_of_mem _ (mem_lookup h)
def lR (X : Cx) (N : List Str) (scope : Scope) (cl : List (Str × Addr)) (C : Addr) (s : Shared) (H : Hp) (fp : List Addr) : Cx :=
 { X with N := N, gL := s, MX := H, env := compEnvC scope cl C X.env, outer := X.stack, stack := X.stack, ex := fp, fn := fun _ => false, pn := [], xe := fun _ _ => False }
structure yB (X : Cx) (T M : List Str) (scope : Scope) : Prop where
 kind : scope.kind = .function
 cell : ∀ y ∈ scope.names, y.2 ≠ .cell
 names : ∀ y ∈ scope.names, y.2 = .local -> scope.names.lookup y.1 = some .local
 free : ∀ y ∈ scope.names, y.2 = .free -> X.env.scope.names.lookup y.1 = some .cell \/ X.env.scope.names.lookup y.1 = some .free
 len : M.length = X.N.length
 old : ∀ (i : Nat) x, M[i]? = some x -> X.N[i]? = some x /\ scope.names.lookup x = some .free \/ scope.names.lookup x = none
section
variable {X : Cx} {pins : List (Addr × Obj)} {σ : St} {H : Hp} {s : Shared} {T M : List Str} {scope : Scope} {cl : List (Str × Addr)} {fp : List Addr}
theorem aeT {C : Addr} (I : Inv X pins σ H s) (hN : yB X T M scope) (h1 : ∀ x c, cl.lookup x = some c -> X.env.cells.lookup x = some c) (h2 : ∀ x ∈ scope.names, x.2 = .free -> ∃ c, cl.lookup x.1 = some c)
 (hC : s.heap.objs.size <= C) (hf : ∀ b ∈ fp, iG X pins H b) (hfe : ∀ b ∈ fp, b < s.heap.objs.size) : (lR X (T ++ M) scope cl C s H fp).Ok where
 mod := I.ok.mod
 kind := hN.kind
 glob := I.ok.glob
 blt := I.ok.blt
 above := hC
 inj := fun x y c e1 e2 => I.ok.inj x y c (h1 x c e1) (h1 y c e2)
 has := fun x hx => by
  have Df : (relabel scope X.env).names.lookup x = some .cell \/ (relabel scope X.env).names.lookup x = some .free := hx
  rw [rX] at Df
  cases e : scope.names.lookup x with
  | none => rw [e] at Df; simp at Df
  | some k =>
    have hm := mem_lookup e
    have hk : k = .free := by
     rw [e] at Df
     simp only [Option.map_some, Option.some.injEq] at Df
     by_cases hf : k = .free
     . exact hf
     . have : (k == NameKind.free) = false := by simpa using hf
       simp only [this, Bool.false_and, Bool.false_eq_true, if_false] at Df
       rcases Df with Df | Df
       . exact absurd Df (hN.cell _ hm)
       . exact Df
    exact h2 (x, k) hm hk
 cab := fun _ _ z => by cases z
 hd := I.ok.hd
 frames := I.ok.frames
 stk := .inl rfl
 exf := fun b hb => ⟨Nat.ne_of_lt (Nat.lt_of_lt_of_le (hfe b hb) hC), fun x c e => (hf b hb).2.2.2.2.1 x c (h1 x c e)⟩
 bs := I.bs
 RP := Nat.le_trans I.ok.RP I.sz
 Qu := fun b o e hb => by
  rcases (hf b hb).2.2.2.1 with z | z
  . exact I.ok.Qu b o e z
  . exact absurd (Nat.lt_of_lt_of_le (Heap.lt_size e) (Nat.le_trans I.ok.RP z)) (Nat.lt_irrefl _)
 Qy := fun b hb z => by
  rcases List.mem_cons.mp (I.Nu b z) with e | e
  . exact (hf b hb).2.1 e
  . exact (hf b hb).2.2.1 e
 CA := I.stack
 VE := I.O3
theorem TF {C : Addr} {h₁ : Heap} {tk : Nat} (I : Inv X pins σ H s) (hN : yB X T M scope) (h1 : ∀ x c, cl.lookup x = some c -> X.env.cells.lookup x = some c) (h2 : ∀ x ∈ scope.names, x.2 = .free -> ∃ c, cl.lookup x.1 = some c)
 (hC : s.heap.objs.size <= C) (hf : ∀ b ∈ fp, iG X pins H b) (hfe : ∀ b ∈ fp, b < s.heap.objs.size)
 {m : Str -> Option Value} (hn : h₁.Ns C m) (old : ∀ b o, s.heap.get? b = some o -> h₁.get? b = some o) :
 Inv (lR X (T ++ M) scope cl C s H fp) [] (List.replicate T.length none ++ σ) H { s with heap := h₁, toks := tk } where
 ok := aeT I hN h1 h2 hC hf hfe
 os := rfl
 bare := I.bare
 base := Un.kept old
 loc := by
  refine ⟨m, hn, fun i x v e1 e2 e3 => ?_⟩
  have e1' : (T ++ M)[i]? = some x := e1
  by_cases hi : i < T.length
  . rw [List.getElem?_append_left (by simpa using hi), List.getElem?_replicate, if_pos hi] at e2
    cases e2
  . have YC : T.length <= i := Nat.le_of_not_lt hi
    rw [List.getElem?_append_right YC] at e1'
    rw [List.getElem?_append_right (by simpa using YC), List.length_replicate] at e2
    have vis : Vis (relabel scope X.env) x := e3
    rcases hN.old _ x e1' with ⟨hx, hfr⟩ | ML
    . obtain ⟨m0, MJ, hl0⟩ := I.loc
      have hk := hN.free _ (mem_lookup hfr) rfl
      have Q7 : X.env.scope.names.lookup x = some .cell \/ X.env.scope.names.lookup x = some .free := hk
      obtain ⟨u, r, l⟩ := hl0 _ x v hx e2 (.inr Q7)
      refine ⟨u, r, .inr ?_⟩
      rcases l with ⟨z, _⟩ | ⟨_, c, hc, JE⟩
      . have z' : X.env.scope.names.lookup x = some .local := z
        rw [z'] at Q7; rcases Q7 with q | q <;> cases q
      . obtain ⟨c', Vm⟩ := h2 _ (mem_lookup hfr) rfl
        have : c' = c := by have := h1 _ _ Vm; rw [hc] at this; exact (Option.some.inj this).symm
        subst this
        refine ⟨?_, c', Vm, ?_⟩
        . show (relabel scope X.env).names.lookup x = some .cell \/ (relabel scope X.env).names.lookup x = some .free
          rw [rX, hfr]
          simp only [Option.map_some, Option.some.injEq]
          by_cases hc : (NameKind.free == NameKind.free && X.env.scope.kind == .function && X.env.kindOf x == some .cell) = true
          . left; rw [if_pos hc]
          . right; rw [if_neg hc]
        . obtain ⟨o, ho, hd⟩ := JE
          exact ⟨o, old _ _ ho, hd⟩
    . unfold Vis at vis
      rw [rX, ML] at vis
      simp at vis
 cell := fun x c e => by
  obtain ⟨v, o, ho, hd⟩ := I.cell x c (h1 x c e)
  exact ⟨v, o, old _ _ ho, hd⟩
 free := I.bD.fresh hC
 mP := fun x c e => I.mP x c (h1 x c e)
 pin := fun p hp => nomatch hp
 bD := I.bD.kept old
 len := by
  show (List.replicate T.length none ++ σ).length = (T ++ M).length
  rw [List.length_append, List.length_append, List.length_replicate, hN.len, I.len]
theorem WO {C D : Addr} {s' : Shared} {σ' : St} {H' : Hp} {acc : List V} {bT : List Value} {n : Nat} (I : Inv X pins σ H s) (I' : Inv (lR X (T ++ M) scope cl C s H fp) [] σ' H' s')
 (hf : ∀ b ∈ fp, iG X pins H b) (hD : s.heap.objs.size <= D) (hn : H' D = none) (hl : acc.length <= sizeLine) (r : Vals acc bT) (hd : s'.heap.get? D = some { cls := .type "list", data := .seq bT.toArray n }) :
 Inv X pins σ (upd H' D (.lst acc)) s' := by
 have U : Un (MB X.stack) fp H H' s.heap s'.heap := I'.base
 have neD : ∀ b o, s.heap.get? b = some o -> b ≠ D := fun b o e => Nat.ne_of_lt (Nat.lt_of_lt_of_le (Heap.lt_size e) hD)
 have neT : ∀ b u, H' b = some u -> b ≠ D := fun b u e => aA e hn
 refine I.adS (ch := fp) I'.os ⟨U.keep, U.slot, fun b o e1 e2 e3 => ?_, U.there, fun b xs e => ?_, fun b o u e => ?_, fun b ps e => ?_⟩ (fun b u e => ?_) I'.bare (fun b hb => ⟨(hf b hb).2.2.2.1, (hf b hb).2.1, (hf b hb).2.2.2.2.1, (hf b hb).2.2.2.2.2⟩)
 . rw [aq (neD b o e1)]; exact U.free b o e1 e2 e3
 . rw [aq (neT b _ (U.Du b xs e))]; exact U.Du b xs e
 . rw [aq (neT b _ (U.yL b o u e))]; exact U.yL b o u e
 . obtain ⟨more, q⟩ := U.FW b ps e
   exact ⟨more, by rw [aq (neT b _ q)]; exact q⟩
 . by_cases hb : b = D
   . subst hb
     rw [ao] at e
     cases e
     exact ⟨hl, bT, n, r, hd⟩
   . rw [aq hb] at e
     exact (I'.bD b u e).J4 (fun c v _ q => q) (fun c q => by rw [aq (neT c _ q)]; exact q) fun c xs q => by rw [aq (neT c _ q)]; exact q
end
theorem Oa {prog : Program} {w : World} {A : Around} {R : Result -> Shared -> Prop} {s : Shared} {elt target iter : Expr} {ifs : List Expr} {scope : Scope} {pos : Pos} {it acc : Value} {env : Env} (I : Nat -> Shared -> Prop)
 (turn : ∀ n s, I n s -> wpAny (model prog w) A (pyNext it) (fun r s₁ => match r with
  | none => R (.ok .next) s₁
  | some v => wpAny (model prog w) A (letOwnedTupleGo target it v) (fun _ Yi => wpAny (model prog w) A (assign target env v) (fun _ s₂ =>
   wpAny (model prog w) A (forIn ifs true fun c r => if r = true then do let ok <- isTrue c env (eval c env); pure (ForInStep.yield ok) else pure (ForInStep.yield r)) (fun ok s₃ =>
    if ok = true then wpAny (model prog w) A (eval elt env) (fun x s₄ =>
     wpAny (model prog w) A (call (.builtin "list.append") [acc, x]) (fun _ s₅ => ∃ m, m < n /\ I m s₅) (fun _ _ => False) s₄) (fun _ _ => False) s₃
    else ∃ m, m < n /\ I m s₃) (fun _ _ => False) s₂) (fun _ _ => False) Yi) (fun _ _ => False) s₁) (fun _ _ => False) s)
 (n : Nat) (h : I n s) :
 codeAny (model prog w) A (.compLoop (.ListComp elt [⟨target, iter, ifs, 0⟩] scope pos) 0 it acc env) R s := by
 refine codeAny_loop rfl I (fun n s hI => ?_) n h
 show wpAny _ A ((compTurn (.ListComp elt [⟨target, iter, ifs, 0⟩] scope pos) 0 it acc env).onRaise (fun x => do noteFrame x env; theTreesLotGoes x)) _ _ s
 refine wpAny_noted ?_
 rw [compTurn_list]
 refine wpAny_bind (wpAny_standAt (wpAny_bind (wpAny_mono (turn n s hI) (fun r s₁ h₁ => ?_) fun _ _ h' => h'.elim)))
 cases r with
 | none => exact wpAny_pure h₁
 | some v =>
   refine wpAny_bind (wpAny_mono h₁ (fun _ Yi aeF => ?_) fun _ _ h' => h'.elim)
   refine wpAny_bind (wpAny_mono aeF (fun _ s₂ h₂ => wpAny_bind (wpAny_mono h₂ (fun ok s₃ h₃ => ?_) fun _ _ h' => h'.elim)) fun _ _ h' => h'.elim)
   cases ok with
   | false => exact wpAny_pure ⟨rfl, h₃⟩
   | true =>
     exact wpAny_bind (wpAny_bind (wpAny_mono h₃ (fun x s₄ h₄ => wpAny_bind (wpAny_mono h₄ (fun _ s₅ h₅ => wpAny_pure (wpAny_pure ⟨rfl, h₅⟩)) fun _ _ h' => h'.elim)) fun _ _ h' => h'.elim))
def PIf (X : Cx) (ifs : List Expr) (t : TT) : Prop :=
 ∀ (pins : List (Addr × Obj)) (s : Shared) (σ : St) (H : Hp) (Q : Bool -> Hp -> Prop), Inv X pins σ H s -> t σ H Q ->
   wpAny (model X.prog X.w) X.A (forIn ifs true fun c r => if r = true then do let ok <- isTrue c X.env (eval c X.env); pure (ForInStep.yield ok) else pure (ForInStep.yield r)) (TP X pins σ Q) X.xe s
def agV : TT := fun _ H Q => Q true H
theorem Gy {X : Cx} : PIf X [] agV := fun _ _ _ H _ I h => wpAny_tests_nil ⟨H, I, h⟩
theorem Gs {X : Cx} {c : Expr} {t : TT} (h : PT X c t) : PIf X [c] t := fun pins s σ H Q I q => wpAny_tests_one (h pins s σ H Q I q)
def LCW (k : Nat) (g : TG) (tc : TT) (te : TE) (Fin : List V -> Hp -> Prop) (σ : St) (J : It) (H1 : Hp) : Prop :=
 ∃ W : Nat -> Nat -> List V -> Hp -> Prop, (∃ m, W 0 m [] H1) /\ ∀ i m acc H, W i m acc H ->
   (J.stop i H /\ Fin acc H) \/ (J.go i H /\ acc.length < sizeLine /\ ∀ x H', J.Vj i H x H' -> g x (List.replicate k none ++ σ) H' fun σ2 H2 => tc σ2 H2 fun b H3 =>
    if b = true then te σ2 H3 fun y H4 => ∃ m', m' < m /\ W (i + 1) m' (acc ++ [y]) H4 else ∃ m', m' < m /\ W (i + 1) m' acc H3)
section
variable {X : Cx} {pins : List (Addr × Obj)} {σ : St} {H : Hp} {s : Shared} {T M : List Str} {scope : Scope} {cl : List (Str × Addr)} {fp : List Addr} {g : TG} {tc : TT} {te : TE} {tg elt iter : Expr} {ifs : List Expr} {pos : Pos}
theorem Inv.forget {X : Cx} {pins : List (Addr × Obj)} {σ σ' : St} {H : Hp} {s : Shared} (I : Inv X pins σ' H s) (k : Nat) (hk : k + σ.length = σ'.length) (h : σ'.drop k = σ) : Inv X pins (List.replicate k none ++ σ) H s := by
 refine I.weak (by simp [hk]) (fun i v e => ?_)
 by_cases hi : i < k
 . rw [List.getElem?_append_left (by simpa using hi), List.getElem?_replicate, if_pos hi] at e; cases e
 . rw [List.getElem?_append_right (by simpa using hi), List.length_replicate, <- h, List.getElem?_drop] at e
   have : k + (i - k) = i := by omega
   rw [this] at e; exact e
theorem Tj {it : Addr} {tn : Nat -> Heap -> Prop} {J : It} {RR : Value -> Addr -> Result -> Shared -> Prop} {Fin : List V -> Hp -> Prop} {E : Value -> Shared -> Prop}
 (hN : yB X T M scope) (Jr : X.calm = true) (h1 : ∀ x c, cl.lookup x = some c -> X.env.cells.lookup x = some c) (h2 : ∀ x ∈ scope.names, x.2 = .free -> ∃ c, cl.lookup x.1 = some c)
 (hg : ∀ cl C s H fp, PG (lR X (T ++ M) scope cl C s H fp) tg g) (hgk : ∀ v H Q, g v (List.replicate T.length none ++ σ) H Q -> g v (List.replicate T.length none ++ σ) H fun σ2 H2 => Q σ2 H2 /\ T.length + σ.length = σ2.length /\ σ2.drop T.length = σ)
 (hc : ∀ cl C s H fp, PIf (lR X (T ++ M) scope cl C s H fp) ifs tc) (he : ∀ cl C s H fp, PE (lR X (T ++ M) scope cl C s H fp) elt te)
 (I : Inv X pins σ H s) (Tn : Turn X.prog X.w X.K tg J fp it tn) (st : tn 0 s.heap) (hf : ∀ b ∈ fp, iG X pins H b) (hW : LCW T.length g tc te Fin σ J H)
 (hR : ∀ D C s' H' acc m, s.heap.objs.size <= D -> s.heap.objs.size <= C -> C ≠ D -> s'.heap.Ns C m -> H' C = none -> H' D = none -> Inv X pins σ (upd H' D (.lst acc)) s' -> Fin acc H' -> RR (.ref D) C (.ok .next) s') :
 wpAny (model X.prog X.w) X.A (newList []) (fun acc s₃ => wpAny (model X.prog X.w) X.A (newFunctionEnv scope X.env.globals cl [] X.env.qual none .none (some X.env)) (fun adW s₄ =>
  codeAny (model X.prog X.w) X.A (.compStart (.ListComp elt [⟨tg, iter, ifs, 0⟩] scope pos) 0 (.ref it) acc { adW with scope := relabel scope X.env }) (RR acc adW.locals) s₄) E s₃) E s := by
 refine wpAny_newObj_type (wpAny_newFunctionEnv hN.cell (by intro y hy; simp at hy) (fun h₁ NI KN => ?_) hN.kind)
 dsimp only at NI KN ⊢
 generalize hH2 : s.heap.push { cls := .type "list", dict := none, data := .seq ([] : List Value).toArray } = H2 at NI KN ⊢
 have hC : H2.objs.size = s.heap.objs.size + 1 := by rw [<- hH2, Heap.size_push]
 have hDC : s.heap.objs.size ≠ H2.objs.size := by rw [hC]; exact Nat.ne_of_lt (Nat.lt_succ_self _)
 have abQ : s.heap.objs.size <= H2.objs.size := by rw [hC]; exact Nat.le_succ _
 have hfe : ∀ b ∈ fp, b < s.heap.objs.size := fun b hb => by obtain ⟨o, ho, _⟩ := Tn.obj _ _ st b hb; exact Heap.lt_size ho
 have old : ∀ b o, s.heap.get? b = some o -> h₁.get? b = some o := fun b o e => KN.extBut b o (Nat.ne_of_lt (Nat.lt_of_lt_of_le (Heap.lt_size e) abQ)) (Heap.get?_push_of_some _ (hH2 ▸ Heap.get?_push_of_some _ e))
 have gD : h₁.PlainList s.heap.objs.size #[] := ⟨_, KN.extBut _ _ hDC (Heap.get?_push_of_some _ (hH2 ▸ Heap.get?_push_size _ rfl))⟩
 generalize hDe : s.heap.objs.size = D at *
 generalize hCe : H2.objs.size = C at *
 have I0 : Inv (lR X (T ++ M) scope cl C s H fp) [] (List.replicate T.length none ++ σ) H { s with heap := h₁, toks := s.toks + ([] : List (Str × Value)).length } :=
  TF I hN h1 h2 (by rw [hDe]; exact abQ) hf (by rw [hDe]; exact hfe) NI old
 have st0 : tn 0 h₁ := Tn.keep _ _ _ st fun b _ o e => old b o e
 obtain ⟨W, ⟨m0, w0⟩, turn⟩ := hW
 have nDf : ∀ b ∈ fp, b ≠ D := fun b hb => Nat.ne_of_lt (hfe b hb)
 have stat : ∀ {H' : Hp} {pl : List (Addr × Obj)}, (∀ b ∈ fp, H' b = none) -> (∀ p ∈ pl, p.1 = D) -> ∀ b ∈ fp, iG (lR X (T ++ M) scope cl C s H fp) pl H' b := fun {H' pl} hn hp b hb => by
  have ok := I0.ok
  refine ⟨hn b hb, (ok.exf b hb).1, ok.Qy b hb, .inl hb, (ok.exf b hb).2, fun p hq => ?_⟩
  have hq' : p ∈ pl := hq
  rw [hp p hq']; exact Ne.symm (nDf b hb)
 have loop : codeAny (model X.prog X.w) X.A (.compLoop (.ListComp elt [⟨tg, iter, ifs, 0⟩] scope pos) 0 (.ref it) (.ref D) (compEnvC scope cl C X.env)) (RR (.ref D) C) { s with heap := h₁, toks := s.toks + ([] : List (Str × Value)).length } := by
  refine Oa (fun n s' => ∃ i acc H' bT, Inv (lR X (T ++ M) scope cl C s H fp) [] (List.replicate T.length none ++ σ) H' s' /\ tn i s'.heap /\ (∀ b ∈ fp, H' b = none) /\ s'.heap.PlainList D bT /\ H' D = none /\ Vals acc bT.toList /\ acc.length <= sizeLine /\ W i n acc H') ?_ m0
   ⟨0, [], H, #[], I0, st0, fun b hb => (hf b hb).1, gD, I.bD.fresh (by rw [hDe]; exact Nat.le_refl _), .nil, Nat.zero_le _, w0⟩
  rintro n s3 ⟨i, acc, H3, bT, I3, st3, EK, ⟨nn, ho⟩, hD3, hv, hlen, w3⟩
  have ahO : ∀ {H'} {s'} {σ'} {o : Obj}, Inv (lR X (T ++ M) scope cl C s H fp) [] σ' H' s' -> s'.heap.get? D = some o -> (∀ v, o.data ≠ .cell v) -> H' D = none -> Inv (lR X (T ++ M) scope cl C s H fp) [(D, o)] σ' H' s' := fun {H' s' σ' o} I' e d hn => by
   refine I'.yF fun p hp => ?_
   have e' : p = (D, o) := by simpa using hp
   subst e'
   refine ⟨e, hn, hDC, fun z => ?_, d⟩
   have z' : D ∈ MB X.stack := z
   obtain ⟨_, o', VU, _⟩ := I.stack.mem z'
   exact absurd (Heap.lt_size VU) (by rw [hDe]; exact Nat.lt_irrefl _)
  have I3' := ahO I3 ho (fun v z => by cases z) hD3
  rcases turn i n acc H3 w3 with ⟨stop, fin⟩ | ⟨go, hl, step⟩
  . refine dF (Tn.done (lR X (T ++ M) scope cl C s H fp) rfl rfl rfl Jr i _ s3 _ H3 _ I3' (stat EK (by simp)) st3 stop) fun r s4 ⟨hr, I4⟩ => ?_
    subst hr
    have e4 := (I4.pin (D, _) (List.mem_append_right _ List.mem_cons_self)).1
    have I4' : Inv (lR X (T ++ M) scope cl C s H fp) [] (List.replicate T.length none ++ σ) H3 s4 := I4.yF fun p hp => nomatch hp
    obtain ⟨m4, n4, _⟩ := I4'.loc
    exact hR D C s4 H3 acc m4 (Nat.le_refl _) abQ (Ne.symm hDC) n4 I4'.free hD3 (WO I I4' hf (by rw [hDe]; exact Nat.le_refl _) hD3 hlen hv (by simpa using e4)) fin
  . refine dF (Tn.item (lR X (T ++ M) scope cl C s H fp) rfl rfl rfl Jr i _ s3 _ H3 _ I3' (stat EK (by simp)) st3 go) fun r s4 ⟨u, hr, h4⟩ => ?_
    subst hr
    refine dF h4 fun _ s5 ⟨x, H5, I5, r5, y5, SX, fr5⟩ => ?_
    have I5' := I5.pinned (stat fr5 (by simp)) (Tn.obj _ _ SX)
    refine dF (hg _ _ _ _ _ _ s5 _ H5 x u _ I5' r5 (hgk _ _ _ (step x H5 y5))) fun _ s6 ⟨σ6, H6, I6, q6, q6a, q6b⟩ => ?_
    refine dF (hc _ _ _ _ _ _ s6 σ6 H6 _ I6 q6) fun b s7 ⟨H7, I7, q7⟩ => ?_
    have rest : ∀ {s8 : Shared} {H8 : Hp}, Inv (lR X (T ++ M) scope cl C s H fp) ([(D, _)] ++ HX fp s5.heap) σ6 H8 s8 -> tn (i + 1) s8.heap /\ (∀ b ∈ fp, H8 b = none) /\ s8.heap.PlainList D bT /\ H8 D = none /\ Inv (lR X (T ++ M) scope cl C s H fp) [] (List.replicate T.length none ++ σ) H8 s8 := fun {s8 H8} I8 => by
     refine ⟨Tn.keep _ _ _ SX fun b hb o e => (I8.pin (b, o) (List.mem_append_right _ (List.mem_append_right _ (rH hb e)))).1, fun b hb => ?_, ⟨nn, (I8.pin (D, _) (List.mem_append_right _ (List.mem_append_left _ List.mem_cons_self))).1⟩, (I8.pin (D, _) (List.mem_append_right _ (List.mem_append_left _ List.mem_cons_self))).2.1, (I8.forget T.length q6a q6b).yF fun p hp => nomatch hp⟩
     obtain ⟨o, e, d⟩ := Tn.obj _ _ SX b hb
     exact (I8.pin (b, o) (List.mem_append_right _ (List.mem_append_right _ (rH hb e)))).2.1
    cases b with
    | false =>
      obtain ⟨m', hm, w7⟩ := q7
      obtain ⟨a1, a2, a3, a4, a5⟩ := rest I7
      exact ⟨m', hm, i + 1, acc, H7, bT, a5, a1, a2, a3, a4, hv, hlen, w7⟩
    | true =>
      refine dF (he _ _ _ _ _ _ s7 σ6 H7 _ I7 q7) fun y s8 ⟨yv, H8, I8, r8, m', hm, w8⟩ => ?_
      obtain ⟨a1, a2, a3, a4, a5⟩ := rest I8
      have hsz : bT.size <= sizeLine := by have := hv.length; simp at this; omega
      refine wpAny_list_append_plain (hsz := hsz) a3 fun h9 hl9 hs9 => ?_
      refine ⟨m', hm, i + 1, acc ++ [yv], H8, bT.push y, ?_, ?_, a2, hl9, a4, ?_, by simp; omega, w8⟩
      . exact a5.turned (t' := s8.toks) (it := D) (fun b o hb e => (hs9.2 b hb).trans e) a4 hDC (.inr (by show s.heap.objs.size <= D; rw [hDe]; exact Nat.le_refl _)) (fun x c e z => by
         obtain ⟨v, o, ho, _⟩ := I.cell x c (h1 x c e)
         exact absurd (Heap.lt_size ho) (by rw [hDe, z]; exact Nat.lt_irrefl _)) (fun p hp => nomatch hp)
      . exact Tn.keep _ _ _ a1 fun b hb o e => (hs9.2 b (nDf b hb)).trans e
      . simpa using Vals.append hv (.cons r8 .nil)
 exact codeAny_compStart_list loop (Tn.self _ _ _ _ _ st0 loop)
end
def Wj (k : Nat) (g : TG) : Prop := ∀ v (τ σ : St) H Q, τ.length = k -> g v (τ ++ σ) H Q -> g v (τ ++ σ) H fun σ2 H2 => Q σ2 H2 /\ ∃ τ', τ'.length = k /\ σ2 = τ' ++ σ
def Pm (k : Nat) (g : Tb) : Prop := ∀ vs (τ σ : St) H Q, τ.length = k -> g vs (τ ++ σ) H Q -> g vs (τ ++ σ) H fun σ2 H2 => Q σ2 H2 /\ ∃ τ', τ'.length = k /\ σ2 = τ' ++ σ
theorem j9 {k i : Nat} (h : i < k) : Wj k (jQ i) := fun v τ σ H Q hl q => by
 have e : (τ ++ σ).set i (some v) = τ.set i (some v) ++ σ := List.set_append_left _ _ (by omega)
 exact ⟨q, τ.set i (some v), by simp [hl], e⟩
theorem JH {k : Nat} : Pm k Qa := fun vs τ σ H Q hl ⟨e, q⟩ => ⟨e, q, τ, hl, rfl⟩
theorem rT {k i : Nat} {u : Tb} (h : i < k) (h2 : Pm k u) : Pm k (wV (jQ i) u) := fun vs τ σ H Q hl ⟨v, r, e, q⟩ => by
 have e1 : (τ ++ σ).set i (some v) = τ.set i (some v) ++ σ := List.set_append_left _ _ (by omega)
 refine ⟨v, r, e, ?_⟩
 show u r ((τ ++ σ).set i (some v)) H _
 rw [e1]
 have q' : u r ((τ ++ σ).set i (some v)) H Q := q
 rw [e1] at q'
 exact h2 r _ σ H Q (by simp [hl]) q'
theorem LJ {K : PySem.W.Frag} {k n : Nat} {u : Tb} (h : Pm k u) : Wj k (NM K n u) := fun v τ σ H Q hl ⟨a, xs, e, hq, hn, q⟩ => ⟨a, xs, e, hq, hn, h xs τ σ H Q hl q⟩
def Pl (Q : VK) (acc : List V) (H : Hp) : Prop := ∀ p, H p = none -> Q (.ref p) (upd H p (.lst acc))
def tLC (k : Nat) (wi : TI) (g : TG) (tc : TT) (te : TE) : TE := fun σ H Q => wi σ H fun J H1 => LCW k g tc te (Pl Q) σ J H1
section
variable {X : Cx} {T M : List Str} {scope : Scope} {g : TG} {tc : TT} {te : TE} {wi : TI} {tg elt iter : Expr} {ifs : List Expr} {pos : Pos}
theorem Hj (hN : yB X T M scope) (Jr : X.calm = true) (hi : PI X tg iter wi) (hg : ∀ cl C s H fp, PG (lR X (T ++ M) scope cl C s H fp) tg g) (hgo : Wj T.length g)
 (hc : ∀ cl C s H fp, PIf (lR X (T ++ M) scope cl C s H fp) ifs tc) (he : ∀ cl C s H fp, PE (lR X (T ++ M) scope cl C s H fp) elt te)
 (hs : ∀ x, foldedSetIterable iter X.env x = pure x := by intro _; rfl) : PE X (.ListComp elt [⟨tg, iter, ifs, 0⟩] scope pos) (tLC T.length wi g tc te) := by
 intro pins s σ H Q I h
 obtain ⟨cl, hcl, h1, h2⟩ := HY (scope := scope) (env := X.env) fun x hx hf => I.ok.has x.1 (hN.free x hx hf)
 rw [eval_ListComp]
 refine wpAny_comprehension_free (use := none) rfl hs hcl hN.kind hN.names (dF (hi pins s σ H _ I h) fun xv s1 Vt => dF Vt fun itv s2 h2' => ?_)
 obtain ⟨it, fp, tn, J, H2, e, I2, Tn, st, hf, hW⟩ := h2'
 subst e
 refine Tj (RR := fun acc C => compPost (model X.prog X.w) X.A X.xe none (EP X pins σ Q) acc C) hN Jr h1 h2 hg (fun v H Q q => ?_) hc he I2 Tn st hf hW ?_
 . have := hgo v (List.replicate T.length none) σ H Q (by simp) q
   refine (by
    have e : (fun (σ2 : St) (H2 : Hp) => Q σ2 H2 /\ T.length + σ.length = σ2.length /\ σ2.drop T.length = σ) = fun σ2 H2 => Q σ2 H2 /\ ∃ τ' : St, τ'.length = T.length /\ σ2 = τ' ++ σ := by
     funext σ2 H2
     refine propext ⟨fun ⟨a, b, c⟩ => ⟨a, σ2.take T.length, by rw [List.length_take]; omega, by rw [<- c, List.take_append_drop]⟩, fun ⟨a, τ', b, c⟩ => ⟨a, by rw [c, List.length_append, b], by rw [c, <- b, List.drop_left]⟩⟩
    rw [e]; exact this)
 . intro D C s' H' acc m hD hC KG hn hHC hHD Ib fin
   refine ⟨m, hn, fun h' Ma => ⟨.ref D, _, ?_, rfl, fin D hHD⟩⟩
   exact Ib.turned (t' := s'.toks) (it := C) (fun b o hb e => (Ma.2 b hb).trans e) (by rw [aq KG]; exact hHC) (Nat.ne_of_gt (Nat.lt_of_lt_of_le I2.lt hC)) (.inr (Nat.le_trans I2.sz hC)) (fun x c e z => by
    obtain ⟨v, q⟩ := I2.cell x c e
    exact absurd (Nat.lt_of_lt_of_le q.lt (by rw [z]; exact hC)) (Nat.lt_irrefl _)) (fun p hp z => absurd (Nat.lt_of_lt_of_le (Heap.lt_size (I2.pin p hp).1) (by rw [z]; exact hC)) (Nat.lt_irrefl _))
theorem adX {i : Nat} {y : Str} {py adl : Pos} (qS : X.N.Nodup) (YC : X.N[i]? = some y) (hy : Loc X.env.scope y) (hN : yB X T M scope) (Jr : X.calm = true) (hi : PI X tg iter wi) (hg : ∀ cl C s H fp, PG (lR X (T ++ M) scope cl C s H fp) tg g) (hgo : Wj T.length g)
 (hc : ∀ cl C s H fp, PIf (lR X (T ++ M) scope cl C s H fp) ifs tc) (he : ∀ cl C s H fp, PE (lR X (T ++ M) scope cl C s H fp) elt te)
 (hsw : swapsWith (.ListComp elt [⟨tg, iter, ifs, 0⟩] scope pos) (some (.Name y py)) adl.line X.env = pure true)
 (hs : ∀ x, foldedSetIterable iter X.env x = pure x := by intro _; rfl) (hf' : X.fn y = true \/ X.env.scope.names.lookup y = some .local := by first | exact .inl rfl | exact .inr rfl | assumption) :
 PS X (.Assign [.Name y py] (.ListComp elt [⟨tg, iter, ifs, 0⟩] scope pos) adl) (Rx (tLC T.length wi g tc te) (jQ i)) := by
 intro pins s σ H D' I h
 have h : tLC T.length wi g tc te σ H fun x H1 => D'.nx (σ.set i (some x)) H1 := h
 obtain ⟨cl, hcl, h1, h2⟩ := HY (scope := scope) (env := X.env) fun x hx hf => I.ok.has x.1 (hN.free x hx hf)
 rw [exec_Assign_Name_used _ _ _ _ hsw]
 refine wpAny_bind (wpAny_standAt (wpAny_bind ?_))
 show wpAny _ X.A (do let _ <- comprehension (.ListComp elt [⟨tg, iter, ifs, 0⟩] scope pos) scope X.env _ (newList []) false (eval iter X.env) (some (assign (.Name y py) X.env))) _ _ s
 refine wpAny_bind (wpAny_mono (wpAny_comprehension_free (use := some (assign (.Name y py) X.env)) (Q := fun _ s' => SP X pins D' .next s') rfl hs hcl hN.kind hN.names
  (dF (hi pins s σ H _ I h) fun xv s1 Vt => dF Vt fun itv s2 h2' => ?_)) (fun _ s' hq => wpAny_pure (wpAny_pure hq)) fun _ _ e => e)
 obtain ⟨it, fp, tn, J, H2, e, I2, Tn, st, hf, hW⟩ := h2'
 subst e
 refine Tj (RR := fun acc C => compPost (model X.prog X.w) X.A X.xe (some (assign (.Name y py) X.env)) (fun _ s' => SP X pins D' .next s') acc C) hN Jr h1 h2 hg (fun v H Q q => ?_) hc he I2 Tn st hf hW ?_
 . have := hgo v (List.replicate T.length none) σ H Q (by simp) q
   refine (by
    have e : (fun (σ2 : St) (H2 : Hp) => Q σ2 H2 /\ T.length + σ.length = σ2.length /\ σ2.drop T.length = σ) = fun σ2 H2 => Q σ2 H2 /\ ∃ τ' : St, τ'.length = T.length /\ σ2 = τ' ++ σ := by
     funext σ2 H2
     refine propext ⟨fun ⟨a, b, c⟩ => ⟨a, σ2.take T.length, by rw [List.length_take]; omega, by rw [<- c, List.take_append_drop]⟩, fun ⟨a, τ', b, c⟩ => ⟨a, by rw [c, List.length_append, b], by rw [c, <- b, List.drop_left]⟩⟩
    rw [e]; exact this)
 . intro D C s' H' acc m hD hC KG hn hHC hHD Ib fin
   show wpAny _ X.A (assign (.Name y py) X.env (.ref D)) _ _ _
   refine wpAny_assign_Name (JB Ib qS YC hy (v := .ref D) rfl (fun s3 I3 ⟨a, sb, ha⟩ => ?_) hf')
   have hCL : C ≠ X.env.locals := Nat.ne_of_gt (Nat.lt_of_lt_of_le I2.lt hC)
   have hCc : ∀ x c, X.env.cells.lookup x = some c -> c ≠ C := fun x c e z => by
    obtain ⟨v, q⟩ := I2.cell x c e
    exact absurd (Nat.lt_of_lt_of_le q.lt (by rw [z]; exact hC)) (Nat.lt_irrefl _)
   have hCa : C ≠ a := by
    rcases ha with rfl | ha
    . exact hCL
    . exact Ne.symm (hCc _ _ ha)
   refine ⟨m, hn.sameBut sb hCa, fun h' Ma => ⟨_, _, ?_, fin D hHD⟩⟩
   exact I3.turned (t' := s3.toks) (it := C) (fun b o hb e => (Ma.2 b hb).trans e) (by rw [aq KG]; exact hHC) hCL (.inr (Nat.le_trans I2.sz hC)) hCc (fun p hp z => absurd (Nat.lt_of_lt_of_le (Heap.lt_size (I2.pin p hp).1) (by rw [z]; exact hC)) (Nat.lt_irrefl _))
end
end L2
namespace L2
open PySem PySem.Spec PyProof.Rows PySem.W
mutual
def Gf : PyData -> Bool
 | .none => true
 | .bool _ => true
 | .int _ => true
 | .str _ => true
 | .tuple ds => c9 ds
 | .list _ => false
 | .dict _ => false
def c9 : List PyData -> Bool
 | [] => true
 | d :: ds => Gf d && c9 ds
end
theorem rC : ∀ {ds : List PyData}, c9 ds = true ↔ ∀ d ∈ ds, Gf d = true
 | [] => by simp [c9]
 | d :: ds => by simp [c9, rC (ds := ds)]
theorem oK {ds es : List PyData} (h1 : c9 ds = true) (h2 : c9 es = true) : c9 (ds ++ es) = true := by
 rw [rC] at *
 intro d hd
 rcases List.mem_append.mp hd with h | h
 . exact h1 d h
 . exact h2 d h
theorem eA {α : Type} {f : α -> PyData} (h : ∀ x, Gf (f x) = true) (xs : List α) : c9 (xs.map f) = true := by
 rw [rC]
 intro d hd
 obtain ⟨x, _, rfl⟩ := List.mem_map.mp hd
 exact h x
structure Mv (S : List Addr) (H H' : Hp) : Prop where
 kp : ∀ a o, a ∉ S -> H a = some o -> H' a = some o
 tp : ∀ a xs, H a = some (.tup xs) -> H' a = some (.tup xs)
 dm : ∀ a, H' a = none -> H a = none
theorem Mv.refl {S : List Addr} {H : Hp} : Mv S H H := ⟨fun _ _ _ h => h, fun _ _ h => h, fun _ h => h⟩
theorem ay.mv {S : List Addr} {H H' : Hp} (s : ay H H') : Mv S H H' := ⟨fun a o _ h => s a o h, fun a xs h => s a _ h, fun a h => by
 cases e : H a with
 | none => rfl
 | some o => rw [s a o e] at h; cases h⟩
theorem Mv.trans {S : List Addr} {H H1 H2 : Hp} (m : Mv S H H1) (m2 : Mv S H1 H2) : Mv S H H2 := ⟨fun a o n h => m2.kp a o n (m.kp a o n h), fun a xs h => m2.tp a xs (m.tp a xs h), fun a h => m.dm a (m2.dm a h)⟩
theorem Mv.step {S S1 : List Addr} {H H1 H2 : Hp} (m : Mv S H H1) (m2 : Mv S1 H1 H2) (hs : ∀ a ∈ S1, a ∈ S \/ H a = none) : Mv S H H2 := by
 refine ⟨fun a o n h => ?_, fun a xs h => m2.tp a xs (m.tp a xs h), fun a h => m.dm a (m2.dm a h)⟩
 refine m2.kp a o (fun z => ?_) (m.kp a o n h)
 rcases hs a z with q | q
 . exact n q
 . rw [q] at h; cases h
theorem Mv.Mf {S : List Addr} {H H1 H2 : Hp} (m : Mv S H H1) (s : ay H1 H2) : Mv S H H2 := m.trans s.mv
theorem Mv.at {S : List Addr} {H H' : Hp} {a : Addr} {o : HO} (m : Mv S H H') (n : a ∉ S) (h : H a = some o) : H' a = some o := m.kp a o n h
theorem Mv.none {S : List Addr} {H H' : Hp} {a : Addr} (m : Mv S H H') (h : H' a = none) : H a = none := m.dm a h
theorem ay.none {H H' : Hp} {a : Addr} (m : ay H H') (h : H' a = none) : H a = none := (m.mv (S := [])).dm a h
theorem Mv.bo {H : Hp} {p : Addr} {o u : HO} (h : H p = some u) (nt : ∀ xs, u ≠ .tup xs) : Mv [p] H (upd H p o) := ⟨fun a v n e => by
 rw [aq (fun z => n (by simp [z]))]; exact e, fun a xs e => by
 rw [aq (fun z => by subst z; rw [h] at e; exact nt xs (Option.some.inj e))]; exact e, fun a e => by
 by_cases z : a = p
 . subst z; rw [ao] at e; cases e
 . rw [aq z] at e; exact e⟩
mutual
theorem Dv.yz {H H' : Hp} (t : ∀ a xs, H a = some (.tup xs) -> H' a = some (.tup xs)) : ∀ {v : V} {d : PyData}, Dv H v d -> Gf d = true -> Dv H' v d
 | _, _, .aS, _ => .aS
 | _, _, .bl b, _ => .bl b
 | _, _, .int i, _ => .int i
 | _, _, .str x, _ => .str x
 | _, _, .tup h r, c => .tup (t _ _ h) (c7.yz t r (by simpa [Gf] using c))
 | _, _, .lst h r, c => by simp [Gf] at c
 | _, _, .dct h r, c => by simp [Gf] at c
theorem c7.yz {H H' : Hp} (t : ∀ a xs, H a = some (.tup xs) -> H' a = some (.tup xs)) : ∀ {v : List V} {d : List PyData}, c7 H v d -> c9 d = true -> c7 H' v d
 | _, _, .nil, _ => .nil
 | _, _, .cons h r, c => by
   have c' := c
   simp only [c9, Bool.and_eq_true] at c'
   exact .cons (Dv.yz t h c'.1) (c7.yz t r c'.2)
end
theorem Mv.dat {S : List Addr} {H H' : Hp} {v : V} {d : PyData} (m : Mv S H H') (i : Gf d = true) (h : Dv H v d) : Dv H' v d := h.yz m.tp i
theorem Mv.abo {S : List Addr} {H H' : Hp} {v : List V} {d : List PyData} (m : Mv S H H') (i : c9 d = true) (h : c7 H v d) : c7 H' v d := h.yz m.tp i
def d5 (H : Hp) (p : Addr) (ds : List PyData) : Prop := ∃ xs, H p = some (.lst xs) /\ c7 H xs ds /\ c9 ds = true
theorem d5.dv {H : Hp} {p : Addr} {ds : List PyData} (h : d5 H p ds) : Dv H (.ref p) (.list ds) := let ⟨_, e, d, _⟩ := h; .lst (.of e) d
theorem d5.keeps {H H' : Hp} {p : Addr} {ds : List PyData} (s : ay H H') (h : d5 H p ds) : d5 H' p ds := let ⟨xs, e, d, i⟩ := h; ⟨xs, s _ _ e, d.keeps s, i⟩
theorem d5.mv {S : List Addr} {H H' : Hp} {p : Addr} {ds : List PyData} (m : Mv S H H') (n : p ∉ S) (h : d5 H p ds) : d5 H' p ds := let ⟨xs, e, d, i⟩ := h; ⟨xs, m.at n e, m.abo i d, i⟩
theorem d5.ne {H : Hp} {p q : Addr} {ds : List PyData} (h : d5 H p ds) (hn : H q = none) : p ≠ q := let ⟨_, e, _, _⟩ := h; aA e hn
theorem Gj {H : Hp} {p : Addr} {xs : List V} {ds : List PyData} (hn : H p = none) (d : c7 H xs ds) (i : c9 ds = true) : d5 (upd H p (.lst xs)) p ds := ⟨xs, ao, d.keeps (dB hn), i⟩
theorem aac {p q : Addr} (h : p ≠ q) : p ∉ [q] := by simpa using h
theorem small {n m : Nat} (h : n <= m) (hm : m <= 4000 := by decide) : n <= sizeLine := Nat.le_trans h (Nat.le_trans hm (by decide))
theorem jZ {n : Nat} (h : n <= 4000) : n < sizeLine := Nat.lt_of_le_of_lt h (by decide)
section
variable {σ : St} {H : Hp} {Q : VK} {D : Ends} {K : PySem.W.Frag} {p : Addr} {ds : List PyData}
theorem ahn {T : String} {r : V -> List V -> Hp -> VK -> Prop} {to : TE} {t : TA} (h : to σ H fun x H1 => tyV K T x H1 /\ t σ H1 fun xs H2 => r x xs H2 Q) : tBM K T r to t σ H Q := h
theorem adi {R : Prop} (hp : d5 H p ds) (h : R) : tyV K "list" (.ref p) H /\ R := let ⟨xs, e, _, _⟩ := hp; ⟨.inl ⟨rfl, xs, jj.of e⟩, h⟩
theorem acJ {y : V} {d : PyData} (hp : d5 H p ds) (hl : ds.length <= 4000) (hy : Dv H y d) (hi : Gf d = true) (h : ∀ H2, Mv [p] H H2 -> d5 H2 p (ds ++ [d]) -> Q .aS H2) : OO (.ref p) [y] H Q := by
 obtain ⟨xs, e, dv, i⟩ := hp
 have m : Mv [p] H (upd H p (.lst (xs ++ [y]))) := .bo e (by intro _ z; cases z)
 refine ⟨p, xs, y, rfl, rfl, e, by rw [dv.length]; exact jZ hl, h _ m ⟨_, ao, m.abo (oK i (by simp [c9, hi])) (dv.append (.cons hy .nil)), oK i (by simp [c9, hi])⟩⟩
theorem ZK {xs : List V} (hl : xs.length <= sizeLine) (hd : c7 H xs ds) (hi : c9 ds = true) (k : ∀ p H2, ay H H2 -> H p = none -> d5 H2 p ds -> Q (.ref p) H2) : aaR xs H Q :=
 ⟨hl, ds, hd, fun p H2 s n e d _ => k p H2 s n ⟨xs, e, d, hi⟩⟩
end
mutual
theorem Dv.fn {H : Hp} : ∀ {v : V} {d e : PyData}, Dv H v d -> Dv H v e -> Gf d = true -> d = e
 | _, _, _, .aS, h, _ => by cases h; rfl
 | _, _, _, .bl b, h, _ => by cases h; rfl
 | _, _, _, .int i, h, _ => by cases h; rfl
 | _, _, _, .str x, h, _ => by cases h; rfl
 | _, _, _, .tup h r, h2, c => by
   cases h2 with
   | tup h' r' =>
     have c' := (by simpa [Gf] using c : c9 _ = true)
     rw [h] at h'
     cases h'
     rw [c7.fn r r' c']
   | lst h' r' =>
     rcases h' with h' | ⟨o, h'⟩ <;> rw [h] at h' <;> cases h'
   | dct h' r' => rw [h] at h'; cases h'
 | _, _, _, .lst h r, _, c => by simp [Gf] at c
 | _, _, _, .dct h r, _, c => by simp [Gf] at c
theorem c7.fn {H : Hp} : ∀ {v : List V} {d e : List PyData}, c7 H v d -> c7 H v e -> c9 d = true -> d = e
 | _, _, _, .nil, h, _ => by cases h; rfl
 | _, _, _, .cons h r, h2, c => by
   have c' := c
   simp only [c9, Bool.and_eq_true] at c'
   cases h2 with
   | cons h' r' => rw [Dv.fn h h' c'.1, c7.fn r r' c'.2]
end
theorem c7.perm {α : Type} {H : Hp} {g : α -> PyData} {xs ys : List V} (p0 : ys.Perm xs) : ∀ {cs : List α}, c7 H xs (cs.map g) -> ∃ cs' : List α, cs'.Perm cs /\ c7 H ys (cs'.map g) := by
 have p := p0.symm
 clear p0
 induction p with
 | nil => intro cs h; exact ⟨cs, .refl _, h⟩
 | cons x _ ih =>
   intro cs h
   cases cs with
   | nil => cases h
   | cons c cs =>
     cases h with
     | cons h r =>
       obtain ⟨cs', p', h'⟩ := ih r
       exact ⟨c :: cs', p'.cons c, .cons h h'⟩
 | swap x y l =>
   intro cs h
   cases cs with
   | nil => cases h
   | cons c cs =>
     cases h with
     | cons h r =>
       cases cs with
       | nil => cases r
       | cons c2 cs =>
         cases r with
         | cons h2 r => exact ⟨c2 :: c :: cs, .swap c c2 cs, .cons h2 (.cons h r)⟩
 | trans _ _ ih1 ih2 =>
   intro cs h
   obtain ⟨c1, p1, h1⟩ := ih1 h
   obtain ⟨c2, p2, h2⟩ := ih2 h1
   exact ⟨c2, p2.trans p1, h2⟩
theorem c7.pairwise {α β : Type} {H : Hp} {g : α -> PyData} {key : α -> β} {kf : V -> β} {R : β -> β -> Prop} (hk : ∀ v c, Dv H v (g c) -> kf v = key c) : ∀ {xs : List V} {cs : List α}, c7 H xs (cs.map g) -> xs.Pairwise (fun x y => R (kf x) (kf y)) -> cs.Pairwise (fun c d => R (key c) (key d))
 | _, [], .nil, _ => .nil
 | _, c :: cs, .cons h r, p => by
   rw [List.pairwise_cons] at p ⊢
   refine ⟨fun d hd => ?_, c7.pairwise hk r p.2⟩
   obtain ⟨i, hi⟩ := List.getElem?_of_mem hd
   obtain ⟨x, hx, hv⟩ := r.get (i := i) (d := g d) (by rw [List.getElem?_map, hi]; rfl)
   have := p.1 x (List.mem_of_getElem? hx)
   rw [hk _ _ h, hk _ _ hv] at this
   exact this
theorem Dv.lst_inv {H : Hp} {v : V} {ds : List PyData} (h : Dv H v (.list ds)) : ∃ a xs, v = .ref a /\ (∀ K : PySem.W.Frag, jj K H a xs) /\ c7 H xs ds := by
 cases h with
 | lst h r => exact ⟨_, _, rfl, fun _ => .inl h, r⟩
section
variable {σ : St} {H : Hp} {Q : VK} {D : Ends} {K : PySem.W.Frag} {p : Addr} {v : V} {ds : List PyData}
theorem Sq {sp : Sp} {t : TA} (h : t σ H fun vs H1 => SV sp K vs H1 Q) : Sz K sp t σ H Q := h
def LCT (te : TE) (N : Option V -> Hp -> Prop) (σ2 : St) (b : Bool) (H3 : Hp) : Prop := if b = true then te σ2 H3 (fun y H4 => N (some y) H4) else N none H3
theorem adP {k : Nat} {tl : TE} {g : TG} {tc : TT} {te : TE} (h : tl σ H fun x H1 => ∃ a, x = .ref a /\ (∃ xs, jj K H1 a xs) /\ LCW k g tc te (Pl Q) σ (Sy K a) H1) : tLC k (T1 K tl) g tc te σ H Q := h
theorem adR {k : Nat} {g : TG} {tc : TT} {te : TE} {α : Type} {cs : List α} {gd : α -> PyData} (pf : α -> Bool) (fd : α -> PyData) (hl : Dv H v (.list (cs.map gd))) (hlen : cs.length <= 4000) (hi : ∀ c, Gf (fd c) = true)
 (turn : ∀ x c H' (N : Option V -> Hp -> Prop), c ∈ cs -> ay H H' -> Dv H' x (gd c) -> (pf c = true -> ∀ y H4, ay H' H4 -> Dv H4 y (fd c) -> N (some y) H4) -> (pf c = false -> ∀ H3, ay H' H3 -> N none H3) ->
  g x (List.replicate k none ++ σ) H' fun σ2 H2 => tc σ2 H2 fun b H3 => LCT te N σ2 b H3)
 (kk : ∀ q H', ay H H' -> H q = none -> d5 H' q ((cs.filter pf).map fd) -> Q (.ref q) H') : ∃ a, v = .ref a /\ (∃ xs, jj K H a xs) /\ LCW k g tc te (Pl Q) σ (Sy K a) H := by
 obtain ⟨p, xs, rfl, e, dv⟩ := hl.lst_inv
 have hl0 : jj K H p xs := e K
 have hxl : xs.length = cs.length := by rw [dv.length, List.length_map]
 refine ⟨p, rfl, ⟨xs, hl0⟩, fun i m acc H' => i <= cs.length /\ m = cs.length - i /\ ay H H' /\ c7 H' acc (((cs.take i).filter pf).map fd), ⟨cs.length, Nat.zero_le _, rfl, ay.refl _, by simpa using c7.nil⟩, ?_⟩
 rintro i m acc H' ⟨DU, hm, sm, gD⟩
 have UE : jj K H' p xs := ay.seq sm hl0
 have hal : acc.length <= cs.length := by
  rw [gD.length, List.length_map]
  exact Nat.le_trans (List.length_filter_le _ _) (by rw [List.length_take]; omega)
 by_cases hc : i = cs.length
 . left
   refine ⟨⟨xs, UE, by omega⟩, fun q hq => ?_⟩
   rw [hc, List.take_length] at gD
   have GP : ay H (upd H' q (.lst acc)) := sm.trans (dB hq)
   exact kk q _ GP (sm.none hq) ⟨acc, ao, gD.keeps (dB hq), eA hi _⟩
 . right
   have lK : i < cs.length := by omega
   have hlx : i < xs.length := by omega
   refine ⟨⟨xs, xs[i], UE, List.getElem?_eq_getElem hlx⟩, jZ (by omega), fun x H2 hy => ?_⟩
   obtain ⟨rfl, hy⟩ := hy
   have hx := hy xs UE
   have hcs : cs[i]? = some cs[i] := List.getElem?_eq_getElem lK
   obtain ⟨x', Df, hd⟩ := dv.get (i := i) (d := gd cs[i]) (by rw [List.getElem?_map, hcs]; rfl)
   rw [hx] at Df
   cases Df
   have TB : cs.take (i + 1) = cs.take i ++ [cs[i]] := by rw [List.take_add_one, hcs]; rfl
   exact turn x cs[i] H2 (fun o H4 => match o with | some y => ∃ m', m' < m /\ i + 1 <= cs.length /\ m' = cs.length - (i + 1) /\ ay H H4 /\ c7 H4 (acc ++ [y]) (((cs.take (i + 1)).filter pf).map fd) | none => ∃ m', m' < m /\ i + 1 <= cs.length /\ m' = cs.length - (i + 1) /\ ay H H4 /\ c7 H4 acc (((cs.take (i + 1)).filter pf).map fd))
    (List.getElem_mem lK) sm (hd.keeps sm)
    (fun hp y H4 s4 d4 => ⟨cs.length - (i + 1), by omega, lK, rfl, sm.trans s4, by
     rw [TB, List.filter_append, List.map_append]
     simp only [List.filter_cons, hp, if_true, List.filter_nil, List.map_cons, List.map_nil]
     exact c7.append (gD.keeps s4) (.cons d4 .nil)⟩)
    (fun hp H3 s3 => ⟨cs.length - (i + 1), by omega, lK, rfl, sm.trans s3, by
     rw [TB, List.filter_append, List.map_append]
     simp only [List.filter_cons, hp, Bool.false_eq_true, if_false, List.filter_nil, List.map_nil, List.append_nil]
     exact gD.keeps s3⟩)
end
def OI (scope sc : Scope) (N M : List Str) : Bool :=
 (scope.kind == .function) && scope.names.all (fun y => y.2 != .cell) && scope.names.all (fun y => y.2 != .local || scope.names.lookup y.1 == some .local) &&
  scope.names.all (fun y => y.2 != .free || (sc.names.lookup y.1 == some .cell || sc.names.lookup y.1 == some .free)) && (M.length == N.length) &&
  (M.zip N).all fun p => (p.1 == p.2 && scope.names.lookup p.1 == some .free) || scope.names.lookup p.1 == none
theorem Y0 {X : Cx} {T M : List Str} {scope : Scope} (sc : Scope) (N : List Str) (hs : X.env.scope = sc) (hN : X.N = N) (h : OI scope sc N M = true) : yB X T M scope := by
 unfold OI at h
 simp only [Bool.and_eq_true, List.all_eq_true, Bool.or_eq_true, bne_iff_ne, beq_iff_eq, ne_eq] at h
 obtain ⟨⟨⟨⟨⟨h1, h2⟩, h3⟩, h4⟩, h5⟩, h6⟩ := h
 refine ⟨h1, h2, fun y hy e => ?_, fun y hy e => ?_, by rw [hN]; exact h5, fun i x hx => ?_⟩
 . rcases h3 y hy with z | z
   . exact absurd e z
   . exact z
 . rw [hs]
   rcases h4 y hy with z | z
   . exact absurd e z
   . exact z
 . have hi : i < M.length := (List.getElem?_eq_some_iff.mp hx).1
   have hiN : i < N.length := by omega
   have hz : (M.zip N)[i]? = some (x, N[i]) := by
    rw [List.getElem?_zip_eq_some]
    exact ⟨hx, List.getElem?_eq_getElem hiN⟩
   rcases h6 _ (List.mem_of_getElem? hz) with ⟨a, b⟩ | a
   . left
     refine ⟨?_, b⟩
     rw [hN, List.getElem?_eq_getElem hiN]
     have a' : x = N[i] := a
     rw [a']
   . exact .inr a
section
variable {σ : St} {H : Hp} {Q : VK} {D : Ends} {K : PySem.W.Frag} {p : Addr} {v : V} {ds : List PyData}
theorem UL {z : Str} {i : Int} {c : Nat} (hl : z.length <= sizeLine) (hi : JF z.cps.toList i = some c) (h : Q (.str ⟨#[c]⟩) H) : Tq K (.str z) (.int i) H Q := .inl (.inr ⟨z, i, c, rfl, rfl, hl, hi, h⟩)
def Ye : R2 := fun x y H Q => ∃ i j, x = .str i /\ y = .str j /\ i.length + j.length <= sizeLine /\ Q (.str (i ++ j)) H
theorem Xp {X : Cx} : Bb X (binaryOp .Add) Ye := M7
theorem ND {i j : Str} (hl : i.length + j.length <= 4000) (h : Q (.str (i ++ j)) H) : Ye (.str i) (.str j) H Q := ⟨i, j, rfl, rfl, small hl, h⟩
theorem Si {x : V} {i j l : Nat} {d1 d2 d3 : PyData} {R : St -> Hp -> Prop} (hd : Dv H x (.tuple [d1, d2, d3])) (h : ∀ v1 v2 v3, Dv H v1 d1 -> Dv H v2 d2 -> Dv H v3 d3 -> R (((σ.set i (some v1)).set j (some v2)).set l (some v3)) H) :
 NM K 3 (wV (jQ i) (wV (jQ j) (wV (jQ l) Qa))) x σ H R := by
 cases hd with
 | tup ha r =>
   cases r with
   | cons h1 r =>
     cases r with
     | cons h2 r =>
       cases r with
       | cons h3 r =>
         cases r
         exact ⟨_, _, rfl, .of ha, rfl, _, _, rfl, _, _, rfl, _, _, rfl, rfl, h _ _ _ h1 h2 h3⟩
theorem agJ {α : Type} {cs : List α} {gd : α -> PyData} {g : TG} {tb : TS} (hl : Dv H v (.list (cs.map gd))) (Pv : Nat -> St -> Hp -> Prop) (h0 : Pv 0 σ H) (hk : ∀ i σ H', i <= cs.length -> Pv i σ H' -> ∀ a xs, v = .ref a -> jj K H a xs -> jj K H' a xs)
 (hs : ∀ i c x σ H', cs[i]? = some c -> Pv i σ H' -> (Gf (gd c) = true -> (∀ a xs, H a = some (.tup xs) -> H' a = some (.tup xs)) -> Dv H' x (gd c)) -> (ay H H' -> Dv H' x (gd c)) -> g x σ H' fun σ2 H2 => tb { D with nx := Pv (i + 1), ct := Pv (i + 1), bk := D.nx } σ2 H2) (hd : ∀ σ H', Pv cs.length σ H' -> D.nx σ H') : Wa K v g tb D σ H := by
 obtain ⟨p, xs, rfl, e, dv⟩ := hl.lst_inv
 have hxl : xs.length = cs.length := by rw [dv.length, List.length_map]
 refine forL (e K) Pv h0 (fun i σ H' hi hp => hk i σ H' (by omega) hp p xs rfl (e K)) (fun i x σ H' hx hp => ?_) (fun σ H' hp => hd σ H' (by rw [<- hxl]; exact hp))
 have hi : i < cs.length := by have := (List.getElem?_eq_some_iff.mp hx).1; omega
 obtain ⟨x', Df, K8⟩ := dv.get (i := i) (d := gd cs[i]) (by rw [List.getElem?_map, List.getElem?_eq_getElem hi]; rfl)
 rw [hx] at Df
 cases Df
 exact hs i cs[i] x σ H' (List.getElem?_eq_getElem hi) hp (fun im t => K8.yz t im) (fun s => K8.keeps s)
end
end L2
namespace L2
end L2
namespace L2
open PySem
theorem UB {α β : Type} [Inhabited α] {f : α -> β} {xs : List α} {i : Int} (h0 : 0 <= i) (h1 : i < xs.length) : JF (xs.map f) i = some (f (xs.getD i.toNat default)) := by
 obtain ⟨m, rfl⟩ := Int.eq_ofNat_of_zero_le h0
 have hm : m < xs.length := by omega
 refine Gn ?_
 rw [List.getElem?_map, List.getElem?_eq_getElem hm]
 simp [hm]
theorem W2 {i : Nat} {v : V} {σ : St} {H : Hp} {R : St -> Hp -> Prop} (h : R (σ.set i (some v)) H) : jQ i v σ H R := h
theorem Mv.sq {K : PySem.W.Frag} {S : List Addr} {H H' : Hp} {a : Addr} {xs : List V} (m : Mv S H H') (n : a ∉ S) (h : jj K H a xs) : jj K H' a xs := by
 rcases h with (h | ⟨o, h⟩) | h
 . exact .inl (.inl (m.at n h))
 . exact .inl (.inr ⟨o, m.at n h⟩)
 . exact .inr h
theorem CM {te : TE} {N : Option V -> Hp -> Prop} {σ2 : St} {b : Bool} {H3 : Hp} (h1 : b = true -> te σ2 H3 (fun y H4 => N (some y) H4)) (h2 : b = false -> N none H3) : LCT te N σ2 b H3 := by
 unfold LCT
 cases b with
 | true => rw [if_pos rfl]; exact h1 rfl
 | false => rw [if_neg (by simp)]; exact h2 rfl
end L2
namespace L2
open PySem PySem.Spec PyProof.Rows
section
variable {X : Cx} {K : PySem.W.Frag} {a b e : Expr} {es : List Expr} {ta : TE} {pos : Pos}
theorem Yt (h : X.K = K) : RO X (Tq K) := by rw [<- h]; exact eV
theorem ZO (h : X.K = K) (hu : X.A.units + 8 < cLine) : Bb X (compareOp .Eq) (Ri K id) := by rw [<- h]; exact hV hu
theorem Jh (h : X.K = K) (ha : PE X a ta) (he : ∀ whole, isTrue a X.env whole = (do let v <- whole; standAt a.pos; holding [v] (truthy v))) : PT X a (fun σ H Q => ta σ H fun x H' => ∃ k, SA K x H' k /\ Q k H') := by rw [<- h]; exact dC ha he
theorem Py {k : Nat} {t : Tb} {n : Nat} (h : X.K = K) (hc : X.calm = true) (hs : PGs X es t) (hn : (assignEach es X.env).length = n := by rfl) (DI : (assignEach es X.env).findIdx? (·.1) = none := by rfl) : PG X (.Tuple es k pos) (NM K n t) := by rw [<- h]; exact Hr hc hs hn DI
theorem Dc {f : Str} (h : X.K = K) (ha : PE X a ta) (hb : attributeBase a f X.env (eval a X.env) = eval a X.env := by rfl) : PE X (.Attribute a f pos) (aam K ta f) := by rw [<- h]; exact av ha hb
end
end L2
namespace L2
open PySem PySem.Spec PyProof.Rows PySem.W
inductive lP (H : Hp) : List (Key × V) -> List (Str × PyData) -> Prop where
 | nil : lP H [] []
 | cons {k : Str} {v : V} {d : PyData} {kvs : List (Key × V)} {m : List (Str × PyData)} (h : Dv H v d) (i : Gf d = true) (r : lP H kvs m) : lP H ((.inr k, v) :: kvs) ((k, d) :: m)
theorem lP.yz {H H' : Hp} (t : ∀ a xs, H a = some (.tup xs) -> H' a = some (.tup xs)) : ∀ {kvs : List (Key × V)} {m : List (Str × PyData)}, lP H kvs m -> lP H' kvs m
 | _, _, .nil => .nil
 | _, _, .cons h i r => .cons (h.yz t i) i (lP.yz t r)
theorem lP.length {H : Hp} : ∀ {kvs : List (Key × V)} {m : List (Str × PyData)}, lP H kvs m -> kvs.length = m.length
 | _, _, .nil => rfl
 | _, _, .cons _ _ r => by simp [lP.length r]
def ig (m : List (Str × PyData)) (k : Str) : Option PyData := (m.find? fun kv => decide (kv.1 = k)).map (·.2)
def putD (m : List (Str × PyData)) (k : Str) (d : PyData) : List (Str × PyData) := if (m.any fun kv => decide (kv.1 = k)) = true then m.map (fun kv => if kv.1 = k then (kv.1, d) else kv) else m ++ [(k, d)]
def mZ (m : List (Str × PyData)) (k : Str) : List (Str × PyData) := m.filter fun kv => decide (kv.1 ≠ k)
theorem PN {a b : Str} : ((Sum.inr a : Key) = Sum.inr b) = (a = b) := propext ⟨fun h => Sum.inr.inj h, fun h => by rw [h]⟩
theorem lP.val {H : Hp} {k : Str} : ∀ {kvs : List (Key × V)} {m : List (Str × PyData)}, lP H kvs m -> (∀ d, ig m k = some d -> ∃ v, oS kvs (.inr k) = some v /\ Dv H v d) /\ (ig m k = none -> oS kvs (.inr k) = none)
 | _, _, .nil => ⟨fun d h => by simp [ig] at h, fun _ => rfl⟩
 | _, _, .cons (k := j) h i r => by
   obtain ⟨h1, h2⟩ := lP.val (k := k) r
   by_cases e : j = k
   . subst e
     refine ⟨fun d hd => ⟨_, uU rfl, ?_⟩, fun hd => by simp [ig] at hd⟩
     simp [ig] at hd
     subst hd; exact h
   . have e' : (Sum.inr j : Key) ≠ .inr k := fun z => e (Sum.inr.inj z)
     have el : ∀ (d : PyData) (m : List (Str × PyData)), ig ((j, d) :: m) k = ig m k := fun d m => by simp [ig, List.find?_cons, e]
     refine ⟨fun d hd => ?_, fun hd => ?_⟩
     . rw [el] at hd
       obtain ⟨v, hv, K8⟩ := h1 d hd
       exact ⟨v, by rw [qx e']; exact hv, K8⟩
     . rw [el] at hd
       rw [qx e']; exact h2 hd
theorem lP.any {H : Hp} {k : Str} : ∀ {kvs : List (Key × V)} {m : List (Str × PyData)}, lP H kvs m -> (kvs.any fun kv => decide (kv.1 = .inr k)) = m.any fun kv => decide (kv.1 = k)
 | _, _, .nil => rfl
 | _, _, .cons h i r => by
   simp only [List.any_cons, lP.any r, PN]
theorem lP.append {H : Hp} : ∀ {kvs adD : List (Key × V)} {m m' : List (Str × PyData)}, lP H kvs m -> lP H adD m' -> lP H (kvs ++ adD) (m ++ m')
 | _, _, _, _, .nil, s => s
 | _, _, _, _, .cons h i r, s => .cons h i (lP.append r s)
theorem lP.repl {H : Hp} {k : Str} {v : V} {d : PyData} (hv : Dv H v d) (hi : Gf d = true) : ∀ {kvs : List (Key × V)} {m : List (Str × PyData)}, lP H kvs m -> lP H (kvs.map fun kv => if kv.1 = .inr k then (kv.1, v) else kv) (m.map fun kv => if kv.1 = k then (kv.1, d) else kv)
 | _, _, .nil => .nil
 | _, _, .cons (k := j) h i r => by
   rw [List.map_cons, List.map_cons]
   by_cases e : j = k
   . subst e
     rw [if_pos rfl, if_pos rfl]
     exact .cons hv hi (lP.repl hv hi r)
   . rw [if_neg (fun z => e (Sum.inr.inj z)), if_neg e]
     exact .cons h i (lP.repl hv hi r)
theorem lP.put {H : Hp} {k : Str} {v : V} {d : PyData} {kvs : List (Key × V)} {m : List (Str × PyData)} (r : lP H kvs m) (hv : Dv H v d) (hi : Gf d = true) : lP H (putK kvs (.inr k) v) (putD m k d) := by
 unfold putK putD
 rw [r.any]
 by_cases h : (m.any fun kv => decide (kv.1 = k)) = true
 . rw [if_pos h, if_pos h]; exact r.repl hv hi
 . rw [if_neg h, if_neg h]; exact r.append (.cons hv hi .nil)
theorem lP.drop {H : Hp} {k : Str} : ∀ {kvs : List (Key × V)} {m : List (Str × PyData)}, lP H kvs m -> lP H (sL kvs (.inr k)) (mZ m k)
 | _, _, .nil => .nil
 | _, _, .cons (k := j) h i r => by
   by_cases e : j = k
   . subst e
     have := lP.drop (k := j) r
     simpa [sL, mZ] using this
   . have := lP.drop (k := k) r
     have e' : (Sum.inr j : Key) ≠ .inr k := fun z => e (Sum.inr.inj z)
     simp only [sL, mZ, List.filter_cons] at this ⊢
     rw [if_pos (by simpa using e'), if_pos (by simpa using e)]
     exact .cons h i this
def gA (H : Hp) (p : Addr) (m : List (Str × PyData)) : Prop := ∃ kvs, H p = some (.dK kvs) /\ lP H kvs m
theorem gA.keeps {H H' : Hp} {p : Addr} {m : List (Str × PyData)} (s : ay H H') (h : gA H p m) : gA H' p m := let ⟨kvs, e, d⟩ := h; ⟨kvs, s _ _ e, d.yz fun a xs e => s _ _ e⟩
theorem gA.mv {S : List Addr} {H H' : Hp} {p : Addr} {m : List (Str × PyData)} (v : Mv S H H') (n : p ∉ S) (h : gA H p m) : gA H' p m := let ⟨kvs, e, d⟩ := h; ⟨kvs, v.at n e, d.yz v.tp⟩
theorem gA.ne {H : Hp} {p q : Addr} {m : List (Str × PyData)} (h : gA H p m) (hn : H q = none) : p ≠ q := let ⟨_, e, _⟩ := h; aA e hn
theorem gA.neL {H : Hp} {p q : Addr} {m : List (Str × PyData)} {ds : List PyData} (h : gA H p m) (h2 : d5 H q ds) : p ≠ q := let ⟨_, e, _⟩ := h; let ⟨_, e2, _, _⟩ := h2; iq e e2 (by intro z; cases z)
section
variable {σ : St} {H : Hp} {Q : VK} {D : Ends} {K : PySem.W.Frag} {p : Addr} {m : List (Str × PyData)} {k : Str}
theorem aa1 (h : ∀ p H2, ay H H2 -> H p = none -> gA H2 p [] -> Q (.ref p) H2) : SW σ H Q := fun p hp => h p _ (dB hp) hp ⟨[], ao, .nil⟩
theorem WN {td ty tv : TE} (h : tv σ H fun v H1 => td σ H1 fun x H2 => ty σ H2 fun y H3 => ∃ a H4, x = .ref a /\ JR H3 a y v H4 /\ D.nx σ H4) : Yz td ty tv D σ H := h
theorem SD {v : V} {d : PyData} {R : Hp -> Prop} (hp : gA H p m) (hl : m.length <= 4000) (hv : Dv H v d) (hi : Gf d = true) (h : ∀ H2, Mv [p] H H2 -> gA H2 p (putD m k d) -> R H2) : ∃ a H4, V.ref p = .ref a /\ JR H a (.str k) v H4 /\ R H4 := by
 obtain ⟨kvs, e, dk⟩ := hp
 have mv : Mv [p] H (upd H p (.dK (putK kvs (.inr k) v))) := .bo e (by intro _ z; cases z)
 exact ⟨p, _, rfl, JR.k (k := .inr k) e (by rw [dk.length]; exact jZ hl), h _ mv ⟨_, ao, (dk.put hv hi).yz mv.tp⟩⟩
theorem X5 {td ty : TE} (h : td σ H fun x H1 => ty σ H1 fun y H2 => ∃ a v, x = .ref a /\ iD H2 a y (some v) /\ Q v H2) : YY td ty σ H Q := h
theorem abj {d : PyData} {R : V -> Prop} (hp : gA H p m) (hk : ig m k = some d) (h : F7 H d fun v _ => R v) : ∃ a v, V.ref p = .ref a /\ iD H a (.str k) (some v) /\ R v := by
 obtain ⟨kvs, e, dk⟩ := hp
 obtain ⟨v, hv, hd⟩ := (dk.val (k := k)).1 d hk
 exact ⟨p, v, rfl, by rw [<- hv]; exact iD.k (k := .inr k) e, h.use hd⟩
theorem abX {td ty : TE} (h : ty σ H fun y H1 => td σ H1 fun x H2 => ∃ a o, x = .ref a /\ iD H2 a y o /\ Q (.bl o.isSome) H2) : aeZ ty td σ H Q := h
theorem Xu {td ty : TE} (h : ty σ H fun y H1 => td σ H1 fun x H2 => ∃ a o, x = .ref a /\ iD H2 a y o /\ Q (.bl (!o.isSome)) H2) : OM ty td σ H Q := h
theorem adh (hp : gA H p m) (k : Str) : ∃ o, iD H p (.str k) o /\ o.isSome = (ig m k).isSome := by
 obtain ⟨kvs, e, dk⟩ := hp
 refine ⟨oS kvs (.inr k), iD.k (k := .inr k) e, ?_⟩
 obtain ⟨h1, h2⟩ := dk.val (k := k)
 cases hl : ig m k with
 | none => rw [h2 hl]; rfl
 | some d => obtain ⟨v, hv, _⟩ := h1 d hl; rw [hv]; rfl
theorem acP {R : Option V -> Prop} (hp : gA H p m) (h : ∀ o : Option V, o.isSome = (ig m k).isSome -> R o) : ∃ a o, V.ref p = .ref a /\ iD H a (.str k) o /\ R o := by
 obtain ⟨o, g, e⟩ := adh hp k
 exact ⟨p, o, rfl, g, h o e⟩
def ow : Option Int -> V | none => .aS | some i => .int i
end
end L2
namespace L2
theorem ag6 {t : TE} {σ : St} {H : Hp} {Q : Bool -> Hp -> Prop} (h : t σ H fun x H' => ∃ k, x = .bl k /\ Q k H') : tB t σ H Q := h
end L2
namespace L2
open PySem
theorem Yu {Hb : Hp} {σ : St} {H : Hp} {D : Ends} {K : PySem.W.Frag} {v : V} {α : Type} {cs : List α} {gd : α -> PyData} {g : TG} {tb : TS} (hl : Dv Hb v (.list (cs.map gd))) (Pv : Nat -> St -> Hp -> Prop) (h0 : Pv 0 σ H) (hk : ∀ i σ H', i <= cs.length -> Pv i σ H' -> ∀ a xs, v = .ref a -> jj K Hb a xs -> jj K H' a xs)
 (hs : ∀ i c x σ H', cs[i]? = some c -> Pv i σ H' -> (Gf (gd c) = true -> (∀ a xs, Hb a = some (.tup xs) -> H' a = some (.tup xs)) -> Dv H' x (gd c)) -> (ay Hb H' -> Dv H' x (gd c)) -> g x σ H' fun σ2 H2 => tb { D with nx := Pv (i + 1), ct := Pv (i + 1), bk := D.nx } σ2 H2) (hd : ∀ σ H', Pv cs.length σ H' -> D.nx σ H') : Wa K v g tb D σ H := by
 obtain ⟨p, xs, rfl, e, dv⟩ := hl.lst_inv
 have hxl : xs.length = cs.length := by rw [dv.length, List.length_map]
 refine forL (hk 0 σ H (Nat.zero_le _) h0 p xs rfl (e K)) Pv h0 (fun i σ H' hi hp => hk i σ H' (by omega) hp p xs rfl (e K)) (fun i x σ H' hx hp => ?_) (fun σ H' hp => hd σ H' (by rw [<- hxl]; exact hp))
 have hi : i < cs.length := by have := (List.getElem?_eq_some_iff.mp hx).1; omega
 obtain ⟨x', Df, K8⟩ := dv.get (i := i) (d := gd cs[i]) (by rw [List.getElem?_map, List.getElem?_eq_getElem hi]; rfl)
 rw [hx] at Df
 cases Df
 exact hs i cs[i] x σ H' (List.getElem?_eq_getElem hi) hp (fun im t => K8.yz t im) (fun s => K8.keeps s)
end L2
namespace L2
open PySem PySem.Spec PyProof.Rows PySem.W
section
variable {X : Cx} {tg : Expr}
section
variable {σ : St} {H : Hp} {Q : VK} {D : Ends} {K : PySem.W.Frag}
end
end
end L2
namespace L2
open PySem
section
variable {H : Hp} {Q : VK} {K : PySem.W.Frag}
end
end L2
namespace L2
open PySem PySem.Spec PyProof.Rows PySem.W
section
variable {X : Cx}
theorem KH {H : Hp} : ∀ {xs : List V} {ss : List Str} {us : List Value}, c7 H xs (ss.map PyData.str) -> Vals xs us -> StrsAre us ss
 | _, [], _, .nil, .nil => .nil
 | _, b :: bs, _, .cons h r, .cons q t => by
   cases h
   obtain ⟨tk, rfl⟩ := q
   exact .cons _ _ (KH r t)
end
section
variable {σ : St} {H : Hp} {Q : VK} {D : Ends} {K : PySem.W.Frag} {p : Addr} {ds : List PyData}
theorem RY {q : Addr} {es : List PyData} (hp : d5 H p ds) (hq : d5 H q es) (hl : ds.length + es.length <= 4000) (k : ∀ r H', ay H H' -> H r = none -> d5 H' r (ds ++ es) -> Q (.ref r) H') : adT (.ref p) (.ref q) H Q := by
 obtain ⟨xs, e, dv, im⟩ := hp
 obtain ⟨zs, e2, dv2, im2⟩ := hq
 refine ⟨p, q, xs, zs, rfl, rfl, e, e2, by rw [dv.length, dv2.length]; exact small hl, fun r hr => ?_⟩
 exact k r _ (dB hr) hr (Gj hr (dv.append dv2) (oK im im2))
end
end L2
namespace L2
open PySem PySem.Calls PyProof.Rows
section
variable {X : Cx} {e k : Expr} {te tk : TE} {pos p2 : Pos}
end
section
variable {X : Cx}
end
section
variable {K : PySem.W.Frag} {σ : St} {H : Hp} {Q : VK} {p : Addr} {ds : List PyData}
end
end L2
namespace L2
open PySem PySem.Spec PyProof.Rows PySem.W
section
variable {X : Cx}
def RH (ss : List Str) : Prop := ss.Pairwise fun a b => Bn b a = false
theorem C0 : ∀ (r : List Str) (p : Str), risingS p r = true -> (∀ x ∈ r, Bn x p = false) /\ RH r
 | [], _, _ => ⟨fun x hx => (by cases hx), List.Pairwise.nil⟩
 | y :: r, p, h => by
   unfold risingS at h
   rw [Bool.and_eq_true] at h
   obtain ⟨h1, h2⟩ := h
   have Vt : Bn y p = false := by
    have : ltCps y.cps.toList p.cps.toList = false := by simpa using h1
    rw [ltCps_eq] at this
    exact this
   obtain ⟨a, b⟩ := C0 r y h2
   refine ⟨fun x hx => ?_, List.pairwise_cons.mpr ⟨a, b⟩⟩
   rcases List.mem_cons.mp hx with rfl | hx
   . exact Vt
   . exact Kn (a x hx) Vt
theorem BK {ss : List Str} (h : sortedS ss = true) : RH ss := by
 cases ss with
 | nil => exact List.Pairwise.nil
 | cons x r => obtain ⟨a, b⟩ := C0 r x h; exact List.pairwise_cons.mpr ⟨a, b⟩
theorem Eb : ∀ {xs ys : List Str}, xs.Perm ys -> RH xs -> RH ys -> xs = ys
 | [], _, hp, _, _ => List.Perm.nil_eq hp
 | x :: xs, [], hp, _, _ => by have := hp.length_eq; simp at this
 | x :: xs, y :: ys, hp, h1, h2 => by
   have hx := List.pairwise_cons.mp h1
   have hy := List.pairwise_cons.mp h2
   have hxy : x = y := by
    have m1 : y ∈ x :: xs := hp.mem_iff.mpr List.mem_cons_self
    have m2 : x ∈ y :: ys := hp.mem_iff.mp List.mem_cons_self
    rcases List.mem_cons.mp m1 with e | m1'
    . exact e.symm
    rcases List.mem_cons.mp m2 with e | m2'
    . exact e
    exact OS (hy.1 x m2') (hx.1 y m1')
   subst hxy
   rw [Eb (List.Perm.cons_inv hp) hx.2 hy.2]
def T9 : List V -> Hp -> VK -> Prop := fun xs H Q => ∃ (v : V) (ss : List Str), xs = [v] /\ Dv H v (.list (ss.map PyData.str)) /\ ss.length < 64 /\ ∀ (q : Addr) (H' : Hp) (F0 : List Str), ay H H' -> H q = none -> F0.Perm ss -> RH F0 -> d5 H' q (F0.map PyData.str) -> Q (.ref q) H'
theorem EF : ∀ {us : List Value} {ss : List Str}, StrsAre us ss -> Vals (ss.map V.str) us
 | _, _, .nil => .nil
 | _, _, .cons _ t r => .cons ⟨t, rfl⟩ (EF r)
theorem Ho {H : Hp} : ∀ (ss : List Str), c7 H (ss.map V.str) (ss.map PyData.str)
 | [] => .nil
 | x :: r => .cons (.str x) (Ho r)
theorem HP : i9 X (.builtin "sorted") T9 := by
 intro pins s σ H xs us Q I r h
 obtain ⟨v, ss, rfl, hd, hl, q⟩ := h
 obtain ⟨u, rfl, ru⟩ := vals1 r
 obtain ⟨p, ys, rfl, e, dv⟩ := hd.lst_inv
 obtain ⟨bT, rvs, pl, _⟩ := I.list (e X.K)
 cases ru
 have hS := KH dv rvs
 refine sorted_strs pl.isList hS (by rw [<- rvs.length, dv.length, List.length_map]; exact hl) fun out F0 h1 h2 h3 => ?_
 obtain ⟨ep, he⟩ := sortedAll_at s.heap bT out
 have hq : H (s.heap.objs.size + 1) = none := I.bD.fresh (Nat.le_succ _)
 refine ⟨.ref (s.heap.objs.size + 1), upd H (s.heap.objs.size + 1) (.lst (F0.map V.str)), I.laid (t' := s.toks) (fun b ob q => sortedAll_old q) (Nat.le_succ _) ?_, rfl, q _ _ F0 (dB hq) hq h2 (BK h3) (Gj hq (Ho F0) (eA (fun _ => rfl) _))⟩
 exact ⟨by rw [List.length_map, h2.length_eq]; exact Nat.le_of_lt (jZ (by omega)), out.toList, ep, EF h1, by simpa [seqObj] using he⟩
theorem Pr {H : Hp} : ∀ {xs : List V} {ns : List Int} {us : List Value}, c7 H xs (ns.map PyData.int) -> Vals xs us -> IntsAre us ns
 | _, [], _, .nil, .nil => .nil
 | _, _ :: _, _, .cons h r, .cons q t => by
   cases h
   obtain ⟨tk, rfl⟩ := q
   exact .cons _ _ (Pr r t)
end
section
variable {prog : Program} {w : World} {A : Around} {E : Value -> Shared -> Prop} {s : Shared} {it l : Addr} {bT : Array Value}
end
section
variable {X : Cx} {e : Expr} {te : TE} {p p2 pos af1 : Pos}
end
section
variable {K : PySem.W.Frag} {σ : St} {H : Hp} {Q : VK} {p : Addr} {ds : List PyData} {v : V}
theorem VO {ss : List Str} (hp : Dv H v (.list (ss.map PyData.str))) (hl : ss.length < 64) (k : ∀ q H' F0, ay H H' -> H q = none -> F0.Perm ss -> RH F0 -> d5 H' q (F0.map PyData.str) -> Q (.ref q) H') : T9 [v] H Q := ⟨v, ss, rfl, hp, hl, k⟩
end
section
variable {P : Program} {w : World} {H : Hp} {h : Heap} {d : Addr} {o : Obj} {kvs : List (Key × V)}
theorem rj.ik (ok : rj P w H h) (hd : H d = some (.dK kvs)) (ho : h.get? d = some o) : rj P w (upd H d (.ik o (.dK kvs))) h := by
 intro b u q
 by_cases hb : b = d
 . subst hb
   rw [ao] at q
   cases q
   exact ⟨ho, ok b _ hd⟩
 . rw [aq hb] at q
   refine (ok b u q).J4 (fun c v _ r => r) (fun c r => ?_) fun c xs r => ?_
   . rw [aq (iq r hd (by intro z; cases z))]; exact r
   . rw [aq (iq r hd (by intro z; cases z))]; exact r
theorem rj.K1 (ok : rj P w H h) (hd : H d = some (.ik o (.dK kvs))) : rj P w (upd H d (.dK kvs)) h := by
 intro b u q
 by_cases hb : b = d
 . subst hb
   rw [ao] at q
   cases q
   exact (ok b _ hd).2
 . rw [aq hb] at q
   refine (ok b u q).J4 (fun c v _ r => r) (fun c r => ?_) fun c xs r => ?_
   . rw [aq (iq r hd (by intro z; cases z))]; exact r
   . rw [aq (iq r hd (by intro z; cases z))]; exact r
end
section
variable {X : Cx} {pins : List (Addr × Obj)} {σ : St} {H : Hp} {s : Shared} {d : Addr} {o : Obj} {kvs : List (Key × V)}
theorem Inv.freeze (I : Inv X pins σ H s) (hd : H d = some (.dK kvs)) (ho : s.heap.get? d = some o) : Inv X pins σ (upd H d (.ik o (.dK kvs))) s := by
 have u : Un X.fs [] H (upd H d (.ik o (.dK kvs))) s.heap s.heap := {
  keep := fun b u e n _ _ => e
  slot := fun b u e n _ _ => ⟨u.slots, e⟩
  free := fun b u e n _ => by rw [aq (Ne.symm (aA hd n))]; exact n
  there := fun b u e _ => ⟨u, e⟩
  Du := fun b xs e => by rw [aq (iq e hd (by intro z; cases z))]; exact e
  yL := fun b u v e => by rw [aq (iq e hd (by intro z; cases z))]; exact e
  FW := fun b ps e => ⟨#[], by rw [aq (iq e hd (by intro z; cases z)), e]; simp⟩ }
 exact I.un (h' := s.heap) (t' := s.toks) u (I.bD.ik hd ho)
theorem Inv.K1 (I : Inv X pins σ H s) (hd : H d = some (.ik o (.dK kvs))) (h0 : ∀ u v, X.MX d ≠ some (.ik u v)) : Inv X pins σ (upd H d (.dK kvs)) s := by
 have nn : ∀ b, H b = none -> upd H d (.dK kvs) b = none := fun b n => by rw [aq (Ne.symm (aA hd n))]; exact n
 refine ⟨I.ok, I.os, I.bare, ⟨I.base.keep, I.base.slot, fun b u e n x => nn b (I.base.free b u e n x), I.base.there, fun b xs e => ?_, fun b u v e => ?_, fun b ps e => ?_⟩, I.loc, I.cell, nn _ I.free, fun x c e => nn c (I.mP x c e), fun p hp => ?_, I.bD.K1 hd, I.len⟩
 . have z := I.base.Du b xs e
   rw [aq (iq z hd (by intro q; cases q))]; exact z
 . have z := I.base.yL b u v e
   have hb : b ≠ d := fun q => h0 u v (q ▸ e)
   rw [aq hb]; exact z
 . obtain ⟨m, z⟩ := I.base.FW b ps e
   exact ⟨m, by rw [aq (iq z hd (by intro q; cases q))]; exact z⟩
 . obtain ⟨a1, a2, a3⟩ := I.pin p hp
   exact ⟨a1, nn _ a2, a3⟩
theorem Inv.YQ (I : Inv X pins σ H s) (hd : H d = some (.dK kvs)) : ∀ u v, X.MX d ≠ some (.ik u v) := fun u v z => by
 have := I.base.yL d u v z
 rw [hd] at this
 cases this
def UR (t : TE) : TE := fun σ H Q => ∃ d kvs, H d = some (.dK kvs) /\ t σ H fun v H' => (∃ o, H' d = some (.ik o (.dK kvs))) /\ Q v (upd H' d (.dK kvs))
theorem JS {e : Expr} {t : TE} (h : PE X e t) : PE X e (UR t) := by
 intro pins s σ H Q I ⟨d, kvs, hd, ht⟩
 have h0 := I.YQ hd
 exact dF (h pins s σ H _ I ht) fun v s1 ⟨x, H1, I1, r, ⟨o, ho⟩, q⟩ => ⟨x, _, I1.K1 ho h0, r, q⟩
def Pj (d : Addr) (kvs : List (Key × V)) (R : Hp -> Prop) : Hp -> Prop := fun H' => (∃ o, H' d = some (.ik o (.dK kvs))) /\ R (upd H' d (.dK kvs))
def ME (d : Addr) (kvs : List (Key × V)) (D : Ends) : Ends := { nx := fun z => Pj d kvs (D.nx z), rt := fun z => Pj d kvs (D.rt z), bk := fun z => Pj d kvs (D.bk z), ct := fun z => Pj d kvs (D.ct z) }
def T8 (t : TS) : TS := fun D σ H => ∃ d kvs, H d = some (.dK kvs) /\ t (ME d kvs D) σ H
theorem Vy {st : Stmt} {t : TS} (h : PS X st t) : PS X st (T8 t) := by
 intro pins s σ H D I ⟨d, kvs, hd, ht⟩
 have h0 := I.YQ hd
 refine dF (h pins s σ H _ I ht) fun f s1 q => ?_
 cases f with
 | next => obtain ⟨σ', H', I1, ⟨o, ho⟩, q⟩ := q; exact ⟨σ', _, I1.K1 ho h0, q⟩
 | brk => obtain ⟨σ', H', I1, ⟨o, ho⟩, q⟩ := q; exact ⟨σ', _, I1.K1 ho h0, q⟩
 | cont => obtain ⟨σ', H', I1, ⟨o, ho⟩, q⟩ := q; exact ⟨σ', _, I1.K1 ho h0, q⟩
 | ret u => obtain ⟨v, σ', H', I1, r, ⟨o, ho⟩, q⟩ := q; exact ⟨v, σ', _, I1.K1 ho h0, r, q⟩
end
def Itd (d : Addr) (o : Obj) (kvs : List (Key × V)) : It := ⟨fun i H => i < kvs.length /\ H d = some (.ik o (.dK kvs)), fun i H v H' => H' = H /\ ∃ kv, kvs[i]? = some kv /\ v = kV kv.1, fun i H => i = kvs.length /\ H d = some (.ik o (.dK kvs))⟩
theorem Gk {P : Program} {w : World} {H : Hp} {h : Heap} {d : Addr} {o : Obj} {kvs : List (Key × V)} {es : Array DictEntry} {ep : Nat} (ok : rj P w H h) (hd : H d = some (.ik o (.dK kvs))) (he : o.data = .dict es ep) : (d == sysModules) = false /\ ∃ vs, KV kvs vs /\ h.DictAt (aU P w) d vs ep := by
 obtain ⟨ho, _, hs, vs, kv, o2, es2, ep2, a1, a2, a3, a4⟩ := ok d _ hd
 rw [ho] at a1
 cases a1
 rw [he] at a3
 cases a3
 exact ⟨hs, vs, kv, _, _, ho, a2, he, a4⟩
theorem rA {α β : Type} {F : α -> β -> Prop} : ∀ {xs : List α} {ys : List β}, Paired F xs ys -> ∀ {i : Nat} {x : α}, xs[i]? = some x -> ∃ y, ys[i]? = some y /\ F x y
 | _, _, .nil, i, x, h => by simp at h
 | _, _, .cons r t, 0, x, h => by
   have e := Option.some.inj h
   exact ⟨_, rfl, e ▸ r⟩
 | _, _, .cons r t, i + 1, x, h => by
   obtain ⟨y, e, q⟩ := rA t (i := i) (by simpa using h)
   exact ⟨y, by simpa using e, q⟩
theorem HA {k : Key} {v : Value} (h : HW k v = true) : RelV (kV k) v := by
 rcases cH h with ⟨i, t, rfl, rfl⟩ | ⟨x, t, rfl, rfl⟩
 . exact ⟨t, rfl⟩
 . exact ⟨t, rfl⟩
theorem QT {P : Program} {w : World} {K : PySem.W.Frag} {tg : Expr} {it d : Addr} {o : Obj} {kvs : List (Key × V)} {es : Array DictEntry} {ep : Nat} (he : o.data = .dict es ep) (KG : d ≠ it) :
 Turn P w K tg (Itd d o kvs) [it] it (fun i h => h.IsKeyIter it d i kvs.length ep) where
 mem := by simp
 obj := fun i h st b hb => by
  have e : b = it := by simpa using hb
  subst e
  obtain ⟨o, e, c, d⟩ := st
  exact ⟨o, e, fun v z => by rw [d] at z; cases z⟩
 keep := fun i h h' st k => let ⟨o, e, r⟩ := st; ⟨o, k it (by simp) o e, r⟩
 item := by
  intro X hP hw hK hc i pins s σ H E I hf st hg
  subst hP hw hK
  obtain ⟨f0, f1, f2, f3, f4, f5⟩ := hf it (by simp)
  obtain ⟨hi, hd⟩ := hg
  obtain ⟨_, vs, kv, da⟩ := Gk I.bD hd he
  have hl : vs.length = kvs.length := kv.length.symm
  refine (Walks.dictKeys (knd := aU X.prog X.w) (I.ok.hd hc) it d KG vs ep).item i s _ _ (by rw [hl]; exact hi) ⟨by rw [hl]; exact st, da⟩ fun v h' tk hv HN kk => ?_
  obtain ⟨k, x, hx, hk⟩ := hv
  have I1 : Inv X pins σ H { s with heap := h', toks := tk } := I.turned (fun b u hb e => kk b u (by simpa using hb) e) f0 f1 f3 f4 f5
  have st1 : h'.IsKeyIter it d (i + 1) kvs.length ep := by rw [<- hl]; exact HN.1
  obtain ⟨o1, e1, c1, d1⟩ := id st1
  refine ⟨_, rfl, Ph (s := { s with heap := h', toks := tk }) e1 c1 d1 (by decide) ⟨kV k, H, I1, HA hk, ⟨rfl, ?_⟩, st1, fun b hb => (hf b hb).1⟩⟩
  obtain ⟨q, hq⟩ : ∃ q, kvs[i]? = some q := ⟨_, List.getElem?_eq_getElem hi⟩
  obtain ⟨y, hy, W3⟩ := rA kv hq
  rw [hx] at hy
  cases hy
  exact ⟨q, hq, by rw [W3.1]⟩
 done := by
  intro X hP hw hK hc i pins s σ H E I hf st hg
  subst hP hw hK
  obtain ⟨f0, f1, f2, f3, f4, f5⟩ := hf it (by simp)
  obtain ⟨hi, hd⟩ := hg
  obtain ⟨_, vs, kv, da⟩ := Gk I.bD hd he
  have hl : vs.length = kvs.length := kv.length.symm
  subst hi
  refine (Walks.dictKeys (knd := aU X.prog X.w) (I.ok.hd hc) it d KG vs ep).done s _ _ ⟨by rw [hl]; exact st, da⟩ fun h' tk kk => ⟨rfl, I.turned (fun b u hb e => kk b u (by simpa using hb) e) f0 f1 f3 f4 f5⟩
 self := fun A i s Q E st q => wpAny_pyIter_keyiter st q
def Tt (tl : TE) : TI := fun σ H R => tl σ H fun v H1 => ∃ d kvs, v = .ref d /\ H1 d = some (.dK kvs) /\ ∀ o, R (Itd d o kvs) (upd H1 d (.ik o (.dK kvs)))
theorem JX {X : Cx} {tg l : Expr} {tl : TE} (hl : PE X l tl) : PI X tg l (Tt tl) := by
 intro pins s σ H R I h
 refine dF (hl pins s σ H _ I h) fun v s1 ⟨y, H1, I1, r1, q1⟩ => ?_
 obtain ⟨d, kvs, rfl, hd, q⟩ := q1
 cases r1
 obtain ⟨_, hs, vs, kv, o, es, ep, ho, a2, a3, a4⟩ := (show cD X.prog X.w H1 s1.heap d (.dK kvs) from I1.bD d _ hd)
 have da : s1.heap.DictAt (aU X.prog X.w) d vs ep := ⟨o, es, ho, a2, a3, a4⟩
 refine wpAny_pyIter_dict hs da ?_
 have I2 := I1.freeze hd ho
 have lK : d < s1.heap.objs.size := Heap.lt_size ho
 have hlen : vs.length = kvs.length := kv.length.symm
 refine ⟨s1.heap.objs.size, [s1.heap.objs.size], _, _, _, rfl, I2.kept (t' := s1.toks) fun b u e => Heap.get?_push_of_some _ e, QT a3 (Nat.ne_of_lt lK), ⟨_, Heap.get?_push_size _ rfl, rfl, by rw [hlen]; rfl⟩, fun b hb => ?_, q o⟩
 have e : b = s1.heap.objs.size := by simpa using hb
 subst e
 exact I2.Er (Nat.le_refl _) (I2.bD.fresh (Nat.le_refl _))
def RG (H : Hp) (p : Addr) (m : List (Str × PyData)) : Prop := ∃ kvs, Rd H p (.dK kvs) /\ lP H kvs m
theorem gA.rd {H : Hp} {p : Addr} {m : List (Str × PyData)} (h : gA H p m) : RG H p m := let ⟨kvs, e, d⟩ := h; ⟨kvs, .inl e, d⟩
theorem RG.keeps {H H' : Hp} {p : Addr} {m : List (Str × PyData)} (s : ay H H') (h : RG H p m) : RG H' p m := by
 obtain ⟨kvs, r, d⟩ := h
 refine ⟨kvs, ?_, d.yz fun a xs e => s _ _ e⟩
 rcases r with r | ⟨o, r⟩
 . exact .inl (s _ _ r)
 . exact .inr ⟨o, s _ _ r⟩
theorem lP.RD {H : Hp} : ∀ {kvs : List (Key × V)} {m : List (Str × PyData)}, lP H kvs m -> ∀ {i : Nat} {kv : Key × V}, kvs[i]? = some kv -> ∃ k d, m[i]? = some (k, d) /\ kv.1 = .inr k /\ Dv H kv.2 d
 | _, _, .nil, i, kv, h => by simp at h
 | _, _, .cons (k := k) (d := d) hv _ r, 0, kv, h => by
   have e := (Option.some.inj h).symm
   subst e
   exact ⟨k, d, rfl, rfl, hv⟩
 | _, _, .cons _ _ r, i + 1, kv, h => by
   obtain ⟨k, d, e, q⟩ := lP.RD r (i := i) (by simpa using h)
   exact ⟨k, d, by simpa using e, q⟩
section
variable {σ : St} {H : Hp} {Q : VK} {K : PySem.W.Frag} {p : Addr} {m : List (Str × PyData)} {k : Str}
theorem Xn {d : PyData} {R : V -> Prop} (hp : RG H p m) (hk : ig m k = some d) (h : F7 H d fun v _ => R v) : ∃ a v, V.ref p = .ref a /\ iD H a (.str k) (some v) /\ R v := by
 obtain ⟨kvs, e, dk⟩ := hp
 obtain ⟨v, hv, hd⟩ := (dk.val (k := k)).1 d hk
 exact ⟨p, v, rfl, .inl ⟨kvs, .inr k, e, rfl, hv.symm⟩, h.use hd⟩
theorem Yr {n : Nat} {tl : TE} {g : TG} {tc : TT} {te : TE} (hp : gA H p m) (htl : ∀ R : V -> Hp -> Prop, R (.ref p) H -> tl σ H R) (pf : Str -> Bool) (fd : Str -> PyData) (hlen : m.length <= 4000) (hi : ∀ c, Gf (fd c) = true)
 (turn : ∀ c Hf H' (N : Option V -> Hp -> Prop), c ∈ m.map (·.1) -> Mv [p] H Hf -> RG Hf p m -> ay Hf H' -> (pf c = true -> ∀ y H4, ay H' H4 -> Dv H4 y (fd c) -> N (some y) H4) -> (pf c = false -> ∀ H3, ay H' H3 -> N none H3) ->
  g (.str c) (List.replicate n none ++ σ) H' fun σ2 H2 => tc σ2 H2 fun b H3 => LCT te N σ2 b H3)
 (kk : ∀ q H', ay H H' -> H q = none -> d5 H' q (((m.map (·.1)).filter pf).map fd) -> Q (.ref q) H') : UR (tLC n (Tt tl) g tc te) σ H Q := by
 obtain ⟨kvs, e, dk⟩ := hp
 refine ⟨p, kvs, e, htl _ ⟨p, kvs, rfl, e, fun o => ?_⟩⟩
 have mv : Mv [p] H (upd H p (.ik o (.dK kvs))) := .bo e (by intro _ z; cases z)
 have rd : RG (upd H p (.ik o (.dK kvs))) p m := ⟨kvs, .inr ⟨o, ao⟩, dk.yz mv.tp⟩
 have hl : kvs.length = m.length := dk.length
 refine ⟨fun i j acc H' => i <= m.length /\ j = m.length - i /\ ay (upd H p (.ik o (.dK kvs))) H' /\ c7 H' acc ((((m.map (·.1)).take i).filter pf).map fd), ⟨m.length, Nat.zero_le _, rfl, ay.refl _, by simpa using c7.nil⟩, ?_⟩
 rintro i j acc H' ⟨DU, rfl, sm, gD⟩
 have Lg : H' p = some (.ik o (.dK kvs)) := sm _ _ ao
 have hal : acc.length <= m.length := by
  rw [gD.length, List.length_map]
  refine Nat.le_trans (List.length_filter_le _ _) ?_
  rw [List.length_take, List.length_map]
  omega
 by_cases hc : i = m.length
 . left
   refine ⟨⟨by omega, Lg⟩, fun q hq => ?_⟩
   have XS : p ≠ q := aA Lg hq
   have tk : (m.map (·.1)).take i = m.map (·.1) := List.take_of_length_le (by rw [List.length_map]; omega)
   rw [tk] at gD
   have ups : upd (upd H' q (.lst acc)) p (.dK kvs) q = some (.lst acc) := by rw [aq (Ne.symm XS), ao]
   refine ⟨⟨o, by rw [aq XS]; exact Lg⟩, kk q _ (fun a u z => ?_) ?_ ⟨acc, ups, gD.yz (fun a xs z => ?_) (eA hi _), eA hi _⟩⟩
   . by_cases ha : a = p
     . subst ha; rw [e] at z; cases z; exact ao
     . have z1 : H' a = some u := sm _ _ (by rw [aq ha]; exact z)
       rw [aq ha, aq (aA z1 hq)]; exact z1
   . cases hz : H q with
     | none => rfl
     | some u =>
       have : H' q = some u := sm _ _ (by rw [aq (Ne.symm XS)]; exact hz)
       rw [hq] at this; cases this
   . rw [aq (iq z Lg (by intro y; cases y)), aq (aA z hq)]; exact z
 . right
   have lK : i < m.length := by omega
   refine ⟨⟨by omega, Lg⟩, jZ (by omega), fun x H2 hy => ?_⟩
   obtain ⟨rfl, kv, Y4, rfl⟩ := hy
   obtain ⟨c, d, hm, hkc, _⟩ := dk.RD Y4
   have hcs : (m.map (·.1))[i]? = some c := by rw [List.getElem?_map, hm]; rfl
   have TB : (m.map (·.1)).take (i + 1) = (m.map (·.1)).take i ++ [c] := by rw [List.take_add_one, hcs]; rfl
   rw [show kV kv.1 = .str c by rw [hkc]; rfl]
   refine turn c _ H2 (fun r H4 => match r with | some y => ∃ j', j' < m.length - i /\ i + 1 <= m.length /\ j' = m.length - (i + 1) /\ ay (upd H p (.ik o (.dK kvs))) H4 /\ c7 H4 (acc ++ [y]) ((((m.map (·.1)).take (i + 1)).filter pf).map fd) | none => ∃ j', j' < m.length - i /\ i + 1 <= m.length /\ j' = m.length - (i + 1) /\ ay (upd H p (.ik o (.dK kvs))) H4 /\ c7 H4 acc ((((m.map (·.1)).take (i + 1)).filter pf).map fd))
    (List.mem_of_getElem? hcs) mv rd sm (fun hb y H4 s4 d4 => ⟨m.length - (i + 1), by omega, lK, rfl, sm.trans s4, ?_⟩) (fun hb H3 s3 => ⟨m.length - (i + 1), by omega, lK, rfl, sm.trans s3, ?_⟩)
   . rw [TB, List.filter_append, List.map_append]
     simp only [List.filter_cons, hb, if_true, List.filter_nil, List.map_cons, List.map_nil]
     exact c7.append (gD.keeps s4) (.cons d4 .nil)
   . rw [TB, List.filter_append, List.map_append]
     simp only [List.filter_cons, hb, Bool.false_eq_true, if_false, List.filter_nil, List.map_nil, List.append_nil]
     exact gD.keeps s3
end
section
variable {X : Cx}
def SU : V -> List V -> Hp -> VK -> Prop := fun x vs H Q => ∃ a kvs k v, x = .ref a /\ vs = [kV k] /\ H a = some (.dK kvs) /\ oS kvs k = some v /\ Q v (upd H a (.dK (sL kvs k)))
theorem Gr : MtM X "dict.pop" SU := by
 intro pins s σ H x vs v us Q I rx rv h
 obtain ⟨a, kvs, k, y, rfl, rfl, hH, hv, q⟩ := h
 cases rx
 obtain ⟨u, rfl, ru⟩ := rv.one
 exact acN I hH ru hv (.inl rfl) fun w' s' I' r => ⟨y, _, I', r, q⟩
end
section
variable {σ : St} {H : Hp} {Q : VK} {K : PySem.W.Frag} {p : Addr} {m : List (Str × PyData)} {k : Str}
theorem SN {R : Prop} (hp : gA H p m) (h : R) : tyV K "dict" (.ref p) H /\ R := let ⟨kvs, e, _⟩ := hp; ⟨.inr (.inr (.inl ⟨rfl, .inl ⟨kvs, e⟩⟩)), h⟩
theorem MV {d : PyData} (hp : gA H p m) (hk : ig m k = some d) (h : ∀ v H2, Mv [p] H H2 -> gA H2 p (mZ m k) -> Q v H2) : SU (.ref p) [.str k] H Q := by
 obtain ⟨kvs, e, dk⟩ := hp
 obtain ⟨v, hv, hd⟩ := (dk.val (k := k)).1 d hk
 have mv : Mv [p] H (upd H p (.dK (sL kvs (.inr k)))) := .bo e (by intro _ z; cases z)
 refine ⟨p, kvs, .inr k, v, rfl, rfl, e, hv, h v _ mv ⟨_, ao, dk.drop.yz mv.tp⟩⟩
end
section
variable {σ : St} {H : Hp} {Q : VK} {K : PySem.W.Frag} {p : Addr}
end
section
variable {X : Cx}
end
theorem NF {h : Heap} {o u : Obj} {b : Addr} (e : (h.push o).get? b = some u) (n : b ≠ h.objs.size) : h.get? b = some u := by
 obtain ⟨e1, e2⟩ := Heap.get?_some_iff.mp e
 refine Heap.get?_some_iff.mpr ⟨?_, e2⟩
 cases h
 simpa [Heap.push, Array.getElem?_push, n] using e1
section
variable {prog : Program} {w : World} {K : Type} [DecidableEq K] {knd : KeyKind prog w K} {A : Around} {E : Value -> Shared -> Prop} {s : Shared} {d : Addr} {kvs : List (K × Value)} {ep : Nat}
theorem TL {R : Result -> Shared -> Prop} (hh : A.handled = none) (hd : (d == sysModules) = false) (y : Addr) (c0 : Nat) (hz : kvs.length <= sizeLine) (hm : s.heap.DictAt knd d kvs ep)
 (hy : s.heap.get? y = some { cls := .type "list", data := .seq #[] c0 }) (hyd : y ≠ d)
 (hR : ∀ s' acc c, s'.gens = s.gens -> s'.drawn = s.drawn -> s'.os = s.os -> (∀ b o, b ≠ y -> s.heap.get? b = some o -> s'.heap.get? b = some o) -> s'.heap.get? y = some { cls := .type "list", data := .seq acc c } -> ItemsOf (fun i v => ∃ k x, kvs[i]? = some (k, x) /\ knd.is k v = true) acc kvs.length -> R (.ok (.ret .none)) s') :
 wpAny (model prog w) A.in1 (Builtin.List.listExtendWith (.ref y) (.ref d) .none)
  (fun f s' => match f with | .done g => R (.ok g) s' | .again c => c.quiet = true /\ codeAny (model prog w) A c R s') (fun e s' => R (.error e) s') s := by
 have hT : s.TypeIs (.ref d) "dict" := hm.dictOf.typeIs
 have hyl : y < s.heap.objs.size := Heap.lt_size hy
 have hdl : d < s.heap.objs.size := hm.lt_size
 have W := (Walks.dictKeys (knd := knd) (A := A.in1) hh s.heap.objs.size d (Nat.ne_of_lt hdl) kvs ep).toS
 have nf : y ∉ [s.heap.objs.size, d] := by simp [hyd, Nat.ne_of_lt hyl]
 unfold Builtin.List.listExtendWith
 refine wpAny_bind (wpAny_typeOf hT ?_)
 have a1 : Builtin.List.listSameRef (.ref y) (.ref d) = false := by simp [Builtin.List.listSameRef, hyd]
 have a2 : (Value.type "dict" == Value.type "list") = false := by decide
 have a3 : (Value.type "dict" == Value.type "tuple") = false := by decide
 simp only [a1, a2, a3, Bool.or_self, Bool.false_eq_true, if_false]
 refine wpAny_bind (wpAny_pyIter_dict hd hm ?_)
 refine wpAny_bind (wpAny_holding ?_)
 have hT1 : Shared.TypeIs { s with heap := s.heap.push { cls := .type "dict_keyiterator", data := .fields #[.ref d, .int 0 0, .int kvs.length 0, .int ep 0] } } (.ref d) "dict" := by
  obtain ⟨o, es, e, c, _⟩ := id hm
  exact ⟨o, Heap.get?_push_of_some _ e, c.1⟩
 unfold Builtin.List.listLengthHint
 refine wpAny_bind (wpAny_specialOf hT1 F.slot_dict_len.lookup ?_)
 generalize hid : ("dict.__len__" : String) = id0
 wp_delta
 rw [show splitId id0 = some ("dict", "__len__") from by subst hid; decide +kernel]
 subst hid
 refine wpAny_bind (wpAny_isInstance (T := "dict") (b := true) hT1 (by rw [isSubtype_type]; kernel_rfl) ?_)
 refine wpAny_ite_split (fun hab => absurd hab (by decide)) (fun _ => ?_)
 refine wpAny_ite_split (fun _ => ?_) (fun hab => absurd (by decide +kernel) hab)
 refine wpAny_bind (wpAny_typeOf hT1 (wpAny_pure ?_))
 show wpAny _ A.in1 (rule "list.extend.makes-room" >>= fun _ => Builtin.List.listTouch (.ref y) >>= fun _ =>
  again (.builtin "list.extend.loop" ⟨[.ref y, .ref s.heap.objs.size, .none], []⟩)) _ _ _
 refine wpAny_bind (wpAny_rule ?_)
 have hy1 := Heap.get?_push_of_some { cls := .type "dict_keyiterator", data := .fields #[.ref d, .int 0 0, .int kvs.length 0, .int ep 0] } hy
 refine wpAny_bind ?_
 show wpAny _ A.in1 (updateSeq y (·.push .none) >>= fun _ => updateSeq y (·.pop)) _ _ _
 refine wpAny_bind (wpAny_updateSeq hy1 rfl ?_)
 have W3 := Heap.get?_update_self (Obj.mapSeq (·.push Value.none)) hy1 rfl
 refine wpAny_updateSeq (hz := by seq_fits) W3 rfl ?_
 have hy3 := Heap.get?_update_self (Obj.mapSeq (·.pop)) W3 rfl
 have ot : ∀ b o, b ≠ y -> (s.heap.push { cls := .type "dict_keyiterator", data := .fields #[.ref d, .int 0 0, .int kvs.length 0, .int ep 0] }).get? b = some o -> (((s.heap.push { cls := .type "dict_keyiterator", data := .fields #[.ref d, .int 0 0, .int kvs.length 0, .int ep 0] }).update y (Obj.mapSeq (·.push Value.none))).update y (Obj.mapSeq (·.pop))).get? b = some o :=
  fun b o hb e => (Heap.get?_update_other _ _ (Ne.symm hb)).trans ((Heap.get?_update_other _ _ (Ne.symm hb)).trans e)
 have it0 : Heap.IsKeyIter (s.heap.push { cls := .type "dict_keyiterator", data := .fields #[.ref d, .int 0 0, .int kvs.length 0, .int ep 0] }) s.heap.objs.size d 0 kvs.length ep := ⟨_, Heap.get?_push_size _ rfl, rfl, rfl⟩
 refine wpAny_pure ⟨plainId_quiet F.plain_extend_loop _, codeAny_extend_loopS W hz _ nf _ kvs.length 0 _ _ _ rfl (Nat.zero_le _) ⟨it0.at fun o e => ot _ o (Ne.symm (Nat.ne_of_lt hyl)) e, (hm.push _).at' fun o e => ot _ o (Ne.symm hyd) e⟩ hy3 (ItemsOf.nil _) fun s' acc c hmv hs gD => ?_⟩
 refine hR s' acc c hmv.gens hmv.drawn hmv.os (fun b o hb e => hmv.heap b o ?_ (ot b o hb (Heap.get?_push_of_some _ e))) hs gD
 simp [hb, Nat.ne_of_lt (Heap.lt_size e)]
theorem Hz {Q : Value -> Shared -> Prop} (hh : A.handled = none) (hd : (d == sysModules) = false) (hz : kvs.length <= sizeLine) (hm : s.heap.DictAt knd d kvs ep)
 (hQ : ∀ s' acc c, s'.gens = s.gens -> s'.drawn = s.drawn -> s'.os = s.os -> (∀ b o, s.heap.get? b = some o -> s'.heap.get? b = some o) -> s'.heap.get? s.heap.objs.size = some { cls := .type "list", data := .seq acc c } -> ItemsOf (fun i v => ∃ k x, kvs[i]? = some (k, x) /\ knd.is k v = true) acc kvs.length -> Q (.ref s.heap.objs.size) s') :
 wpAny (model prog w) A (call (.type "list") [.ref d]) Q E s := by
 have hdl : d < s.heap.objs.size := hm.lt_size
 refine callType_codes (Q₁ := fun u s1 => u = .ref s.heap.objs.size /\ s1 = { s with heap := s.heap.push { cls := .type "list", data := .seq #[] } }) F.called_list (F.typeCall_list_1 _) F.entry_list_init (code_list_new _ ⟨rfl, rfl⟩) fun u s1 hu => ?_
 obtain ⟨rfl, rfl⟩ := hu
 have h0 : (s.heap.push { cls := .type "list", data := .seq #[] }).get? s.heap.objs.size = some { cls := .type "list", data := .seq #[] } := Heap.get?_push_size _ rfl
 refine ⟨⟨_, h0, rfl⟩, F.args_list_init_2 _ _, ?_⟩
 show wpAny _ _ (Builtin.List.listItems (.ref s.heap.objs.size) >>= fun old => Builtin.List.listUpdate (.ref s.heap.objs.size) (fun _ => #[]) >>= fun _ => letGo old.toList.reverse >>= fun _ => Builtin.List.listExtendWith (.ref s.heap.objs.size) (.ref d) .none) _ _ _
 refine wpAny_bind ?_
 unfold Builtin.List.listItems
 refine wpAny_bind (wpAny_seqItems h0 rfl (wpAny_pure (wpAny_bind ?_)))
 refine wpAny_updateSeq h0 rfl (wpAny_bind (wpAny_letGo ?_))
 have h2 := Heap.get?_update_self (Obj.mapSeq (fun _ => (#[] : Array Value))) h0 rfl
 have ot : ∀ b o, b ≠ s.heap.objs.size -> s.heap.get? b = some o -> ((s.heap.push { cls := .type "list", data := .seq #[] }).update s.heap.objs.size (Obj.mapSeq (fun _ => (#[] : Array Value)))).get? b = some o := fun b o hb e => by
  rw [Heap.get?_update_other _ _ (Ne.symm hb)]
  exact Heap.get?_push_of_some _ e
 refine TL (A := A.in1) hh hd _ _ hz (hm.at' fun o e => ot d o (Nat.ne_of_lt hdl) e) h2 (Ne.symm (Nat.ne_of_lt hdl)) fun s' acc c e1 e2 e3 Vu hs gD => ?_
 exact ⟨rfl, hQ s' acc c e1 e2 e3 (fun b o e => Vu b o (Nat.ne_of_lt (Heap.lt_size e)) (ot b o (Nat.ne_of_lt (Heap.lt_size e)) e)) hs gD⟩
end
section
variable {X : Cx}
def U6 : List V -> Hp -> VK -> Prop := fun xs H Q => ∃ p kvs, xs = [.ref p] /\ Rd H p (.dK kvs) /\ ∀ q, H q = none -> Q (.ref q) (upd H q (.lst (kvs.map fun kv => kV kv.1)))
theorem G0 {P : Program} {w : World} {kvs : List (Key × V)} {vs : List (Key × Value)} {acc : Array Value} (kv : KV kvs vs) (h : ItemsOf (fun i v => ∃ k x, vs[i]? = some (k, x) /\ (aU P w).is k v = true) acc vs.length) : Vals (kvs.map fun kv => kV kv.1) acc.toList := by
 obtain ⟨h0, h1⟩ := h
 have key : ∀ (kvs : List (Key × V)) (vs : List (Key × Value)), KV kvs vs -> ∀ l : List Value, l.length = vs.length -> (∀ (i : Nat) (v : Value), l[i]? = some v -> ∃ k x, vs[i]? = some (k, x) /\ (aU P w).is k v = true) -> Vals (kvs.map fun kv => kV kv.1) l := by
  intro kvs vs r
  induction r with
  | nil =>
    intro l hl _
    cases l with
    | nil => exact .nil
    | cons => simp at hl
  | cons r t ih =>
    intro l hl hi
    cases l with
    | nil => simp at hl
    | cons v l =>
      refine .cons ?_ (ih l (by simpa using hl) fun i v e => ?_)
      . obtain ⟨k, x, e, hk⟩ := hi 0 v rfl
        have e' := Option.some.inj e
        dsimp only
        rw [r.1, e']
        exact HA hk
      . exact hi (i + 1) v (by simpa using e)
 exact key kvs vs kv acc.toList (by simpa using h0) fun i v e => h1 i v (by simpa using e)
theorem GO (hc : X.calm = true) : i9 X (.type "list") U6 := by
 intro pins s σ H xs us Q I rv h
 obtain ⟨p, kvs, rfl, hH, q⟩ := h
 obtain ⟨u, rfl, ru⟩ := rv.one
 cases ru
 have ob : cD X.prog X.w H s.heap p (.dK kvs) := by
  rcases hH with e | ⟨o, e⟩
  . exact I.bD p _ e
  . exact (I.bD p _ e).2
 obtain ⟨hz, hs, vs, kv, dof⟩ := ob
 obtain ⟨ep, da⟩ := dof.dictAt
 have hlen : vs.length = kvs.length := kv.length.symm
 refine Hz (I.ok.hd hc) hs (by rw [hlen]; exact hz) da fun s' acc c eg ed eo hk Ma gD => ?_
 obtain ⟨h', g', d', tk', os'⟩ := s'
 have eg : g' = s.gens := eg
 have ed : d' = s.drawn := ed
 have eo : os' = s.os := eo
 subst eg; subst ed; subst eo
 refine ⟨.ref s.heap.objs.size, _, I.laid (t' := tk') (o := .lst (kvs.map fun kv => kV kv.1)) (fun b ob e => hk b ob e) (Nat.le_refl _) ?_, rfl, q _ (I.bD.fresh (Nat.le_refl _))⟩
 exact ⟨by rw [List.length_map]; exact hz, acc.toList, c, G0 kv gD, by simpa using Ma⟩
end
section
variable {σ : St} {H : Hp} {Q : VK} {p : Addr} {m : List (Str × PyData)}
theorem lP.keys {H H' : Hp} : ∀ {kvs : List (Key × V)} {m : List (Str × PyData)}, lP H kvs m -> c7 H' (kvs.map fun kv => kV kv.1) ((m.map (·.1)).map PyData.str)
 | _, _, .nil => .nil
 | _, _, .cons _ _ r => .cons (.str _) (lP.keys r)
theorem FG : ∀ ss : List Str, c9 (ss.map PyData.str) = true
 | [] => rfl
 | _ :: r => by rw [List.map_cons, c9, FG r]; rfl
theorem OA (hp : RG H p m) (k : ∀ q H', ay H H' -> H q = none -> d5 H' q ((m.map (·.1)).map PyData.str) -> Q (.ref q) H') : U6 [.ref p] H Q := by
 obtain ⟨kvs, e, dk⟩ := hp
 exact ⟨p, kvs, rfl, e, fun q hq => k q _ (dB hq) hq (Gj hq dk.keys (FG _))⟩
end
theorem yJ : entryFor table "dict_itemiterator.__iter__" = some Builtin.«dict_keyiterator.__iter__» :=
 PySem.W.kcp_entry
def Iti (d : Addr) (o : Obj) (kvs : List (Key × V)) : It := ⟨fun i H => i < kvs.length /\ H d = some (.ik o (.dK kvs)), fun i H v H' => ∃ t kv, kvs[i]? = some kv /\ v = .ref t /\ H t = none /\ H' = upd H t (.tup [kV kv.1, kv.2]), fun i H => i = kvs.length /\ H d = some (.ik o (.dK kvs))⟩
theorem NU {P : Program} {w : World} {K : PySem.W.Frag} {elts : List Expr} {x1} {pos : Pos} {it d : Addr} {o : Obj} {kvs : List (Key × V)} {es : Array DictEntry} {ep : Nat} (he : o.data = .dict es ep) (KG : d ≠ it) :
 Turn P w K (.Tuple elts x1 pos) (Iti d o kvs) [it] it (fun i h => ∃ ok ov, IsItemIter h it d i kvs.length ep ok ov) where
 mem := by simp
 obj := fun i h st b hb => by
  have e : b = it := by simpa using hb
  subst e
  obtain ⟨ok, ov, e⟩ := st
  exact ⟨_, e, fun v z => by cases z⟩
 keep := fun i h h' st k => let ⟨ok, ov, e⟩ := st; ⟨ok, ov, k it (by simp) _ e⟩
 item := by
  intro X hP hw hK hc i pins s σ H E I hf st hg
  subst hP hw hK
  obtain ⟨f0, f1, f2, f3, f4, f5⟩ := hf it (by simp)
  obtain ⟨hi, hd⟩ := hg
  obtain ⟨_, vs, kv, da⟩ := Gk I.bD hd he
  have hl : vs.length = kvs.length := kv.length.symm
  obtain ⟨ok, ov, st⟩ := st
  obtain ⟨q, hq⟩ : ∃ q, kvs[i]? = some q := ⟨_, List.getElem?_eq_getElem hi⟩
  obtain ⟨⟨k, v⟩, hy, W3⟩ := rA kv hq
  have hil : it < s.heap.objs.size := Heap.lt_size st
  have hn : H s.heap.objs.size = none := I.bD.fresh (Nat.le_refl _)
  refine wpAny_pyNext_items_item (knd := aU X.prog X.w) (by rw [hl]; exact st) da hy fun key h' hk hit ht hz kk => ?_
  rw [hl] at hit
  refine ⟨_, rfl, wpAny_letOwnedTupleGo_items (s := { s with heap := h' }) hit fun h2 ahS sb => ?_⟩
  have I1 : Inv X pins σ (upd H s.heap.objs.size (.tup [kV q.1, q.2])) { s with heap := s.heap.push { cls := .type "tuple", data := .seq #[key, v] } } :=
   I.laid (t' := s.toks) (fun b u e => Heap.get?_push_of_some _ e) (Nat.le_refl _) (show cD X.prog X.w _ _ _ (.tup [kV q.1, q.2]) from ⟨by rw [sizeLine_eq]; simp, [key, v], .cons (by rw [W3.1]; exact HA hk) (.cons W3.2 .nil), IsTup.new _ _⟩)
  have Xx : upd H s.heap.objs.size (.tup [kV q.1, q.2]) it = none := by rw [aq (Nat.ne_of_lt hil)]; exact f0
  have I2 : Inv X pins σ (upd H s.heap.objs.size (.tup [kV q.1, q.2])) { s with heap := h2 } := by
   refine Inv.turned (s := { s with heap := s.heap.push { cls := .type "tuple", data := .seq #[key, v] } }) (h' := h2) (t' := s.toks) (it := it) I1 (fun b u hb e => ?_) Xx f1 f3 f4 f5
   by_cases hbn : b = s.heap.objs.size
   . subst hbn
     have e0 : (s.heap.push { cls := .type "tuple", data := .seq #[key, v] }).get? s.heap.objs.size = some { cls := .type "tuple", data := .seq #[key, v] } := Heap.get?_push_size _ rfl
     have e1 := e0.symm.trans e
     cases e1
     exact (sb.2 _ hb).trans ht
   . exact (sb.2 _ hb).trans (kk b u hb (NF e hbn))
  refine ⟨.ref s.heap.objs.size, _, I2, rfl, ⟨_, q, hq, rfl, hn, rfl⟩, ⟨_, _, ahS⟩, fun b hb => ?_⟩
  have e : b = it := by simpa using hb
  rw [e]
  exact Xx
 done := by
  intro X hP hw hK hc i pins s σ H E I hf st hg
  subst hP hw hK
  obtain ⟨f0, f1, f2, f3, f4, f5⟩ := hf it (by simp)
  obtain ⟨hi, hd⟩ := hg
  obtain ⟨_, vs, kv, da⟩ := Gk I.bD hd he
  have hl : vs.length = kvs.length := kv.length.symm
  obtain ⟨ok, ov, st⟩ := st
  refine wpAny_pyNext_items_end (knd := aU X.prog X.w) (I.ok.hd hc) (by rw [hl]; exact st) da (by rw [hi, <- hl]; simp) fun h' hx => ⟨rfl, I.turned (t' := s.toks) (fun b u hb e => hx b u hb e) f0 f1 f3 f4 f5⟩
 self := fun A i s Q E st q => by
  obtain ⟨ok, ov, st⟩ := st
  have hT : s.TypeIs (.ref it) "dict_itemiterator" := ⟨_, st, rfl⟩
  refine wpAny_pyIter_slot hT F.slot_dict_itemiterator_iter (wpAny_call_entry F.slot_dict_itemiterator_iter hT yJ ?_ (F.args_dict_itemiterator_iter_1 _))
  show wpAny _ _ (ret (.ref it)) _ _ s
  exact wpAny_pure ⟨_, rfl, "dict_itemiterator", _, hT, F.slot_dict_itemiterator_next.lookup, q⟩
def Ug (tl : TE) : TI := fun σ H R => tl σ H fun v H1 => ∃ d kvs, v = .ref d /\ H1 d = some (.dK kvs) /\ ∀ o, R (Iti d o kvs) (upd H1 d (.ik o (.dK kvs)))
theorem U7 {X : Cx} {elts : List Expr} {x1} {abu : Pos} {l : Expr} {tl : TE} {apos gO : Pos} (hl : PE X l tl)
 (LO : attributeBase l "items" X.env (eval l X.env) = eval l X.env := by rfl) (hline : (apos.endLine == gO.line) = true := by rfl) : PI X (.Tuple elts x1 abu) (.Call (.Attribute l "items" apos) [] [] gO) (Ug tl) := by
 intro pins s σ H R I h
 refine wpAny_Call_method0_late LO hline (dF (hl pins s σ H _ I h) fun v s1 ⟨y, H1, I1, r1, q1⟩ => ?_)
 obtain ⟨d, kvs, rfl, hd, q⟩ := q1
 obtain ⟨h1, h2⟩ := Nk I1 (T := "dict") r1 (.inr (.inr (.inl ⟨rfl, .inl ⟨kvs, hd⟩⟩)))
 cases r1
 refine ⟨"dict", "dict.items", PySem.F.plainAttrs_dict, PySem.F.slot_dict_items, PySem.F.type_dict_items, h1, h2, Calls.callWith_builtin rfl (PySem.evalArgs_none ?_)⟩
 obtain ⟨_, hs, vs, kv, o, es, ep, ho, a2, a3, a4⟩ := (show cD X.prog X.w H1 s1.heap d (.dK kvs) from I1.bD d _ hd)
 have da : s1.heap.DictAt (aU X.prog X.w) d vs ep := ⟨o, es, ho, a2, a3, a4⟩
 have lK : d < s1.heap.objs.size := Heap.lt_size ho
 have hlen : vs.length = kvs.length := kv.length.symm
 refine call_meetsIn PySem.F.slot_dict_items da.dictOf.typeIs PySem.F.entry_dict_items (PySem.F.args_dict_items_1 _) (meets_dict_items (aU X.prog X.w) d hs) ⟨⟨vs, da.dictOf⟩, ?_⟩
 refine wpAny_pyIter_items (v := s1.heap.objs.size) ⟨_, Heap.get?_push_size _ rfl, rfl, rfl⟩ (da.push _) ?_
 have I2 := I1.freeze hd ho
 have hsz : (s1.heap.push { cls := .type "dict_items", data := .fields #[.ref d] }).objs.size = s1.heap.objs.size + 1 := Heap.size_push ..
 refine ⟨_, [_], _, _, _, rfl, I2.kept (t' := s1.toks) fun b u e => Heap.get?_push_of_some _ (Heap.get?_push_of_some _ e), NU a3 (Nat.ne_of_lt (by rw [hsz]; exact Nat.lt_succ_of_lt lK)), ⟨_, _, by rw [<- hlen]; exact Heap.get?_push_size _ rfl⟩, fun b hb => ?_, q o⟩
 have e : b = (s1.heap.push { cls := .type "dict_items", data := .fields #[.ref d] }).objs.size := by simpa using hb
 subst e
 exact I2.Er (by rw [hsz]; exact Nat.le_succ _) (I2.bD.fresh (by rw [hsz]; exact Nat.le_succ _))
section
variable {σ : St} {H : Hp} {D : Ends} {p : Addr} {m : List (Str × PyData)} {g : TG} {tb : TS}
theorem Mv.K1 {S : List Addr} {H H' : Hp} {p : Addr} {o : Obj} {kvs : List (Key × V)} (hp : p ∉ S) (e : H p = some (.dK kvs)) (m : Mv S (upd H p (.ik o (.dK kvs))) H') : Mv S H (upd H' p (.dK kvs)) := by
 have hf : H' p = some (.ik o (.dK kvs)) := m.at hp ao
 refine ⟨fun b u n hb => ?_, fun b xs hb => ?_, fun b hb => ?_⟩
 . by_cases z : b = p
   . subst z; rw [e] at hb; cases hb; exact ao
   . rw [aq z]; exact m.at n (by rw [aq z]; exact hb)
 . have z : b ≠ p := iq hb e (by intro y; cases y)
   rw [aq z]; exact m.tp b xs (by rw [aq z]; exact hb)
 . by_cases z : b = p
   . subst z; rw [ao] at hb; cases hb
   . rw [aq z] at hb
     have := m.dm b hb
     rw [aq z] at this; exact this
end
section
variable {σ : St} {H : Hp} {K : PySem.W.Frag}
theorem JU {x : V} {i j : Nat} {d1 d2 : PyData} {R : St -> Hp -> Prop} (hd : Dv H x (.tuple [d1, d2])) (h : ∀ v1 v2, Dv H v1 d1 -> Dv H v2 d2 -> R ((σ.set i (some v1)).set j (some v2)) H) :
 NM K 2 (wV (jQ i) (wV (jQ j) Qa)) x σ H R := by
 cases hd with
 | tup ha r =>
   cases r with
   | cons h1 r =>
     cases r with
     | cons h2 r =>
       cases r
       exact ⟨_, _, rfl, .of ha, rfl, _, _, rfl, _, _, rfl, rfl, h _ _ h1 h2⟩
end
end L2
namespace L2
open PySem
def UpA (xs : Array Nat) : Prop := ∀ i j, (hi : i < xs.size) -> (hj : j < xs.size) -> i < j -> xs[i] < xs[j]
structure Good (t : SetTable) : Prop where
 up : UpA t.place
 nd : t.dummies = #[]
section
variable {prog : Program} {w : World} {A : Around} {E : Value -> Shared -> Prop} {s : Shared}
end
section
variable {prog : Program} {w : World} {A : Around} {E : Value -> Shared -> Prop} {s : Shared}
end
set_option maxRecDepth 100000
section
variable {prog : Program} {w : World} {A : Around} {E : Value -> Shared -> Prop} {s : Shared} {it a : Addr} {o : Obj} {es : Array (Int × Value)} {ep : Nat} {t : SetTable}
end
section
variable {prog : Program} {w : World} {A : Around} {E : Value -> Shared -> Prop} {s : Shared} {it a : Addr} {o : Obj} {es : Array (Int × Value)} {ep : Nat} {t : SetTable}
end
section
variable {prog : Program} {w : World} {A : Around} {E : Value -> Shared -> Prop} {s : Shared} {it a : Addr} {o : Obj} {es : Array (Int × Value)} {ep : Nat} {t : SetTable}
end
end L2
namespace L2
open PySem PySem.Spec PyProof.Rows
section
variable {prog : Program} {w : World} {A : Around} {R : Result -> Shared -> Prop} {it y : Addr} {fp wr : List Addr} {G : Array GenState -> Array GenState -> Prop} {n : Nat} {Pv : Nat -> Value -> Prop} {St : Nat -> Shared -> Prop}
end
section
variable {prog : Program} {w : World} {A : Around} {E : Value -> Shared -> Prop} {s : Shared}
set_option maxRecDepth 100000 in
set_option maxHeartbeats 3200000 in
end
section
variable {prog : Program} {w : World} {A : Around} {E : Value -> Shared -> Prop} {s : Shared} {a : Addr} {S : Int -> Bool} {n : Nat}
end
end L2
namespace L2
open PySem PySem.Spec PyProof.Rows PySem.W
section
variable {X : Cx} {e : Expr} {te : TE} {p p2 pos af1 : Pos}
end
section
variable {σ : St} {H : Hp} {Q : VK} {v : V}
end
section
variable {X : Cx}
end
section
variable {σ : St} {H : Hp} {Q : VK} {K : PySem.W.Frag} {p : Addr} {m : List (Str × PyData)}
end
def Tr (h : Heap) (a T : Addr) (c : Value) : Prop := ∃ oe vs oT ts, h.get? a = some oe /\ oe.cls = c /\ oe.dict = none /\ oe.data = .fields vs /\ vs[1]? = some (.ref T) /\ T ≠ a /\ h.get? T = some oT /\ oT.data = .fields ts /\ ts[3]? = some .none /\ vs[2]? = some .none
structure Lv (l : List Env) (S : List Addr) (h h' : Heap) : Prop where
 keep : ∀ b o, b ∉ MB l -> b ∉ S -> h.get? b = some o -> h'.get? b = some o
 slot : ∀ b o, b ∈ MB l -> h.get? b = some o -> ∃ sl, h'.get? b = some { o with slots := sl }
section
variable {M : Model} {A : Around} {E : Value -> Shared -> Prop} {s : Shared} {env : Env} {outer : List Env} {L a T : Addr} {c : Value} {base : Heap} {Q : Unit -> Shared -> Prop}
end
def CXR (P : Program) (w : World) : Jz := fun outer H s E e s' => ∃ a T C H', e = .ref a /\ s'.os = s.os /\ AllBare s'.gens /\ Un (MB outer) [] H H' s.heap s'.heap /\ rj P w H' s'.heap /\ Tr s'.heap a T (.ref C) /\ s.heap.get? a = none /\ s.heap.get? T = none /\ H' a = none /\ H' T = none /\ E (.ref C) none H'
section
variable {P : Program} {w : World} {K : PySem.W.Frag} {mg : Str -> Option Value} {base : Heap} {N : List Str} {qual : Str} {scope : Scope} {f : Addr} {cd : Value} {A : Around} {outer : List Env} {s0 : Shared} {H0 : Hp} {E : XK} {CX : Jz} {pins : List (Addr × Obj)} {σ : St} {H : Hp} {s : Shared}
end
section
variable {K : PySem.W.Frag} {h : Heap} {C : Addr} {bmB : List Value} {newId : String}
def abn (h : Heap) (C : Addr) (bmB : List Value) (newId : String) : Prop := ∃ (bm : List Value) (N : Addr) (nm q : Str) (bs : List Value) (hd : Bool) (sn : List Str) (sub : List Value) (ab : Bool) (col : Option Bool) (dd : Option Addr) (k0 k1 k2 k3 k5 : Option Value) (mN : Str -> Option Value),
 h.get? C = some (excClassObj nm q C N bs bm hd sn sub ab col dd k0 k1 k2 k3 k5 newId) /\ h.Ns N mN /\ mN "__init__" = none /\ OwnTail h bmB bm
theorem ZN (X : K.In h) (q : excIn K C bmB newId = true) : abn h C bmB newId := by
 unfold excIn at q
 split at q
 . rename_i dd cd sl ho
   split at q
   . rename_i C' bm k0 k1 k2 k3 n k5 hm hs
     simp only [Bool.and_eq_true, beq_iff_eq, Bool.not_eq_true'] at q
     obtain ⟨⟨⟨⟨⟨rfl, rfl⟩, aee⟩, ht⟩, bD⟩, Xx⟩ := q
     obtain ⟨nm, bs, mro, ns, qn, hd, sn, sub, ab, col, del⟩ := cd
     dsimp only at hm aee bD Xx
     subst hm aee
     obtain ⟨l⟩ := sl
     dsimp only at hs
     subst hs
     exact ⟨bm, ns, nm, qn, bs, hd, sn, sub, ab, col, dd, k0, k1, k2, k3, k5, _, X _ _ ho, .of_isNs (isNs_of_in X bD), nsMap_none_of_in X bD Xx, tail_of_in X ht⟩
   . cases q
 . cases q
end
abbrev veB : List Value := [.type "ValueError", .type "Exception", .type "BaseException", .type "object"]
def aaU (K : PySem.W.Frag) (C : Addr) : Prop := excIn K C veB "ValueError.__new__" = true
section
variable {X : Cx} {pins : List (Addr × Obj)} {σ : St} {H : Hp} {s : Shared}
abbrev Cx.hand (X : Cx) (a : Addr) : Cx := { X with A := X.A.mark (some (.ref a)), calm := false, xe := fun _ _ => False }
end
section
variable {M : Model} {A : Around} {E : Value -> Shared -> Prop}
end
structure TyE (K : PySem.W.Frag) (C : Addr) : Prop where
 ga : PySem.W.findIn K (.ref C) "__getattribute__" = some (some (.builtin "BaseException.__getattribute__"))
 gn : PySem.W.findIn K (.ref C) "__getattr__" = some none
 mb : PySem.W.mroIn K C (.type "BaseException") = some true
 hd : PySem.W.hasDictIn K C = true
 ty : adA K C
section
variable {X : Cx}
end
section
variable {P : Program} {w : World} {K : PySem.W.Frag} {mg : Str -> Option Value} {base : Heap}
structure akp (P : Program) (w : World) (K : PySem.W.Frag) (mg : Str -> Option Value) (base : Heap) (k : Nat) (f : Addr) (ps : List Str) (dQ : List V) (sp : Sp) : Prop where
 ex : ∃ (fd : FuncData) (ds : List Value), aL P w K mg base (CXR P w) k f fd ps sp /\ Binds K fd ps ds /\ Vals dQ ds
end
section
variable {X : Cx} {k : Nat} {f : Addr} {ps : List Str} {sp : Sp} {dQ : List V} {E : XK} {x : Str} {p pos : Pos} {e : Expr} {es : List Expr} {t : TA}
end
section
variable {σ : St} {H : Hp} {Q : VK} {D : Ends} {K : PySem.W.Frag} {E : XK} {C : Addr} {ta : TA}
end
section
variable {X : Cx}
end
section
variable {σ : St} {H : Hp} {Q : VK} {D : Ends} {K : PySem.W.Frag}
end
section
variable {X : Cx} {pins : List (Addr × Obj)} {σ : St} {H : Hp} {s : Shared} {h' : Heap}
end
section
variable {X : Cx}
end
section
variable {σ : St} {H : Hp} {Q : VK}
end
section
variable {σ : St} {H : Hp} {Q : VK} {K : PySem.W.Frag} {v : V}
end
end L2
namespace L2
open PySem
section
variable {H : Hp} {Q : VK} {K : PySem.W.Frag}
end
end L2
namespace L2
open PySem PySem.Spec PyProof.Rows PySem.W
theorem K6 (num : Nat -> Int) : ∀ k, argBest (fun i j => decide (num i < num j)) k <= k /\ ∀ j, j <= k -> num (argBest (fun i j => decide (num i < num j)) k) <= num j
 | 0 => ⟨Nat.le_refl _, fun j hj => by have : j = 0 := by omega
                                       subst this; exact Int.le_refl _⟩
 | k + 1 => by
   obtain ⟨h1, h2⟩ := K6 num k
   unfold argBest
   by_cases h : num (k + 1) < num (argBest (fun i j => decide (num i < num j)) k)
   . rw [if_pos (decide_eq_true h)]
     refine ⟨Nat.le_refl _, fun j hj => ?_⟩
     by_cases hk : j = k + 1
     . subst hk; exact Int.le_refl _
     . exact Int.le_trans (Int.le_of_lt h) (h2 j (by omega))
   . rw [if_neg (by simpa using h)]
     refine ⟨by omega, fun j hj => ?_⟩
     by_cases hk : j = k + 1
     . subst hk; omega
     . exact h2 j (by omega)
section
variable {X : Cx}
theorem O0 {H1 : Hp} {kvs : List (Key × V)} {vs : List (Key × Value)} {m : List (Str × PyData)} {ns : List Int} {i : Nat} {k : Key} {v : Value} (hlen : vs.length = kvs.length) (kv : KV kvs vs) (dk : lP H1 kvs m) (QH : m.map (·.2) = ns.map PyData.int) (hv : vs[i]? = some (k, v)) : ∃ t, v = .int (ns.getD i 0) t := by
 have Vq : ns.length = kvs.length := by
  have := congrArg List.length QH
  rw [List.length_map, List.length_map] at this
  rw [<- this]; exact dk.length.symm
 have hi : i < kvs.length := by rw [<- hlen]; exact (List.getElem?_eq_some_iff.mp hv).1
 obtain ⟨y, hy, W3⟩ := rA kv (List.getElem?_eq_getElem hi)
 rw [hv] at hy
 cases hy
 obtain ⟨k', dd, Vu, hkc, hdv⟩ := dk.RD (List.getElem?_eq_getElem hi)
 have hin : i < ns.length := by omega
 have hdd : dd = .int (ns.getD i 0) := by
  have e1 : (m.map (·.2))[i]? = some dd := by rw [List.getElem?_map, Vu]; rfl
  rw [QH, List.getElem?_map, List.getElem?_eq_getElem hin] at e1
  rw [List.getD_eq_getElem?_getD, List.getElem?_eq_getElem hin]
  exact (Option.some.inj e1).symm
 subst hdd
 have hq := hdv.int_inv
 have r2 := W3.2
 rw [hq] at r2
 obtain ⟨t, ht⟩ := r2
 exact ⟨t, ht⟩
def Vd : V -> Hp -> VK -> Prop := fun x H Q => ∃ (p : Addr) (m : List (Str × PyData)) (ns : List Int), x = .ref p /\ gA H p m /\ m.map (·.2) = ns.map PyData.int /\ 0 < ns.length /\ ∀ k ∈ ns, (∀ j ∈ ns, k <= j) -> Q (.int k) H
def Ym (te : TE) : TE := fun σ H Q => te σ H fun x H1 => Vd x H1 Q
theorem VL {e : Expr} {te : TE} {p pos apos gO : Pos} (he : PE X e te) (hc : X.calm = true) (hg : Gl X "min") (hm : X.mg "min" = none)
 (LO : attributeBase e "values" X.env (eval e X.env) = eval e X.env := by rfl) (hline : (apos.endLine == gO.line) = true := by rfl)
 (h2 : starEach [.Call (.Attribute e "values" apos) [] [] gO] X.env = (false, eval (.Call (.Attribute e "values" apos) [] [] gO) X.env) :: starEach [] X.env := by rfl) :
 PE X (.Call (.Name "min" p) [.Call (.Attribute e "values" apos) [] [] gO] [] pos) (Ym te) := by
 intro pins s σ H Q I h
 refine wpAny_Call_Name_kw (AO I hg hm boot_min ?_ (by decide) (by decide))
 refine PyProof.Rows.callWith_builtin1 ?_ h2 rfl
 rw [h2]
 show wpAny _ _ (spliced ((false, eval (.Call (.Attribute e "values" apos) [] [] gO) X.env) :: backTo pos (starEach [] X.env))) _ _ s
 refine Calls.spliced_cons (wpAny_Call_method0_late LO hline (dF (he pins s σ H _ I h) fun v s1 ⟨y, H1, I1, r1, q1⟩ => ?_))
 obtain ⟨d, m, ns, rfl, ⟨kvs, hd, dk⟩, QH, adI, q⟩ := q1
 obtain ⟨h1, h2⟩ := Nk I1 (T := "dict") r1 (.inr (.inr (.inl ⟨rfl, .inl ⟨kvs, hd⟩⟩)))
 cases r1
 refine ⟨"dict", "dict.values", PySem.F.plainAttrs_dict, PySem.F.slot_dict_values, PySem.F.type_dict_values, h1, h2, Calls.callWith_builtin rfl (PySem.evalArgs_none ?_)⟩
 obtain ⟨_, hs, vs, kv, o, es, ep, ho, a2, a3, a4⟩ := (show cD X.prog X.w H1 s1.heap d (.dK kvs) from I1.bD d _ hd)
 have da : s1.heap.DictAt (aU X.prog X.w) d vs ep := ⟨o, es, ho, a2, a3, a4⟩
 have lK : d < s1.heap.objs.size := Heap.lt_size ho
 have hlen : vs.length = kvs.length := kv.length.symm
 refine call_meetsIn PySem.F.slot_dict_values da.dictOf.typeIs PySem.F.entry_dict_values (PySem.F.args_dict_values_1 _) (meets_dict_values (aU X.prog X.w) d hs) ⟨⟨vs, da.dictOf⟩, ?_⟩
 refine Calls.spliced_nil ?_
 have hsz : (s1.heap.push { cls := .type "dict_values", data := .fields #[.ref d] }).objs.size = s1.heap.objs.size + 1 := Heap.size_push ..
 have hA : X.A.in1.handled = none := I1.ok.hd hc
 have Vq : ns.length = kvs.length := by
  have := congrArg List.length QH
  rw [List.length_map, List.length_map] at this
  rw [<- this]; exact dk.length.symm
 refine call_min_walk (wpAny_pyIter_values (v := s1.heap.objs.size) ⟨_, Heap.get?_push_size _ rfl, rfl, rfl⟩ (da.push _) ?_)
 refine ⟨_, _, _, _, _, _, fun i j => decide (ns.getD i 0 < ns.getD j 0), rfl, Walks.dictValues (knd := aU X.prog X.w) hA _ d (Nat.ne_of_lt (by rw [hsz]; exact Nat.lt_succ_of_lt lK)) vs ep, ⟨⟨_, Heap.get?_push_size _ rfl, rfl, rfl⟩, (da.push _).push _⟩, ?_, by omega, CmpOf.ints_lt (fun i => ns.getD i 0) ?_, ?_⟩
 . intro b hb
   rw [Heap.size_push]
   have : b = (s1.heap.push { cls := .type "dict_values", data := .fields #[.ref d] }).objs.size \/ b = d := by simpa using hb
   rcases this with rfl | rfl
   . exact Nat.lt_succ_self _
   . rw [hsz]; exact Nat.lt_succ_of_lt (Nat.lt_succ_of_lt lK)
 . rintro i v ⟨k, hv⟩
   exact O0 hlen kv dk QH hv
 . rintro v h' tk ⟨k, hv⟩ hk
   have b := K6 (fun i => ns.getD i 0) (vs.length - 1)
   generalize argBest (fun i j => decide (ns.getD i 0 < ns.getD j 0)) (vs.length - 1) = ix at b hv
   obtain ⟨b1, b2⟩ := b
   obtain ⟨t, rfl⟩ := O0 hlen kv dk QH hv
   have I2 : Inv X pins σ H1 { s1 with heap := s1.heap.push { cls := .type "dict_values", data := .fields #[.ref d] } } := I1.kept (t' := s1.toks) fun b o e => Heap.get?_push_of_some _ e
   have fp := I2.Er (H' := H1) (Nat.le_refl _) (I2.bD.fresh (Nat.le_refl _))
   have I3 := I2.turned (t' := tk) (h' := h') (it := (s1.heap.push { cls := .type "dict_values", data := .fields #[.ref d] }).objs.size) (fun b o hb e => hk b o (by simpa using hb) (Heap.get?_push_of_some _ e)) fp.1 fp.2.1 fp.2.2.2.1 fp.2.2.2.2.1 fp.2.2.2.2.2
   have hb : ix < ns.length := by omega
   refine ⟨.int _, H1, I3, ⟨t, rfl⟩, q _ ?_ ?_⟩
   . rw [List.getD_eq_getElem?_getD, List.getElem?_eq_getElem hb]; exact List.getElem_mem hb
   . intro k hk
     obtain ⟨j, hj, rfl⟩ := List.getElem_of_mem hk
     have := b2 j (by omega)
     rwa [List.getD_eq_getElem?_getD (i := j), List.getElem?_eq_getElem hj] at this
end
section
variable {σ : St} {H : Hp} {Q : VK}
theorem XT {te : TE} (h : te σ H fun x H1 => Vd x H1 Q) : Ym te σ H Q := h
theorem aaN {p : Addr} {m : List (Str × PyData)} {ns : List Int} (hp : gA H p m) (hm : m.map (·.2) = ns.map PyData.int) (hl : 0 < ns.length) (h : ∀ k ∈ ns, (∀ j ∈ ns, k <= j) -> Q (.int k) H) : Vd (.ref p) H Q := ⟨p, m, ns, rfl, hp, hm, hl, h⟩
end
def pairD (k : Int × Str) : PyData := .tuple [.int k.1, .str k.2]
def kfH (H : Hp) : V -> Int × Str
 | .ref a => match H a with
   | some (.tup [.int i, .str x]) => (i, x)
   | _ => (0, Str.empty)
 | _ => (0, Str.empty)
theorem SK {H : Hp} {v : V} {k : Int × Str} (h : Dv H v (pairD k)) : kfH H v = k := by
 unfold pairD at h
 cases h with
 | tup ha r =>
   cases r with
   | cons h1 r =>
     cases r with
     | cons h2 r =>
       cases r
       cases h1; cases h2
       simp only [kfH, ha]
theorem O7 {H : Hp} : ∀ {xs : List V} {ks : List (Int × Str)}, c7 H xs (ks.map pairD) -> c7 H xs (xs.map fun v => .tuple [.int (kfH H v).1, .str (kfH H v).2])
 | _, [], .nil => .nil
 | _, _ :: _, .cons h r => .cons (by show Dv H _ (.tuple [.int (kfH H _).1, .str (kfH H _).2]); rw [SK h]; exact h) (O7 r)
section
variable {X : Cx} {pins : List (Addr × Obj)} {σ : St} {H : Hp} {s : Shared}
theorem Ko {l : Addr} {xs : List V} {kf : V -> Int × Str} {Q : VK} {E : Value -> Shared -> Prop} (I : Inv X pins σ H s) (hl : jj X.K H l xs) (h64 : xs.length < 64) (dv : c7 H xs (xs.map fun v => .tuple [.int (kf v).1, .str (kf v).2])) (fin : JQ X pins σ H fD kf xs Q) :
 wpAny (model X.prog X.w) X.A (call (.builtin "sorted") [.ref l]) (EP X pins σ Q) E s := by
 have hsl : (64 : Nat) <= sizeLine := by decide
 obtain ⟨vs, rv, p, hz⟩ := I.list hl
 have lx := rv.length
 refine Calls.call_function_entry kind_sorted plain_sorted entry_sorted (args_sorted1 _) ?_
 unfold Builtin.«sorted»
 refine wpAny_bind (m := checkCount "sorted" 1 1 _) (wpAny_pure ?_)
 refine wpAny_bind (collect_list p.isList ?_ (by omega))
 refine wpAny_bind (wpAny_newList ?_ (by omega))
 have fp0 : iG X pins H s.heap.objs.size := I.Er (Nat.le_refl _) (I.bD.fresh (Nat.le_refl _))
 have I2 : Inv X pins σ H { s with heap := (s.heap.push (seqObj "list" #[] 0)).update s.heap.objs.size (Obj.mapSeq (· ++ vs.toArray)) } := (I.Fj (o := seqObj "list" #[] 0)).Kd fp0
 have hsz : ((s.heap.push (seqObj "list" #[] 0)).update s.heap.objs.size (Obj.mapSeq (· ++ vs.toArray))).objs.size = s.heap.objs.size + 1 := by rw [Heap.size_update, size_push']
 generalize hG : (s.heap.push (seqObj "list" #[] 0)).update s.heap.objs.size (Obj.mapSeq (· ++ vs.toArray)) = h2 at I2 hsz ⊢
 have Oc : (h2.push (seqObj "list" vs.toArray 0)).get? h2.objs.size = some (seqObj "list" vs.toArray 0) := Heap.get?_push_size _ rfl
 have I3 : Inv X pins σ H { s with heap := h2.push (seqObj "list" vs.toArray 0) } := I2.Fj
 have fa : iG X pins H h2.objs.size := I2.Er (Nat.le_refl _) (I2.bD.fresh (Nat.le_refl _))
 have MJ : X.gL.heap.objs.size <= h2.objs.size := I2.sz
 show wpAny _ _ _ _ _ { s with heap := h2.push (seqObj "list" vs.toArray 0) }
 generalize h2.objs.size = a at *
 refine wpAny_bind (wpAny_holding (wpAny_call_entry slot_list_sort ⟨_, Oc, rfl⟩ entry_list_sort ?body (args_list_sort _)))
 case body =>
  show wpAny (model X.prog X.w) X.A.in1.in1 (Builtin.«list.sort» ⟨[.ref a], []⟩) _ _ _
  rw [list_sort_plain]
  generalize h2.push (seqObj "list" vs.toArray 0) = h3 at *
  refine wpAny_bind (listItems_at Oc rfl ?_)
  refine wpAny_bind (listUpdate_at Oc rfl ?_ (by rw [List.size_toArray]; omega) (Nat.zero_le _))
  have I4 : Inv X pins σ H { s with heap := h3.update a (Obj.mapSeq fun _ => (#[] : Array Value)) } := I3.Kd fa
  obtain ⟨e1, oa⟩ : ∃ e1, (h3.update a (Obj.mapSeq fun _ => (#[] : Array Value))).get? a = some (seqObj "list" #[] e1) := ⟨_, get?_update_seq Oc fun _ => #[]⟩
  generalize h3.update a (Obj.mapSeq fun _ => (#[] : Array Value)) = h4 at *
  refine wpAny_bind (seqEpoch_at oa rfl ?_)
  refine wpAny_bind (wpAny_newTuple ?_ (by show vs.length <= _; omega))
  have I5 : Inv X pins σ H { s with heap := h4.push (seqObj "tuple" vs.toArray 0) } := I4.Fj
  have oa5 : (h4.push (seqObj "tuple" vs.toArray 0)).get? a = some (seqObj "list" #[] e1) := Heap.get?_push_of_some _ oa
  show wpAny _ _ _ _ _ { s with heap := h4.push (seqObj "tuple" vs.toArray 0) }
  generalize h4.push (seqObj "tuple" vs.toArray 0) = h5 at *
  refine wpAny_bind (wpAny_newList ?_ (Nat.zero_le _))
  have I6 : Inv X pins σ H { s with heap := h5.push (seqObj "list" #[] 0) } := I5.Fj
  have Yv : (h5.push (seqObj "list" #[] 0)).get? a = some (seqObj "list" #[] e1) := Heap.get?_push_of_some _ oa5
  refine wpAny_holding ?_
  show wpAny _ _ _ _ _ { s with heap := h5.push (seqObj "list" #[] 0) }
  generalize h5.push (seqObj "list" #[] 0) = h6 at *
  dsimp only
  by_cases lK : vs.toArray.size < 2
  . rw [if_pos lK, if_pos lK]
    refine wpAny_bind (wpAny_pure ?_)
    rw [StateT.run_pure]
    refine wpAny_bind (wpAny_pure ?_)
    dsimp only
    have abk : (arrOf (SortSt.mk' general' (vs.toArray.zip vs.toArray) #[] 7 none)).map (·.2) = List.toArray vs := by
     show (vs.toArray.zip vs.toArray).map (·.2) = List.toArray vs
     apply Array.toList_inj.mp
     simp [List.map_snd_zip]
    rw [abk]
    refine wpAny_bind (seqEpoch_at Yv rfl ?_)
    refine wpAny_bind (listUpdate_at Yv rfl ?_ (Nat.zero_le _) (by show (List.toArray vs).size <= _; rw [List.size_toArray]; omega))
    simp only [bne_self_eq_false, Bool.false_eq_true, if_false]
    have I7 := (I6.Kd (f := Obj.mapSeq fun _ => List.toArray vs) fa).SY fa MJ (by rw [rv.length]; omega) rv (get?_update_seq Yv fun _ => List.toArray vs)
    refine wpAny_pure ⟨_, rfl, wpAny_pure ⟨_, rfl, .ref a, _, I7, rfl, fin a xs H (ay.refl _) fa.1 fa.1 ⟨List.Perm.refl _, ?_⟩⟩⟩
    rw [List.size_toArray] at lK
    match xs, lx with
    | [], _ => exact .nil
    | [_], _ => exact List.pairwise_singleton _ _
    | _ :: _ :: _, lx => simp at lx; omega
  . rw [if_neg lK, if_neg lK]
    rw [List.size_toArray] at lK
    obtain ⟨fs, k1, k2, k3⟩ := AG I6 rv dv
    refine wpAny_bind (kat_kind k1 (by omega) k3 (by decide) ?_)
    refine wpAny_bind (wpAny_mono (kat_run (Q := fun HN s2 => s2 = { s with heap := h6 } /\ ∃ p : Array Nat, Ix xs.length p /\ arrOf HN = p.map (kas_item ((List.toArray vs).zip (List.toArray vs))) /\ failedOf HN = none /\ Up (fun i j => fD (kf (xs.getD i .aS)) (kf (xs.getD j .aS))) p xs.length)
     (G := fun p s2 => s2 = { s with heap := h6 } /\ Ix xs.length p /\ Up (fun i j => fD (kf (xs.getD i .aS)) (kf (xs.getD j .aS))) p xs.length) rfl (by omega) (by omega) (fun p HN s2 a1 a2 a3 ⟨a4, a5, a6⟩ => ⟨a4, p, a5, a2, a3, a6⟩) ?_) ?_ fun _ _ z => z)
    . rw [show vs.length = xs.length by omega]
      refine OD (lt := fun i j => fD (kf (xs.getD i .aS)) (kf (xs.getD j .aS))) (S := fun z => z = { s with heap := h6 }) ⟨fun _ => HG _, fun _ _ => Ln, fun _ _ _ => Lw⟩ (JC I6 rv dv) (by omega) (fun p s2 hs hp hu => ⟨hs, hp, hu⟩) _ rfl
    . rintro ⟨⟨⟩, HN⟩ s2 ⟨rfl, p, hp, har, hf, hu⟩
      dsimp only
      rw [kat_snds rfl har]
      have ho : (p.toList.map fun i => vs.getD i Value.none).length < 64 := by simp [hp.sz]; omega
      refine wpAny_bind (seqEpoch_at Yv rfl ?_)
      refine wpAny_bind (listUpdate_at Yv rfl ?_ (Nat.zero_le _) (by show (List.toArray (p.toList.map fun i => vs.getD i Value.none)).size <= _; rw [List.size_toArray]; omega))
      rw [hf]
      simp only [bne_self_eq_false, Bool.false_eq_true, if_false]
      have Jo := DV rv p.toList
      have I7 := (I6.Kd (f := Obj.mapSeq fun _ => List.toArray (p.toList.map fun i => vs.getD i Value.none)) fa).SY fa MJ (by rw [Jo.length]; omega) Jo (get?_update_seq Yv fun _ => List.toArray (p.toList.map fun i => vs.getD i Value.none))
      exact wpAny_pure ⟨_, rfl, wpAny_pure ⟨_, rfl, .ref a, _, I7, rfl, fin a _ H (ay.refl _) fa.1 fa.1 (LR hp hu)⟩⟩
def S5 : List V -> Hp -> VK -> Prop := fun xs H Q => ∃ (v : V) (ks : List (Int × Str)), xs = [v] /\ Dv H v (.list (ks.map pairD)) /\ ks.length < 64 /\ ∀ q H' (VM : List (Int × Str)), ay H H' -> H q = none -> VM.Perm ks -> VM.Pairwise (fun c d => fD d c = false) -> d5 H' q (VM.map pairD) -> Q (.ref q) H'
theorem Nh : i9 X (.builtin "sorted") S5 := by
 intro pins s σ H xs us Q I r h
 obtain ⟨v, ks, rfl, hd, hl, q⟩ := h
 obtain ⟨u, rfl, ru⟩ := vals1 r
 obtain ⟨p, ys, rfl, e, dv⟩ := hd.lst_inv
 cases ru
 refine Ko I (e X.K) (by rw [dv.length, List.length_map]; exact hl) (O7 dv) fun a zs H' sm hn hn' ord => ?_
 obtain ⟨pm, pw⟩ := ord
 obtain ⟨VM, pc, dv'⟩ := dv.perm pm
 have GP : ay H (upd H' a (.lst zs)) := sm.trans (dB hn')
 exact q a _ VM GP hn pc (c7.pairwise (R := fun a b => fD b a = false) (key := fun k => k) (fun v c hv => SK hv) dv' pw) ⟨zs, ao, dv'.keeps GP, eA (fun _ => rfl) _⟩
end
section
variable {σ : St} {H : Hp} {Q : VK}
theorem Xz {v : V} {ks : List (Int × Str)} (hp : Dv H v (.list (ks.map pairD))) (hl : ks.length < 64) (h : ∀ q H' (VM : List (Int × Str)), ay H H' -> H q = none -> VM.Perm ks -> VM.Pairwise (fun c d => fD d c = false) -> d5 H' q (VM.map pairD) -> Q (.ref q) H') : S5 [v] H Q := ⟨v, ks, rfl, hp, hl, h⟩
end
section
variable {σ : St} {H : Hp} {Q : VK} {K : PySem.W.Frag} {p : Addr} {m : List (Str × PyData)} {k : Str}
theorem aeg {n : Nat} {tl : TE} {g : TG} {tc : TT} {te : TE} (hp : gA H p m) (htl : ∀ R : V -> Hp -> Prop, R (.ref p) H -> tl σ H R) (pf : Str × PyData -> Bool) (fd : Str × PyData -> PyData) (hlen : m.length <= 4000) (hi : ∀ c, Gf (fd c) = true)
 (turn : ∀ x c Hf H' (N : Option V -> Hp -> Prop), c ∈ m -> Mv [p] H Hf -> RG Hf p m -> ay Hf H' -> Dv H' x (.tuple [.str c.1, c.2]) -> (pf c = true -> ∀ y H4, ay H' H4 -> Dv H4 y (fd c) -> N (some y) H4) -> (pf c = false -> ∀ H3, ay H' H3 -> N none H3) ->
  g x (List.replicate n none ++ σ) H' fun σ2 H2 => tc σ2 H2 fun b H3 => LCT te N σ2 b H3)
 (kk : ∀ q H', ay H H' -> H q = none -> d5 H' q ((m.filter pf).map fd) -> Q (.ref q) H') : UR (tLC n (Ug tl) g tc te) σ H Q := by
 obtain ⟨kvs, e, dk⟩ := hp
 refine ⟨p, kvs, e, htl _ ⟨p, kvs, rfl, e, fun o => ?_⟩⟩
 have mv : Mv [p] H (upd H p (.ik o (.dK kvs))) := .bo e (by intro _ z; cases z)
 have rd : RG (upd H p (.ik o (.dK kvs))) p m := ⟨kvs, .inr ⟨o, ao⟩, dk.yz mv.tp⟩
 have hl : kvs.length = m.length := dk.length
 refine ⟨fun i j acc H' => i <= m.length /\ j = m.length - i /\ ay (upd H p (.ik o (.dK kvs))) H' /\ c7 H' acc (((m.take i).filter pf).map fd), ⟨m.length, Nat.zero_le _, rfl, ay.refl _, by simpa using c7.nil⟩, ?_⟩
 rintro i j acc H' ⟨DU, rfl, sm, gD⟩
 have Lg : H' p = some (.ik o (.dK kvs)) := sm _ _ ao
 have hal : acc.length <= m.length := by
  rw [gD.length, List.length_map]
  refine Nat.le_trans (List.length_filter_le _ _) ?_
  rw [List.length_take]
  omega
 by_cases hc : i = m.length
 . left
   refine ⟨⟨by omega, Lg⟩, fun q hq => ?_⟩
   have XS : p ≠ q := aA Lg hq
   have tk : m.take i = m := List.take_of_length_le (by omega)
   rw [tk] at gD
   have ups : upd (upd H' q (.lst acc)) p (.dK kvs) q = some (.lst acc) := by rw [aq (Ne.symm XS), ao]
   refine ⟨⟨o, by rw [aq XS]; exact Lg⟩, kk q _ (fun a u z => ?_) ?_ ⟨acc, ups, gD.yz (fun a xs z => ?_) (eA hi _), eA hi _⟩⟩
   . by_cases ha : a = p
     . subst ha; rw [e] at z; cases z; exact ao
     . have z1 : H' a = some u := sm _ _ (by rw [aq ha]; exact z)
       rw [aq ha, aq (aA z1 hq)]; exact z1
   . cases hz : H q with
     | none => rfl
     | some u =>
       have : H' q = some u := sm _ _ (by rw [aq (Ne.symm XS)]; exact hz)
       rw [hq] at this; cases this
   . rw [aq (iq z Lg (by intro y; cases y)), aq (aA z hq)]; exact z
 . right
   have lK : i < m.length := by omega
   refine ⟨⟨by omega, Lg⟩, jZ (by omega), fun x H2 hy => ?_⟩
   obtain ⟨t, kv, Y4, rfl, ht, rfl⟩ := hy
   obtain ⟨c, d, hm, hkc, hdv⟩ := dk.RD Y4
   have TB : m.take (i + 1) = m.take i ++ [(c, d)] := by rw [List.take_add_one, hm]; rfl
   have smt : ay H' (upd H' t (.tup [kV kv.1, kv.2])) := dB ht
   have af5 : Dv H' kv.2 d := ((dk.yz mv.tp).yz (fun a xs z => sm a _ z)).RD Y4 |> fun ⟨c', d', Vu, _, h'⟩ => by
    rw [hm] at Vu; cases Vu; exact h'
   have hx : Dv (upd H' t (.tup [kV kv.1, kv.2])) (.ref t) (.tuple [.str c, d]) := by
    have e1 : kV kv.1 = .str c := by rw [hkc]; rfl
    rw [e1] at smt ⊢
    exact .tup ao (.cons (.str _) (.cons (af5.keeps smt) .nil))
   have GP := sm.trans smt
   refine turn (.ref t) (c, d) _ _ (fun r H4 => match r with | some y => ∃ j', j' < m.length - i /\ i + 1 <= m.length /\ j' = m.length - (i + 1) /\ ay (upd H p (.ik o (.dK kvs))) H4 /\ c7 H4 (acc ++ [y]) (((m.take (i + 1)).filter pf).map fd) | none => ∃ j', j' < m.length - i /\ i + 1 <= m.length /\ j' = m.length - (i + 1) /\ ay (upd H p (.ik o (.dK kvs))) H4 /\ c7 H4 acc (((m.take (i + 1)).filter pf).map fd))
    (List.mem_of_getElem? hm) mv rd GP hx (fun hb y H4 s4 d4 => ⟨m.length - (i + 1), by omega, lK, rfl, GP.trans s4, ?_⟩) (fun hb H3 s3 => ⟨m.length - (i + 1), by omega, lK, rfl, GP.trans s3, ?_⟩)
   . rw [TB, List.filter_append, List.map_append]
     simp only [List.filter_cons, hb, if_true, List.filter_nil, List.map_cons, List.map_nil]
     exact c7.append (gD.keeps (smt.trans s4)) (.cons d4 .nil)
   . rw [TB, List.filter_append, List.map_append]
     simp only [List.filter_cons, hb, Bool.false_eq_true, if_false, List.filter_nil, List.map_nil, List.append_nil]
     exact gD.keeps (smt.trans s3)
theorem VR {R : Bool -> Prop} (hp : gA H p m) (h : R (!m.isEmpty)) : ∃ b, SA K (.ref p) H b /\ R b := by
 obtain ⟨kvs, e, dk⟩ := hp
 refine ⟨_, .inr (.inr ⟨kvs, e, rfl⟩), ?_⟩
 have : kvs.isEmpty = m.isEmpty := by
  have := dk.length
  cases kvs <;> cases m <;> simp_all
 rw [this]; exact h
theorem R0 {td ty : TE} (h : td σ H fun x H1 => ∃ a, x = .ref a /\ IsD H1 a /\ ty σ H1 fun y H2 => ∃ o, iD H2 a y o /\ Q (o.getD .aS) H2) : Va td ty σ H Q := h
theorem Xy {R : Addr -> Prop} (hp : gA H p m) (h : R p) : ∃ a, V.ref p = .ref a /\ IsD H a /\ R a := by
 obtain ⟨kvs, e, _⟩ := hp
 exact ⟨p, rfl, .inl ⟨kvs, .inl e⟩, h⟩
theorem Ti (hp : gA H p m) (h1 : ∀ d, ig m k = some d -> ∀ v, Dv H v d -> Q v H) (h2 : ig m k = none -> Q .aS H) : ∃ o, iD H p (.str k) o /\ Q (o.getD .aS) H := by
 obtain ⟨kvs, e, dk⟩ := hp
 refine ⟨oS kvs (.inr k), .inl ⟨kvs, .inr k, .inl e, rfl, rfl⟩, ?_⟩
 obtain ⟨g1, g2⟩ := dk.val (k := k)
 cases hl : ig m k with
 | none => rw [g2 hl]; exact h2 hl
 | some d => obtain ⟨v, hv, hd⟩ := g1 d hl; rw [hv]; exact h1 d hl v hd
end
def TrD (h : Heap) (a T : Addr) (c : Value) (od : Option Addr) : Prop := ∃ oe vs oT ts, h.get? a = some oe /\ oe.cls = c /\ oe.dict = od /\ oe.data = .fields vs /\ vs[1]? = some (.ref T) /\ T ≠ a /\ h.get? T = some oT /\ oT.data = .fields ts /\ ts[3]? = some .none /\ vs[2]? = some .none
section
variable {M : Model} {A : Around} {E : Value -> Shared -> Prop} {s : Shared} {env : Env} {outer : List Env} {L a T : Addr} {c : Value} {od : Option Addr} {base : Heap} {Q : Unit -> Shared -> Prop}
end
def CXD (P : Program) (w : World) : Jz := fun outer H s E e s' => ∃ a T C od H', e = .ref a /\ s'.os = s.os /\ AllBare s'.gens /\ Un (MB outer) [] H H' s.heap s'.heap /\ rj P w H' s'.heap /\ TrD s'.heap a T (.ref C) od /\ s.heap.get? a = none /\ s.heap.get? T = none /\ H' a = none /\ H' T = none /\ E (.ref C) od H'
section
variable {P : Program} {w : World} {K : PySem.W.Frag} {mg : Str -> Option Value} {base : Heap} {N : List Str} {qual : Str} {scope : Scope} {f : Addr} {cd : Value} {A : Around} {outer : List Env} {s0 : Shared} {H0 : Hp} {E : XK} {CX : Jz} {pins : List (Addr × Obj)} {σ : St} {H : Hp} {s : Shared}
end
structure akv (P : Program) (w : World) (K : PySem.W.Frag) (mg : Str -> Option Value) (base : Heap) (k : Nat) (f : Addr) (ps : List Str) (dQ : List V) (sp : Sp) : Prop where
 ex : ∃ (fd : FuncData) (ds : List Value), aL P w K mg base (CXD P w) k f fd ps sp /\ Binds K fd ps ds /\ Vals dQ ds
section
variable {X : Cx} {CX : Jz} {k : Nat} {f C : Addr} {fd : FuncData} {ps : List Str} {sp : Sp} {dQ : List V} {ds : List Value} {E : St -> XK} {x m : Str} {p pos apos : Pos} {e o : Expr} {es : List Expr} {ta : TE} {t : TA}
end
section
variable {P : Program} {w : World} {K : PySem.W.Frag} {mg : Str -> Option Value} {base : Heap}
end
section
variable {prog : Program} {w : World} {A : Around} {E : Value -> Shared -> Prop} {s : Shared} {K : PySem.W.Frag} {x C : Addr} {ox : Obj} {name : Str} {v : Value} {cd : ClassData}
open Builtin.ObjectAttr in
open Builtin.ObjectAttr in
end
structure ExN (K : PySem.W.Frag) (C W fI : Addr) : Prop where
 cls : ∃ (nm q : Str) (N : Addr) (bs : List Value) (sn : List Str) (sub : List Value) (ab : Bool) (col : Option Bool) (dd : Option Addr) (k0 k1 k2 k3 k5 : Option Value), K.lookup C = some (excClassObj nm q C N bs (.ref W :: veB) true sn sub ab col dd k0 k1 k2 k3 k5 "ValueError.__new__")
 up : aaU K W
 init : PySem.W.findIn K (.ref C) "__init__" = some (some (.ref fI))
 fn : PySem.W.isFn K (.ref fI) = true
 te : TyE K C
 sa : PySem.W.findIn K (.ref C) "__setattr__" = some (some (.builtin "object.__setattr__"))
 tk : PySem.W.takerIn K C "name" = some none
 nm : PySem.W.findIn K (.ref C) "name" = some none
def agh (K : PySem.W.Frag) (C : Addr) : Prop := ∀ h : Heap, K.In h -> ∃ (bm : List Value) (N : Addr) (nm q : Str) (bs : List Value) (hd : Bool) (sn : List Str) (sub : List Value) (ab : Bool) (col : Option Bool) (dd : Option Addr) (k0 k1 k2 k3 k5 : Option Value),
 h.get? C = some (excClassObj nm q C N bs bm hd sn sub ab col dd k0 k1 k2 k3 k5 "ValueError.__new__") /\ OwnTail h veB bm
theorem aaU.o {K : PySem.W.Frag} {C : Addr} (h : aaU K C) : agh K C := fun hp X => by
 obtain ⟨bm, N, nm, q, bs, hd, sn, sub, ab, col, dd, k0, k1, k2, k3, k5, mN, hC, _, _, T⟩ := ZN X h
 exact ⟨bm, N, nm, q, bs, hd, sn, sub, ab, col, dd, k0, k1, k2, k3, k5, hC, T⟩
section
variable {prog : Program} {w : World} {A : Around} {E : Value -> Shared -> Prop} {h : Heap} {g : Array GenState} {d : Drawn} {t : Nat} {os : OsState}
variable {nm q : Str} {C N : Addr} {bs bm bmB : List Value} {ahs : Bool} {sn : List Str} {sub : List Value} {ab : Bool} {col : Option Bool} {dd : Option Addr} {k0 k1 k2 k3 k5 : Option Value} {B newId agK : String}
end
structure ai4 (K : PySem.W.Frag) (W : Addr) : Prop where
 ga : PySem.W.specialIn K (.ref W) "__getattribute__" = some (some (.builtin "type.__getattribute__"))
 rd : PySem.W.readsIn K W (.type "type") = true
 fd : PySem.W.findCls K (.ref W) (.type "type") "__init__" = some (.val (.builtin "ValueError.__init__"))
section
variable {X : Cx} {W : Addr} {x : Str} {p pos apos : Pos} {e : Expr} {es : List Expr} {t : TA} {pl : Sem Bool}
end
def del (H : Hp) (a : Addr) : Hp := fun b => if b = a then none else H b
section
variable {prog : Program} {w : World} {A : Around} {E : Value -> Shared -> Prop} {s : Shared} {env : Env}
variable {nm q : Str} {C N : Addr} {bs bm bmB : List Value} {ahs : Bool} {sn : List Str} {sub : List Value} {ab : Bool} {col : Option Bool} {dd : Option Addr} {k0 k1 k2 k3 k5 : Option Value} {newId : String}
end
def ClD (X : Cx) (cl : Expr) (hit : Addr -> Bool -> Prop) : Prop := ∀ (a C T : Addr) (od : Option Addr) (pins : List (Addr × Obj)) (σ : St) (H : Hp) (s : Shared) (Q : Bool -> Shared -> Prop) (E : Value -> Shared -> Prop) (b : Bool), Inv X pins σ H s -> TrD s.heap a T (.ref C) od -> hit C b ->
 (∀ h', (∀ b o, s.heap.get? b = some o -> h'.get? b = some o) -> Q b { s with heap := h' }) ->
 wpAny (model X.prog X.w) (X.hand a).A (eval cl X.env) (fun c s1 => wpAny (model X.prog X.w) (X.hand a).A (excMatches (.ref a) c) Q E s1) E s
structure HdR where
 hit : Addr -> Bool -> Prop
 i : Option Nat
 ts : Addr -> TS
def Zn (X : Cx) : Option Str -> Option Nat -> Prop
 | some n, some i => X.N[i]? = some n /\ X.env.scope.names.lookup n = some .local
 | none, none => True
 | _, _ => False
inductive Tg (X : Cx) : List ExceptHandler -> List HdR -> Prop
 | nil : Tg X [] []
 | cons {cl : Expr} {n : Option Str} {b0 : Stmt} {YB : List Stmt} {pos : Pos} {hs : List ExceptHandler} {hit : Addr -> Bool -> Prop} {i : Option Nat} {ts : Addr -> TS} {rs : List HdR} (hc : ClD X cl hit) (hb : ∀ a, MK (X.hand a) (b0 :: YB) (ts a)) (hn : Zn X n i) (r : Tg X hs rs) :
  Tg X (.ExceptHandler (some cl) n (b0 :: YB) pos :: hs) (⟨hit, i, ts⟩ :: rs)
section
variable {X : Cx} {pins : List (Addr × Obj)} {σ : St} {H : Hp} {a C : Addr} {od : Option Addr} {Dn : Ends}
end
section
variable {X : Cx} {e : Expr} {te : TE} {y y2 : Str} {k k2 : Nat} {p1 p2 p3 pos : Pos}
end
section
variable {σ : St} {H : Hp} {Q : VK} {D : Ends} {K : PySem.W.Frag} {C : Addr} {E : St -> XK}
end
section
variable {X : Cx}
end
section
open PySem.SeqAt
open PySem.AutoSeq1 (wpAny_loadPart')
open PySem.MeetsSeq PySem.MeetsSeq2 PySem.MeetsSeq3
end
section
variable {X : Cx}
end
section
variable {σ : St} {H : Hp} {Q : VK} {D : Ends} {K : PySem.W.Frag}
end
section
variable {X : Cx} {pins : List (Addr × Obj)} {σ : St} {H : Hp} {s : Shared} {h' : Heap} {f : Addr -> Option HO}
end
section
variable {X : Cx}
def Y1 : R2 := fun x y H Q => ∃ a b m, x = .ref a /\ y = .ref b /\ gA H a m /\ gA H b [] /\ Q (.bl (!m.isEmpty)) H
theorem O9 (hu : X.A.units < cLine) : Bb X (compareOp .NotEq) Y1 := by
 intro pins s σ H x y v u Q I rx ry h
 obtain ⟨a, b, m, rfl, rfl, ⟨ka, ea, da⟩, ⟨kb, eb, db⟩, q⟩ := h
 cases rx
 cases ry
 obtain ⟨_, ha, va, pa, oa⟩ := (show cD X.prog X.w H s.heap a (.dK ka) from I.bD a _ ea)
 obtain ⟨_, RN, vb, pb, ob⟩ := (show cD X.prog X.w H s.heap b (.dK kb) from I.bD b _ eb)
 have hb0 : vb.length = 0 := by rw [<- pb.length, db.length]; rfl
 have ha0 : va.length = m.length := by rw [<- pa.length, da.length]
 refine keq_ne (r := true) ha RN oa ob hu (fun e => ?_) ?_
 . rw [hb0] at e
   cases va with
   | nil => exact .nil
   | cons => simp at e
 . rw [hb0, ha0]
   refine ⟨.bl (!m.isEmpty), H, I, ?_, q⟩
   cases m <;> simp [RelV]
end
section
variable {σ : St} {H : Hp} {Q : VK} {p : Addr} {m : List (Str × PyData)}
theorem abd {a b : Addr} (h1 : gA H a m) (h2 : gA H b []) (h : Q (.bl (!m.isEmpty)) H) : Y1 (.ref a) (.ref b) H Q := ⟨a, b, m, rfl, rfl, h1, h2, h⟩
end
section
variable {σ : St} {H : Hp} {Q : VK} {K : PySem.W.Frag}
theorem TU {k : Nat} {g : TG} {tc : TT} {te : TE} {p : Addr} {xs : List V} (hl : jj K H p xs) (hlen : xs.length <= 4000) (Pv : Nat -> List V -> Hp -> Prop) (h0 : Pv 0 [] H) (hk : ∀ i acc H', i <= xs.length -> Pv i acc H' -> jj K H' p xs /\ acc.length <= xs.length)
 (turn : ∀ i x acc H' (N : Option V -> Hp -> Prop), xs[i]? = some x -> Pv i acc H' -> (∀ y H4, Pv (i + 1) (acc ++ [y]) H4 -> N (some y) H4) -> (∀ H4, Pv (i + 1) acc H4 -> N none H4) ->
  g x (List.replicate k none ++ σ) H' fun σ2 H2 => tc σ2 H2 fun b H3 => LCT te N σ2 b H3)
 (kk : ∀ acc H' q, Pv xs.length acc H' -> H' q = none -> Q (.ref q) (upd H' q (.lst acc))) : ∃ a, V.ref p = .ref a /\ (∃ xs, jj K H a xs) /\ LCW k g tc te (Pl Q) σ (Sy K a) H := by
 refine ⟨p, rfl, ⟨xs, hl⟩, fun i m acc H' => i <= xs.length /\ m = xs.length - i /\ Pv i acc H', ⟨xs.length, Nat.zero_le _, rfl, h0⟩, ?_⟩
 rintro i m acc H' ⟨DU, hm, hp⟩
 obtain ⟨UE, hal⟩ := hk i acc H' DU hp
 by_cases hc : i = xs.length
 . subst hc
   exact .inl ⟨⟨xs, UE, Nat.le_refl _⟩, fun q hq => kk acc H' q hp hq⟩
 . have hlx : i < xs.length := by omega
   refine .inr ⟨⟨xs, xs[i], UE, List.getElem?_eq_getElem hlx⟩, jZ (by omega), fun x H2 hy => ?_⟩
   obtain ⟨rfl, hy⟩ := hy
   have hx := hy xs UE
   exact turn i x acc H2 (fun o H4 => match o with | some y => ∃ m', m' < m /\ i + 1 <= xs.length /\ m' = xs.length - (i + 1) /\ Pv (i + 1) (acc ++ [y]) H4 | none => ∃ m', m' < m /\ i + 1 <= xs.length /\ m' = xs.length - (i + 1) /\ Pv (i + 1) acc H4) hx hp
    (fun y H4 h => ⟨xs.length - (i + 1), by omega, hlx, rfl, h⟩) fun H4 h => ⟨xs.length - (i + 1), by omega, hlx, rfl, h⟩
end
def acL (p : Addr) (o : Obj) (kvs : List (Key × V)) (g : TG) (tb : TS) (D : Ends) (σ : St) (H1 : Hp) : Prop := ∃ W : Nat -> Nat -> St -> Hp -> Prop, (∃ m, W 0 m σ H1) /\ ∀ i m σ H, W i m σ H ->
 ((Itd p o kvs).stop i H /\ D.nx σ H) \/ ((Itd p o kvs).go i H /\ ∃ N : St -> Hp -> Prop, (∀ σ' H', N σ' H' -> ∃ m', m' < m /\ W (i + 1) m' σ' H') /\ ∀ x H', (Itd p o kvs).Vj i H x H' -> g x σ H' fun σ2 H2 => tb { D with nx := N, ct := N, bk := D.nx } σ2 H2)
section
variable {σ : St} {H : Hp} {D : Ends} {p : Addr} {m : List (Str × PyData)} {g : TG} {tb : TS}
theorem PU {tl : TE} (hp : gA H p m) (htl : ∀ R : V -> Hp -> Prop, R (.ref p) H -> tl σ H R)
 (body : ∀ o kvs, H p = some (.dK kvs) -> lP H kvs m -> acL p o kvs g tb (ME p kvs D) σ (upd H p (.ik o (.dK kvs)))) : T8 (P6 (Tt tl) g tb) D σ H := by
 obtain ⟨kvs, e, dk⟩ := hp
 exact ⟨p, kvs, e, htl _ ⟨p, kvs, rfl, e, fun o => body o kvs e dk⟩⟩
theorem agA {o : Obj} {kvs : List (Key × V)} (e : H p = some (.dK kvs)) (dk : lP H kvs m) (S : List Addr) (hS : p ∉ S) (Pv : Nat -> St -> Hp -> Prop) (h0 : Pv 0 σ (upd H p (.ik o (.dK kvs))))
 (hk : ∀ i σ' H', Pv i σ' H' -> Mv S (upd H p (.ik o (.dK kvs))) H')
 (hs : ∀ i k d σ' H', m[i]? = some (k, d) -> Pv i σ' H' -> H' p = some (.ik o (.dK kvs)) -> RG H' p m -> g (.str k) σ' H' fun σ2 H3 => tb { ME p kvs D with nx := Pv (i + 1), ct := Pv (i + 1), bk := (ME p kvs D).nx } σ2 H3)
 (hd : ∀ σ' H', Pv m.length σ' H' -> D.nx σ' (upd H' p (.dK kvs))) : acL p o kvs g tb (ME p kvs D) σ (upd H p (.ik o (.dK kvs))) := by
 have mv : Mv [p] H (upd H p (.ik o (.dK kvs))) := .bo e (by intro _ z; cases z)
 have hl : kvs.length = m.length := dk.length
 refine ⟨fun i j σ' H' => i <= m.length /\ j = m.length - i /\ Pv i σ' H', ⟨m.length, Nat.zero_le _, rfl, h0⟩, ?_⟩
 rintro i j σ' H' ⟨hi, rfl, hP⟩
 have mv' := hk i σ' H' hP
 have Lg : H' p = some (.ik o (.dK kvs)) := mv'.at hS ao
 have dk' : lP H' kvs m := (dk.yz mv.tp).yz mv'.tp
 by_cases hc : i = m.length
 . left
   subst hc
   exact ⟨⟨hl.symm, Lg⟩, ⟨o, Lg⟩, hd σ' H' hP⟩
 . right
   have lK : i < m.length := by omega
   refine ⟨⟨by omega, Lg⟩, Pv (i + 1), fun σ2 H2 h2 => ⟨m.length - (i + 1), by omega, lK, rfl, h2⟩, ?_⟩
   rintro x H2 ⟨rfl, kv, Y4, rfl⟩
   obtain ⟨k, d, hm, hkc, hdv⟩ := dk'.RD Y4
   have e1 : kV kv.1 = .str k := by rw [hkc]; rfl
   rw [e1]
   exact hs i k d σ' H2 hm hP Lg ⟨kvs, .inr ⟨o, Lg⟩, dk'⟩
end
section
variable {σ : St} {H : Hp} {Q : VK} {K : PySem.W.Frag} {p : Addr} {m : List (Str × PyData)} {k : Str}
end
def JD (m : List (Str × V)) : List (Key × V) := m.map fun x => (.inr x.1, x.2)
theorem K3 {k : Str} : ∀ {m : List (Str × V)}, ((JD m).any fun kv => decide (kv.1 = .inr k)) = m.any fun kv => decide (kv.1 = k)
 | [] => rfl
 | x :: r => by
   have := K3 (k := k) (m := r)
   unfold JD at *
   simp only [List.map_cons, List.any_cons, this, PN]
theorem XO {m : List (Str × V)} {k : Str} {v : V} (h : k ∉ m.map (·.1)) : putK (JD m) (.inr k) v = JD (m ++ [(k, v)]) := by
 unfold putK
 rw [K3, if_neg]
 . unfold JD; rw [List.map_append]; rfl
 . simp only [List.any_eq_true, not_exists, not_and]
   intro x hx e
   exact h (List.mem_map.mpr ⟨x, hx, of_decide_eq_true e⟩)
theorem OB {k : Str} : ∀ {m : List (Str × V)}, k ∈ m.map (·.1) -> ∃ v, (k, v) ∈ m /\ oS (JD m) (.inr k) = some v
 | [], h => by simp at h
 | (j, v) :: r, h => by
   by_cases e : j = k
   . subst e
     exact ⟨v, List.mem_cons_self, uU rfl⟩
   . have h2 : k ∈ r.map (·.1) := by
      rcases List.mem_cons.mp h with z | z
      . exact absurd z.symm e
      . exact z
     obtain ⟨u, hu, hv⟩ := OB h2
     exact ⟨u, List.mem_cons_of_mem _ hu, by unfold JD at *; rw [List.map_cons, qx (fun z => e (Sum.inr.inj z))]; exact hv⟩
section
variable {σ : St} {H H' : Hp} {Q : VK} {K : PySem.W.Frag} {p l : Addr} {ns : List Str} {f : Str -> List PyData} {k : Str}
end
section
variable {H H' : Hp} {P : Addr} {pos : Pos} {q : Str}
end
section
variable {X : Cx}
def YF : List V -> Hp -> VK -> Prop := fun xs H Q => ∃ (v : V) (ns : List Int), xs = [v] /\ Dv H v (.list (ns.map PyData.int)) /\ 0 < ns.length /\ ∀ m ∈ ns, (∀ k ∈ ns, m <= k) -> Q (.int m) H
theorem Rz (hc : X.calm = true) : i9 X (.builtin "min") YF := by
 intro pins s σ H xs us Q I r h
 obtain ⟨v, ns, rfl, hd, adI, q⟩ := h
 obtain ⟨u, rfl, ru⟩ := vals1 r
 obtain ⟨p, ys, rfl, e, dv⟩ := hd.lst_inv
 obtain ⟨bT, rvs, pl, _⟩ := I.list (e X.K)
 cases ru
 have hI := Pr dv rvs
 have hn : bT.toArray.size = ns.length := by rw [List.size_toArray, hI.length]
 have lK : p < s.heap.objs.size := by obtain ⟨o, n, e1, _⟩ := pl; exact Heap.lt_size e1
 have hA : X.A.in1.handled = none := I.ok.hd hc
 refine call_min_walk (wpAny_pyIter_list pl.isList ?_)
 refine ⟨s.heap.objs.size, _, _, _, _, _, fun i j => decide (ns.getD i 0 < ns.getD j 0), rfl, Walks.list hA _ p (Nat.ne_of_lt lK) bT.toArray, ⟨⟨_, Heap.get?_push_size _ rfl, rfl, rfl⟩, pl.isList.at fun o e => Heap.get?_push_of_some _ e⟩, ?_, by omega, CmpOf.ints_lt (fun i => ns.getD i 0) ?_, ?_⟩
 . intro b hb
   rw [Heap.size_push]
   have : b = s.heap.objs.size \/ b = p := by simpa using hb
   rcases this with rfl | rfl
   . exact Nat.lt_succ_self _
   . exact Nat.lt_succ_of_lt lK
 . intro i v hv
   exact hI.int_at i v (by simpa using hv)
 . intro v h' tk hP hk
   have b := K6 (fun i => ns.getD i 0) (bT.toArray.size - 1)
   generalize argBest (fun i j => decide (ns.getD i 0 < ns.getD j 0)) (bT.toArray.size - 1) = ix at b hP
   obtain ⟨b1, b2⟩ := b
   obtain ⟨t, rfl⟩ := hI.int_at ix v (by simpa using hP)
   have I1 := I.kept (t' := s.toks) (h' := s.heap.push { cls := Value.type "list_iterator", data := Data.fields #[Value.ref p, Value.int 0 0] }) fun b o e => Heap.get?_push_of_some _ e
   have fp := I.Er (H' := H) (Nat.le_refl _) (I.bD.fresh (Nat.le_refl _))
   have I2 := I1.turned (t' := tk) (h' := h') (it := s.heap.objs.size) (fun b o hb e => hk b o (by simpa using hb) e) fp.1 fp.2.1 fp.2.2.2.1 fp.2.2.2.2.1 fp.2.2.2.2.2
   have hb : ix < ns.length := by omega
   refine ⟨.int _, H, I2, ⟨t, rfl⟩, q _ ?_ ?_⟩
   . rw [List.getD_eq_getElem?_getD, List.getElem?_eq_getElem hb]; exact List.getElem_mem hb
   . intro k hk
     obtain ⟨j, hj, rfl⟩ := List.getElem_of_mem hk
     have := b2 j (by omega)
     rwa [List.getD_eq_getElem?_getD (i := j), List.getElem?_eq_getElem hj] at this
theorem Zt {H : Hp} {Q : VK} {v : V} {ns : List Int} (hp : Dv H v (.list (ns.map PyData.int))) (h0 : 0 < ns.length) (h : ∀ m ∈ ns, (∀ k ∈ ns, m <= k) -> Q (.int m) H) : YF [v] H Q := ⟨v, ns, rfl, hp, h0, h⟩
end
structure LL (H : Hp) (p : Addr) (as : List Addr) (rs : List (Int × Int)) : Prop where
 at' : H p = some (.lst (as.map V.ref))
 nd : as.Nodup
 ne : p ∉ as
 len : as.length = rs.length
 row : ∀ (i : Nat) (b : Addr) (r : Int × Int), as[i]? = some b -> rs[i]? = some r -> d5 H b [.int r.1, .int r.2]
section
variable {H H' : Hp} {p : Addr} {as : List Addr} {rs : List (Int × Int)}
end
section
variable {prog : Program} {w : World} {A : Around} {E : Value -> Shared -> Prop} {s : Shared}
theorem MF {T : String} {r d : Addr} {n : Nat} {Pk : Nat -> Value -> Prop} {OK : Heap -> Prop} {ss : List Str} {Q : Value -> Shared -> Prop} (src : KdlSrc prog w T r d n Pk OK) (hh : A.handled = none) (ok : OK s.heap) (h64 : n < 64) (hP : ∀ acc : Array Value, ItemsOf Pk acc n -> StrsAre acc.toList ss)
 (h : ∀ (h1 h' : Heap) (tk e : Nat) (us : List Value) (F0 : List Str), (∀ b u, s.heap.get? b = some u -> h1.get? b = some u) -> (∀ b u, h1.get? b = some u -> h'.get? b = some u) -> h'.get? h1.objs.size = some { cls := .type "list", data := .seq us.toArray e } -> StrsAre us F0 -> F0.Perm ss -> sortedS F0 = true -> Q (.ref h1.objs.size) { s with heap := h', toks := tk }) :
 wpAny (model prog w) A (call (.builtin "sorted") [.ref r]) Q E s := by
 refine Calls.call_function_entry kind_sorted plain_sorted entry_sorted (args_sorted1 _) ?_
 unfold Builtin.«sorted»
 refine wpAny_bind (m := checkCount "sorted" 1 1 _) (wpAny_pure ?_)
 refine wpAny_bind (kdu_collect (A := A.in1) src hh ok (by rw [sizeLine_eq]; omega) fun h1 tk acc kp gD => ?_)
 have hS := hP acc gD
 have hn : acc.toList.length < 64 := by
  have e : acc.size = n := gD.1
  rw [Array.length_toList, e]; exact h64
 refine wpAny_bind (wpAny_newList ?_ (hsz := by rw [sizeLine_eq]; omega))
 generalize acc.toList = vs at *
 have Oc : (h1.push (seqObj "list" vs.toArray 0)).get? h1.objs.size = some (seqObj "list" vs.toArray 0) := Heap.get?_push_size _ rfl
 refine wpAny_bind (wpAny_holding (wpAny_call_entry slot_list_sort ⟨_, Oc, rfl⟩ entry_list_sort (list_sort_treeK strKind_oneLt Oc hS.keysOf (fun v₁ v₂ rest e => keyKind_strs (by rw [<- e]; exact hS)) hn fun HN a1 a2 => ⟨_, rfl, ?_⟩) (args_list_sort _)))
 obtain ⟨F0, b1, b2, b3⟩ := sorted_out_str hS a1 a2
 obtain ⟨e, he⟩ := sortedHeap_at (out := (arrOf HN).map (·.2)) Oc
 refine wpAny_pure ⟨_, rfl, h h1 _ tk e ((arrOf HN).map (·.2)).toList F0 kp (fun b u q => ?_) (by rw [Array.toArray_toList]; exact he) b1 b2 b3⟩
 have lK : b < h1.objs.size := Heap.lt_size q
 rw [sortedHeap_old (Nat.ne_of_lt lK) (by rw [size_push']; exact Nat.lt_succ_of_lt lK)]
 exact Heap.get?_push_of_some _ q
end
section
variable {X : Cx}
def ZR : V -> Hp -> VK -> Prop := fun x H Q => ∃ (p : Addr) (kvs : List (Key × V)) (ks : List Str), x = .ref p /\ H p = some (.dK kvs) /\ kvs.map (fun kv => kV kv.1) = ks.map V.str /\ ks.length < 64 /\ ∀ q H' ss, ay H H' -> H q = none -> ss.Perm ks -> RH ss -> d5 H' q (ss.map PyData.str) -> Q (.ref q) H'
theorem Jg : ∀ {ks : List Str} {us : List Value}, Vals (ks.map V.str) us -> StrsAre us ks
 | [], _, .nil => .nil
 | _ :: _, _, .cons q t => by
   obtain ⟨tk, rfl⟩ := q
   exact .cons _ _ (Jg t)
theorem RE {pins : List (Addr × Obj)} {σ : St} {H : Hp} {s : Shared} {Q : VK} {h1 h' : Heap} {tk e : Nat} {us : List Value} {F0 : List Str} (I : Inv X pins σ H s) (k1 : ∀ b u, s.heap.get? b = some u -> h1.get? b = some u) (k2 : ∀ b u, h1.get? b = some u -> h'.get? b = some u) (he : h'.get? h1.objs.size = some { cls := .type "list", data := .seq us.toArray e }) (hS : StrsAre us F0) (hl : F0.length < 64)
 (q : ∀ q H', ay H H' -> H q = none -> d5 H' q (F0.map PyData.str) -> Q (.ref q) H') : ∃ v H1, Inv X pins σ H1 { s with heap := h', toks := tk } /\ RelV v (.ref h1.objs.size) /\ Q v H1 := by
 have I1 := I.kept (t' := tk) (h' := h1) k1
 have hq : H h1.objs.size = none := I1.bD.fresh (Nat.le_refl _)
 refine ⟨.ref h1.objs.size, upd H h1.objs.size (.lst (F0.map V.str)), I1.laid (t' := tk) k2 (Nat.le_refl _) ?_, rfl, q _ _ (dB hq) hq (Gj hq (Ho F0) (eA (fun _ => rfl) _))⟩
 exact ⟨by rw [List.length_map]; exact Nat.le_of_lt (jZ (by omega)), us, e, EF hS, he⟩
def Oz : List V -> Hp -> VK -> Prop := fun xs H Q => ∃ v, xs = [v] /\ ZR v H Q
theorem G2 (hc : X.calm = true) : i9 X (.builtin "sorted") Oz := by
 intro pins s σ H xs us Q I r h
 obtain ⟨v, rfl, d, kvs, ks, rfl, hd, hks, hl, q⟩ := h
 obtain ⟨u, rfl, ru⟩ := vals1 r
 cases ru
 obtain ⟨hz, hs, vs, kv, dof⟩ := (show cD X.prog X.w H s.heap d (.dK kvs) from I.bD d _ hd)
 obtain ⟨ep, da⟩ := dof.dictAt
 have hlen : vs.length = kvs.length := kv.length.symm
 have hml : kvs.length = ks.length := by have := congrArg List.length hks; rwa [List.length_map, List.length_map] at this
 refine MF (kdl_dict (knd := aU X.prog X.w) (kvs := vs) (ep := ep) hs) (I.ok.hd hc) da (by omega) (fun acc gD => Jg (hks ▸ G0 kv gD)) fun h1 h' tk e us F0 k1 k2 he hS hp Ma => ?_
 exact RE I k1 k2 he hS (by rw [hp.length_eq]; exact hl) fun a H' sm hn UE => q a H' F0 sm hn hp (BK Ma) UE
end
section
variable {σ : St} {H : Hp} {Q : VK}
end
section
variable {σ : St} {H H' : Hp} {Q : VK} {D : Ends} {K : PySem.W.Frag} {p l t : Addr} {ns : List Str} {f : Str -> List Str} {b : Str -> Bool} {k : Str}
end
section
variable {X : Cx}
end
section
variable {σ : St} {H : Hp} {Q : VK}
end
inductive U4 (w : World) : List DictEntry -> List (Str × Int) -> Prop
 | nil : U4 w [] []
 | cons {es : List DictEntry} {m : List (Str × Int)} (k : Str) (t : Tok) (n : Int) (u : Tok) (r : U4 w es m) : U4 w (⟨PyData.keyHash w.params k, .str k t, .int n u⟩ :: es) ((k, n) :: m)
section
variable {X : Cx} {o i : Expr} {pos : Pos} {td ty : TE} {A : Addr} {m : List (Str × Int)}
end
section
variable {σ : St} {H : Hp} {Q : VK} {A : Addr} {m : List (Str × Int)}
end
section
variable {H : Hp} {Q : VK} {K : PySem.W.Frag} {p : Addr} {ds : List PyData}
end
def WZ : TE := fun _ _ _ => False
theorem vW {X : Cx} {e : Expr} : PE X e WZ := fun _ _ _ _ _ _ h => h.elim
theorem TY {te : TE} {g : TG} {D : Ends} {σ : St} {H : Hp} (h : te σ H fun x H1 => g x σ H1 D.nx) : Rx te g D σ H := h
structure Fr (cs S : List Addr) (H H' : Hp) : Prop where
 kp : ∀ x o, H x = some o -> (∀ kvs, o = .dK kvs -> x ∉ S) -> (∀ C dx fs, o = .ins C dx fs -> C ∉ cs) -> H' x = some o
 dm : ∀ x, H' x = none -> H x = none
def nd : PyData -> Bool
 | .dict _ => false
 | .list ds => V7 ds
 | .tuple ds => V7 ds
 | _ => true
where V7 : List PyData -> Bool
 | [] => true
 | d :: r => nd d && V7 r
section
variable {cs S : List Addr} {H H1 H' : Hp} {p q : Addr} {v : V} {K : PySem.W.Frag}
theorem Fr.refl : Fr cs S H H := ⟨fun _ _ h _ _ => h, fun _ h => h⟩
theorem Fr.trans (f : Fr cs S H H1) (g : Fr cs S H1 H') : Fr cs S H H' := ⟨fun x o h a b => g.kp x o (f.kp x o h a b) a b, fun x h => f.dm x (g.dm x h)⟩
theorem ay.fr (s : ay H H') : Fr cs S H H' := ⟨fun x o h _ _ => s x o h, fun _ h => s.none h⟩
theorem Fr.step (f : Fr cs S H H1) (s : ay H1 H') : Fr cs S H H' := f.trans s.fr
theorem Fr.QM {C dx : Addr} {fs : List (Str × V)} (m : Mv [p] H H') (h : H p = some (.ins C dx fs)) (hC : C ∈ cs) : Fr cs S H H' := ⟨fun x o e _ b => m.kp x o (fun z => by
 rw [List.mem_singleton.mp z, h] at e
 cases e
 exact b _ _ _ rfl hC) e, m.dm⟩
theorem Fr.dkM {kvs : List (Key × V)} (m : Mv [p] H H') (h : H p = some (.dK kvs)) (hS : p ∈ S) : Fr cs S H H' := ⟨fun x o e a _ => m.kp x o (fun z => by
 have z := List.mem_singleton.mp z
 subst z
 rw [h] at e
 cases e
 exact a _ rfl hS) e, m.dm⟩
theorem Fr.none (f : Fr cs S H H') (h : H' p = Option.none) : H p = Option.none := f.dm p h
theorem Fr.tup {xs : List V} (f : Fr cs S H H') (h : H p = some (.tup xs)) : H' p = some (.tup xs) := f.kp p _ h (by intro _ z; cases z) (by intro _ _ _ z; cases z)
theorem Fr.rdl {xs : List V} (f : Fr cs S H H') (h : Rd H p (.lst xs)) : Rd H' p (.lst xs) := by
 rcases h with h | ⟨o, h⟩
 . exact .inl (f.kp p _ h (by intro _ z; cases z) (by intro _ _ _ z; cases z))
 . exact .inr ⟨o, f.kp p _ h (by intro _ z; cases z) (by intro _ _ _ z; cases z)⟩
theorem Fr.sql {xs : List V} (f : Fr cs S H H') (h : jj K H p xs) : jj K H' p xs := by
 rcases h with h | h
 . exact .inl (f.rdl h)
 . exact .inr h
theorem Fr.ins {C : Addr} {fs : List (Str × V)} (f : Fr cs S H H') (hC : C ∉ cs) (h : oz H v C fs) : oz H' v C fs := by
 obtain ⟨p, dx, rfl, e⟩ := h
 exact ⟨p, dx, rfl, f.kp p _ e (by intro _ z; cases z) (by intro _ _ _ z; cases z; exact hC)⟩
theorem Fr.lat {ds : List PyData} (f : Fr cs S H H') (h : d5 H p ds) : d5 H' p ds := by
 obtain ⟨xs, e, dv, im⟩ := h
 exact ⟨xs, f.kp p _ e (by intro _ z; cases z) (by intro _ _ _ z; cases z), dv.yz (fun a xs e => f.tup e) im, im⟩
theorem Fr.dla {m : List (Str × PyData)} (f : Fr cs S H H') (n : p ∉ S) (h : gA H p m) : gA H' p m := by
 obtain ⟨kvs, e, d⟩ := h
 exact ⟨kvs, f.kp p _ e (by intro _ _; exact n) (by intro _ _ _ z; cases z), d.yz fun a xs e => f.tup e⟩
theorem Fr.yz {d : PyData} (f : Fr cs S H H') (i : Gf d = true) (h : Dv H v d) : Dv H' v d := h.yz (fun a xs e => f.tup e) i
mutual
theorem Dv.fr {cs S : List Addr} {H H' : Hp} (f : Fr cs S H H') : ∀ {v : V} {d : PyData}, Dv H v d -> nd d = true -> Dv H' v d
 | _, _, .aS, _ => .aS
 | _, _, .bl b, _ => .bl b
 | _, _, .int i, _ => .int i
 | _, _, .str x, _ => .str x
 | _, _, .tup h r, c => .tup (f.tup h) (c7.fr f r c)
 | _, _, .lst h r, c => .lst (f.rdl h) (c7.fr f r c)
 | _, _, .dct h r, c => by cases c
theorem c7.fr {cs S : List Addr} {H H' : Hp} (f : Fr cs S H H') : ∀ {v : List V} {d : List PyData}, c7 H v d -> nd.V7 d = true -> c7 H' v d
 | _, _, .nil, _ => .nil
 | _, _, .cons h r, c => by
   have c' : (nd _ && nd.V7 _) = true := c
   rw [Bool.and_eq_true] at c'
   exact .cons (Dv.fr f h c'.1) (c7.fr f r c'.2)
end
end
def rP (H : Hp) (p : Addr) (ns : List Str) (f : Str -> V) : Prop := H p = some (.dK (JD (ns.map fun n => (n, f n))))
def cm {β : Type} (f : Str -> β) (k : Str) (v : β) : Str -> β := fun n => if n = k then v else f n
theorem aE {β : Type} {f : Str -> β} {k : Str} {v : β} : cm f k v k = v := if_pos rfl
theorem aZ {β : Type} {f : Str -> β} {k n : Str} {v : β} (h : n ≠ k) : cm f k v n = f n := if_neg h
section
variable {σ : St} {H H' : Hp} {Q : VK} {K : PySem.W.Frag} {p : Addr} {ns : List Str} {f : Str -> V} {k : Str} {v : V}
theorem rP.congr {g : Str -> V} (h : rP H p ns f) (e : ∀ n ∈ ns, f n = g n) : rP H p ns g := by
 have : (ns.map fun n => (n, f n)) = ns.map fun n => (n, g n) := List.map_congr_left fun n hn => by rw [e n hn]
 unfold rP at *
 rw [<- this]; exact h
theorem WX (h : gA H p []) : rP H p [] f := by
 obtain ⟨kvs, e, d⟩ := h
 cases d
 exact e
theorem rP.keeps (s : ay H H') (h : rP H p ns f) : rP H' p ns f := s _ _ h
theorem rP.mv {S : List Addr} (m : Mv S H H') (n : p ∉ S) (h : rP H p ns f) : rP H' p ns f := m.kp _ _ n h
theorem rP.keys : (ns.map fun n => (n, f n)).map (·.1) = ns := by rw [List.map_map]; exact List.map_id' _
theorem rP.val (hk : k ∈ ns) : oS (JD (ns.map fun n => (n, f n))) (.inr k) = some (f k) := by
 obtain ⟨u, hu, e⟩ := OB (m := ns.map fun n => (n, f n)) (k := k) (by rw [rP.keys]; exact hk)
 obtain ⟨n, _, z⟩ := List.mem_map.mp hu
 cases z
 exact e
theorem rP.no (hk : k ∉ ns) : oS (JD (ns.map fun n => (n, f n))) (.inr k) = none := by
 have h := G7 (Sum.inr k : Key) (JD (ns.map fun n => (n, f n)))
 rw [K3] at h
 cases e : oS (JD (ns.map fun n => (n, f n))) (.inr k) with
 | none => rfl
 | some u =>
   rw [e] at h
   obtain ⟨x, hx, hd⟩ := List.any_eq_true.mp h
   obtain ⟨n, hn, rfl⟩ := List.mem_map.mp hx
   exact absurd (of_decide_eq_true hd ▸ hn) hk
theorem Xg {R : Hp -> Prop} (hp : rP H p ns f) (hl : ns.length <= 4000) (hk : k ∉ ns) (h : ∀ H2, Mv [p] H H2 -> rP H2 p (ns ++ [k]) (cm f k v) -> R H2) : ∃ a H4, V.ref p = .ref a /\ JR H a (.str k) v H4 /\ R H4 := by
 have mv : Mv [p] H (upd H p (.dK (putK (JD (ns.map fun n => (n, f n))) (.inr k) v))) := .bo hp (by intro _ z; cases z)
 refine ⟨p, _, rfl, JR.k (k := .inr k) hp (by unfold JD; rw [List.length_map, List.length_map]; exact jZ hl), h _ mv ?_⟩
 unfold rP
 rw [ao, XO (by rw [rP.keys]; exact hk)]
 have e : (ns.map fun n => (n, f n)) = ns.map fun n => (n, cm f k v n) := List.map_congr_left fun n hn => by rw [aZ (fun z : n = k => hk (by rw [<- z]; exact hn))]
 rw [e, List.map_append, List.map_singleton, aE]
theorem X9 {R : V -> Prop} (hp : rP H p ns f) (hk : k ∈ ns) (h : R (f k)) : ∃ a v, V.ref p = .ref a /\ iD H a (.str k) (some v) /\ R v :=
 ⟨p, f k, rfl, by rw [<- rP.val hk]; exact iD.k (k := .inr k) hp, h⟩
theorem ZC {R : Option V -> Prop} (hp : rP H p ns f) (h : ∀ o : Option V, (o.isSome = true ↔ k ∈ ns) -> (k ∈ ns -> o = some (f k)) -> R o) : ∃ a o, V.ref p = .ref a /\ iD H a (.str k) o /\ R o := by
 by_cases hk : k ∈ ns
 . exact ⟨p, _, rfl, by rw [<- rP.val hk]; exact iD.k (k := .inr k) hp, h (some (f k)) ⟨fun _ => hk, fun _ => rfl⟩ fun _ => rfl⟩
 . exact ⟨p, _, rfl, by rw [<- rP.no (f := f) hk]; exact iD.k (k := .inr k) hp, h none ⟨fun z => (by cases z), fun z => absurd z hk⟩ fun z => absurd z hk⟩
theorem Rq : sL (JD (ns.map fun n => (n, f n))) (.inr k) = JD ((ns.filter fun x => decide (x ≠ k)).map fun n => (n, f n)) := by
 induction ns with
 | nil => rfl
 | cons a r ih =>
   unfold JD sL at *
   rw [List.map_cons, List.map_cons, List.filter_cons, List.filter_cons, ih]
   by_cases e : a = k
   . have e1 : ¬ decide ((Sum.inr a : Key) ≠ Sum.inr k) = true := by simp [e]
     have e2 : ¬ decide (a ≠ k) = true := by simp [e]
     rw [if_neg e1, if_neg e2]
   . have e1 : decide ((Sum.inr a : Key) ≠ Sum.inr k) = true := by simpa using fun z : (Sum.inr a : Key) = Sum.inr k => e (Sum.inr.inj z)
     have e2 : decide (a ≠ k) = true := by simpa using e
     rw [if_pos e1, if_pos e2]; rfl
theorem VX (hp : rP H p ns f) (hk : k ∈ ns) (h : ∀ H2, Mv [p] H H2 -> rP H2 p (ns.filter fun x => decide (x ≠ k)) f -> Q (f k) H2) : SU (.ref p) [.str k] H Q := by
 have mv : Mv [p] H (upd H p (.dK (sL (JD (ns.map fun n => (n, f n))) (.inr k)))) := .bo hp (by intro _ z; cases z)
 refine ⟨p, _, .inr k, f k, rfl, rfl, hp, rP.val hk, h _ mv ?_⟩
 unfold rP
 rw [ao, Rq]
theorem ae1 {R : Prop} (hp : rP H p ns f) (h : R) : tyV K "dict" (.ref p) H /\ R := ⟨.inr (.inr (.inl ⟨rfl, .inl ⟨_, hp⟩⟩)), h⟩
theorem rP.adM : (JD (ns.map fun n => (n, f n))).map (fun kv => kV kv.1) = ns.map V.str := by unfold JD; rw [List.map_map, List.map_map]; rfl
end
section
variable {σ : St} {H : Hp} {Q : VK} {K : PySem.W.Frag}
end
theorem GD : ∀ {us : List Value} {ss : List Str}, StrsAre us ss -> ∀ (i : Nat) (v : Value), us[i]? = some v -> ∃ t, v = .str (ss.getD i ⟨#[]⟩) t
 | _, _, .nil, i, v, h => by cases h
 | _, _, .cons x t r, 0, v, h => by cases h; exact ⟨t, rfl⟩
 | _, _, .cons x t r, i + 1, v, h => GD r i v h
theorem L4 (tx : Nat -> Str) : ∀ k, argBest (fun i j => Bn (tx i) (tx j)) k <= k /\ ∀ j, j <= k -> Bn (tx j) (tx (argBest (fun i j => Bn (tx i) (tx j)) k)) = false
 | 0 => ⟨Nat.le_refl _, fun j hj => by have : j = 0 := by omega
                                       subst this; exact Gx _⟩
 | k + 1 => by
   obtain ⟨h1, h2⟩ := L4 tx k
   unfold argBest
   by_cases h : Bn (tx (k + 1)) (tx (argBest (fun i j => Bn (tx i) (tx j)) k)) = true
   . rw [if_pos h]
     refine ⟨Nat.le_refl _, fun j hj => ?_⟩
     by_cases hk : j = k + 1
     . subst hk; exact Gx _
     . have h3 := h2 j (by omega)
       cases e : Bn (tx j) (tx (k + 1)) with
       | false => rfl
       | true =>
         have h4 : Bn (tx (k + 1)) (tx j) = false := by
          refine decide_eq_false ?_
          have := of_decide_eq_true e
          exact fun z => absurd (List.lt_trans this z) (List.lt_irrefl _)
         have := Kn h4 h3
         rw [h] at this
         cases this
   . rw [if_neg h]
     refine ⟨by omega, fun j hj => ?_⟩
     by_cases hk : j = k + 1
     . subst hk; exact Bool.eq_false_iff.mpr h
     . exact h2 j (by omega)
section
variable {X : Cx}
theorem CmpOf.Wf {prog : Program} {w : World} {A : Around} {P : Nat -> Value -> Prop} (val : Nat -> Str) (aeX : ∀ i v, P i v -> ∃ t, v = .str (val i) t) :
 CmpOf prog w A .Lt P (fun i j => Bn (val i) (val j)) := fun i j vi vj s Q E hi hj h => by
 obtain ⟨t, rfl⟩ := aeX i vi hi
 obtain ⟨u, rfl⟩ := aeX j vj hj
 exact richCompare_gives (op := .Lt) (typeIs_str s _ t) (typeIs_str s _ u) F.slot_str_lt F.entry_str_lt (F.args_str_lt_2 _ _) (gives_str_lt _ _ t u) (fun x => nomatch x) h
def YM : List V -> Hp -> VK -> Prop := fun xs H Q => ∃ (v : V) (ss : List Str), xs = [v] /\ Dv H v (.list (ss.map PyData.str)) /\ 0 < ss.length /\ ∀ m ∈ ss, (∀ k ∈ ss, Bn k m = false) -> Q (.str m) H
theorem Qp (hc : X.calm = true) : i9 X (.builtin "min") YM := by
 intro pins s σ H xs us Q I r h
 obtain ⟨v, ns, rfl, hd, adI, q⟩ := h
 obtain ⟨u, rfl, ru⟩ := vals1 r
 obtain ⟨p, ys, rfl, e, dv⟩ := hd.lst_inv
 obtain ⟨bT, rvs, pl, _⟩ := I.list (e X.K)
 cases ru
 have hI := KH dv rvs
 have hn : bT.toArray.size = ns.length := by rw [List.size_toArray, hI.length]
 have lK : p < s.heap.objs.size := by obtain ⟨o, n, e1, _⟩ := pl; exact Heap.lt_size e1
 have hA : X.A.in1.handled = none := I.ok.hd hc
 refine call_min_walk (wpAny_pyIter_list pl.isList ?_)
 refine ⟨s.heap.objs.size, _, _, _, _, _, fun i j => Bn (ns.getD i ⟨#[]⟩) (ns.getD j ⟨#[]⟩), rfl, Walks.list hA _ p (Nat.ne_of_lt lK) bT.toArray, ⟨⟨_, Heap.get?_push_size _ rfl, rfl, rfl⟩, pl.isList.at fun o e => Heap.get?_push_of_some _ e⟩, ?_, by omega, CmpOf.Wf (fun i => ns.getD i ⟨#[]⟩) ?_, ?_⟩
 . intro b hb
   rw [Heap.size_push]
   have : b = s.heap.objs.size \/ b = p := by simpa using hb
   rcases this with rfl | rfl
   . exact Nat.lt_succ_self _
   . exact Nat.lt_succ_of_lt lK
 . intro i v hv
   exact GD hI i v (by simpa using hv)
 . intro v h' tk hP hk
   have b := L4 (fun i => ns.getD i ⟨#[]⟩) (bT.toArray.size - 1)
   generalize argBest (fun i j => Bn (ns.getD i ⟨#[]⟩) (ns.getD j ⟨#[]⟩)) (bT.toArray.size - 1) = ix at b hP
   obtain ⟨b1, b2⟩ := b
   obtain ⟨t, rfl⟩ := GD hI ix v (by simpa using hP)
   have I1 := I.kept (t' := s.toks) (h' := s.heap.push { cls := Value.type "list_iterator", data := Data.fields #[Value.ref p, Value.int 0 0] }) fun b o e => Heap.get?_push_of_some _ e
   have fp := I.Er (H' := H) (Nat.le_refl _) (I.bD.fresh (Nat.le_refl _))
   have I2 := I1.turned (t' := tk) (h' := h') (it := s.heap.objs.size) (fun b o hb e => hk b o (by simpa using hb) e) fp.1 fp.2.1 fp.2.2.2.1 fp.2.2.2.2.1 fp.2.2.2.2.2
   have hb : ix < ns.length := by omega
   refine ⟨.str _, H, I2, ⟨t, rfl⟩, q _ ?_ ?_⟩
   . rw [List.getD_eq_getElem?_getD, List.getElem?_eq_getElem hb]; exact List.getElem_mem hb
   . intro k hk
     obtain ⟨j, hj, rfl⟩ := List.getElem_of_mem hk
     have := b2 j (by omega)
     rwa [List.getD_eq_getElem?_getD (i := j), List.getElem?_eq_getElem hj] at this
theorem aau {H : Hp} {Q : VK} {v : V} {ss : List Str} (hp : Dv H v (.list (ss.map PyData.str))) (h0 : 0 < ss.length) (h : ∀ m ∈ ss, (∀ k ∈ ss, Bn k m = false) -> Q (.str m) H) : YM [v] H Q := ⟨v, ss, rfl, hp, h0, h⟩
end
end L2
set_option maxHeartbeats 4000000
namespace My
open PySem L2
def num (c : Int) : Int := if c % 3 = 0 then c / 3 % 7 else if c % 3 = 1 then c / 3 % 1000 else c / 3 % 10 ^ 39
def O6 (m : V) : Prop := m = .aS \/ ∃ i, m = .int i /\ 1 <= i
def UM (m : V) (n : Int) : Int := match m with
 | .int i => if i <= n then i else n
 | _ => n
def LY (m : V) (n : Int) (d : PyData) : PyData := match m with
 | .int i => if i <= n then .none else d
 | _ => d
theorem O5 {i n : Int} {d : PyData} (h : i <= n) : LY (.int i) n d = .none := if_pos h
theorem OL {i n : Int} {d : PyData} (h : ¬ i <= n) : LY (.int i) n d = d := if_neg h
theorem WR {i n : Int} (h : i <= n) : UM (.int i) n = i := if_pos h
theorem XM {i n : Int} (h : ¬ i <= n) : UM (.int i) n = n := if_neg h
def place (m : V) (n : Int) (d : PyData) : PyData := .tuple [.int (UM m n), LY m n d]
def B2 : List V -> List (Str × V)
 | [st, gp, wd, m] => [("many", m), ("start", st), ("gap", gp), ("wide", wd)]
 | _ => []
def BV : List V -> List (Str × V)
 | [st, gp, mo, wd, m] => [("many", m), ("start", st), ("gap", gp), ("wide", wd), ("most", mo)]
 | _ => []
inductive Wk (R : Int -> Int -> Int × Int) (now : Int) : Int -> Int -> Int -> Int -> Int -> Int -> Prop where
 | here {num x y : Int} (h : now < y) : Wk R now num x y num x y
 | next {num x y k x' y' : Int} (h : y <= now) (w : Wk R now (num + 1) (R num y).1 (R num y).2 k x' y') : Wk R now num x y k x' y'
theorem Wk.inj {R : Int -> Int -> Int × Int} {now num x y k x' y' k2 x2 y2 : Int} (h : Wk R now num x y k x' y') (g : Wk R now num x y k2 x2 y2) : k = k2 /\ x' = x2 /\ y' = y2 := by
 induction h with
 | here h =>
   cases g with
   | here _ => exact ⟨rfl, rfl, rfl⟩
   | next h2 _ => omega
 | next h _ ih =>
   cases g with
   | here h2 => omega
   | next _ w => exact ih w
theorem Wk.le {R : Int -> Int -> Int × Int} {now num x y k x' y' : Int} (h : Wk R now num x y k x' y') (hw : x <= y) (hR : ∀ n s, (R n s).1 <= (R n s).2) : x' <= y' := by
 induction h with
 | here h => exact hw
 | next h _ ih => exact ih (hR _ _)
local macro_rules | `(tactic| walk_at "same") => `(tactic| first | (refine' ay.trans ?m ?s; (case s => assumption); (case m => walk_at "same")) | fail)
set_option hygiene false in
local macro_rules | `(tactic| walk_at "same") => `(tactic| first | assumption | fail)
set_option hygiene false in
local macro_rules | `(tactic| walk_at "same") => `(tactic| first | exact ay.refl _ | fail)
local macro_rules | `(tactic| walk_at "at") => `(tactic| first | (refine' ay.at ?s ?m; (case s => assumption); (case m => walk_at "at")) | fail)
set_option hygiene false in
local macro_rules | `(tactic| walk_at "at") => `(tactic| first | exact ao | fail)
set_option hygiene false in
local macro_rules | `(tactic| walk_at "at") => `(tactic| first | assumption | fail)
local macro_rules | `(tactic| walk_at "dat") => `(tactic| first | (refine' Dv.keeps ?s ?m; (case s => assumption); (case m => walk_at "dat")) | fail)
set_option hygiene false in
local macro_rules | `(tactic| walk_at "dat") => `(tactic| first | assumption | fail)
set_option hygiene false in
local macro_rules | `(tactic| walk_at "dat") => `(tactic| first | exact Dv.str _ | fail)
set_option hygiene false in
local macro_rules | `(tactic| walk_at "dat") => `(tactic| first | exact Dv.bl _ | fail)
set_option hygiene false in
local macro_rules | `(tactic| walk_at "dat") => `(tactic| first | exact Dv.aS | fail)
set_option hygiene false in
local macro_rules | `(tactic| walk_at "dat") => `(tactic| first | exact Dv.int _ | fail)
local macro_rules | `(tactic| walk_at "ins") => `(tactic| first | (refine' oz.keeps ?s ?m; (case s => assumption); (case m => walk_at "ins")) | fail)
set_option hygiene false in
local macro_rules | `(tactic| walk_at "ins") => `(tactic| first | assumption | fail)
local macro_rules | `(tactic| walk_at "dats") => `(tactic| first | (refine' c7.keeps ?s ?m; (case s => assumption); (case m => walk_at "dats")) | fail)
set_option hygiene false in
local macro_rules | `(tactic| walk_at "dats") => `(tactic| first | assumption | fail)
local macro_rules | `(tactic| walk_at "dats") => `(tactic| first | (refine' c7.cons ?m ?s; (case m => walk_at "dat"); (case s => walk_at "dats")) | fail)
set_option hygiene false in
local macro_rules | `(tactic| walk_at "dats") => `(tactic| first | exact c7.nil | fail)
local macro_rules | `(tactic| walk_at "sql") => `(tactic| first | (refine' ay.seq ?s ?m; (case s => assumption); (case m => walk_at "sql")) | fail)
set_option hygiene false in
local macro_rules | `(tactic| walk_at "sql") => `(tactic| first | assumption | fail)
local macro_rules | `(tactic| walk_at "isq") => `(tactic| first | (refine' Or.inr ?m; case m => walk_at "dat") | fail)
local macro_rules | `(tactic| walk_at "isq") => `(tactic| first | (refine' Or.inl ?m; case m => walk_at "dat") | fail)
set_option hygiene false in
local macro_rules | `(tactic| walk_at "side") => `(tactic| first | exact ⟨by decide, by decide, by decide⟩ | fail)
set_option hygiene false in
local macro_rules | `(tactic| walk_at "side") => `(tactic| first | exact ad0 ⟨by omega, by omega⟩ ⟨by omega, by omega⟩ | fail)
set_option hygiene false in
local macro_rules | `(tactic| walk_at "side") => `(tactic| first | exact acT (by omega) (by omega) | fail)
set_option hygiene false in
local macro_rules | `(tactic| walk_at "side") => `(tactic| first | exact (by decide) | fail)
set_option hygiene false in
local macro_rules | `(tactic| walk_at "side") => `(tactic| first | assumption | fail)
set_option hygiene false in
local macro_rules | `(tactic| walk_at "side") => `(tactic| first | omega | fail)
set_option hygiene false in
local macro_rules | `(tactic| walk_at "use") => `(tactic| fail)
set_option hygiene false in
local macro_rules | `(tactic| walk_at "lk") => `(tactic| fail)
set_option hygiene false in
local macro_rules | `(tactic| walk_at "put") => `(tactic| fail)
set_option hygiene false in
local macro_rules | `(tactic| walk_at "fin") => `(tactic| fail)
set_option hygiene false in
local macro_rules | `(tactic| walk_at "wds") => `(tactic| first | with_reducible refine N0 (ws := []) rfl ?_ | fail)
set_option hygiene false in
local macro_rules | `(tactic| walk_at "wds") => `(tactic| first | with_reducible refine N0 (ws := [_, _, _, _, _, _]) rfl ?_ | fail)
set_option hygiene false in
local macro_rules | `(tactic| walk_at "wds") => `(tactic| first | with_reducible refine N0 (ws := [_, _, _, _, _]) rfl ?_ | fail)
set_option hygiene false in
local macro_rules | `(tactic| walk_at "wds") => `(tactic| first | with_reducible refine N0 (ws := [_, _, _, _]) rfl ?_ | fail)
set_option hygiene false in
local macro_rules | `(tactic| walk_at "wds") => `(tactic| first | with_reducible refine N0 (ws := [_, _, _]) rfl ?_ | fail)
set_option hygiene false in
local macro_rules | `(tactic| walk_at "wds") => `(tactic| first | with_reducible refine N0 (ws := [_, _]) rfl ?_ | fail)
set_option hygiene false in
local macro_rules | `(tactic| walk_at "wds") => `(tactic| first | with_reducible refine N0 (ws := [_]) rfl ?_ | fail)
set_option hygiene false in
local macro_rules | `(tactic| walk_at "mks") => `(tactic| first | refine B4 (args := [_, _, _, _, _]) rfl ?_ (fun _ _ _ _ => ?_) | fail)
set_option hygiene false in
local macro_rules | `(tactic| walk_at "mks") => `(tactic| first | refine B4 (args := [_, _, _, _]) rfl ?_ (fun _ _ _ _ => ?_) | fail)
set_option hygiene false in
local macro_rules | `(tactic| walk_at "mks") => `(tactic| first | refine B4 (args := [_, _, _]) rfl ?_ (fun _ _ _ _ => ?_) | fail)
set_option hygiene false in
local macro_rules | `(tactic| walk_at "mks") => `(tactic| first | refine B4 (args := [_, _]) rfl ?_ (fun _ _ _ _ => ?_) | fail)
set_option hygiene false in
local macro_rules | `(tactic| walk_at "mks") => `(tactic| first | refine B4 (args := [_]) rfl ?_ (fun _ _ _ _ => ?_) | fail)
local macro_rules | `(tactic| walk_at "br") => `(tactic| ((with_reducible refine aeP (fun hb => ?_) (fun hb => ?_)) <;> (try simp only [id, decide_eq_true_eq, decide_eq_false_iff_not, Bool.not_eq_true', Bool.not_eq_false', Bool.not_true, Bool.not_false, V.int.injEq, Bool.true_eq_false, Bool.false_eq_true, reduceCtorEq, decide_true, decide_false, not_true, not_false_iff, PyData.eqv, PyData.eqvAll, Bool.and_eq_true, Bool.and_eq_false_iff, Bool.or_eq_true, Bool.or_eq_false_iff, beq_iff_eq, beq_eq_false_iff_ne, ne_eq, bne_iff_ne, Bool.and_true, Bool.and_false, Bool.and_self, beq_self_eq_true, isInt, isBool, isStr, Ze, isTup, aeM, List.length_cons, List.length_nil] at hb) <;> (try (exfalso; omega)) <;> (try (exfalso; (refine' agm hb ?d); (case d => walk_at "dat")))))
set_option hygiene false in
local macro_rules | `(tactic| walk_at "rd1") => `(tactic| first | walk_at "fin" | fail)
set_option hygiene false in
local macro_rules | `(tactic| walk_at "rd1") => `(tactic| first | walk_at "use" | fail)
set_option hygiene false in
local macro_rules | `(tactic| walk_at "rd1") => `(tactic| first | walk_at "mks" | fail)
set_option hygiene false in
local macro_rules | `(tactic| walk_at "rd1") => `(tactic| first | walk_at "wds" | fail)
set_option hygiene false in
local macro_rules | `(tactic| walk_at "rd1") => `(tactic| first | with_reducible refine VD (fun _ _ => ?_) | fail)
set_option hygiene false in
local macro_rules | `(tactic| walk_at "rd1") => `(tactic| first | with_reducible refine Zh ?_ | fail)
set_option hygiene false in
local macro_rules | `(tactic| walk_at "rd1") => `(tactic| first | with_reducible refine ac0 ?_ | fail)
local macro_rules | `(tactic| walk_at "rd1") => `(tactic| first | ((with_reducible refine Y2 ?_); (with_reducible refine Kt ?_); ((with_reducible refine' L9 ?e ?_); case e => exact rfl); ((with_reducible refine' Kf ?e1 ?e2 ?_); (case e1 => walk_at "ins"); (case e2 => walk_at "lk"))) | fail)
set_option hygiene false in
local macro_rules | `(tactic| walk_at "rd1") => `(tactic| first | with_reducible refine XW ?_ | fail)
set_option hygiene false in
local macro_rules | `(tactic| walk_at "rd1") => `(tactic| first | with_reducible refine Kt ?_ | fail)
set_option hygiene false in
local macro_rules | `(tactic| walk_at "rd1") => `(tactic| first | with_reducible refine YX ?_ | fail)
local macro_rules | `(tactic| walk_at "rd1") => `(tactic| first | ((with_reducible refine' abp ?e1 ?e2 ?_); (case e1 => omega); (case e2 => omega)) | fail)
set_option hygiene false in
local macro_rules | `(tactic| walk_at "rd1") => `(tactic| first | with_reducible refine X2 ?_ | fail)
set_option hygiene false in
local macro_rules | `(tactic| walk_at "rd1") => `(tactic| first | with_reducible refine aew ?_ | fail)
set_option hygiene false in
local macro_rules | `(tactic| walk_at "rd1") => `(tactic| first | with_reducible refine aaY ?_ | fail)
set_option hygiene false in
local macro_rules | `(tactic| walk_at "rd1") => `(tactic| first | with_reducible refine Zu ?_ | fail)
local macro_rules | `(tactic| walk_at "rd1") => `(tactic| first | ((with_reducible refine' Zr ?e1 ?e2 (fun _ _ _ _ => ?_)); (case e1 => exact Yf rfl); (case e2 => walk_at "dats")) | fail)
set_option hygiene false in
local macro_rules | `(tactic| walk_at "rd1") => `(tactic| first | with_reducible refine abT ?_ | fail)
set_option hygiene false in
local macro_rules | `(tactic| walk_at "rd1") => `(tactic| first | with_reducible refine V2 (fun _ _ => ?_) | fail)
set_option hygiene false in
local macro_rules | `(tactic| walk_at "rd1") => `(tactic| first | with_reducible refine XU ?_ | fail)
set_option hygiene false in
local macro_rules | `(tactic| walk_at "rd1") => `(tactic| first | with_reducible refine XZ ?_ | fail)
set_option hygiene false in
local macro_rules | `(tactic| walk_at "rd1") => `(tactic| first | with_reducible refine VZ ?_ | fail)
local macro_rules | `(tactic| walk_at "rd1") => `(tactic| first | ((with_reducible refine' PZ ?e ?_); case e => walk_at "dat") | fail)
local macro_rules | `(tactic| walk_at "rd1") => `(tactic| first | ((with_reducible refine' QB ?e ?_); case e => walk_at "dat") | fail)
local macro_rules | `(tactic| walk_at "rd1") => `(tactic| first | ((with_reducible refine' Qx ?e ?_); case e => walk_at "dat") | fail)
local macro_rules | `(tactic| walk_at "rd1") => `(tactic| first | ((with_reducible refine' MN ?e ?_); case e => walk_at "dat") | fail)
local macro_rules | `(tactic| walk_at "rd1") => `(tactic| first | ((with_reducible refine' P5 ?e ?_); case e => walk_at "dat") | fail)
local macro_rules | `(tactic| walk_at "rd1") => `(tactic| first | ((with_reducible refine' Xe ?e1 ?e2 ?_); (case e1 => walk_at "at"); (case e2 => walk_at "lk")) | fail)
local macro_rules | `(tactic| walk_at "rd1") => `(tactic| first | ((with_reducible refine' Kf ?e1 ?e2 ?_); (case e1 => walk_at "ins"); (case e2 => walk_at "lk")) | fail)
local macro_rules | `(tactic| walk_at "rd1") => `(tactic| first | ((with_reducible refine' UJ ?e1 ?e2 ?e3 ?e4 ?_); (case e1 => walk_at "at"); (case e2 => assumption); (case e3 => assumption); (case e4 => walk_at "lk")) | fail)
local macro_rules | `(tactic| walk_at "rd1") => `(tactic| first | ((with_reducible refine' Zz ?e1 ?e2 ?e3 ?e4 ?_); (case e1 => walk_at "ins"); (case e2 => assumption); (case e3 => assumption); (case e4 => walk_at "lk")) | fail)
local macro_rules | `(tactic| walk_at "rd1") => `(tactic| first | ((with_reducible refine' WK ?e1 ?e2 ?e3 ?e4 ?e5 ?_); (case e1 => walk_at "at"); (case e2 => assumption); (case e3 => assumption); (case e4 => exact VH rfl); (case e5 => walk_at "put")) | fail)
set_option hygiene false in
local macro_rules | `(tactic| walk_at "rd1") => `(tactic| first | with_reducible refine abY ?_ | fail)
set_option hygiene false in
local macro_rules | `(tactic| walk_at "rd1") => `(tactic| first | with_reducible refine ahB ?_ | fail)
local macro_rules | `(tactic| walk_at "rd1") => `(tactic| first | ((with_reducible refine' ZF ?e (fun _ _ => ?_)); case e => walk_at "side") | fail)
set_option hygiene false in
local macro_rules | `(tactic| walk_at "rd1") => `(tactic| first | with_reducible refine ZS (fun _ _ _ _ => ?_) | fail)
set_option hygiene false in
local macro_rules | `(tactic| walk_at "rd1") => `(tactic| first | with_reducible refine ZP (fun _ _ _ _ => ?_) | fail)
local macro_rules | `(tactic| walk_at "rd1") => `(tactic| first | ((with_reducible refine' abh ?e ?_); case e => walk_at "sql") | fail)
local macro_rules | `(tactic| walk_at "rd1") => `(tactic| first | ((with_reducible refine' Za ?e1 ?e2 ?_); (case e1 => walk_at "isq"); (case e2 => exact rfl)) | fail)
local macro_rules | `(tactic| walk_at "rd1") => `(tactic| first | ((with_reducible refine' Y6 ?e1 ?e2 ?e3 ?e4 ?e5 ?_); (case e1 => walk_at "dat"); (case e2 => walk_at "dat"); (case e3 => first | rfl | assumption); (case e4 => first | rfl | assumption); (case e5 => first | exact Nat.le_of_ble_eq_true rfl | assumption)) | fail)
local macro_rules | `(tactic| walk_at "rd1") => `(tactic| first | ((with_reducible refine' acV ?e ?_); case e => exact rfl) | fail)
set_option hygiene false in
local macro_rules | `(tactic| walk_at "rd1") => `(tactic| first | with_reducible refine abH ?_ | fail)
set_option hygiene false in
local macro_rules | `(tactic| walk_at "rd1") => `(tactic| first | walk_at "br" | fail)
set_option hygiene false in
local macro_rules | `(tactic| walk_at "rd1") => `(tactic| first | with_reducible refine QY ?_ | fail)
set_option hygiene false in
local macro_rules | `(tactic| walk_at "rd1") => `(tactic| first | with_reducible refine U0 ?_ | fail)
set_option hygiene false in
local macro_rules | `(tactic| walk_at "rd1") => `(tactic| first | with_reducible refine aag ?_ | fail)
set_option hygiene false in
local macro_rules | `(tactic| walk_at "rd1") => `(tactic| first | with_reducible refine ahi ?_ | fail)
set_option hygiene false in
local macro_rules | `(tactic| walk_at "rd1") => `(tactic| first | with_reducible refine aeE ?_ | fail)
set_option hygiene false in
local macro_rules | `(tactic| walk_at "rd1") => `(tactic| first | with_reducible refine aa2 ?_ | fail)
set_option hygiene false in
local macro_rules | `(tactic| walk_at "rd1") => `(tactic| first | with_reducible refine adf ?_ | fail)
set_option hygiene false in
local macro_rules | `(tactic| walk_at "rd1") => `(tactic| first | with_reducible refine aah ?_ | fail)
set_option hygiene false in
local macro_rules | `(tactic| walk_at "rd1") => `(tactic| first | with_reducible refine ae8 ?_ | fail)
set_option hygiene false in
local macro_rules | `(tactic| walk_at "rd1") => `(tactic| first | with_reducible refine ahU ?_ | fail)
set_option hygiene false in
local macro_rules | `(tactic| walk_at "rd1") => `(tactic| first | with_reducible refine aem ?_ | fail)
set_option hygiene false in
local macro_rules | `(tactic| walk_at "rd1") => `(tactic| first | with_reducible refine ZJ ?_ | fail)
set_option hygiene false in
local macro_rules | `(tactic| walk_at "rd1") => `(tactic| first | with_reducible refine aga ?_ | fail)
set_option hygiene false in
local macro_rules | `(tactic| walk_at "rd1") => `(tactic| first | with_reducible refine Ww ?_ | fail)
set_option hygiene false in
local macro_rules | `(tactic| walk_at "rd1") => `(tactic| first | with_reducible refine acW ?_ | fail)
set_option hygiene false in
local macro_rules | `(tactic| walk_at "rd1") => `(tactic| first | with_reducible refine ZU ?_ | fail)
set_option hygiene false in
local macro_rules | `(tactic| walk_at "rd1") => `(tactic| first | with_reducible refine r_u ?_ | fail)
local macro_rules | `(tactic| walk_at "rd1") => `(tactic| first | ((with_reducible refine' r_i ?e ?_); case e => walk_at "side") | fail)
local macro_rules | `(tactic| walk_at "rd1") => `(tactic| first | ((with_reducible refine' aa5 ?e1 ?e2 ?_); (case e1 => exact ⟨by decide, by decide, by decide⟩); (case e2 => ((conv => lhs; simp only [Int.reduceToNat]) <;> exact rfl))) | fail)
set_option hygiene false in
local macro_rules | `(tactic| walk_at "rd1") => `(tactic| first | with_reducible refine agC ?_ | fail)
set_option hygiene false in
local macro_rules | `(tactic| walk_at "rd1") => `(tactic| first | with_reducible refine agL ?_ | fail)
set_option hygiene false in
local macro_rules | `(tactic| walk_at "rd1") => `(tactic| first | with_reducible refine ahH ?_ | fail)
set_option hygiene false in
local macro_rules | `(tactic| walk_at "rd1") => `(tactic| first | with_reducible refine r_c ?_ | fail)
local macro_rules | `(tactic| walk_at "rd1") => `(tactic| first | ((with_reducible refine' L9 ?e ?_); case e => exact rfl) | fail)
set_option hygiene false in
local macro_rules | `(tactic| walk_at "rd1") => `(tactic| first | with_reducible refine aeL ?_ | fail)
set_option hygiene false in
local macro_rules | `(tactic| walk_at "rd1") => `(tactic| first | with_reducible refine aa3 ?_ | fail)
set_option hygiene false in
local macro_rules | `(tactic| walk_at "rd1") => `(tactic| first | with_reducible refine aeO ?_ | fail)
set_option hygiene false in
local macro_rules | `(tactic| walk_at "rd1") => `(tactic| first | with_reducible refine ac9 ?_ | fail)
set_option hygiene false in
local macro_rules | `(tactic| walk_at "rd1") => `(tactic| first | with_reducible refine aaE ?_ | fail)
local macro_rules | `(tactic| walk_at "lat") => `(tactic| first | (refine' d5.mv ?s ?n ?m; (case s => assumption); (case n => walk_at "nin"); (case m => walk_at "lat")) | fail)
local macro_rules | `(tactic| walk_at "lat") => `(tactic| first | (refine' d5.keeps ?s ?m; (case s => assumption); (case m => walk_at "lat")) | fail)
set_option hygiene false in
local macro_rules | `(tactic| walk_at "lat") => `(tactic| first | assumption | fail)
local macro_rules | `(tactic| walk_at "nin") => `(tactic| first | (refine' aac ?n1; (case n1 => walk_at "ne")) | fail)
local macro_rules | `(tactic| walk_at "ne") => `(tactic| first | (refine' Ne.symm (d5.ne ?h ?n); (case n => assumption); (case h => walk_at "lat")) | fail)
local macro_rules | `(tactic| walk_at "ne") => `(tactic| first | (refine' d5.ne ?h ?n; (case n => assumption); (case h => walk_at "lat")) | fail)
set_option hygiene false in
local macro_rules | `(tactic| walk_at "ne") => `(tactic| first | (refine Ne.symm ?_; assumption) | fail)
set_option hygiene false in
local macro_rules | `(tactic| walk_at "ne") => `(tactic| first | assumption | fail)
local macro_rules | `(tactic| walk_at "dla") => `(tactic| first | (refine' gA.mv ?s ?n ?m; (case s => assumption); (case n => walk_at "nin"); (case m => walk_at "dla")) | fail)
local macro_rules | `(tactic| walk_at "dla") => `(tactic| first | (refine' gA.keeps ?s ?m; (case s => assumption); (case m => walk_at "dla")) | fail)
set_option hygiene false in
local macro_rules | `(tactic| walk_at "dla") => `(tactic| first | assumption | fail)
local macro_rules | `(tactic| walk_at "ne") => `(tactic| first | (refine' Ne.symm (gA.ne ?h ?n); (case n => assumption); (case h => walk_at "dla")) | fail)
local macro_rules | `(tactic| walk_at "ne") => `(tactic| first | (refine' gA.ne ?h ?n; (case n => assumption); (case h => walk_at "dla")) | fail)
local macro_rules | `(tactic| walk_at "imm") => `(tactic| first | (refine' d5.yz ?h; (case h => assumption)) | fail)
set_option hygiene false in
local macro_rules | `(tactic| walk_at "imm") => `(tactic| first | exact eA (fun _ => rfl) _ | fail)
set_option hygiene false in
local macro_rules | `(tactic| walk_at "imm") => `(tactic| first | assumption | fail)
set_option hygiene false in
local macro_rules | `(tactic| walk_at "imm") => `(tactic| first | rfl | fail)
set_option hygiene false in
local macro_rules | `(tactic| walk_at "dm") => `(tactic| first | exact fun _ h => h | fail)
set_option hygiene false in
local macro_rules | `(tactic| walk_at "none") => `(tactic| first | assumption | fail)
set_option hygiene false in
local macro_rules | `(tactic| walk_at "same") => `(tactic| fail)
local macro_rules | `(tactic| walk_at "mv") => `(tactic| first | (refine' Mv.step ?m ?s ?h; (case s => assumption); (case m => walk_at "mv"); (case h => walk_at "ours")) | fail)
local macro_rules | `(tactic| walk_at "mv") => `(tactic| first | (refine' Mv.Mf ?m ?s; (case s => assumption); (case m => walk_at "mv")) | fail)
set_option hygiene false in
local macro_rules | `(tactic| walk_at "mv") => `(tactic| first | assumption | fail)
set_option hygiene false in
local macro_rules | `(tactic| walk_at "mv") => `(tactic| first | exact Mv.refl | fail)
set_option hygiene false in
local macro_rules | `(tactic| walk_at "ours") => `(tactic| fail)
local macro_rules | `(tactic| walk_at "dat") => `(tactic| first | (refine' Mv.dat ?s ?i ?m; (case s => assumption); (case i => walk_at "imm"); (case m => walk_at "dat")) | fail)
local macro_rules | `(tactic| walk_at "dat") => `(tactic| first | (refine' d5.dv ?m; (case m => walk_at "lat")) | fail)
local macro_rules | `(tactic| walk_at "dats") => `(tactic| first | (refine' Mv.abo ?s ?i ?m; (case s => assumption); (case i => walk_at "imm"); (case m => walk_at "dats")) | fail)
set_option hygiene false in
local macro_rules | `(tactic| walk_at "len") => `(tactic| first | omega | fail)
set_option hygiene false in
local macro_rules | `(tactic| walk_at "len") => `(tactic| first | (simp only [List.length_map, List.length_append, List.length_cons, List.length_nil]; omega) | fail)
local macro_rules | `(tactic| walk_at "rd1") => `(tactic| first | ((with_reducible refine' Za ?e1 ?e2 ?_); (case e1 => walk_at "isq"); (case e2 => first | exact acq | (refine' UB ?a ?b; (case a => omega); (case b => walk_at "len")) | fail)) | fail)
local macro_rules | `(tactic| walk_at "rd1") => `(tactic| first | ((with_reducible refine' ND ?e ?_); case e => walk_at "len") | fail)
set_option hygiene false in
local macro_rules | `(tactic| walk_at "rd1") => `(tactic| first | with_reducible refine adP ?_ | fail)
set_option hygiene false in
local macro_rules | `(tactic| walk_at "rd1") => `(tactic| first | with_reducible refine Sq ?_ | fail)
local macro_rules | `(tactic| walk_at "rd1") => `(tactic| first | ((with_reducible refine' ZK ?e1 ?e2 ?e3 (fun _ _ _ _ _ => ?_)); (case e1 => exact Yf rfl); (case e2 => walk_at "dats"); (case e3 => exact rfl)) | fail)
local macro_rules | `(tactic| walk_at "rd1") => `(tactic| first | ((with_reducible refine' acJ ?e1 ?e2 ?e3 ?e4 (fun _ _ _ => ?_)); (case e1 => walk_at "lat"); (case e3 => walk_at "dat"); (case e2 => walk_at "len"); (case e4 => walk_at "imm")) | fail)
local macro_rules | `(tactic| walk_at "rd1") => `(tactic| first | ((with_reducible refine' adi ?e ?_); case e => walk_at "lat") | fail)
set_option hygiene false in
local macro_rules | `(tactic| walk_at "rd1") => `(tactic| first | with_reducible refine ahn ?_ | fail)
set_option hygiene false in
local macro_rules | `(tactic| walk_at "rd1") => `(tactic| first | with_reducible refine W2 ?_ | fail)
local macro_rules | `(tactic| walk_at "rd1") => `(tactic| first | ((with_reducible refine' abj ?e1 ?e2 ?_); (case e1 => walk_at "dla"); (case e2 => assumption)) | fail)
local macro_rules | `(tactic| walk_at "rd1") => `(tactic| first | ((with_reducible refine' acP ?e1 (fun _ _ => ?_)); (case e1 => walk_at "dla")) | fail)
local macro_rules | `(tactic| walk_at "rd1") => `(tactic| first | ((with_reducible refine' SD ?e1 ?e2 ?e3 ?e4 (fun _ _ _ => ?_)); (case e1 => walk_at "dla"); (case e3 => walk_at "dat"); (case e2 => walk_at "len"); (case e4 => walk_at "imm")) | fail)
set_option hygiene false in
local macro_rules | `(tactic| walk_at "rd1") => `(tactic| first | with_reducible refine Xu ?_ | fail)
set_option hygiene false in
local macro_rules | `(tactic| walk_at "rd1") => `(tactic| first | with_reducible refine abX ?_ | fail)
set_option hygiene false in
local macro_rules | `(tactic| walk_at "rd1") => `(tactic| first | with_reducible refine X5 ?_ | fail)
set_option hygiene false in
local macro_rules | `(tactic| walk_at "rd1") => `(tactic| first | with_reducible refine WN ?_ | fail)
set_option hygiene false in
local macro_rules | `(tactic| walk_at "rd1") => `(tactic| first | with_reducible refine aa1 (fun _ _ _ _ _ => ?_) | fail)
set_option hygiene false in
local macro_rules | `(tactic| walk_at "rd1") => `(tactic| first | with_reducible refine ag6 ?_ | fail)
local macro_rules | `(tactic| walk_at "rd1") => `(tactic| first | ((with_reducible refine' RY ?e1 ?e2 ?e3 (fun _ _ _ _ _ => ?_)); (case e1 => walk_at "lat"); (case e2 => walk_at "lat"); (case e3 => walk_at "len")) | fail)
local macro_rules | `(tactic| walk_at "rd1") => `(tactic| first | ((with_reducible refine' VO ?e1 ?e2 (fun _ _ _ _ _ _ _ _ => ?_)); (case e1 => walk_at "dat"); (case e2 => walk_at "len")) | fail)
set_option hygiene false in
local macro_rules | `(tactic| walk_at "rd1") => `(tactic| fail)
set_option hygiene false in
local macro_rules | `(tactic| walk_at "rd1") => `(tactic| fail)
local macro_rules | `(tactic| walk_at "rd1") => `(tactic| first | ((with_reducible refine' Xy ?e1 ?_); (case e1 => walk_at "dla")) | fail)
set_option hygiene false in
local macro_rules | `(tactic| walk_at "rd1") => `(tactic| first | with_reducible refine R0 ?_ | fail)
set_option hygiene false in
local macro_rules | `(tactic| walk_at "rd1") => `(tactic| first | with_reducible refine XT ?_ | fail)
set_option hygiene false in
local macro_rules | `(tactic| walk_at "rd1") => `(tactic| fail)
local macro_rules | `(tactic| walk_at "rd1") => `(tactic| first | ((with_reducible refine' abd ?e1 ?e2 ?_); (case e1 => walk_at "dla"); (case e2 => walk_at "dla")) | fail)
def top (i : Nat) : Stmt := PySem.Challenge.pw_wakefew_k55_what_follows.main.body.getD i (.Pass ⟨0, 0, 0, 0⟩)
set_option hygiene false in
local macro_rules | `(tactic| walk_at "scp") => `(tactic| exact ⟨rfl, rfl, rfl, by decide +kernel, rfl, by decide +kernel, by decide +kernel⟩)
abbrev jE : Stmt := inClass (top 2) 0
theorem DY : ax ["self", "name", "rule", "weight", "home", "by_day"] ["self", "name", "rule", "weight", "home", "by_day"] (aj jE) := by walk_at "scp"
abbrev yh : Stmt := inClass (top 2) 1
theorem Lb : ax ["self", "shift"] ["self", "shift"] (aj yh) := by walk_at "scp"
abbrev lM : Stmt := inClass (top 2) 2
theorem FU : ax ["self"] ["self"] (aj lM) := by walk_at "scp"
abbrev ib : Stmt := inClass (top 2) 3
theorem AF : ax ["self"] ["self"] (aj ib) := by walk_at "scp"
abbrev oO : Stmt := inClass (top 2) 4
theorem HF : ax ["self", "at"] ["self", "at"] (aj oO) := by walk_at "scp"
abbrev jz : Stmt := inClass (top 2) 5
theorem iy : ax ["self", "shown", "low", "last", "place"] ["self", "shown"] (aj jz) := by walk_at "scp"
abbrev wY : Stmt := inClass (top 2) 6
theorem CJ : ax ["self", "now", "shift", "lead"] ["self", "now", "shift"] (aj wY) := by walk_at "scp"
abbrev xR : Stmt := inClass (top 2) 7
theorem Kw : ax ["self"] ["self"] (aj xR) := by walk_at "scp"
abbrev rJ : Stmt := inClass (top 2) 9
theorem IL : ax ["self"] ["self"] (aj rJ) := by walk_at "scp"
abbrev ia : Stmt := inClass (top 16) 0
theorem Bh : ax ["self"] ["self"] (aj ia) := by walk_at "scp"
abbrev iE : Stmt := inClass (top 18) 0
theorem Ds : ax ["self", "now"] ["self", "now"] (aj iE) := by walk_at "scp"
abbrev wF : Stmt := inClass (top 18) 1
theorem J2 : ax ["self", "name", "time"] ["self", "name", "time"] (aj wF) := by walk_at "scp"
abbrev rV : Stmt := inClass (top 18) 2
theorem yZ : ax ["self", "name", "time"] ["self", "name"] (aj rV) := by walk_at "scp"
abbrev lW : Stmt := inClass (top 18) 3
theorem j8 : ax ["self", "to", "told", "time", "name"] ["self", "to"] (aj lW) := by walk_at "scp"
abbrev o5 : Stmt := inClass (top 18) 4
theorem HM : ax ["self"] ["self"] (aj o5) := by walk_at "scp"
abbrev jo : Stmt := inClass (top 18) 5
theorem EW : ax ["self", "name"] ["self", "name"] (aj jo) := by walk_at "scp"
abbrev fE : Stmt := inClass (top 18) 7
theorem xC : ax ["self", "name"] ["self", "name"] (aj fE) := by walk_at "scp"
abbrev vh : Stmt := inClass (top 19) 0
theorem KW : ax ["self", "name", "time"] ["self", "name", "time"] (aj vh) := by walk_at "scp"
abbrev vY : Stmt := inClass (top 19) 1
theorem JO : ax ["self", "name", "time"] ["self", "name", "time"] (aj vY) := by walk_at "scp"
abbrev iH : Stmt := inClass (top 19) 2
theorem Ht : ax ["self", "to"] ["self", "to"] (aj iH) := by walk_at "scp"
abbrev A4 : Stmt := top 21
theorem LZ : ax ["thing"] ["thing"] (aj A4) := by walk_at "scp"
abbrev ju : Stmt := inClass (top 32) 0
theorem EG : ax ["self", "rounds", "now"] ["self", "rounds", "now"] (aj ju) := by walk_at "scp"
abbrev ku : Stmt := inClass (top 32) 1
theorem FX : ax ["self", "name"] ["self", "name"] (aj ku) := by walk_at "scp"
abbrev fA : Stmt := inClass (top 32) 2
theorem CV : ax ["self"] ["self"] (aj fA) := by walk_at "scp"
abbrev jD : Stmt := inClass (top 32) 4
theorem EB : ax ["self", "bell"] ["self", "bell"] (aj jD) := by walk_at "scp"
abbrev jw : Stmt := inClass (top 32) 5
theorem El : ax ["self", "bell"] ["self", "bell"] (aj jw) := by walk_at "scp"
abbrev yj : Stmt := inClass (top 32) 6
theorem Lc : ax ["self", "bell"] ["self", "bell"] (aj yj) := by walk_at "scp"
abbrev AH : Stmt := inClass (top 32) 7
theorem Fi : ax ["self", "bell", "entries"] ["self", "bell"] (aj AH) := by walk_at "scp"
abbrev jv : Stmt := inClass (top 32) 8
theorem EE : ax ["self", "bell"] ["self", "bell"] (aj jv) := by walk_at "scp"
abbrev kM : Stmt := inClass (top 32) 9
theorem jt : ax ["self", "bells", "entries", "bell"] ["self", "bells"] (aj kM) := by walk_at "scp"
abbrev xO : Stmt := inClass (top 32) 10
theorem Ku : ax ["self", "bell"] ["self", "bell"] (aj xO) := by walk_at "scp"
abbrev o6 : Stmt := inClass (top 32) 11
theorem Hl : ax ["self", "bell", "at"] ["self", "bell", "at"] (aj o6) := by walk_at "scp"
abbrev oI : Stmt := inClass (top 32) 12
theorem Hn : ax ["self", "bell"] ["self", "bell"] (aj oI) := by walk_at "scp"
abbrev oM : Stmt := inClass (top 32) 14
theorem GI : ax ["self", "bell"] ["self", "bell"] (aj oM) := by walk_at "scp"
abbrev hJ : Stmt := inClass (top 32) 15
theorem Gg : ax ["self", "time"] ["self", "time"] (aj hJ) := by walk_at "scp"
abbrev vS : Stmt := top 34
theorem JP : ax ["bell"] ["bell"] (aj vS) := by walk_at "scp"
abbrev g9 : Stmt := inClass (top 35) 0
theorem A0 : ax ["self", "rounds", "now"] ["self", "rounds", "now"] (aj g9) := by walk_at "scp"
abbrev rL : Stmt := inClass (top 35) 1
theorem yU : ax ["self", "name", "rule", "weight", "group", "by_day", "bell"] ["self", "name", "rule", "weight", "group", "by_day"] (aj rL) := by walk_at "scp"
abbrev iJ : Stmt := inClass (top 35) 10
theorem HC : ax ["self", "by"] ["self", "by"] (aj iJ) := by walk_at "scp"
abbrev wu : Stmt := inClass (top 35) 12
theorem j2 : ax ["self", "to", "most", "deed", "entries", "wakings"] ["self", "to", "most", "deed"] (aj wu) := by walk_at "scp"
abbrev gI : Stmt := inClass (top 35) 13
theorem k6 : ax ["self", "to", "least"] ["self", "to"] (aj gI) := by walk_at "scp"
abbrev eS : Stmt := inClass (top 35) 14
theorem cV : ax ["self", "deed", "names", "entries", "may_ring", "bell"] ["self", "deed"] (aj eS) := by walk_at "scp"
abbrev oR : Stmt := inClass (top 35) 15
theorem wL : ax ["self", "bell", "deed", "entry"] ["self", "bell", "deed"] (aj oR) := by walk_at "scp"
abbrev kc : Stmt := inClass (top 35) 16
theorem F8 : ax ["self"] ["self"] (aj kc) := by walk_at "scp"
abbrev kn : Stmt := inClass (top 35) 17
theorem F4 : ax ["self", "name"] ["self", "name"] (aj kn) := by walk_at "scp"
abbrev rq : Stmt := top 37
theorem Il : ax ["number", "least", "what"] ["number", "least", "what"] (aj rq) := by walk_at "scp"
abbrev jF : Stmt := inClass (top 39) 0
theorem Em : ax ["self", "many"] ["self", "many"] (aj jF) := by walk_at "scp"
abbrev jq : Stmt := inClass (top 39) 6
theorem Ed : ax ["self", "number", "stretch"] ["self", "number", "stretch"] (aj jq) := by walk_at "scp"
abbrev gH : Stmt := inClass (top 40) 0
theorem Bi : ax ["self", "start", "gap", "wide", "many"] ["self", "start", "gap", "wide", "many"] (aj gH) := by walk_at "scp"
abbrev gu : Stmt := inClass (top 40) 1
theorem yG : ax ["self", "number"] ["self", "number"] (aj gu) := by walk_at "scp"
abbrev kK : Stmt := inClass (top 40) 2
theorem FZ : ax ["self"] ["self"] (aj kK) := by walk_at "scp"
abbrev jG : Stmt := inClass (top 40) 3
theorem qq : ax ["self", "number", "settled", "first"] ["self", "number", "settled"] (aj jG) := by walk_at "scp"
abbrev oG : Stmt := inClass (top 40) 7
theorem G3 : ax ["self"] ["self"] (aj oG) := by walk_at "scp"
abbrev gq : Stmt := inClass (top 41) 0
theorem yK : ax ["self", "start", "gap", "most", "wide", "many"] ["self", "start", "gap", "most", "wide", "many"] (aj gq) := by walk_at "scp"
abbrev fJ : Stmt := inClass (top 41) 1
theorem b8 : ax ["self", "number", "gap", "left"] ["self", "number"] (aj fJ) := by walk_at "scp"
abbrev lL : Stmt := inClass (top 41) 4
theorem F9 : ax ["self"] ["self"] (aj lL) := by walk_at "scp"
abbrev ll : Stmt := top 43
theorem Gb : ax ["_law_script", "_law_k"] ["_law_script", "_law_k"] (aj ll) := by walk_at "scp"
abbrev rF : Stmt := top 44
theorem IA : ax ["_law_found"] ["_law_found"] (aj rF) := by walk_at "scp"
abbrev xA : Stmt := top 45
theorem gG : ax ["_law_cell", "_law_k", "_law_number", "_law_word"] ["_law_cell", "_law_k"] (aj xA) := by walk_at "scp"
abbrev rB : Stmt := top 46
theorem oJ : ax ["_law_found", "_law_entry", "_law_part"] ["_law_found"] (aj rB) := by walk_at "scp"
abbrev yt : Stmt := top 47
theorem cG : ax ["_law_cell", "_law_k", "_law_gap_here", "_law_most", "_law_wide", "_law_many"] ["_law_cell", "_law_k"] (aj yt) := by walk_at "scp"
abbrev wK : Stmt := top 48
theorem Ce : ax ["_law_bell_here", "_law_shift", "_law_start"] ["_law_bell_here", "_law_shift"] (aj wK) := by walk_at "scp"
abbrev vT : Stmt := top 49
theorem j7 : ax ["_law_keeper", "_law_bell_here", "_law_shift", "_law_number", "_law_first", "_law_last"] ["_law_keeper", "_law_bell_here", "_law_shift"] (aj vT) := by walk_at "scp"
abbrev Bl : Stmt := top 50
theorem lY : ax ["_law_bell_here", "_law_number", "_law_gap_here", "_law_k"] ["_law_bell_here", "_law_number"] (aj Bl) := by walk_at "scp"
abbrev lj : Stmt := top 51
theorem ef : ax ["_law_bells", "_law_wait", "_law_time", "_law_found", "_law_name_here", "_law_number", "_law_first", "_law_last"] ["_law_bells", "_law_wait"] (aj lj) := by walk_at "scp"
abbrev UZ : Stmt := top 52
theorem iB : ax ["_law_script", "_law_keeper", "_law_shift", "_law_bells", "_law_wait", "_law_k", "_law_bell_here", "_law_time", "_law_due_here", "_law_found", "_law_name_here"] ["_law_script"] (aj UZ) := by walk_at "scp"
theorem C8 : ¬ (("name" : Str) = "rule") := by decide +kernel
theorem x4 : ¬ (("name" : Str) = "weight") := by decide +kernel
theorem DC : ¬ (("name" : Str) = "home") := by decide +kernel
theorem wj : ¬ (("name" : Str) = "by_day") := by decide +kernel
theorem w9 : ¬ (("name" : Str) = "number") := by decide +kernel
theorem ui : ¬ (("name" : Str) = "stretch") := by decide +kernel
theorem yN : ¬ (("name" : Str) = "since") := by decide +kernel
theorem za : ¬ (("name" : Str) = "until") := by decide +kernel
theorem DL : ¬ (("rule" : Str) = "name") := by decide +kernel
theorem x6 : ¬ (("rule" : Str) = "weight") := by decide +kernel
theorem Cb : ¬ (("rule" : Str) = "home") := by decide +kernel
theorem xi : ¬ (("rule" : Str) = "by_day") := by decide +kernel
theorem wQ : ¬ (("rule" : Str) = "number") := by decide +kernel
theorem tL : ¬ (("rule" : Str) = "stretch") := by decide +kernel
theorem zo : ¬ (("rule" : Str) = "since") := by decide +kernel
theorem yQ : ¬ (("rule" : Str) = "until") := by decide +kernel
theorem vz : ¬ (("weight" : Str) = "name") := by decide +kernel
theorem vt : ¬ (("weight" : Str) = "rule") := by decide +kernel
theorem xY : ¬ (("weight" : Str) = "home") := by decide +kernel
theorem ph : ¬ (("weight" : Str) = "by_day") := by decide +kernel
theorem pG : ¬ (("weight" : Str) = "number") := by decide +kernel
theorem nD : ¬ (("weight" : Str) = "stretch") := by decide +kernel
theorem um : ¬ (("weight" : Str) = "since") := by decide +kernel
theorem uF : ¬ (("weight" : Str) = "until") := by decide +kernel
theorem DE : ¬ (("home" : Str) = "name") := by decide +kernel
theorem DM : ¬ (("home" : Str) = "rule") := by decide +kernel
theorem vQ : ¬ (("home" : Str) = "weight") := by decide +kernel
theorem yb : ¬ (("home" : Str) = "by_day") := by decide +kernel
theorem ya : ¬ (("home" : Str) = "number") := by decide +kernel
theorem tQ : ¬ (("home" : Str) = "stretch") := by decide +kernel
theorem Ab : ¬ (("home" : Str) = "since") := by decide +kernel
theorem zG : ¬ (("home" : Str) = "until") := by decide +kernel
theorem vC : ¬ (("by_day" : Str) = "name") := by decide +kernel
theorem ve : ¬ (("by_day" : Str) = "rule") := by decide +kernel
theorem qp : ¬ (("by_day" : Str) = "weight") := by decide +kernel
theorem xF : ¬ (("by_day" : Str) = "home") := by decide +kernel
theorem qB : ¬ (("by_day" : Str) = "number") := by decide +kernel
theorem nF : ¬ (("by_day" : Str) = "stretch") := by decide +kernel
theorem uo : ¬ (("by_day" : Str) = "since") := by decide +kernel
theorem uz : ¬ (("by_day" : Str) = "until") := by decide +kernel
theorem ye : ¬ (("number" : Str) = "name") := by decide +kernel
theorem xn : ¬ (("number" : Str) = "rule") := by decide +kernel
theorem pd : ¬ (("number" : Str) = "weight") := by decide +kernel
theorem yd : ¬ (("number" : Str) = "home") := by decide +kernel
theorem pC : ¬ (("number" : Str) = "by_day") := by decide +kernel
theorem oB : ¬ (("number" : Str) = "stretch") := by decide +kernel
theorem t8 : ¬ (("number" : Str) = "since") := by decide +kernel
theorem ug : ¬ (("number" : Str) = "until") := by decide +kernel
theorem t6 : ¬ (("stretch" : Str) = "name") := by decide +kernel
theorem uw : ¬ (("stretch" : Str) = "rule") := by decide +kernel
theorem nU : ¬ (("stretch" : Str) = "weight") := by decide +kernel
theorem tR : ¬ (("stretch" : Str) = "home") := by decide +kernel
theorem mF : ¬ (("stretch" : Str) = "by_day") := by decide +kernel
theorem ng : ¬ (("stretch" : Str) = "number") := by decide +kernel
theorem qf : ¬ (("stretch" : Str) = "since") := by decide +kernel
theorem pz : ¬ (("stretch" : Str) = "until") := by decide +kernel
theorem zq : ¬ (("since" : Str) = "name") := by decide +kernel
theorem y4 : ¬ (("since" : Str) = "rule") := by decide +kernel
theorem uy : ¬ (("since" : Str) = "weight") := by decide +kernel
theorem y6 : ¬ (("since" : Str) = "home") := by decide +kernel
theorem sH : ¬ (("since" : Str) = "by_day") := by decide +kernel
theorem uE : ¬ (("since" : Str) = "number") := by decide +kernel
theorem qo : ¬ (("since" : Str) = "stretch") := by decide +kernel
theorem uT : ¬ (("since" : Str) = "until") := by decide +kernel
theorem zg : ¬ (("until" : Str) = "name") := by decide +kernel
theorem zB : ¬ (("until" : Str) = "rule") := by decide +kernel
theorem sO : ¬ (("until" : Str) = "weight") := by decide +kernel
theorem zR : ¬ (("until" : Str) = "home") := by decide +kernel
theorem tF : ¬ (("until" : Str) = "by_day") := by decide +kernel
theorem sF : ¬ (("until" : Str) = "number") := by decide +kernel
theorem pU : ¬ (("until" : Str) = "stretch") := by decide +kernel
theorem u3 : ¬ (("until" : Str) = "since") := by decide +kernel
theorem pP : ¬ (("__init__" : Str) = "name") := by decide +kernel
theorem pk : ¬ (("__init__" : Str) = "rule") := by decide +kernel
theorem lD : ¬ (("__init__" : Str) = "weight") := by decide +kernel
theorem qL : ¬ (("__init__" : Str) = "home") := by decide +kernel
theorem lr : ¬ (("__init__" : Str) = "by_day") := by decide +kernel
theorem lI : ¬ (("__init__" : Str) = "number") := by decide +kernel
theorem jH : ¬ (("__init__" : Str) = "stretch") := by decide +kernel
theorem mX : ¬ (("__init__" : Str) = "since") := by decide +kernel
theorem m9 : ¬ (("__init__" : Str) = "until") := by decide +kernel
theorem BE : ¬ (("lead" : Str) = "name") := by decide +kernel
theorem Cm : ¬ (("lead" : Str) = "rule") := by decide +kernel
theorem u5 : ¬ (("lead" : Str) = "weight") := by decide +kernel
theorem Bx : ¬ (("lead" : Str) = "home") := by decide +kernel
theorem vn : ¬ (("lead" : Str) = "by_day") := by decide +kernel
theorem xX : ¬ (("lead" : Str) = "number") := by decide +kernel
theorem sY : ¬ (("lead" : Str) = "stretch") := by decide +kernel
theorem yP : ¬ (("lead" : Str) = "since") := by decide +kernel
theorem Ag : ¬ (("lead" : Str) = "until") := by decide +kernel
theorem ub : ¬ (("is_over" : Str) = "name") := by decide +kernel
theorem uJ : ¬ (("is_over" : Str) = "rule") := by decide +kernel
theorem nW : ¬ (("is_over" : Str) = "weight") := by decide +kernel
theorem tX : ¬ (("is_over" : Str) = "home") := by decide +kernel
theorem md : ¬ (("is_over" : Str) = "by_day") := by decide +kernel
theorem mE : ¬ (("is_over" : Str) = "number") := by decide +kernel
theorem lE : ¬ (("is_over" : Str) = "stretch") := by decide +kernel
theorem qP : ¬ (("is_over" : Str) = "since") := by decide +kernel
theorem p5 : ¬ (("is_over" : Str) = "until") := by decide +kernel
theorem lO : ¬ (("is_waiting" : Str) = "name") := by decide +kernel
theorem lh : ¬ (("is_waiting" : Str) = "rule") := by decide +kernel
theorem iR : ¬ (("is_waiting" : Str) = "weight") := by decide +kernel
theorem lg : ¬ (("is_waiting" : Str) = "home") := by decide +kernel
theorem i7 : ¬ (("is_waiting" : Str) = "by_day") := by decide +kernel
theorem iV : ¬ (("is_waiting" : Str) = "number") := by decide +kernel
theorem il : ¬ (("is_waiting" : Str) = "stretch") := by decide +kernel
theorem jO : ¬ (("is_waiting" : Str) = "since") := by decide +kernel
theorem jR : ¬ (("is_waiting" : Str) = "until") := by decide +kernel
theorem vm : ¬ (("settle" : Str) = "name") := by decide +kernel
theorem wJ : ¬ (("settle" : Str) = "rule") := by decide +kernel
theorem pT : ¬ (("settle" : Str) = "weight") := by decide +kernel
theorem vq : ¬ (("settle" : Str) = "home") := by decide +kernel
theorem qI : ¬ (("settle" : Str) = "by_day") := by decide +kernel
theorem qV : ¬ (("settle" : Str) = "number") := by decide +kernel
theorem my : ¬ (("settle" : Str) = "stretch") := by decide +kernel
theorem sD : ¬ (("settle" : Str) = "since") := by decide +kernel
theorem uD : ¬ (("settle" : Str) = "until") := by decide +kernel
theorem pJ : ¬ (("catch_up" : Str) = "name") := by decide +kernel
theorem pB : ¬ (("catch_up" : Str) = "rule") := by decide +kernel
theorem kT : ¬ (("catch_up" : Str) = "weight") := by decide +kernel
theorem qU : ¬ (("catch_up" : Str) = "home") := by decide +kernel
theorem kC : ¬ (("catch_up" : Str) = "by_day") := by decide +kernel
theorem kg : ¬ (("catch_up" : Str) = "number") := by decide +kernel
theorem jW : ¬ (("catch_up" : Str) = "stretch") := by decide +kernel
theorem nA : ¬ (("catch_up" : Str) = "since") := by decide +kernel
theorem mR : ¬ (("catch_up" : Str) = "until") := by decide +kernel
theorem BW : ¬ (("wait" : Str) = "name") := by decide +kernel
theorem DJ : ¬ (("wait" : Str) = "rule") := by decide +kernel
theorem vE : ¬ (("wait" : Str) = "weight") := by decide +kernel
theorem Dx : ¬ (("wait" : Str) = "home") := by decide +kernel
theorem vk : ¬ (("wait" : Str) = "by_day") := by decide +kernel
theorem vU : ¬ (("wait" : Str) = "number") := by decide +kernel
theorem tJ : ¬ (("wait" : Str) = "stretch") := by decide +kernel
theorem Ak : ¬ (("wait" : Str) = "since") := by decide +kernel
theorem zA : ¬ (("wait" : Str) = "until") := by decide +kernel
theorem CD : ¬ (("rest" : Str) = "name") := by decide +kernel
theorem CB : ¬ (("rest" : Str) = "rule") := by decide +kernel
theorem xq : ¬ (("rest" : Str) = "weight") := by decide +kernel
theorem Dq : ¬ (("rest" : Str) = "home") := by decide +kernel
theorem uZ : ¬ (("rest" : Str) = "by_day") := by decide +kernel
theorem wN : ¬ (("rest" : Str) = "number") := by decide +kernel
theorem tK : ¬ (("rest" : Str) = "stretch") := by decide +kernel
theorem Aj : ¬ (("rest" : Str) = "since") := by decide +kernel
theorem Aq : ¬ (("rest" : Str) = "until") := by decide +kernel
theorem C4 : ¬ (("move" : Str) = "name") := by decide +kernel
theorem CT : ¬ (("move" : Str) = "rule") := by decide +kernel
theorem uX : ¬ (("move" : Str) = "weight") := by decide +kernel
theorem DQ : ¬ (("move" : Str) = "home") := by decide +kernel
theorem wg : ¬ (("move" : Str) = "by_day") := by decide +kernel
theorem vM : ¬ (("move" : Str) = "number") := by decide +kernel
theorem sZ : ¬ (("move" : Str) = "stretch") := by decide +kernel
theorem zF : ¬ (("move" : Str) = "since") := by decide +kernel
theorem An : ¬ (("move" : Str) = "until") := by decide +kernel
theorem Ae : ¬ (("about" : Str) = "name") := by decide +kernel
theorem Af : ¬ (("about" : Str) = "rule") := by decide +kernel
theorem tu : ¬ (("about" : Str) = "weight") := by decide +kernel
theorem zS : ¬ (("about" : Str) = "home") := by decide +kernel
theorem t9 : ¬ (("about" : Str) = "by_day") := by decide +kernel
theorem sj : ¬ (("about" : Str) = "number") := by decide +kernel
theorem qG : ¬ (("about" : Str) = "stretch") := by decide +kernel
theorem vf : ¬ (("about" : Str) = "since") := by decide +kernel
theorem xS : ¬ (("about" : Str) = "until") := by decide +kernel
theorem nQ : ¬ (("above_of" : Str) = "marks") := by decide +kernel
theorem nG : ¬ (("marks" : Str) = "above_of") := by decide +kernel
theorem ja : ¬ (("__init__" : Str) = "above_of") := by decide +kernel
theorem nN : ¬ (("__init__" : Str) = "marks") := by decide +kernel
theorem uO : ¬ (("add" : Str) = "above_of") := by decide +kernel
theorem BZ : ¬ (("add" : Str) = "marks") := by decide +kernel
theorem tq : ¬ (("has" : Str) = "above_of") := by decide +kernel
theorem Ci : ¬ (("has" : Str) = "marks") := by decide +kernel
theorem nK : ¬ (("sleep" : Str) = "above_of") := by decide +kernel
theorem uW : ¬ (("sleep" : Str) = "marks") := by decide +kernel
theorem pj : ¬ (("wake" : Str) = "above_of") := by decide +kernel
theorem zj : ¬ (("wake" : Str) = "marks") := by decide +kernel
theorem tV : ¬ (("end" : Str) = "above_of") := by decide +kernel
theorem Cp : ¬ (("end" : Str) = "marks") := by decide +kernel
theorem nk : ¬ (("awake" : Str) = "above_of") := by decide +kernel
theorem u9 : ¬ (("awake" : Str) = "marks") := by decide +kernel
theorem lz : ¬ (("marked" : Str) = "above_of") := by decide +kernel
theorem ur : ¬ (("marked" : Str) = "marks") := by decide +kernel
theorem nz : ¬ (("chain" : Str) = "above_of") := by decide +kernel
theorem vy : ¬ (("chain" : Str) = "marks") := by decide +kernel
theorem kN : ¬ (("within" : Str) = "above_of") := by decide +kernel
theorem uK : ¬ (("within" : Str) = "marks") := by decide +kernel
theorem kZ : ¬ (("all_of" : Str) = "above_of") := by decide +kernel
theorem si : ¬ (("all_of" : Str) = "marks") := by decide +kernel
theorem fU : ¬ (("check_stands" : Str) = "above_of") := by decide +kernel
theorem ip : ¬ (("check_stands" : Str) = "marks") := by decide +kernel
theorem iY : ¬ (("depth_of" : Str) = "above_of") := by decide +kernel
theorem mM : ¬ (("depth_of" : Str) = "marks") := by decide +kernel
theorem fT : ¬ (("awake_within" : Str) = "above_of") := by decide +kernel
theorem iu : ¬ (("awake_within" : Str) = "marks") := by decide +kernel
theorem kJ : ¬ (("unmark" : Str) = "above_of") := by decide +kernel
theorem uB : ¬ (("unmark" : Str) = "marks") := by decide +kernel
theorem Bt : ¬ (("now" : Str) = "times") := by decide +kernel
theorem DS : ¬ (("times" : Str) = "now") := by decide +kernel
theorem B5 : ¬ (("enter" : Str) = "now") := by decide +kernel
theorem uV : ¬ (("enter" : Str) = "times") := by decide +kernel
theorem CU : ¬ (("leave" : Str) = "now") := by decide +kernel
theorem wx : ¬ (("leave" : Str) = "times") := by decide +kernel
theorem vu : ¬ (("pass_on" : Str) = "now") := by decide +kernel
theorem pq : ¬ (("pass_on" : Str) = "times") := by decide +kernel
theorem uC : ¬ (("__init__" : Str) = "now") := by decide +kernel
theorem mJ : ¬ (("__init__" : Str) = "times") := by decide +kernel
theorem Ie : ¬ (("put" : Str) = "now") := by decide +kernel
theorem BU : ¬ (("put" : Str) = "times") := by decide +kernel
theorem E7 : ¬ (("take" : Str) = "now") := by decide +kernel
theorem zC : ¬ (("take" : Str) = "times") := by decide +kernel
theorem GX : ¬ (("due" : Str) = "now") := by decide +kernel
theorem CF : ¬ (("due" : Str) = "times") := by decide +kernel
theorem Bv : ¬ (("least" : Str) = "now") := by decide +kernel
theorem u6 : ¬ (("least" : Str) = "times") := by decide +kernel
theorem xE : ¬ (("time_of" : Str) = "now") := by decide +kernel
theorem qX : ¬ (("time_of" : Str) = "times") := by decide +kernel
theorem yV : ¬ (("all_of" : Str) = "now") := by decide +kernel
theorem tP : ¬ (("all_of" : Str) = "times") := by decide +kernel
theorem la : ¬ (("check_waits" : Str) = "now") := by decide +kernel
theorem iT : ¬ (("check_waits" : Str) = "times") := by decide +kernel
theorem su : ¬ (("waits" : Str) = "rounds") := by decide +kernel
theorem BO : ¬ (("waits" : Str) = "now") := by decide +kernel
theorem v5 : ¬ (("waits" : Str) = "shift") := by decide +kernel
theorem t7 : ¬ (("waits" : Str) = "groups") := by decide +kernel
theorem qC : ¬ (("waits" : Str) = "by_name") := by decide +kernel
theorem uf : ¬ (("rounds" : Str) = "waits") := by decide +kernel
theorem zJ : ¬ (("rounds" : Str) = "now") := by decide +kernel
theorem tO : ¬ (("rounds" : Str) = "shift") := by decide +kernel
theorem pL : ¬ (("rounds" : Str) = "groups") := by decide +kernel
theorem ni : ¬ (("rounds" : Str) = "by_name") := by decide +kernel
theorem Dd : ¬ (("now" : Str) = "waits") := by decide +kernel
theorem zK : ¬ (("now" : Str) = "rounds") := by decide +kernel
theorem DR : ¬ (("now" : Str) = "shift") := by decide +kernel
theorem Ac : ¬ (("now" : Str) = "groups") := by decide +kernel
theorem xc : ¬ (("now" : Str) = "by_name") := by decide +kernel
theorem wW : ¬ (("shift" : Str) = "waits") := by decide +kernel
theorem sU : ¬ (("shift" : Str) = "rounds") := by decide +kernel
theorem Cy : ¬ (("shift" : Str) = "now") := by decide +kernel
theorem tN : ¬ (("shift" : Str) = "groups") := by decide +kernel
theorem qT : ¬ (("shift" : Str) = "by_name") := by decide +kernel
theorem ti : ¬ (("groups" : Str) = "waits") := by decide +kernel
theorem qO : ¬ (("groups" : Str) = "rounds") := by decide +kernel
theorem zD : ¬ (("groups" : Str) = "now") := by decide +kernel
theorem se : ¬ (("groups" : Str) = "shift") := by decide +kernel
theorem og : ¬ (("groups" : Str) = "by_name") := by decide +kernel
theorem p4 : ¬ (("by_name" : Str) = "waits") := by decide +kernel
theorem mh : ¬ (("by_name" : Str) = "rounds") := by decide +kernel
theorem yc : ¬ (("by_name" : Str) = "now") := by decide +kernel
theorem ri : ¬ (("by_name" : Str) = "shift") := by decide +kernel
theorem oq : ¬ (("by_name" : Str) = "groups") := by decide +kernel
theorem mK : ¬ (("__init__" : Str) = "waits") := by decide +kernel
theorem kj : ¬ (("__init__" : Str) = "rounds") := by decide +kernel
theorem mS : ¬ (("__init__" : Str) = "shift") := by decide +kernel
theorem kG : ¬ (("__init__" : Str) = "groups") := by decide +kernel
theorem jP : ¬ (("__init__" : Str) = "by_name") := by decide +kernel
theorem BH : ¬ (("add" : Str) = "waits") := by decide +kernel
theorem zy : ¬ (("add" : Str) = "rounds") := by decide +kernel
theorem Hk : ¬ (("add" : Str) = "now") := by decide +kernel
theorem By : ¬ (("add" : Str) = "shift") := by decide +kernel
theorem As : ¬ (("add" : Str) = "groups") := by decide +kernel
theorem vN : ¬ (("add" : Str) = "by_name") := by decide +kernel
theorem zc : ¬ (("move" : Str) = "waits") := by decide +kernel
theorem xm : ¬ (("move" : Str) = "rounds") := by decide +kernel
theorem FC : ¬ (("move" : Str) = "now") := by decide +kernel
theorem zL : ¬ (("move" : Str) = "shift") := by decide +kernel
theorem vD : ¬ (("move" : Str) = "groups") := by decide +kernel
theorem sX : ¬ (("move" : Str) = "by_name") := by decide +kernel
theorem qA : ¬ (("put_off" : Str) = "waits") := by decide +kernel
theorem mw : ¬ (("put_off" : Str) = "rounds") := by decide +kernel
theorem wH : ¬ (("put_off" : Str) = "now") := by decide +kernel
theorem p9 : ¬ (("put_off" : Str) = "shift") := by decide +kernel
theorem mq : ¬ (("put_off" : Str) = "groups") := by decide +kernel
theorem lu : ¬ (("put_off" : Str) = "by_name") := by decide +kernel
theorem sJ : ¬ (("let_by" : Str) = "waits") := by decide +kernel
theorem qz : ¬ (("let_by" : Str) = "rounds") := by decide +kernel
theorem zX : ¬ (("let_by" : Str) = "now") := by decide +kernel
theorem sM : ¬ (("let_by" : Str) = "shift") := by decide +kernel
theorem qk : ¬ (("let_by" : Str) = "groups") := by decide +kernel
theorem mm : ¬ (("let_by" : Str) = "by_name") := by decide +kernel
theorem yO : ¬ (("take" : Str) = "waits") := by decide +kernel
theorem xt : ¬ (("take" : Str) = "rounds") := by decide +kernel
theorem zZ : ¬ (("take" : Str) = "shift") := by decide +kernel
theorem vP : ¬ (("take" : Str) = "groups") := by decide +kernel
theorem t4 : ¬ (("take" : Str) = "by_name") := by decide +kernel
theorem wX : ¬ (("group" : Str) = "waits") := by decide +kernel
theorem tH : ¬ (("group" : Str) = "rounds") := by decide +kernel
theorem C7 : ¬ (("group" : Str) = "now") := by decide +kernel
theorem wI : ¬ (("group" : Str) = "shift") := by decide +kernel
theorem uN : ¬ (("group" : Str) = "groups") := by decide +kernel
theorem qN : ¬ (("group" : Str) = "by_name") := by decide +kernel
theorem xH : ¬ (("sleep" : Str) = "waits") := by decide +kernel
theorem ux : ¬ (("sleep" : Str) = "rounds") := by decide +kernel
theorem BM : ¬ (("sleep" : Str) = "now") := by decide +kernel
theorem vK : ¬ (("sleep" : Str) = "shift") := by decide +kernel
theorem tD : ¬ (("sleep" : Str) = "groups") := by decide +kernel
theorem qQ : ¬ (("sleep" : Str) = "by_name") := by decide +kernel
theorem zi : ¬ (("wake" : Str) = "waits") := by decide +kernel
theorem xM : ¬ (("wake" : Str) = "rounds") := by decide +kernel
theorem E2 : ¬ (("wake" : Str) = "now") := by decide +kernel
theorem zT : ¬ (("wake" : Str) = "shift") := by decide +kernel
theorem wG : ¬ (("wake" : Str) = "groups") := by decide +kernel
theorem sg : ¬ (("wake" : Str) = "by_name") := by decide +kernel
theorem C9 : ¬ (("end" : Str) = "waits") := by decide +kernel
theorem Ah : ¬ (("end" : Str) = "rounds") := by decide +kernel
theorem GC : ¬ (("end" : Str) = "now") := by decide +kernel
theorem Dm : ¬ (("end" : Str) = "shift") := by decide +kernel
theorem zl : ¬ (("end" : Str) = "groups") := by decide +kernel
theorem w6 : ¬ (("end" : Str) = "by_name") := by decide +kernel
theorem z0 : ¬ (("turn" : Str) = "waits") := by decide +kernel
theorem xB : ¬ (("turn" : Str) = "rounds") := by decide +kernel
theorem FR : ¬ (("turn" : Str) = "now") := by decide +kernel
theorem y7 : ¬ (("turn" : Str) = "shift") := by decide +kernel
theorem xW : ¬ (("turn" : Str) = "groups") := by decide +kernel
theorem tG : ¬ (("turn" : Str) = "by_name") := by decide +kernel
theorem yY : ¬ (("idle" : Str) = "waits") := by decide +kernel
theorem wo : ¬ (("idle" : Str) = "rounds") := by decide +kernel
theorem Fx : ¬ (("idle" : Str) = "now") := by decide +kernel
theorem Ay : ¬ (("idle" : Str) = "shift") := by decide +kernel
theorem x3 : ¬ (("idle" : Str) = "groups") := by decide +kernel
theorem sN : ¬ (("idle" : Str) = "by_name") := by decide +kernel
theorem Ff : ¬ (("go" : Str) = "waits") := by decide +kernel
theorem CO : ¬ (("go" : Str) = "rounds") := by decide +kernel
theorem Jl : ¬ (("go" : Str) = "now") := by decide +kernel
theorem FI : ¬ (("go" : Str) = "shift") := by decide +kernel
theorem Bq : ¬ (("go" : Str) = "groups") := by decide +kernel
theorem Ai : ¬ (("go" : Str) = "by_name") := by decide +kernel
theorem mV : ¬ (("wakes_by" : Str) = "waits") := by decide +kernel
theorem ki : ¬ (("wakes_by" : Str) = "rounds") := by decide +kernel
theorem sy : ¬ (("wakes_by" : Str) = "now") := by decide +kernel
theorem lZ : ¬ (("wakes_by" : Str) = "shift") := by decide +kernel
theorem lN : ¬ (("wakes_by" : Str) = "groups") := by decide +kernel
theorem jK : ¬ (("wakes_by" : Str) = "by_name") := by decide +kernel
theorem mj : ¬ (("ring_all" : Str) = "waits") := by decide +kernel
theorem kh : ¬ (("ring_all" : Str) = "rounds") := by decide +kernel
theorem t5 : ¬ (("ring_all" : Str) = "now") := by decide +kernel
theorem nI : ¬ (("ring_all" : Str) = "shift") := by decide +kernel
theorem kD : ¬ (("ring_all" : Str) = "groups") := by decide +kernel
theorem jS : ¬ (("ring_all" : Str) = "by_name") := by decide +kernel
theorem zI : ¬ (("ring" : Str) = "waits") := by decide +kernel
theorem vR : ¬ (("ring" : Str) = "rounds") := by decide +kernel
theorem Fe : ¬ (("ring" : Str) = "now") := by decide +kernel
theorem y8 : ¬ (("ring" : Str) = "shift") := by decide +kernel
theorem xQ : ¬ (("ring" : Str) = "groups") := by decide +kernel
theorem uH : ¬ (("ring" : Str) = "by_name") := by decide +kernel
theorem vZ : ¬ (("bells" : Str) = "waits") := by decide +kernel
theorem tU : ¬ (("bells" : Str) = "rounds") := by decide +kernel
theorem CH : ¬ (("bells" : Str) = "now") := by decide +kernel
theorem xl : ¬ (("bells" : Str) = "shift") := by decide +kernel
theorem tm : ¬ (("bells" : Str) = "groups") := by decide +kernel
theorem qE : ¬ (("bells" : Str) = "by_name") := by decide +kernel
theorem uY : ¬ (("about" : Str) = "waits") := by decide +kernel
theorem sQ : ¬ (("about" : Str) = "rounds") := by decide +kernel
theorem CI : ¬ (("about" : Str) = "now") := by decide +kernel
theorem xP : ¬ (("about" : Str) = "shift") := by decide +kernel
theorem uv : ¬ (("about" : Str) = "groups") := by decide +kernel
theorem pY : ¬ (("about" : Str) = "by_name") := by decide +kernel
theorem yq : ¬ (("known" : Str) = "waits") := by decide +kernel
theorem tM : ¬ (("known" : Str) = "rounds") := by decide +kernel
theorem CY : ¬ (("known" : Str) = "now") := by decide +kernel
theorem xk : ¬ (("known" : Str) = "shift") := by decide +kernel
theorem rY : ¬ (("known" : Str) = "groups") := by decide +kernel
theorem ql : ¬ (("known" : Str) = "by_name") := by decide +kernel
theorem yr : ¬ (("ahead" : Str) = "waits") := by decide +kernel
theorem tZ : ¬ (("ahead" : Str) = "rounds") := by decide +kernel
theorem DK : ¬ (("ahead" : Str) = "now") := by decide +kernel
theorem we : ¬ (("ahead" : Str) = "shift") := by decide +kernel
theorem uL : ¬ (("ahead" : Str) = "groups") := by decide +kernel
theorem pQ : ¬ (("ahead" : Str) = "by_name") := by decide +kernel
theorem pS : ¬ (("bell_of" : Str) = "waits") := by decide +kernel
theorem nY : ¬ (("bell_of" : Str) = "rounds") := by decide +kernel
theorem vx : ¬ (("bell_of" : Str) = "now") := by decide +kernel
theorem qd : ¬ (("bell_of" : Str) = "shift") := by decide +kernel
theorem lX : ¬ (("bell_of" : Str) = "groups") := by decide +kernel
theorem kP : ¬ (("bell_of" : Str) = "by_name") := by decide +kernel
theorem km : ¬ (("all_bells" : Str) = "waits") := by decide +kernel
theorem jM : ¬ (("all_bells" : Str) = "rounds") := by decide +kernel
theorem qm : ¬ (("all_bells" : Str) = "now") := by decide +kernel
theorem kQ : ¬ (("all_bells" : Str) = "shift") := by decide +kernel
theorem jJ : ¬ (("all_bells" : Str) = "groups") := by decide +kernel
theorem iZ : ¬ (("all_bells" : Str) = "by_name") := by decide +kernel
theorem nc : ¬ (("bells_in" : Str) = "waits") := by decide +kernel
theorem kE : ¬ (("bells_in" : Str) = "rounds") := by decide +kernel
theorem uj : ¬ (("bells_in" : Str) = "now") := by decide +kernel
theorem mL : ¬ (("bells_in" : Str) = "shift") := by decide +kernel
theorem kz : ¬ (("bells_in" : Str) = "groups") := by decide +kernel
theorem jI : ¬ (("bells_in" : Str) = "by_name") := by decide +kernel
theorem mn : ¬ (("is_awake" : Str) = "waits") := by decide +kernel
theorem kA : ¬ (("is_awake" : Str) = "rounds") := by decide +kernel
theorem sV : ¬ (("is_awake" : Str) = "now") := by decide +kernel
theorem lU : ¬ (("is_awake" : Str) = "shift") := by decide +kernel
theorem kW : ¬ (("is_awake" : Str) = "groups") := by decide +kernel
theorem jN : ¬ (("is_awake" : Str) = "by_name") := by decide +kernel
theorem lS : ¬ (("shown_to" : Str) = "waits") := by decide +kernel
theorem k8 : ¬ (("shown_to" : Str) = "rounds") := by decide +kernel
theorem sE : ¬ (("shown_to" : Str) = "now") := by decide +kernel
theorem oC : ¬ (("shown_to" : Str) = "shift") := by decide +kernel
theorem lA : ¬ (("shown_to" : Str) = "groups") := by decide +kernel
theorem jL : ¬ (("shown_to" : Str) = "by_name") := by decide +kernel
theorem yW : ¬ (("hang" : Str) = "waits") := by decide +kernel
theorem yk : ¬ (("hang" : Str) = "rounds") := by decide +kernel
theorem FD : ¬ (("hang" : Str) = "now") := by decide +kernel
theorem yX : ¬ (("hang" : Str) = "shift") := by decide +kernel
theorem vl : ¬ (("hang" : Str) = "groups") := by decide +kernel
theorem tE : ¬ (("hang" : Str) = "by_name") := by decide +kernel
theorem CW : ¬ (("lay" : Str) = "waits") := by decide +kernel
theorem zx : ¬ (("lay" : Str) = "rounds") := by decide +kernel
theorem Hs : ¬ (("lay" : Str) = "now") := by decide +kernel
theorem Dt : ¬ (("lay" : Str) = "shift") := by decide +kernel
theorem zt : ¬ (("lay" : Str) = "groups") := by decide +kernel
theorem wa : ¬ (("lay" : Str) = "by_name") := by decide +kernel
theorem nZ : ¬ (("let_wait" : Str) = "waits") := by decide +kernel
theorem kL : ¬ (("let_wait" : Str) = "rounds") := by decide +kernel
theorem sW : ¬ (("let_wait" : Str) = "now") := by decide +kernel
theorem nh : ¬ (("let_wait" : Str) = "shift") := by decide +kernel
theorem lG : ¬ (("let_wait" : Str) = "groups") := by decide +kernel
theorem jU : ¬ (("let_wait" : Str) = "by_name") := by decide +kernel
theorem pX : ¬ (("lay_all" : Str) = "waits") := by decide +kernel
theorem me : ¬ (("lay_all" : Str) = "rounds") := by decide +kernel
theorem xV : ¬ (("lay_all" : Str) = "now") := by decide +kernel
theorem p7 : ¬ (("lay_all" : Str) = "shift") := by decide +kernel
theorem nC : ¬ (("lay_all" : Str) = "groups") := by decide +kernel
theorem kq : ¬ (("lay_all" : Str) = "by_name") := by decide +kernel
theorem Aw : ¬ (("lift" : Str) = "waits") := by decide +kernel
theorem yl : ¬ (("lift" : Str) = "rounds") := by decide +kernel
theorem Fm : ¬ (("lift" : Str) = "now") := by decide +kernel
theorem zE : ¬ (("lift" : Str) = "shift") := by decide +kernel
theorem vH : ¬ (("lift" : Str) = "groups") := by decide +kernel
theorem ua : ¬ (("lift" : Str) = "by_name") := by decide +kernel
theorem tj : ¬ (("settle" : Str) = "waits") := by decide +kernel
theorem qK : ¬ (("settle" : Str) = "rounds") := by decide +kernel
theorem Ax : ¬ (("settle" : Str) = "now") := by decide +kernel
theorem uG : ¬ (("settle" : Str) = "shift") := by decide +kernel
theorem qD : ¬ (("settle" : Str) = "groups") := by decide +kernel
theorem nT : ¬ (("settle" : Str) = "by_name") := by decide +kernel
theorem ud : ¬ (("finish" : Str) = "waits") := by decide +kernel
theorem qi : ¬ (("finish" : Str) = "rounds") := by decide +kernel
theorem zO : ¬ (("finish" : Str) = "now") := by decide +kernel
theorem tI : ¬ (("finish" : Str) = "shift") := by decide +kernel
theorem qa : ¬ (("finish" : Str) = "groups") := by decide +kernel
theorem nO : ¬ (("finish" : Str) = "by_name") := by decide +kernel
theorem Aa : ¬ (("drop" : Str) = "waits") := by decide +kernel
theorem ym : ¬ (("drop" : Str) = "rounds") := by decide +kernel
theorem FN : ¬ (("drop" : Str) = "now") := by decide +kernel
theorem Av : ¬ (("drop" : Str) = "shift") := by decide +kernel
theorem wM : ¬ (("drop" : Str) = "groups") := by decide +kernel
theorem sk : ¬ (("drop" : Str) = "by_name") := by decide +kernel
theorem sI : ¬ (("remove" : Str) = "waits") := by decide +kernel
theorem pK : ¬ (("remove" : Str) = "rounds") := by decide +kernel
theorem zr : ¬ (("remove" : Str) = "now") := by decide +kernel
theorem uk : ¬ (("remove" : Str) = "shift") := by decide +kernel
theorem qw : ¬ (("remove" : Str) = "groups") := by decide +kernel
theorem oA : ¬ (("remove" : Str) = "by_name") := by decide +kernel
theorem qe : ¬ (("pass_to" : Str) = "waits") := by decide +kernel
theorem mY : ¬ (("pass_to" : Str) = "rounds") := by decide +kernel
theorem xN : ¬ (("pass_to" : Str) = "now") := by decide +kernel
theorem pW : ¬ (("pass_to" : Str) = "shift") := by decide +kernel
theorem mx : ¬ (("pass_to" : Str) = "groups") := by decide +kernel
theorem kF : ¬ (("pass_to" : Str) = "by_name") := by decide +kernel
theorem z7 : ¬ (("many" : Str) = "start") := by decide +kernel
theorem FO : ¬ (("many" : Str) = "gap") := by decide +kernel
theorem BR : ¬ (("many" : Str) = "wide") := by decide +kernel
theorem zm : ¬ (("start" : Str) = "many") := by decide +kernel
theorem Cv : ¬ (("start" : Str) = "gap") := by decide +kernel
theorem zh : ¬ (("start" : Str) = "wide") := by decide +kernel
theorem E6 : ¬ (("gap" : Str) = "many") := by decide +kernel
theorem Dk : ¬ (("gap" : Str) = "start") := by decide +kernel
theorem FT : ¬ (("gap" : Str) = "wide") := by decide +kernel
theorem CZ : ¬ (("wide" : Str) = "many") := by decide +kernel
theorem zf : ¬ (("wide" : Str) = "start") := by decide +kernel
theorem Ft : ¬ (("wide" : Str) = "gap") := by decide +kernel
theorem qg : ¬ (("__init__" : Str) = "many") := by decide +kernel
theorem mQ : ¬ (("__init__" : Str) = "start") := by decide +kernel
theorem uh : ¬ (("__init__" : Str) = "gap") := by decide +kernel
theorem p8 : ¬ (("__init__" : Str) = "wide") := by decide +kernel
theorem oo : ¬ (("gap_ahead" : Str) = "many") := by decide +kernel
theorem kY : ¬ (("gap_ahead" : Str) = "start") := by decide +kernel
theorem pF : ¬ (("gap_ahead" : Str) = "gap") := by decide +kernel
theorem nL : ¬ (("gap_ahead" : Str) = "wide") := by decide +kernel
theorem Az : ¬ (("begin" : Str) = "many") := by decide +kernel
theorem xJ : ¬ (("begin" : Str) = "start") := by decide +kernel
theorem Bz : ¬ (("begin" : Str) = "gap") := by decide +kernel
theorem zW : ¬ (("begin" : Str) = "wide") := by decide +kernel
theorem vJ : ¬ (("follow" : Str) = "many") := by decide +kernel
theorem uM : ¬ (("follow" : Str) = "start") := by decide +kernel
theorem zv : ¬ (("follow" : Str) = "gap") := by decide +kernel
theorem wB : ¬ (("follow" : Str) = "wide") := by decide +kernel
theorem yn : ¬ (("let_by" : Str) = "many") := by decide +kernel
theorem sS : ¬ (("let_by" : Str) = "start") := by decide +kernel
theorem zu : ¬ (("let_by" : Str) = "gap") := by decide +kernel
theorem vp : ¬ (("let_by" : Str) = "wide") := by decide +kernel
theorem Ca : ¬ (("leap" : Str) = "many") := by decide +kernel
theorem Au : ¬ (("leap" : Str) = "start") := by decide +kernel
theorem FJ : ¬ (("leap" : Str) = "gap") := by decide +kernel
theorem B1 : ¬ (("leap" : Str) = "wide") := by decide +kernel
theorem y1 : ¬ (("words" : Str) = "many") := by decide +kernel
theorem xD : ¬ (("words" : Str) = "start") := by decide +kernel
theorem C6 : ¬ (("words" : Str) = "gap") := by decide +kernel
theorem zM : ¬ (("words" : Str) = "wide") := by decide +kernel
theorem Dz : ¬ (("twin" : Str) = "many") := by decide +kernel
theorem Ap : ¬ (("twin" : Str) = "start") := by decide +kernel
theorem E8 : ¬ (("twin" : Str) = "gap") := by decide +kernel
theorem Dl : ¬ (("twin" : Str) = "wide") := by decide +kernel
theorem rh : ¬ (("place_of" : Str) = "many") := by decide +kernel
theorem mI : ¬ (("place_of" : Str) = "start") := by decide +kernel
theorem sx : ¬ (("place_of" : Str) = "gap") := by decide +kernel
theorem qW : ¬ (("place_of" : Str) = "wide") := by decide +kernel
theorem CG : ¬ (("many" : Str) = "most") := by decide +kernel
theorem zU : ¬ (("start" : Str) = "most") := by decide +kernel
theorem Fo : ¬ (("gap" : Str) = "most") := by decide +kernel
theorem Bw : ¬ (("wide" : Str) = "most") := by decide +kernel
theorem CP : ¬ (("most" : Str) = "many") := by decide +kernel
theorem yR : ¬ (("most" : Str) = "start") := by decide +kernel
theorem Fs : ¬ (("most" : Str) = "gap") := by decide +kernel
theorem Cz : ¬ (("most" : Str) = "wide") := by decide +kernel
theorem pM : ¬ (("__init__" : Str) = "most") := by decide +kernel
theorem oh : ¬ (("gap_ahead" : Str) = "most") := by decide +kernel
theorem yi : ¬ (("let_by" : Str) = "most") := by decide +kernel
theorem zp : ¬ (("words" : Str) = "most") := by decide +kernel
theorem DG : ¬ (("twin" : Str) = "most") := by decide +kernel
theorem zH : ¬ (("begin" : Str) = "most") := by decide +kernel
theorem vg : ¬ (("follow" : Str) = "most") := by decide +kernel
theorem C1 : ¬ (("leap" : Str) = "most") := by decide +kernel
theorem px : ¬ (("place_of" : Str) = "most") := by decide +kernel
set_option hygiene false in
local macro_rules | `(tactic| walk_at "lk") => `(tactic| first | (rw [FQ]; ((conv => lhs; simp only [look, reduceIte, B2, BV, C8, x4, DC, wj, w9, ui, yN, za, DL, x6, Cb, xi, wQ, tL, zo, yQ, vz, vt, xY, ph, pG, nD, um, uF, DE, DM, vQ, yb, ya, tQ, Ab, zG, vC, ve, qp, xF, qB, nF, uo, uz, ye, xn, pd, yd, pC, oB, t8, ug, t6, uw, nU, tR, mF, ng, qf, pz, zq, y4, uy, y6, sH, uE, qo, uT, zg, zB, sO, zR, tF, sF, pU, u3, pP, pk, lD, qL, lr, lI, jH, mX, m9, BE, Cm, u5, Bx, vn, xX, sY, yP, Ag, ub, uJ, nW, tX, md, mE, lE, qP, p5, lO, lh, iR, lg, i7, iV, il, jO, jR, vm, wJ, pT, vq, qI, qV, my, sD, uD, pJ, pB, kT, qU, kC, kg, jW, nA, mR, BW, DJ, vE, Dx, vk, vU, tJ, Ak, zA, CD, CB, xq, Dq, uZ, wN, tK, Aj, Aq, C4, CT, uX, DQ, wg, vM, sZ, zF, An, Ae, Af, tu, zS, t9, sj, qG, vf, xS, nQ, nG, ja, nN, uO, BZ, tq, Ci, nK, uW, pj, zj, tV, Cp, nk, u9, lz, ur, nz, vy, kN, uK, kZ, si, fU, ip, iY, mM, fT, iu, kJ, uB, Bt, DS, B5, uV, CU, wx, vu, pq, uC, mJ, Ie, BU, E7, zC, GX, CF, Bv, u6, xE, qX, yV, tP, la, iT, su, BO, v5, t7, qC, uf, zJ, tO, pL, ni, Dd, zK, DR, Ac, xc, wW, sU, Cy, tN, qT, ti, qO, zD, se, og, p4, mh, yc, ri, oq, mK, kj, mS, kG, jP, BH, zy, Hk, By, As, vN, zc, xm, FC, zL, vD, sX, qA, mw, wH, p9, mq, lu, sJ, qz, zX, sM, qk, mm, yO, xt, zZ, vP, t4, wX, tH, C7, wI, uN, qN, xH, ux, BM, vK, tD, qQ, zi, xM, E2, zT, wG, sg, C9, Ah, GC, Dm, zl, w6, z0, xB, FR, y7, xW, tG, yY, wo, Fx, Ay, x3, sN, Ff, CO, Jl, FI, Bq, Ai, mV, ki, sy, lZ, lN, jK, mj, kh, t5, nI, kD, jS, zI, vR, Fe, y8, xQ, uH, vZ, tU, CH, xl, tm, qE, uY, sQ, CI, xP, uv, pY, yq, tM, CY, xk, rY, ql, yr, tZ, DK, we, uL, pQ, pS, nY, vx, qd, lX, kP, km, jM, qm, kQ, jJ, iZ, nc, kE, uj, mL, kz, jI, mn, kA, sV, lU, kW, jN, lS, k8, sE, oC, lA, jL, yW, yk, FD, yX, vl, tE, CW, zx, Hs, Dt, zt, wa, nZ, kL, sW, nh, lG, jU, pX, me, xV, p7, nC, kq, Aw, yl, Fm, zE, vH, ua, tj, qK, Ax, uG, qD, nT, ud, qi, zO, tI, qa, nO, Aa, ym, FN, Av, wM, sk, sI, pK, zr, uk, qw, oA, qe, mY, xN, pW, mx, kF, z7, FO, BR, zm, Cv, zh, E6, Dk, FT, CZ, zf, Ft, qg, mQ, uh, p8, oo, kY, pF, nL, Az, xJ, Bz, zW, vJ, uM, zv, wB, yn, sS, zu, vp, Ca, Au, FJ, B1, y1, xD, C6, zM, Dz, Ap, E8, Dl, rh, mI, sx, qW, CG, zU, Fo, Bw, CP, yR, Fs, Cz, pM, oh, yi, zp, DG, zH, vg, C1, px]) <;> exact rfl)) | fail)
set_option hygiene false in
local macro_rules | `(tactic| walk_at "lk") => `(tactic| first | assumption | fail)
set_option hygiene false in
local macro_rules | `(tactic| walk_at "put") => `(tactic| ((conv => lhs; simp only [qJ, reduceIte, B2, BV, C8, x4, DC, wj, w9, ui, yN, za, DL, x6, Cb, xi, wQ, tL, zo, yQ, vz, vt, xY, ph, pG, nD, um, uF, DE, DM, vQ, yb, ya, tQ, Ab, zG, vC, ve, qp, xF, qB, nF, uo, uz, ye, xn, pd, yd, pC, oB, t8, ug, t6, uw, nU, tR, mF, ng, qf, pz, zq, y4, uy, y6, sH, uE, qo, uT, zg, zB, sO, zR, tF, sF, pU, u3, pP, pk, lD, qL, lr, lI, jH, mX, m9, BE, Cm, u5, Bx, vn, xX, sY, yP, Ag, ub, uJ, nW, tX, md, mE, lE, qP, p5, lO, lh, iR, lg, i7, iV, il, jO, jR, vm, wJ, pT, vq, qI, qV, my, sD, uD, pJ, pB, kT, qU, kC, kg, jW, nA, mR, BW, DJ, vE, Dx, vk, vU, tJ, Ak, zA, CD, CB, xq, Dq, uZ, wN, tK, Aj, Aq, C4, CT, uX, DQ, wg, vM, sZ, zF, An, Ae, Af, tu, zS, t9, sj, qG, vf, xS, nQ, nG, ja, nN, uO, BZ, tq, Ci, nK, uW, pj, zj, tV, Cp, nk, u9, lz, ur, nz, vy, kN, uK, kZ, si, fU, ip, iY, mM, fT, iu, kJ, uB, Bt, DS, B5, uV, CU, wx, vu, pq, uC, mJ, Ie, BU, E7, zC, GX, CF, Bv, u6, xE, qX, yV, tP, la, iT, su, BO, v5, t7, qC, uf, zJ, tO, pL, ni, Dd, zK, DR, Ac, xc, wW, sU, Cy, tN, qT, ti, qO, zD, se, og, p4, mh, yc, ri, oq, mK, kj, mS, kG, jP, BH, zy, Hk, By, As, vN, zc, xm, FC, zL, vD, sX, qA, mw, wH, p9, mq, lu, sJ, qz, zX, sM, qk, mm, yO, xt, zZ, vP, t4, wX, tH, C7, wI, uN, qN, xH, ux, BM, vK, tD, qQ, zi, xM, E2, zT, wG, sg, C9, Ah, GC, Dm, zl, w6, z0, xB, FR, y7, xW, tG, yY, wo, Fx, Ay, x3, sN, Ff, CO, Jl, FI, Bq, Ai, mV, ki, sy, lZ, lN, jK, mj, kh, t5, nI, kD, jS, zI, vR, Fe, y8, xQ, uH, vZ, tU, CH, xl, tm, qE, uY, sQ, CI, xP, uv, pY, yq, tM, CY, xk, rY, ql, yr, tZ, DK, we, uL, pQ, pS, nY, vx, qd, lX, kP, km, jM, qm, kQ, jJ, iZ, nc, kE, uj, mL, kz, jI, mn, kA, sV, lU, kW, jN, lS, k8, sE, oC, lA, jL, yW, yk, FD, yX, vl, tE, CW, zx, Hs, Dt, zt, wa, nZ, kL, sW, nh, lG, jU, pX, me, xV, p7, nC, kq, Aw, yl, Fm, zE, vH, ua, tj, qK, Ax, uG, qD, nT, ud, qi, zO, tI, qa, nO, Aa, ym, FN, Av, wM, sk, sI, pK, zr, uk, qw, oA, qe, mY, xN, pW, mx, kF, z7, FO, BR, zm, Cv, zh, E6, Dk, FT, CZ, zf, Ft, qg, mQ, uh, p8, oo, kY, pF, nL, Az, xJ, Bz, zW, vJ, uM, zv, wB, yn, sS, zu, vp, Ca, Au, FJ, B1, y1, xD, C6, zM, Dz, Ap, E8, Dl, rh, mI, sx, qW, CG, zU, Fo, Bw, CP, yR, Fs, Cz, pM, oh, yi, zp, DG, zH, vg, C1, px]) <;> exact rfl))
structure EL (K : PySem.W.Frag) (x q : Str) (s : Stmt) (d : Value) (f : Addr) : Prop where
 a : PySem.W.nsIn K mainGlobals x = some (some (.ref f))
 l : ∃ fd, aY K x q s f d fd
 k : PySem.W.keepIn K (.ref f) = true
structure cf (K : PySem.W.Frag) (C : Addr) (x q : Str) (s : Stmt) (d : Value) (f : Addr) : Prop where
 a : PySem.W.findIn K (.ref C) x = some (some (.ref f))
 l : ∃ fd, aY K x q s f d fd
 k : PySem.W.keepIn K (.ref f) = true
 i : PySem.W.isFn K (.ref f) = true
structure P2 (K : PySem.W.Frag) (C : Addr) : Prop where
 pg : PySem.W.plainGet K C Str.empty = true
 hd : PySem.W.hasDictIn K C = true
 po : PySem.W.plainOver K C = true
 sa : PySem.W.findIn K (.ref C) "__setattr__" = some (some (.builtin "object.__setattr__"))
 t1 : PySem.W.findIn K (.ref C) "__class__" = some (some (.builtin "object.__class__"))
 t2 : PySem.W.mroIn K C (.type "object") = some true
 t3 : PySem.W.typeIn K (.ref C) = some (.type "type")
theorem Xd {K : PySem.W.Frag} {t : Addr} {xs : Array Value} {n : Nat} {d : Option Addr} {z : Array (Option Value)} {c : Value} (l : K.lookup t = some ⟨c, d, .seq xs n, z⟩) : DW K t xs := ⟨⟨_, _, l, rfl⟩⟩
set_option genSizeOf false in
set_option genInjectivity false in
structure Ad where
 cB : Addr
 pH : FuncData
 e7 : Addr
 Ct : FuncData
 cT : Addr
 sr : FuncData
 bF : Addr
 ko : FuncData
 dN : Addr
 xZ : FuncData
 cA : Addr
 qZ : FuncData
 fc : Addr
 C2 : FuncData
 e8 : Addr
 CN : FuncData
 eF : Addr
 y9 : FuncData
 bK : Addr
 lB : FuncData
 bC : Addr
 mU : FuncData
 cq : Addr
 dR : Tok
 d9 : Addr
 BP : FuncData
 dD : Addr
 Ar : FuncData
 d8 : Addr
 C5 : FuncData
 cJ : Addr
 wO : FuncData
 bP : Addr
 pN : FuncData
 aW : Addr
 iX : FuncData
 fm : Addr
 BJ : FuncData
 ft : Addr
 CK : FuncData
 dM : Addr
 wZ : FuncData
 eG : Addr
 Fu : FuncData
 bQ : Addr
 qH : FuncData
 b5 : Addr
 rZ : FuncData
 bA : Addr
 ou : FuncData
 bR : Addr
 pI : FuncData
 bS : Addr
 qF : FuncData
 d6 : Addr
 CL : FuncData
 eX : Addr
 Fb : FuncData
 bO : Addr
 p6 : FuncData
 cj : Addr
 sf : FuncData
 er : Addr
 Cu : FuncData
 cI : Addr
 xr : FuncData
 cL : Addr
 xo : FuncData
 cM : Addr
 yo : FuncData
 b9 : Addr
 uI : FuncData
 fh : Addr
 Ck : FuncData
 bM : Addr
 gy : FuncData
 bY : Addr
 cg : Tok
 eC : Addr
 yT : FuncData
 eO : Addr
 gb : Tok
 dH : Addr
 xu : FuncData
 ez : Addr
 j1 : FuncData
 fv : Addr
 eZ : Tok
 bI : Addr
 ke : FuncData
 bH : Addr
 kR : FuncData
 dG : Addr
 xf : FuncData
 cW : Addr
 tW : FuncData
 cQ : Addr
 r9 : FuncData
 bJ : Addr
 zb : FuncData
 bu : Addr
 pA : FuncData
 aO : Addr
 qY : FuncData
 aQ : Addr
 gk : FuncData
 bX : Addr
 dn : Tok
 bx : Addr
 jV : FuncData
 bj : Addr
 tY : FuncData
 a7 : Addr
 pV : FuncData
 dI : Addr
 w5 : FuncData
 bz : Addr
 fH : FuncData
 bN : Addr
 c4 : Tok
 bb : Addr
 je : FuncData
 cY : Addr
 sC : FuncData
 b6 : Addr
 sG : FuncData
 dr : Addr
 yS : FuncData
 d7 : Addr
 Dj : FuncData
 dA : Addr
 y0 : FuncData
 ej : Addr
 BA : FuncData
 en : Addr
 Bu : FuncData
 eh : Addr
 B3 : FuncData
 e9 : Addr
 Fv : FuncData
 eY : Addr
 E9 : FuncData
 zk : Addr
 K4 : FuncData
 aw : Addr
 bG : Addr
 aH : Addr
 dc : Addr
 ah : Addr
 o4 : Addr
 az : Addr
 au : Addr
structure Txt (K : PySem.W.Frag) (mg : Str -> Option Value) (a : Ad) : Prop where
 jC : aY K "__init__" "Bell.__init__" jE a.cB (.none) a.pH
 vo : aY K "lead" "Bell.lead" yh a.e7 (.none) a.Ct
 kl : aY K "is_over" "Bell.is_over" lM a.cT (.none) a.sr
 ic : aY K "is_waiting" "Bell.is_waiting" ib a.bF (.none) a.ko
 o8 : aY K "settle" "Bell.settle" oO a.dN (.none) a.xZ
 jA : aY K "catch_up" "Bell.catch_up" jz a.cA (.none) a.qZ
 uR : aY K "wait" "Bell.wait" wY a.fc (.none) a.C2
 wy : aY K "rest" "Bell.rest" xR a.e8 (.none) a.CN
 rE : aY K "about" "Bell.about" rJ a.eF (.none) a.y9
 hZ : aY K "__init__" "Groups.__init__" ia a.bK (.none) a.lB
 iw : aY K "__init__" "Waits.__init__" iE a.bC (.ref a.cq) a.mU
 qM : DW K a.cq #[(.int 0 a.dR)]
 vX : aY K "put" "Waits.put" wF a.d9 (.none) a.BP
 rm : aY K "take" "Waits.take" rV a.dD (.none) a.Ar
 vO : aY K "due" "Waits.due" lW a.d8 (.none) a.C5
 oW : aY K "least" "Waits.least" o5 a.cJ (.none) a.wO
 jn : aY K "time_of" "Waits.time_of" jo a.bP (.none) a.pN
 fF : aY K "check_waits" "Waits.check_waits" fE a.aW (.none) a.iX
 wA : aY K "enter" "Row.enter" vh a.fm (.none) a.BJ
 wq : aY K "leave" "Row.leave" vY a.ft (.none) a.CK
 oN : aY K "pass_on" "Row.pass_on" iH a.dM (.none) a.wZ
 AQ : aY K "is_whole" "is_whole" A4 a.eG (.none) a.Fu
 Fc : PySem.W.keepIn K (.ref a.eG) = true
 E3 : mg "is_whole" = some (.ref a.eG)
 jy : aY K "__init__" "Yard.__init__" ju a.bQ (.none) a.qH
 lF : aY K "bell_of" "Yard.bell_of" ku a.b5 (.none) a.rZ
 iA : aY K "all_bells" "Yard.all_bells" fA a.bA (.none) a.ou
 jm : aY K "is_awake" "Yard.is_awake" jD a.bR (.none) a.pI
 jx : aY K "shown_to" "Yard.shown_to" jw a.bS (.none) a.qF
 vG : aY K "hang" "Yard.hang" yj a.d6 (.none) a.CL
 AB : aY K "lay" "Yard.lay" AH a.eX (.none) a.Fb
 jk : aY K "let_wait" "Yard.let_wait" jv a.bO (.none) a.p6
 k9 : aY K "lay_all" "Yard.lay_all" kM a.cj (.none) a.sf
 xa : aY K "lift" "Yard.lift" xO a.er (.none) a.Cu
 o7 : aY K "settle" "Yard.settle" o6 a.cI (.none) a.xr
 oY : aY K "finish" "Yard.finish" oI a.cL (.none) a.xo
 oV : aY K "remove" "Yard.remove" oM a.cM (.none) a.yo
 kI : aY K "pass_to" "Yard.pass_to" hJ a.b9 (.none) a.uI
 x5 : aY K "by_weight" "by_weight" vS a.fh (.none) a.Ck
 Di : mg "by_weight" = some (.ref a.fh)
 gW : aY K "__init__" "Keeper.__init__" g9 a.bM (.ref a.bY) a.gy
 lT : DW K a.bY #[.none, (.int 0 a.cg)]
 rG : aY K "add" "Keeper.add" rL a.eC (.ref a.eO) a.yT
 Dy : DW K a.eO #[(.int 1 a.gb), .none, .bool false]
 oU : aY K "turn" "Keeper.turn" iJ a.dH (.none) a.xu
 nE : aY K "go" "Keeper.go" wu a.ez (.ref a.fv) a.j1
 vB : DW K a.fv #[(.int 60 a.eZ), .none]
 gM : aY K "wakes_by" "Keeper.wakes_by" gI a.bI (.none) a.ke
 gN : aY K "ring_all" "Keeper.ring_all" eS a.bH (.none) a.kR
 oP : aY K "ring" "Keeper.ring" oR a.dG (.none) a.xf
 ky : aY K "bells" "Keeper.bells" kc a.cW (.none) a.tW
 kX : aY K "about" "Keeper.about" kn a.cQ (.none) a.r9
 rp : aY K "check_from" "check_from" rq a.bJ (.none) a.zb
 eN : PySem.W.keepIn K (.ref a.bJ) = true
 eQ : mg "check_from" = some (.ref a.bJ)
 jr : aY K "__init__" "Rule.__init__" jF a.bu (.none) a.pA
 jB : aY K "place_of" "Rule.place_of" jq a.aO (.none) a.qY
 gJ : aY K "__init__" "Behind.__init__" gH a.aQ (.ref a.bX) a.gk
 mr : DW K a.bX #[(.int 0 a.dn), .none]
 gm : aY K "gap_ahead" "Behind.gap_ahead" gu a.bx (.none) a.jV
 gX : aY K "begin" "Behind.begin" kK a.bj (.none) a.tY
 f7 : aY K "follow" "Behind.follow" jG a.a7 (.none) a.pV
 oH : aY K "twin" "Behind.twin" oG a.dI (.none) a.w5
 gw : aY K "__init__" "Slowing.__init__" gq a.bz (.ref a.bN) a.fH
 kO : DW K a.bN #[(.int 0 a.c4), .none]
 fK : aY K "gap_ahead" "Slowing.gap_ahead" fJ a.bb (.none) a.je
 lC : aY K "twin" "Slowing.twin" lL a.cY (.none) a.sC
 lH : aY K "_law_cell_at" "_law_cell_at" ll a.b6 (.none) a.sG
 eI : PySem.W.keepIn K (.ref a.b6) = true
 eL : mg "_law_cell_at" = some (.ref a.b6)
 rD : aY K "_law_whole" "_law_whole" rF a.dr (.none) a.yS
 zY : PySem.W.keepIn K (.ref a.dr) = true
 zN : mg "_law_whole" = some (.ref a.dr)
 xG : aY K "_law_name" "_law_name" xA a.d7 (.none) a.Dj
 Bs : PySem.W.keepIn K (.ref a.d7) = true
 DN : mg "_law_name" = some (.ref a.d7)
 rO : aY K "_law_kinds" "_law_kinds" rB a.dA (.none) a.y0
 zV : PySem.W.keepIn K (.ref a.dA) = true
 AA : mg "_law_kinds" = some (.ref a.dA)
 xU : aY K "_law_bell" "_law_bell" yt a.ej (.none) a.BA
 BD : PySem.W.keepIn K (.ref a.ej) = true
 Cj : mg "_law_bell" = some (.ref a.ej)
 vI : aY K "_law_rule" "_law_rule" wK a.en (.none) a.Bu
 Dw : PySem.W.keepIn K (.ref a.en) = true
 Cw : mg "_law_rule" = some (.ref a.en)
 vF : aY K "_law_told" "_law_told" vT a.eh (.none) a.B3
 Cr : PySem.W.keepIn K (.ref a.eh) = true
 DF : mg "_law_told" = some (.ref a.eh)
 Ba : aY K "_law_gap" "_law_gap" Bl a.e9 (.none) a.Fv
 FK : PySem.W.keepIn K (.ref a.e9) = true
 Fq : mg "_law_gap" = some (.ref a.e9)
 A3 : aY K "_law_due" "_law_due" lj a.eY (.none) a.E9
 FA : PySem.W.keepIn K (.ref a.eY) = true
 Fl : mg "_law_due" = some (.ref a.eY)
 Uh : aY K "law" "law" UZ a.zk (.none) a.K4
 Ss : mg "law" = some (.ref a.zk)
 PD : mg "Bell" = some (.ref a.aw)
 aK : vA K a.aw
 bt : aG K a.aw "name"
 fy : aG K a.aw "rule"
 fq : aG K a.aw "weight"
 gZ : aG K a.aw "home"
 dX : aG K a.aw "by_day"
 ck : aG K a.aw "number"
 bq : aG K a.aw "stretch"
 b4 : aG K a.aw "since"
 cK : aG K a.aw "until"
 S7 : Mk K a.aw a.cB
 wU : Meth K a.aw "lead" a.e7
 kB : Meth K a.aw "is_over" a.cT
 mW : Meth K a.aw "is_waiting" a.bF
 Am : Meth K a.aw "settle" a.dN
 sP : Meth K a.aw "catch_up" a.cA
 E4 : Meth K a.aw "wait" a.fc
 Fz : Meth K a.aw "rest" a.e8
 DA : Meth K a.aw "about" a.eF
 Jm : mg "Groups" = some (.ref a.bG)
 iz : vA K a.bG
 eD : aG K a.bG "above_of"
 fV : aG K a.bG "marks"
 Mp : Mk K a.bG a.bK
 Tv : mg "Row" = some (.ref a.aH)
 cC : vA K a.aH
 dO : aG K a.aH "now"
 bL : aG K a.aH "times"
 Yq : Mk K a.aH a.bC
 Fp : Meth K a.aH "enter" a.fm
 Fh : Meth K a.aH "leave" a.ft
 z9 : Meth K a.aH "pass_on" a.dM
 Jv : Meth K a.aH "put" a.d9
 HE : Meth K a.aH "take" a.dD
 Js : Meth K a.aH "due" a.d8
 xj : Meth K a.aH "least" a.cJ
 y3 : Meth K a.aH "time_of" a.bP
 n9 : Meth K a.aH "check_waits" a.aW
 OG : mg "Yard" = some (.ref a.dc)
 IV : mg "Keeper" = some (.ref a.ah)
 aD : vA K a.ah
 bp : aG K a.ah "waits"
 fC : aG K a.ah "rounds"
 a8 : aG K a.ah "now"
 cw : aG K a.ah "shift"
 fu : aG K a.ah "groups"
 aR : aG K a.ah "by_name"
 L6 : Mk K a.ah a.bM
 DP : Meth K a.ah "add" a.eC
 Al : Meth K a.ah "turn" a.dH
 xI : Meth K a.ah "go" a.ez
 mO : Meth K a.ah "wakes_by" a.bI
 nP : Meth K a.ah "ring_all" a.bH
 z8 : Meth K a.ah "ring" a.dG
 lJ : Meth K a.ah "bells" a.cW
 yf : Meth K a.ah "about" a.cQ
 qv : Meth K a.ah "bell_of" a.b5
 gx : Meth K a.ah "all_bells" a.bA
 mz : Meth K a.ah "is_awake" a.bR
 gU : Meth K a.ah "shown_to" a.bS
 zQ : Meth K a.ah "hang" a.d6
 j4 : Meth K a.ah "lay" a.eX
 nR : Meth K a.ah "let_wait" a.bO
 qc : Meth K a.ah "lay_all" a.cj
 oZ : Meth K a.ah "lift" a.er
 tf : Meth K a.ah "settle" a.cI
 gf : Meth K a.ah "finish" a.cL
 sR : Meth K a.ah "remove" a.cM
 iF : Meth K a.ah "pass_to" a.b9
 PO : mg "Rule" = some (.ref a.o4)
 yu : mg "Behind" = some (.ref a.az)
 cn : vA K a.az
 dY : aG K a.az "many"
 de : aG K a.az "start"
 eP : aG K a.az "gap"
 cO : aG K a.az "wide"
 G1 : Mk K a.az a.aQ
 lq : Meth K a.az "gap_ahead" a.bx
 wc : Meth K a.az "begin" a.bj
 tT : Meth K a.az "follow" a.a7
 Ao : Meth K a.az "twin" a.dI
 lV : Meth K a.az "place_of" a.aO
 A6 : mg "Slowing" = some (.ref a.au)
 bw : vA K a.au
 df : aG K a.au "many"
 cN : aG K a.au "start"
 dZ : aG K a.au "gap"
 cu : aG K a.au "wide"
 dh : aG K a.au "most"
 Ef : Mk K a.au a.bz
 jT : Meth K a.au "gap_ahead" a.bb
 x8 : Meth K a.au "twin" a.cY
 uA : Meth K a.au "begin" a.bj
 pZ : Meth K a.au "follow" a.a7
 kr : Meth K a.au "place_of" a.aO
 dW : a.aw ≠ a.ah
 jb : a.aw ≠ a.aH
 dJ : a.ah ≠ a.aH
 gR : a.az ≠ a.aw
 dU : a.az ≠ a.ah
 iM : a.az ≠ a.aH
 fW : a.au ≠ a.aw
 di : a.au ≠ a.ah
 ie : a.au ≠ a.aH
 nM : IY K a.az "__init__" a.aQ
 tS : IY K a.o4 "__init__" a.bu
 sT : IY K a.dc "__init__" a.bQ
 Dp : mg "bool" = none
 GK : mg "int" = none
 bE : mg "isinstance" = none
 Hw : mg "len" = none
 yD : mg "list" = none
 KZ : mg "max" = none
 rn : mg "min" = none
 pR : mg "range" = none
 fz : mg "sorted" = none
 KU : mg "str" = none
 DT : mg "tuple" = none
theorem aa0 {K : PySem.W.Frag} {h : Heap} {mg : Str -> Option Value} {cB e7 cT bF dN cA fc e8 eF bK bC cq d9 dD d8 cJ bP aW fm ft dM eG bQ b5 bA bR bS d6 eX bO cj er cI cL cM b9 fh bM bY eC eO dH ez fv bI bH dG cW cQ bJ bu aO aQ bX bx bj a7 dI bz bN bb cY b6 dr d7 dA ej en eh e9 eY zk aw bG nV aH dc ah o4 az au : Addr} {dR cg gb eZ dn c4 : Tok}  (X : K.In h) (G : h.Ns mainGlobals mg)
 (X8 : PySem.W.nsIn K mainGlobals "Bell" = some (some (.ref aw)))
 (Q9 : PySem.W.nsIn K mainGlobals "Groups" = some (some (.ref bG)))
 (aex : PySem.W.nsIn K mainGlobals "Waits" = some (some (.ref nV)))
 (Z6 : PySem.W.nsIn K mainGlobals "Row" = some (some (.ref aH)))
 (WM : PySem.W.nsIn K mainGlobals "Yard" = some (some (.ref dc)))
 (Qf : PySem.W.nsIn K mainGlobals "Keeper" = some (some (.ref ah)))
 (VF : PySem.W.nsIn K mainGlobals "Rule" = some (some (.ref o4)))
 (Qd : PySem.W.nsIn K mainGlobals "Behind" = some (some (.ref az)))
 (Nb : PySem.W.nsIn K mainGlobals "Slowing" = some (some (.ref au)))
 (fZ : cf K aw "__init__" "Bell.__init__" jE (.none) cB)
 (jg : cf K aw "lead" "Bell.lead" yh (.none) e7)
 (eW : cf K aw "is_over" "Bell.is_over" lM (.none) cT)
 (dt : cf K aw "is_waiting" "Bell.is_waiting" ib (.none) bF)
 (fO : cf K aw "settle" "Bell.settle" oO (.none) dN)
 (eK : cf K aw "catch_up" "Bell.catch_up" jz (.none) cA)
 (iQ : cf K aw "wait" "Bell.wait" wY (.none) fc)
 (iW : cf K aw "rest" "Bell.rest" xR (.none) e8)
 (hE : cf K aw "about" "Bell.about" rJ (.none) eF)
 (eR : cf K bG "__init__" "Groups.__init__" ia (.none) bK)
 (iC : cf K nV "__init__" "Waits.__init__" iE (.ref cq) bC)
 (Ee : DW K cq #[(.int 0 dR)])
 (oj : cf K nV "put" "Waits.put" wF (.none) d9)
 (jX : cf K nV "take" "Waits.take" rV (.none) dD)
 (mH : cf K nV "due" "Waits.due" lW (.none) d8)
 (iK : cf K nV "least" "Waits.least" o5 (.none) cJ)
 (fX : cf K nV "time_of" "Waits.time_of" jo (.none) bP)
 (dS : cf K nV "check_waits" "Waits.check_waits" fE (.none) aW)
 (iU : cf K aH "enter" "Row.enter" vh (.none) fm)
 (iS : cf K aH "leave" "Row.leave" vY (.none) ft)
 (fM : cf K aH "pass_on" "Row.pass_on" iH (.none) dM)
 (rM : EL K "is_whole" "is_whole" A4 (.none) eG)
 (js : cf K dc "__init__" "Yard.__init__" ju (.none) bQ)
 (gT : cf K dc "bell_of" "Yard.bell_of" ku (.none) b5)
 (fx : cf K dc "all_bells" "Yard.all_bells" fA (.none) bA)
 (gg : cf K dc "is_awake" "Yard.is_awake" jD (.none) bR)
 (f9 : cf K dc "shown_to" "Yard.shown_to" jw (.none) bS)
 (oi : cf K dc "hang" "Yard.hang" yj (.none) d6)
 (ro : cf K dc "lay" "Yard.lay" AH (.none) eX)
 (f6 : cf K dc "let_wait" "Yard.let_wait" jv (.none) bO)
 (gP : cf K dc "lay_all" "Yard.lay_all" kM (.none) cj)
 (oF : cf K dc "lift" "Yard.lift" xO (.none) er)
 (iN : cf K dc "settle" "Yard.settle" o6 (.none) cI)
 (iI : cf K dc "finish" "Yard.finish" oI (.none) cL)
 (iP : cf K dc "remove" "Yard.remove" oM (.none) cM)
 (gQ : cf K dc "pass_to" "Yard.pass_to" hJ (.none) b9)
 (vL : EL K "by_weight" "by_weight" vS (.none) fh)
 (eT : cf K ah "__init__" "Keeper.__init__" g9 (.ref bY) bM)
 (Dg : DW K bY #[.none, (.int 0 cg)])
 (gF : cf K ah "add" "Keeper.add" rL (.ref eO) eC)
 (K5 : DW K eO #[(.int 1 gb), .none, .bool false])
 (fL : cf K ah "turn" "Keeper.turn" iJ (.none) dH)
 (ji : cf K ah "go" "Keeper.go" wu (.ref fv) ez)
 (LA : DW K fv #[(.int 60 eZ), .none])
 (dj : cf K ah "wakes_by" "Keeper.wakes_by" gI (.none) bI)
 (dq : cf K ah "ring_all" "Keeper.ring_all" eS (.none) bH)
 (fN : cf K ah "ring" "Keeper.ring" oR (.none) dG)
 (e6 : cf K ah "bells" "Keeper.bells" kc (.none) cW)
 (fi : cf K ah "about" "Keeper.about" kn (.none) cQ)
 (j5 : EL K "check_from" "check_from" rq (.none) bJ)
 (jl : cf K o4 "__init__" "Rule.__init__" jF (.none) bu)
 (dg : cf K o4 "place_of" "Rule.place_of" jq (.none) aO)
 (dz : cf K az "__init__" "Behind.__init__" gH (.ref bX) aQ)
 (C3 : DW K bX #[(.int 0 dn), .none])
 (cX : cf K az "gap_ahead" "Behind.gap_ahead" gu (.none) bx)
 (cU : cf K az "begin" "Behind.begin" kK (.none) bj)
 (cz : cf K az "follow" "Behind.follow" jG (.none) a7)
 (fQ : cf K az "twin" "Behind.twin" oG (.none) dI)
 (eB : cf K au "__init__" "Slowing.__init__" gq (.ref bN) bz)
 (A8 : DW K bN #[(.int 0 c4), .none])
 (cE : cf K au "gap_ahead" "Slowing.gap_ahead" fJ (.none) bb)
 (fe : cf K au "twin" "Slowing.twin" lL (.none) cY)
 (hX : EL K "_law_cell_at" "_law_cell_at" ll (.none) b6)
 (j3 : EL K "_law_whole" "_law_whole" rF (.none) dr)
 (mC : EL K "_law_name" "_law_name" xA (.none) d7)
 (j6 : EL K "_law_kinds" "_law_kinds" rB (.none) dA)
 (nr : EL K "_law_bell" "_law_bell" yt (.none) ej)
 (ml : EL K "_law_rule" "_law_rule" wK (.none) en)
 (oE : EL K "_law_told" "_law_told" vT (.none) eh)
 (rk : EL K "_law_gap" "_law_gap" Bl (.none) e9)
 (rl : EL K "_law_due" "_law_due" lj (.none) eY)
 (TR : EL K "law" "law" UZ (.none) zk)
 (aK : P2 K aw)
 (bt : PySem.W.findIn K (.ref aw) "name" = some none)
 (fy : PySem.W.findIn K (.ref aw) "rule" = some none)
 (fq : PySem.W.findIn K (.ref aw) "weight" = some none)
 (gZ : PySem.W.findIn K (.ref aw) "home" = some none)
 (dX : PySem.W.findIn K (.ref aw) "by_day" = some none)
 (ck : PySem.W.findIn K (.ref aw) "number" = some none)
 (bq : PySem.W.findIn K (.ref aw) "stretch" = some none)
 (b4 : PySem.W.findIn K (.ref aw) "since" = some none)
 (cK : PySem.W.findIn K (.ref aw) "until" = some none)
 (V8 : PySem.W.makesIn K aw = true)
 (Wv : PySem.W.keepIn K (.ref aw) = true)
 (iz : P2 K bG)
 (eD : PySem.W.findIn K (.ref bG) "above_of" = some none)
 (fV : PySem.W.findIn K (.ref bG) "marks" = some none)
 (Rt : PySem.W.makesIn K bG = true)
 (Qv : PySem.W.keepIn K (.ref bG) = true)
 (cC : P2 K aH)
 (dO : PySem.W.findIn K (.ref aH) "now" = some none)
 (bL : PySem.W.findIn K (.ref aH) "times" = some none)
 (Zi : PySem.W.makesIn K aH = true)
 (ZG : PySem.W.keepIn K (.ref aH) = true)
 (Z5 : PySem.W.findIn K (.ref aH) "__init__" = some (some (.ref bC)))
 (NN : PySem.W.findIn K (.ref aH) "put" = some (some (.ref d9)))
 (Mi : PySem.W.findIn K (.ref aH) "take" = some (some (.ref dD)))
 (Nx : PySem.W.findIn K (.ref aH) "due" = some (some (.ref d8)))
 (KA : PySem.W.findIn K (.ref aH) "least" = some (some (.ref cJ)))
 (GB : PySem.W.findIn K (.ref aH) "time_of" = some (some (.ref bP)))
 (Bf : PySem.W.findIn K (.ref aH) "check_waits" = some (some (.ref aW)))
 (aD : P2 K ah)
 (bp : PySem.W.findIn K (.ref ah) "waits" = some none)
 (fC : PySem.W.findIn K (.ref ah) "rounds" = some none)
 (a8 : PySem.W.findIn K (.ref ah) "now" = some none)
 (cw : PySem.W.findIn K (.ref ah) "shift" = some none)
 (fu : PySem.W.findIn K (.ref ah) "groups" = some none)
 (aR : PySem.W.findIn K (.ref ah) "by_name" = some none)
 (QG : PySem.W.makesIn K ah = true)
 (QJ : PySem.W.keepIn K (.ref ah) = true)
 (BX : PySem.W.findIn K (.ref ah) "bell_of" = some (some (.ref b5)))
 (yH : PySem.W.findIn K (.ref ah) "all_bells" = some (some (.ref bA)))
 (A5 : PySem.W.findIn K (.ref ah) "is_awake" = some (some (.ref bR)))
 (AX : PySem.W.findIn K (.ref ah) "shown_to" = some (some (.ref bS)))
 (HV : PySem.W.findIn K (.ref ah) "hang" = some (some (.ref d6)))
 (Ik : PySem.W.findIn K (.ref ah) "lay" = some (some (.ref eX)))
 (Bg : PySem.W.findIn K (.ref ah) "let_wait" = some (some (.ref bO)))
 (BI : PySem.W.findIn K (.ref ah) "lay_all" = some (some (.ref cj)))
 (Hu : PySem.W.findIn K (.ref ah) "lift" = some (some (.ref er)))
 (Ea : PySem.W.findIn K (.ref ah) "settle" = some (some (.ref cI)))
 (Eh : PySem.W.findIn K (.ref ah) "finish" = some (some (.ref cL)))
 (ER : PySem.W.findIn K (.ref ah) "remove" = some (some (.ref cM)))
 (Br : PySem.W.findIn K (.ref ah) "pass_to" = some (some (.ref b9)))
 (cn : P2 K az)
 (dY : PySem.W.findIn K (.ref az) "many" = some none)
 (de : PySem.W.findIn K (.ref az) "start" = some none)
 (eP : PySem.W.findIn K (.ref az) "gap" = some none)
 (cO : PySem.W.findIn K (.ref az) "wide" = some none)
 (Qi : PySem.W.makesIn K az = true)
 (QR : PySem.W.keepIn K (.ref az) = true)
 (Be : PySem.W.findIn K (.ref az) "place_of" = some (some (.ref aO)))
 (bw : P2 K au)
 (df : PySem.W.findIn K (.ref au) "many" = some none)
 (cN : PySem.W.findIn K (.ref au) "start" = some none)
 (dZ : PySem.W.findIn K (.ref au) "gap" = some none)
 (cu : PySem.W.findIn K (.ref au) "wide" = some none)
 (dh : PySem.W.findIn K (.ref au) "most" = some none)
 (N2 : PySem.W.makesIn K au = true)
 (Oo : PySem.W.keepIn K (.ref au) = true)
 (D6 : PySem.W.findIn K (.ref au) "begin" = some (some (.ref bj)))
 (B7 : PySem.W.findIn K (.ref au) "follow" = some (some (.ref a7)))
 (yM : PySem.W.findIn K (.ref au) "place_of" = some (some (.ref aO)))
 (dW : (aw == ah) = false)
 (jb : (aw == aH) = false)
 (dJ : (ah == aH) = false)
 (gR : (az == aw) = false)
 (dU : (az == ah) = false)
 (iM : (az == aH) = false)
 (fW : (au == aw) = false)
 (di : (au == ah) = false)
 (ie : (au == aH) = false)
 (AI : PySem.W.specialIn K (.ref az) "__getattribute__" = some (some (.builtin "type.__getattribute__")))
 (Bj : PySem.W.readsIn K az (.type "type") = true)
 (AU : PySem.W.findCls K (.ref az) (.type "type") "__init__" = some (.val (.ref aQ)))
 (Ek : PySem.W.specialIn K (.ref o4) "__getattribute__" = some (some (.builtin "type.__getattribute__")))
 (D0 : PySem.W.readsIn K o4 (.type "type") = true)
 (D9 : PySem.W.findCls K (.ref o4) (.type "type") "__init__" = some (.val (.ref bu)))
 (DZ : PySem.W.specialIn K (.ref dc) "__getattribute__" = some (some (.builtin "type.__getattribute__")))
 (D2 : PySem.W.readsIn K dc (.type "type") = true)
 (D3 : PySem.W.findCls K (.ref dc) (.type "type") "__init__" = some (.val (.ref bQ)))
 (Dp : PySem.W.nsIn K mainGlobals "bool" = some none)
 (GK : PySem.W.nsIn K mainGlobals "int" = some none)
 (bE : PySem.W.nsIn K mainGlobals "isinstance" = some none)
 (Hw : PySem.W.nsIn K mainGlobals "len" = some none)
 (yD : PySem.W.nsIn K mainGlobals "list" = some none)
 (KZ : PySem.W.nsIn K mainGlobals "max" = some none)
 (rn : PySem.W.nsIn K mainGlobals "min" = some none)
 (pR : PySem.W.nsIn K mainGlobals "range" = some none)
 (fz : PySem.W.nsIn K mainGlobals "sorted" = some none)
 (KU : PySem.W.nsIn K mainGlobals "str" = some none)
 (DT : PySem.W.nsIn K mainGlobals "tuple" = some none)
 : ∃ a : Ad, a.zk = a.zk /\ Txt K mg a :=
 ⟨⟨cB, fZ.l.choose, e7, jg.l.choose, cT, eW.l.choose, bF, dt.l.choose, dN, fO.l.choose, cA, eK.l.choose, fc, iQ.l.choose, e8, iW.l.choose, eF, hE.l.choose, bK, eR.l.choose, bC, iC.l.choose, cq, dR, d9, oj.l.choose, dD, jX.l.choose, d8, mH.l.choose, cJ, iK.l.choose, bP, fX.l.choose, aW, dS.l.choose, fm, iU.l.choose, ft, iS.l.choose, dM, fM.l.choose, eG, rM.l.choose, bQ, js.l.choose, b5, gT.l.choose, bA, fx.l.choose, bR, gg.l.choose, bS, f9.l.choose, d6, oi.l.choose, eX, ro.l.choose, bO, f6.l.choose, cj, gP.l.choose, er, oF.l.choose, cI, iN.l.choose, cL, iI.l.choose, cM, iP.l.choose, b9, gQ.l.choose, fh, vL.l.choose, bM, eT.l.choose, bY, cg, eC, gF.l.choose, eO, gb, dH, fL.l.choose, ez, ji.l.choose, fv, eZ, bI, dj.l.choose, bH, dq.l.choose, dG, fN.l.choose, cW, e6.l.choose, cQ, fi.l.choose, bJ, j5.l.choose, bu, jl.l.choose, aO, dg.l.choose, aQ, dz.l.choose, bX, dn, bx, cX.l.choose, bj, cU.l.choose, a7, cz.l.choose, dI, fQ.l.choose, bz, eB.l.choose, bN, c4, bb, cE.l.choose, cY, fe.l.choose, b6, hX.l.choose, dr, j3.l.choose, d7, mC.l.choose, dA, j6.l.choose, ej, nr.l.choose, en, ml.l.choose, eh, oE.l.choose, e9, rk.l.choose, eY, rl.l.choose, zk, TR.l.choose, aw, bG, aH, dc, ah, o4, az, au⟩, rfl, {
   jC := fZ.l.choose_spec,
   vo := jg.l.choose_spec,
   kl := eW.l.choose_spec,
   ic := dt.l.choose_spec,
   o8 := fO.l.choose_spec,
   jA := eK.l.choose_spec,
   uR := iQ.l.choose_spec,
   wy := iW.l.choose_spec,
   rE := hE.l.choose_spec,
   hZ := eR.l.choose_spec,
   iw := iC.l.choose_spec,
   qM := Ee,
   vX := oj.l.choose_spec,
   rm := jX.l.choose_spec,
   vO := mH.l.choose_spec,
   oW := iK.l.choose_spec,
   jn := fX.l.choose_spec,
   fF := dS.l.choose_spec,
   wA := iU.l.choose_spec,
   wq := iS.l.choose_spec,
   oN := fM.l.choose_spec,
   AQ := rM.l.choose_spec,
   Fc := rM.k,
   E3 := PySem.W.mg_of X G rM.a,
   jy := js.l.choose_spec,
   lF := gT.l.choose_spec,
   iA := fx.l.choose_spec,
   jm := gg.l.choose_spec,
   jx := f9.l.choose_spec,
   vG := oi.l.choose_spec,
   AB := ro.l.choose_spec,
   jk := f6.l.choose_spec,
   k9 := gP.l.choose_spec,
   xa := oF.l.choose_spec,
   o7 := iN.l.choose_spec,
   oY := iI.l.choose_spec,
   oV := iP.l.choose_spec,
   kI := gQ.l.choose_spec,
   x5 := vL.l.choose_spec,
   Di := PySem.W.mg_of X G vL.a,
   gW := eT.l.choose_spec,
   lT := Dg,
   rG := gF.l.choose_spec,
   Dy := K5,
   oU := fL.l.choose_spec,
   nE := ji.l.choose_spec,
   vB := LA,
   gM := dj.l.choose_spec,
   gN := dq.l.choose_spec,
   oP := fN.l.choose_spec,
   ky := e6.l.choose_spec,
   kX := fi.l.choose_spec,
   rp := j5.l.choose_spec,
   eN := j5.k,
   eQ := PySem.W.mg_of X G j5.a,
   jr := jl.l.choose_spec,
   jB := dg.l.choose_spec,
   gJ := dz.l.choose_spec,
   mr := C3,
   gm := cX.l.choose_spec,
   gX := cU.l.choose_spec,
   f7 := cz.l.choose_spec,
   oH := fQ.l.choose_spec,
   gw := eB.l.choose_spec,
   kO := A8,
   fK := cE.l.choose_spec,
   lC := fe.l.choose_spec,
   lH := hX.l.choose_spec,
   eI := hX.k,
   eL := PySem.W.mg_of X G hX.a,
   rD := j3.l.choose_spec,
   zY := j3.k,
   zN := PySem.W.mg_of X G j3.a,
   xG := mC.l.choose_spec,
   Bs := mC.k,
   DN := PySem.W.mg_of X G mC.a,
   rO := j6.l.choose_spec,
   zV := j6.k,
   AA := PySem.W.mg_of X G j6.a,
   xU := nr.l.choose_spec,
   BD := nr.k,
   Cj := PySem.W.mg_of X G nr.a,
   vI := ml.l.choose_spec,
   Dw := ml.k,
   Cw := PySem.W.mg_of X G ml.a,
   vF := oE.l.choose_spec,
   Cr := oE.k,
   DF := PySem.W.mg_of X G oE.a,
   Ba := rk.l.choose_spec,
   FK := rk.k,
   Fq := PySem.W.mg_of X G rk.a,
   A3 := rl.l.choose_spec,
   FA := rl.k,
   Fl := PySem.W.mg_of X G rl.a,
   Uh := TR.l.choose_spec,
   Ss := PySem.W.mg_of X G TR.a,
   PD := PySem.W.mg_of X G X8,
   aK := ⟨aK.pg, aK.hd, aK.po, aK.sa⟩,
   bt := bt,
   fy := fy,
   fq := fq,
   gZ := gZ,
   dX := dX,
   ck := ck,
   bq := bq,
   b4 := b4,
   cK := cK,
   S7 := ⟨V8, fZ.a, fZ.i, Wv⟩,
   wU := ⟨jg.a, jg.i, jg.k⟩,
   kB := ⟨eW.a, eW.i, eW.k⟩,
   mW := ⟨dt.a, dt.i, dt.k⟩,
   Am := ⟨fO.a, fO.i, fO.k⟩,
   sP := ⟨eK.a, eK.i, eK.k⟩,
   E4 := ⟨iQ.a, iQ.i, iQ.k⟩,
   Fz := ⟨iW.a, iW.i, iW.k⟩,
   DA := ⟨hE.a, hE.i, hE.k⟩,
   Jm := PySem.W.mg_of X G Q9,
   iz := ⟨iz.pg, iz.hd, iz.po, iz.sa⟩,
   eD := eD,
   fV := fV,
   Mp := ⟨Rt, eR.a, eR.i, Qv⟩,
   Tv := PySem.W.mg_of X G Z6,
   cC := ⟨cC.pg, cC.hd, cC.po, cC.sa⟩,
   dO := dO,
   bL := bL,
   Yq := ⟨Zi, Z5, iC.i, ZG⟩,
   Fp := ⟨iU.a, iU.i, iU.k⟩,
   Fh := ⟨iS.a, iS.i, iS.k⟩,
   z9 := ⟨fM.a, fM.i, fM.k⟩,
   Jv := ⟨NN, oj.i, oj.k⟩,
   HE := ⟨Mi, jX.i, jX.k⟩,
   Js := ⟨Nx, mH.i, mH.k⟩,
   xj := ⟨KA, iK.i, iK.k⟩,
   y3 := ⟨GB, fX.i, fX.k⟩,
   n9 := ⟨Bf, dS.i, dS.k⟩,
   OG := PySem.W.mg_of X G WM,
   IV := PySem.W.mg_of X G Qf,
   aD := ⟨aD.pg, aD.hd, aD.po, aD.sa⟩,
   bp := bp,
   fC := fC,
   a8 := a8,
   cw := cw,
   fu := fu,
   aR := aR,
   L6 := ⟨QG, eT.a, eT.i, QJ⟩,
   DP := ⟨gF.a, gF.i, gF.k⟩,
   Al := ⟨fL.a, fL.i, fL.k⟩,
   xI := ⟨ji.a, ji.i, ji.k⟩,
   mO := ⟨dj.a, dj.i, dj.k⟩,
   nP := ⟨dq.a, dq.i, dq.k⟩,
   z8 := ⟨fN.a, fN.i, fN.k⟩,
   lJ := ⟨e6.a, e6.i, e6.k⟩,
   yf := ⟨fi.a, fi.i, fi.k⟩,
   qv := ⟨BX, gT.i, gT.k⟩,
   gx := ⟨yH, fx.i, fx.k⟩,
   mz := ⟨A5, gg.i, gg.k⟩,
   gU := ⟨AX, f9.i, f9.k⟩,
   zQ := ⟨HV, oi.i, oi.k⟩,
   j4 := ⟨Ik, ro.i, ro.k⟩,
   nR := ⟨Bg, f6.i, f6.k⟩,
   qc := ⟨BI, gP.i, gP.k⟩,
   oZ := ⟨Hu, oF.i, oF.k⟩,
   tf := ⟨Ea, iN.i, iN.k⟩,
   gf := ⟨Eh, iI.i, iI.k⟩,
   sR := ⟨ER, iP.i, iP.k⟩,
   iF := ⟨Br, gQ.i, gQ.k⟩,
   PO := PySem.W.mg_of X G VF,
   yu := PySem.W.mg_of X G Qd,
   cn := ⟨cn.pg, cn.hd, cn.po, cn.sa⟩,
   dY := dY,
   de := de,
   eP := eP,
   cO := cO,
   G1 := ⟨Qi, dz.a, dz.i, QR⟩,
   lq := ⟨cX.a, cX.i, cX.k⟩,
   wc := ⟨cU.a, cU.i, cU.k⟩,
   tT := ⟨cz.a, cz.i, cz.k⟩,
   Ao := ⟨fQ.a, fQ.i, fQ.k⟩,
   lV := ⟨Be, dg.i, dg.k⟩,
   A6 := PySem.W.mg_of X G Nb,
   bw := ⟨bw.pg, bw.hd, bw.po, bw.sa⟩,
   df := df,
   cN := cN,
   dZ := dZ,
   cu := cu,
   dh := dh,
   Ef := ⟨N2, eB.a, eB.i, Oo⟩,
   jT := ⟨cE.a, cE.i, cE.k⟩,
   x8 := ⟨fe.a, fe.i, fe.k⟩,
   uA := ⟨D6, cU.i, cU.k⟩,
   pZ := ⟨B7, cz.i, cz.k⟩,
   kr := ⟨yM, dg.i, dg.k⟩,
   dW := ne_of_beq_false dW,
   jb := ne_of_beq_false jb,
   dJ := ne_of_beq_false dJ,
   gR := ne_of_beq_false gR,
   dU := ne_of_beq_false dU,
   iM := ne_of_beq_false iM,
   fW := ne_of_beq_false fW,
   di := ne_of_beq_false di,
   ie := ne_of_beq_false ie,
   nM := ⟨AI, Bj, AU, dz.k⟩,
   tS := ⟨Ek, D0, D9, jl.k⟩,
   sT := ⟨DZ, D2, D3, js.k⟩,
   Dp := PySem.W.mg_none_of X G Dp,
   GK := PySem.W.mg_none_of X G GK,
   bE := PySem.W.mg_none_of X G bE,
   Hw := PySem.W.mg_none_of X G Hw,
   yD := PySem.W.mg_none_of X G yD,
   KZ := PySem.W.mg_none_of X G KZ,
   rn := PySem.W.mg_none_of X G rn,
   pR := PySem.W.mg_none_of X G pR,
   fz := PySem.W.mg_none_of X G fz,
   KU := PySem.W.mg_none_of X G KU,
   DT := PySem.W.mg_none_of X G DT
 }⟩
def qt : Sp := fun vs H Q _ => ∃ v d, vs = [v] /\ Dv H v d /\ Q (.bl (isInt d && !isBool d)) H
theorem Wo {H : Hp} {Q : VK} {E : XK} {v : V} {d : PyData} (h : Dv H v d) (q : Q (.bl (isInt d && !isBool d)) H) : qt [v] H Q E := ⟨v, d, rfl, h, q⟩
def qu : Sp := fun vs H Q _ => ∃ n l x, vs = [.int n, .int l, .str x] /\ l <= n /\ Q .aS H
theorem Ya {H : Hp} {Q : VK} {E : XK} {n l : Int} {x : Str} (h : l <= n) (q : Q .aS H) : qu [.int n, .int l, .str x] H Q E := ⟨n, l, x, rfl, h, q⟩
def j0 (C : Addr) : Sp := fun vs H Q _ => ∃ p dx m, vs = [.ref p, m] /\ O6 m /\ H p = some (.ins C dx []) /\ Q .aS (upd H p (.ins C dx [("many", m)]))
theorem Lh {C p dx : Addr} {H : Hp} {Q : VK} {E : XK} {m : V} (hm : O6 m) (hp : H p = some (.ins C dx [])) (q : Q .aS (upd H p (.ins C dx [("many", m)]))) : j0 C [.ref p, m] H Q E := ⟨p, dx, m, rfl, hm, hp, q⟩
def mG (C : Addr) : Sp := fun vs H Q _ => ∃ v fs m n x d, vs = [v, .int n, x] /\ O6 m /\ oz H v C fs /\ fs.lookup ("many" : Str) = some m /\ Dv H x d /\ ∀ v' H', ay H H' -> Dv H' v' (.tuple [.int (UM m n), LY m n d]) -> Q v' H'
theorem NQ {C : Addr} {H : Hp} {Q : VK} {E : XK} {v x : V} {fs : List (Str × V)} {d : PyData} {m : V} {n : Int} (ho : O6 m) (hp : oz H v C fs) (hm : fs.lookup ("many" : Str) = some m) (hd : Dv H x d) (q : ∀ v' H', ay H H' -> Dv H' v' (.tuple [.int (UM m n), LY m n d]) -> Q v' H') : mG C [v, .int n, x] H Q E := ⟨v, fs, m, n, x, d, rfl, ho, hp, hm, hd, q⟩
def R4 (K : PySem.W.Frag) : Sp := fun vs H Q _ => ∃ (l : Addr) (ns : List Int), vs = [.ref l] /\ jj K H l (ns.map V.int) /\ ns.length <= 63 /\ ∀ H', Q (.bl true) H'
set_option hygiene false in
local macro_rules | `(tactic| walk_at "bd") => `(tactic| first | exact ⟨by omega, by omega⟩ | fail)
set_option hygiene false in
local macro_rules | `(tactic| walk_at "bd") => `(tactic| first | assumption | fail)
set_option hygiene false in
local macro_rules | `(tactic| walk_at "mok") => `(tactic| first | exact Or.inr ⟨_, rfl, by omega⟩ | fail)
set_option hygiene false in
local macro_rules | `(tactic| walk_at "mok") => `(tactic| first | exact Or.inl rfl | fail)
set_option hygiene false in
local macro_rules | `(tactic| walk_at "mok") => `(tactic| first | assumption | fail)
local macro_rules | `(tactic| walk_at "use") => `(tactic| first | ((with_reducible refine' NQ ?e0 ?e1 ?e2 ?e3 (fun _ _ _ _ => ?_)); (case e1 => walk_at "ins"); (case e2 => walk_at "lk"); (case e0 => walk_at "mok"); (case e3 => walk_at "dat")) | fail)
local macro_rules | `(tactic| walk_at "use") => `(tactic| first | ((with_reducible refine' abb ?e1 ?e2 ?_); (case e1 => walk_at "sql"); (case e2 => omega)) | fail)
local macro_rules | `(tactic| walk_at "use") => `(tactic| first | ((with_reducible refine' Lh ?e1 ?e2 ?_); (case e1 => walk_at "mok"); (case e2 => walk_at "at")) | fail)
local macro_rules | `(tactic| walk_at "use") => `(tactic| first | ((with_reducible refine' Ya ?e ?_); case e => walk_at "side") | fail)
local macro_rules | `(tactic| walk_at "use") => `(tactic| first | ((with_reducible refine' Wo ?e ?_); case e => walk_at "dat") | fail)
section
variable {P : Program} {w : World} {K : PySem.W.Frag} {mg : Str -> Option Value} {base : Heap} {a : Ad}
theorem Mm (T : Txt K mg a) : aL P w K mg base eU 1 a.eG a.Fu ["thing"] qt := by
 refine T.AQ.ok LZ (fun vs H Q E h => ?_) (fun c3 A outer s H vs Q E hr h => ?_)
 . obtain ⟨_, _, rfl, _⟩ := h; rfl
 . obtain ⟨v, d, rfl, hd, k⟩ := h
   refine ⟨_, (ag (aB (Ig (bB k7 rfl T.bE PyProof.Rows.boot_isinstance (ae (pv 0) (ae (rR (v := .ty "int") rfl T.GK PyProof.Rows.boot_int rfl) ai))) (Hx (S3 (bB k7 rfl T.bE PyProof.Rows.boot_isinstance (ae (pv 0) (ae (rR (v := .ty "bool") rfl T.Dp PyProof.Rows.boot_bool rfl) ai)))))))), ?_⟩
   repeat' (walk_at "rd1")
   . refine XJ ?_; cases d <;> simp_all [isInt, isBool]
   . refine XJ ?_; cases d <;> simp_all [isInt, isBool]
theorem Kv (T : Txt K mg a) : dE P w K mg base 1 a.eG ["thing"] [] qt :=
 ⟨⟨_, _, Mm T, T.AQ.binds fun _ _ _ _ _ _ => .all fun us hl => match us, hl with | [_], _ => rfl, .nil⟩⟩
theorem Iq (T : Txt K mg a) : aL P w K mg base eU 2 a.bJ a.zb ["number", "least", "what"] qu := by
 have Ow : dE P w K mg base 1 a.eG ["thing"] [] qt := Kv T
 refine T.rp.ok Il (fun vs H Q E h => ?_) (fun c3 A outer s H vs Q E hr h => ?_)
 . obtain ⟨_, _, _, rfl, _⟩ := h; rfl
 . obtain ⟨n, l, x, rfl, hl, k⟩ := h
   refine ⟨_, (ag (bW (PW.pt (OX (rQ (dC (c6 Ow (hr.mono (by decide)) rfl T.E3 T.Fc (ae (pv 0) ai)) (fun _ => rfl))) (N3 (aJ HK (pv 0) (pv 1) (aI _)))))
    (ag cP)
    aM)), ?_⟩
   repeat' (walk_at "rd1")
   exact k
theorem kU (T : Txt K mg a) : dE P w K mg base 2 a.bJ ["number", "least", "what"] [] qu :=
 ⟨⟨_, _, Iq T, T.rp.binds fun _ _ _ _ _ _ => .all fun us hl => match us, hl with | [_, _, _], _ => rfl, .nil⟩⟩
theorem KL {C : Addr} (T : Txt K mg a) (cl : vA K C) (na : aG K C "many") : aL P w K mg base eU 3 a.bu a.pA ["self", "many"] (j0 C) := by
 have eE : dE P w K mg base 2 a.bJ ["number", "least", "what"] [] qu := kU T
 refine T.jr.ok Em (fun vs H Q E h => ?_) (fun c3 A outer s H vs Q E hr h => ?_)
 . obtain ⟨_, _, _, rfl, _⟩ := h; rfl
 . obtain ⟨p, dx, m, rfl, hm, hp, k⟩ := h
   refine ⟨_, (af (bW (aJ rW (pv 1) d0 (aI _))
    (ag (aT (c6 eE (hr.mono (by decide)) rfl T.eQ T.eN (ae (pv 1) (ae ak (ae gY ai))))))
    aM)
    (ag (bh (pv 0) (pv 1) rfl))), ?_⟩
   rcases hm with rfl | ⟨i, rfl, hi⟩
   . repeat' (walk_at "rd1")
     exact k
   . repeat' (walk_at "rd1")
     exact k
theorem Iu {C : Addr} (T : Txt K mg a) (cl : vA K C) (na : aG K C "many") : dE P w K mg base 3 a.bu ["self", "many"] [] (j0 C) :=
 ⟨⟨_, _, KL T cl na, T.jr.binds fun _ _ _ _ _ _ => .all fun us hl => match us, hl with | [_, _], _ => rfl, .nil⟩⟩
theorem GR (T : Txt K mg a) : aL P w K mg base eU 1 a.b6 a.sG ["_law_script", "_law_k"] (M9 K) := by
 refine T.lH.ok Gb (fun vs H Q E h => ?_) (fun c3 A outer s H vs Q E hr h => ?_)
 . obtain ⟨_, _, _, rfl, _⟩ := h; rfl
 . obtain ⟨l, ns, i, rfl, hl, h0, k⟩ := h
   refine ⟨_, (af (bW (aJ HK (pv 1) (bB Jx rfl T.Hw PySem.boot_len (ae (pv 0) ai)) (aI _))
    (ag (aB (bV eV (pv 0) (pv 1) (fun _ _ => rfl))))
    aM)
    (ag (aB ak))), ?_⟩
   repeat' (walk_at "rd1")
   . exact Yw hl (OJ h0 (by assumption)) k
   . rw [VP h0 (by assumption)] at k; exact k
theorem Ge (T : Txt K mg a) : dE P w K mg base 1 a.b6 ["_law_script", "_law_k"] [] (M9 K) :=
 ⟨⟨_, _, GR T, T.lH.binds fun _ _ _ _ _ _ => .all fun us hl => match us, hl with | [_, _], _ => rfl, .nil⟩⟩
theorem P1 (T : Txt K mg a) (s : Shared) (u : Value) : BindsTo s a.K4 ⟨[u], []⟩ [("_law_script", u)] := by
 obtain ⟨oc, od, kV, doc, pm, an, c3, ct, U1, e, lk, RL⟩ := T.Uh.ex
 rw [e]
 exact .of_eq rfl
theorem Lz {C : Addr} (T : Txt K mg a) (cl : vA K C) (na : aG K C "many") : aL P w K mg base eU 1 a.aO a.qY ["self", "number", "stretch"] (mG C) := by
 refine T.jB.ok Ed (fun vs H Q E h => ?_) (fun c3 A outer s H vs Q E hr h => ?_)
 . obtain ⟨_, _, _, _, _, _, rfl, _⟩ := h; rfl
 . obtain ⟨v, fs, m, n, x, d, rfl, ho, hp, hm, hd, k⟩ := h
   refine ⟨_, (af (bW (PW.pt (EH (aJ rW (av (pv 0) rfl) d0 (aI _)) (yx (aJ aeS (pv 1) (av (pv 0) rfl) (aI _)))))
    (ag (aB (c5 (ae (av (pv 0) rfl) (ae d0 ai)))))
    aM)
    (ag (aB (c5 (ae (pv 1) (ae (pv 2) ai)))))), ?_⟩
   rcases ho with rfl | ⟨i, rfl, hi⟩
   . repeat' (walk_at "rd1")
     (refine k _ _ ?_ ?_; walk_at "same"; walk_at "dat")
   . repeat' (walk_at "rd1")
     . rename_i hb _ _ _ _
       rw [WR hb, O5 hb] at k
       (refine k _ _ ?_ ?_; walk_at "same"; walk_at "dat")
     . rename_i hb _ _ _ _
       rw [XM hb, OL hb] at k
       (refine k _ _ ?_ ?_; walk_at "same"; walk_at "dat")
theorem Ka {C : Addr} (T : Txt K mg a) (cl : vA K C) (na : aG K C "many") : dE P w K mg base 1 a.aO ["self", "number", "stretch"] [] (mG C) :=
 ⟨⟨_, _, Lz T cl na, T.jB.binds fun _ _ _ _ _ _ => .all fun us hl => match us, hl with | [_, _, _], _ => rfl, .nil⟩⟩
def D5 (args : List V) : Prop := ∃ st gp wd m, args = [.int st, .int gp, .int wd, m] /\ 0 <= st /\ 1 <= gp /\ 0 <= wd /\ O6 m
theorem xT {C : Addr} (T : Txt K mg a) (cl : vA K C) (n0 : aG K C "many") (n1 : aG K C "start") (n2 : aG K C "gap") (n3 : aG K C "wide") : aL P w K mg base eU 4 a.aQ a.gk ["self", "start", "gap", "wide", "many"] (wR C D5 B2) := by
 have eE : dE P w K mg base 2 a.bJ ["number", "least", "what"] [] qu := kU T
 have F3 : dE P w K mg base 3 a.bu ["self", "many"] [] (j0 C) := Iu T cl n0
 refine T.gJ.ok Bi (fun vs H Q E h => ?_) (fun c3 A outer s H vs Q E hr h => ?_)
 . obtain ⟨_, _, _, rfl, ⟨_, _, _, _, rfl, _⟩, _⟩ := h; rfl
 . obtain ⟨p, dx, args, rfl, ⟨st, gp, wd, m, rfl, h0, h1, h2, hm⟩, hp, k⟩ := h
   refine ⟨_, (af (aT (c6 eE (hr.mono (by decide)) rfl T.eQ T.eN (ae (pv 1) (ae ak (ae gY ai)))))
    (af (aT (c6 eE (hr.mono (by decide)) rfl T.eQ T.eN (ae (pv 2) (ae ak (ae gY ai)))))
    (af (aT (c6 eE (hr.mono (by decide)) rfl T.eQ T.eN (ae (pv 3) (ae ak (ae gY ai)))))
    (af (aT (KO rfl T.PO T.tS F3 (hr.mono (by decide)) (ae (pv 0) (ae (pv 4) ai))))
    (af (bh (pv 0) (pv 1) rfl)
    (af (bh (pv 0) (pv 2) rfl)
    (ag (bh (pv 0) (pv 3) rfl)))))))), ?_⟩
   repeat' (walk_at "rd1")
   simp only [jY]
   exact k
theorem GL (T : Txt K mg a) : Binds K a.gk ["self", "start", "gap", "wide", "many"] [] := T.gJ.binds fun _ _ _ _ _ _ s us kx hl => by
 obtain ⟨o, n, h1, h2⟩ := T.mr.ex
 have hl : us.length = 5 := by simp at hl; omega
 match us, hl with
 | [_, _, _, _, _], _ => exact PySem.W.binds_K kx rfl h1 h2 rfl rfl
theorem Cg (T : Txt K mg a) : dE P w K mg base 4 a.aQ ["self", "start", "gap", "wide", "many"] [] (wR a.az D5 B2) := ⟨⟨_, _, xT T T.cn T.dY T.de T.eP T.cO, GL T, .nil⟩⟩
def Eg (C : Addr) (fs : List (Str × V)) (g : Int -> Int) : Sp := fun vs H Q _ => ∃ v n, vs = [v, .int n] /\ oz H v C fs /\ 1 <= n /\ n < 10 ^ 200 /\ Q (.int (g n)) H
theorem adn {C : Addr} {fs : List (Str × V)} {g : Int -> Int} {H : Hp} {Q : VK} {E : XK} {v : V} {n : Int} (hp : oz H v C fs) (hn : 1 <= n) (hb : n < 10 ^ 200) (q : Q (.int (g n)) H) : Eg C fs g [v, .int n] H Q E := ⟨v, n, rfl, hp, hn, hb, q⟩
def nJ (C : Addr) (fs : List (Str × V)) (g : Int -> Int) (wd : Int) (m : V) : Sp := fun vs H Q _ => ∃ v n s, vs = [v, .int n, .int s] /\ oz H v C fs /\ 0 <= n /\ n < 10 ^ 100 /\ ∀ v' H', ay H H' -> Dv H' v' (LY m (n + 1) (.tuple [.int (s + g (n + 1)), .int (s + g (n + 1) + wd)])) -> Q v' H'
theorem A2 {C : Addr} {fs : List (Str × V)} {g : Int -> Int} {wd : Int} {m : V} {H : Hp} {Q : VK} {E : XK} {v : V} {n s : Int} (hp : oz H v C fs) (hn : 0 <= n) (hb : n < 10 ^ 100) (q : ∀ v' H', ay H H' -> Dv H' v' (LY m (n + 1) (.tuple [.int (s + g (n + 1)), .int (s + g (n + 1) + wd)])) -> Q v' H') : nJ C fs g wd m [v, .int n, .int s] H Q E := ⟨v, n, s, rfl, hp, hn, hb, q⟩
def rS (C : Addr) (fs : List (Str × V)) (st wd : Int) : Sp := fun vs H Q _ => ∃ v, vs = [v] /\ oz H v C fs /\ ∀ v' H', ay H H' -> Dv H' v' (.tuple [.int st, .int (st + wd)]) -> Q v' H'
theorem D1 {C : Addr} {fs : List (Str × V)} {st wd : Int} {H : Hp} {Q : VK} {E : XK} {v : V} (hp : oz H v C fs) (q : ∀ v' H', ay H H' -> Dv H' v' (.tuple [.int st, .int (st + wd)]) -> Q v' H') : rS C fs st wd [v] H Q E := ⟨v, rfl, hp, q⟩
local macro_rules | `(tactic| walk_at "use") => `(tactic| first | ((with_reducible refine' D1 ?e (fun _ _ _ _ => ?_)); (case e => walk_at "ins")) | fail)
local macro_rules | `(tactic| walk_at "use") => `(tactic| first | ((with_reducible refine' A2 ?e ?e2 ?e3 (fun _ _ _ _ => ?_)); (case e => walk_at "ins"); (case e2 => omega); (case e3 => omega)) | fail)
local macro_rules | `(tactic| walk_at "use") => `(tactic| first | ((with_reducible refine' adn ?e ?e2 ?e3 ?_); (case e => walk_at "ins"); (case e2 => omega); (case e3 => omega)) | fail)
theorem FE {C fg : Addr} {fs : List (Str × V)} {g : Int -> Int} {wd : Int} {m : V} (T : Txt K mg a) (cl : vA K C) (n0 : aG K C "many") (n3 : aG K C "wide") (MH : Meth K C "gap_ahead" fg) (Nz : Meth K C "place_of" a.aO)
 (LV : dE P w K mg base 1 fg ["self", "number"] [] (Eg C fs g)) (ho : O6 m) (l1 : fs.lookup ("many" : Str) = some m) (l2 : fs.lookup ("wide" : Str) = some (.int wd)) (l3 : fs.lookup ("gap_ahead" : Str) = none) (l4 : fs.lookup ("place_of" : Str) = none) :
 aL P w K mg base eU 2 a.a7 a.pV ["self", "number", "settled"] (nJ C fs g wd m) := by
 have MP : dE P w K mg base 1 a.aO ["self", "number", "stretch"] [] (mG C) := Ka T cl n0
 refine T.f7.ok qq (fun vs H Q E h => ?_) (fun c3 A outer s H vs Q E hr h => ?_)
 . obtain ⟨_, _, _, rfl, _⟩ := h; rfl
 . obtain ⟨v, n, sd, rfl, hp, hn, hb, k⟩ := h
   refine ⟨_, (af (aN (i := 3) qq.nd rfl (Or.inl rfl) (aC bU (pv 2) (aF (pv 0) cl MH LV (hr.mono (by decide)) (ae (aC bU (pv 1) ak) ai))))
    (ag (aB (bV eV (aF (pv 0) cl Nz MP (hr.mono (by decide)) (ae (aC bU (pv 1) ak) (ae (c5 (ae (pv 3) (ae (aC bU (pv 3) (av (pv 0) rfl)) ai))) ai))) ak (fun _ _ => rfl))))), ?_⟩
   repeat' (walk_at "rd1")
   (refine k _ _ ?_ ?_; walk_at "same"; walk_at "dat")
theorem HL {C : Addr} {fs : List (Str × V)} {st wd : Int} (T : Txt K mg a) (cl : vA K C) (n1 : aG K C "start") (n3 : aG K C "wide") (l1 : fs.lookup ("start" : Str) = some (.int st)) (l2 : fs.lookup ("wide" : Str) = some (.int wd)) :
 aL P w K mg base eU 1 a.bj a.tY ["self"] (rS C fs st wd) := by
 refine T.gX.ok FZ (fun vs H Q E h => ?_) (fun c3 A outer s H vs Q E hr h => ?_)
 . obtain ⟨_, rfl, _⟩ := h; rfl
 . obtain ⟨v, rfl, hp, k⟩ := h
   refine ⟨_, (ag (aB (c5 (ae (av (pv 0) rfl) (ae (aC bU (av (pv 0) rfl) (av (pv 0) rfl)) ai))))), ?_⟩
   repeat' (walk_at "rd1")
   (refine k _ _ ?_ ?_; walk_at "same"; walk_at "dat")
theorem SF {st gp wd : Int} {m : V} (T : Txt K mg a) : aL P w K mg base eU 1 a.bx a.jV ["self", "number"] (Eg a.az [("many", m), ("start", .int st), ("gap", .int gp), ("wide", .int wd)] (fun _ => gp)) := by
 have cl := T.cn
 have n1 := T.eP
 refine T.gm.ok yG (fun vs H Q E h => ?_) (fun c3 A outer s H vs Q E hr h => ?_)
 . obtain ⟨_, _, rfl, _⟩ := h; rfl
 . obtain ⟨v, n, rfl, hp, hn, hb, k⟩ := h
   refine ⟨_, (ag (aB (av (pv 0) rfl))), ?_⟩
   repeat' (walk_at "rd1")
   exact k
theorem QS {st gp wd : Int} {m : V} (T : Txt K mg a) : dE P w K mg base 1 a.bx ["self", "number"] [] (Eg a.az [("many", m), ("start", .int st), ("gap", .int gp), ("wide", .int wd)] (fun _ => gp)) :=
 ⟨⟨_, _, SF T, T.gm.binds fun _ _ _ _ _ _ => .all fun us hl => match us, hl with | [_, _], _ => rfl, .nil⟩⟩
def gS (gp mo n : Int) : Int := min (gp * 2 ^ (n - 1).toNat) mo
theorem abC {gp mo : Int} (h : gp <= mo) : gS gp mo 1 = gp := by
 have e : ((1 : Int) - 1).toNat = 0 := by decide
 unfold gS
 rw [e, Int.pow_zero, Int.mul_one]
 omega
theorem Wy {gp mo n : Int} (hn : 1 <= n) (h : 0 <= mo) : gS gp mo (n + 1) = min (2 * gS gp mo n) mo := by
 unfold gS
 rw [show n + 1 - 1 = n by omega, Jp (show 0 < n by omega)]
 rw [<- Int.mul_assoc, Int.mul_comm gp 2, Int.mul_assoc]
 generalize gp * 2 ^ (n - 1).toNat = x
 omega
theorem TJ {gp mo n : Int} (h : 1 <= gp) (h2 : gp <= mo) : 1 <= gS gp mo n := by
 unfold gS
 have h3 := LD (n - 1).toNat
 have h4 : 1 * 1 <= gp * 2 ^ (n - 1).toNat := Int.mul_le_mul h h3 (by decide) (by omega)
 omega
theorem acQ {gp mo n : Int} : gS gp mo n <= mo := by unfold gS; omega
def HI (args : List V) : Prop := ∃ st gp mo wd m, args = [.int st, .int gp, .int mo, .int wd, m] /\ 0 <= st /\ 1 <= gp /\ gp <= mo /\ 0 <= wd /\ O6 m
local macro_rules | `(tactic| walk_at "use") => `(tactic| ((with_reducible refine' abw ?e1 ?e2 ?_); (case e2 => walk_at "at"); (case e1 => exact ⟨_, _, _, _, rfl, by omega, by omega, by omega, by walk_at "mok"⟩)))
theorem F2 (T : Txt K mg a) : aL P w K mg base eU 5 a.bz a.fH ["self", "start", "gap", "most", "wide", "many"] (wR a.au HI BV) := by
 have eE : dE P w K mg base 2 a.bJ ["number", "least", "what"] [] qu := kU T
 have Dh : dE P w K mg base 4 a.aQ ["self", "start", "gap", "wide", "many"] [] (wR a.au D5 B2) := ⟨⟨_, _, xT T T.bw T.df T.cN T.dZ T.cu, GL T, .nil⟩⟩
 have cl := T.bw
 have n1 := T.dh
 refine T.gw.ok yK (fun vs H Q E h => ?_) (fun c3 A outer s H vs Q E hr h => ?_)
 . obtain ⟨_, _, _, rfl, ⟨_, _, _, _, _, rfl, _⟩, _⟩ := h; rfl
 . obtain ⟨p, dx, args, rfl, ⟨st, gp, mo, wd, m, rfl, h0, h1, h2, h3, hm⟩, hp, k⟩ := h
   refine ⟨_, (af (aT (KO rfl T.yu T.nM Dh (hr.mono (by decide)) (ae (pv 0) (ae (pv 1) (ae (pv 2) (ae (pv 4) (ae (pv 5) ai)))))))
    (af (aT (c6 eE (hr.mono (by decide)) rfl T.eQ T.eN (ae (pv 3) (ae (pv 2) (ae gY ai)))))
    (ag (bh (pv 0) (pv 3) rfl)))), ?_⟩
   repeat' (walk_at "rd1")
   simp only [jY]
   exact k
theorem Mw (T : Txt K mg a) : Binds K a.fH ["self", "start", "gap", "most", "wide", "many"] [] := T.gw.binds fun _ _ _ _ _ _ s us kx hl => by
 obtain ⟨o, n, h1, h2⟩ := T.kO.ex
 have hl : us.length = 6 := by simp at hl; omega
 match us, hl with
 | [_, _, _, _, _, _], _ => exact PySem.W.binds_K kx rfl h1 h2 rfl rfl
theorem zP (T : Txt K mg a) : dE P w K mg base 5 a.bz ["self", "start", "gap", "most", "wide", "many"] [] (wR a.au HI BV) := ⟨⟨_, _, F2 T, Mw T, .nil⟩⟩
structure SIx where
 st : Int
 gp : Int
 mo : Int
 wd : Int
 m : V
 ho : O6 m
 h1 : 1 <= gp
 h2 : gp <= mo
 hb : mo < 10 ^ 100
abbrev fS (i : SIx) : List (Str × V) := [("many", i.m), ("start", .int i.st), ("gap", .int i.gp), ("wide", .int i.wd), ("most", .int i.mo)]
theorem S4 (i : SIx) (T : Txt K mg a) : aL P w K mg base eU 1 a.bb a.je ["self", "number"] (Eg a.au (fS i) (gS i.gp i.mo)) := by
 have cl := T.bw
 have n1 := T.dZ
 have n2 := T.dh
 obtain ⟨st, gp, mo, wd, m, ho, h1, h2, h3⟩ := i
 refine T.fK.ok b8 (fun vs H Q E h => ?_) (fun c3 A outer s H vs Q E hr h => ?_)
 . obtain ⟨_, _, rfl, _⟩ := h; rfl
 . obtain ⟨v, n, rfl, hp, hn, hb, k⟩ := h
   refine ⟨_, (af (aN (i := 2) b8.nd rfl (Or.inl rfl) (av (pv 0) rfl))
    (af (aN (i := 3) b8.nd rfl (Or.inl rfl) (aC AK (pv 1) ak))
    (af (GJ PassesOwn.never (PW.pt (EH (aJ RZ (pv 3) ak (aI _)) (yx (aJ HK (pv 2) (av (pv 0) rfl) (aI _)))))
     (af (aN (i := 2) b8.nd rfl (Or.inl rfl) (aC DH (pv 2) ak))
     (ag (aN (i := 3) b8.nd rfl (Or.inl rfl) (aC AK (pv 3) ak)))))
    (ag (aB (bB (DX rfl) rfl T.rn PyProof.Rows.boot_min (ae (pv 2) (ae (av (pv 0) rfl) ai)))))))), ?_⟩
   repeat' (walk_at "rd1")
   refine JV (fun j σ' H' => ∃ g e, σ' = [some v, some (.int n), some (.int g), some (.int e)] /\ H' = H /\ 1 <= g /\ g <= 2 * mo /\ 0 <= e /\ j = e.toNat /\ min (g * 2 ^ e.toNat) mo = gS gp mo n) ⟨_, gp, n - 1, rfl, rfl, h1, by omega, by omega, rfl, rfl⟩ ?_
   rintro j σ' H' ⟨g, e, rfl, rfl, hg, hg2, he, rfl, hG⟩
   have X7 : g * 1 <= g * 2 ^ e.toNat := Int.mul_le_mul_of_nonneg_left (LD _) (by omega)
   repeat' (walk_at "rd1")
   . refine ⟨_, ?_, _, _, rfl, rfl, by omega, by omega, by omega, rfl, ?_⟩
     . omega
     . rw [Int.mul_assoc, <- Jp (by assumption)]; exact hG
   . rename_i x hx hx1 hx2
     have e0 : x = gS gp mo n := by rw [<- hG]; omega
     subst e0
     exact k
   . rename_i x hx hx1 hx2
     have e1 : e.toNat = 0 := by omega
     have e0 : x = gS gp mo n := by rw [<- hG, e1, Int.pow_zero, Int.mul_one]; omega
     subst e0
     exact k
theorem Rj (i : SIx) (T : Txt K mg a) : dE P w K mg base 1 a.bb ["self", "number"] [] (Eg a.au (fS i) (gS i.gp i.mo)) :=
 ⟨⟨_, _, S4 i T, T.fK.binds fun _ _ _ _ _ _ => .all fun us hl => match us, hl with | [_, _], _ => rfl, .nil⟩⟩
structure BIx where
 st : Int
 gp : Int
 wd : Int
 m : V
 ho : O6 m
abbrev fB (i : BIx) : List (Str × V) := [("many", i.m), ("start", .int i.st), ("gap", .int i.gp), ("wide", .int i.wd)]
inductive RU where
 | behind (st gp wd : Int) (m : V)
 | vV (st gp mo wd : Int) (m : V)
def mny : RU -> V
 | .behind _ _ _ m => m
 | .vV _ _ _ _ m => m
def pE (a : Ad) (H : Hp) (v : V) : RU -> Prop
 | .behind st gp wd m => oz H v a.az [("many", m), ("start", .int st), ("gap", .int gp), ("wide", .int wd)] /\ O6 m /\ 0 <= st /\ 1 <= gp /\ gp < 10 ^ 50 /\ 0 <= wd /\ wd < 10 ^ 50
 | .vV st gp mo wd m => oz H v a.au [("many", m), ("start", .int st), ("gap", .int gp), ("wide", .int wd), ("most", .int mo)] /\ O6 m /\ 0 <= st /\ 1 <= gp /\ gp <= mo /\ mo < 10 ^ 50 /\ 0 <= wd /\ wd < 10 ^ 50
theorem pE.keeps {H H' : Hp} {v : V} {r : RU} (s : ay H H') (h : pE a H v r) : pE a H' v r := by
 cases r <;> exact ⟨oz.keeps s h.1, h.2⟩
theorem pE.fr {cs S : List Addr} {H H' : Hp} {v : V} {r : RU} (f : Fr cs S H H')
 (nB : a.az ∉ cs)
 (nS : a.au ∉ cs)
 (h : pE a H v r) : pE a H' v r := by
 cases r with
 | behind => exact ⟨f.ins nB h.1, h.2⟩
 | vV => exact ⟨f.ins nS h.1, h.2⟩
local macro_rules | `(tactic| walk_at "ris") => `(tactic| first | (refine' pE.keeps ?s ?m; (case s => assumption); (case m => walk_at "ris")) | fail)
set_option hygiene false in
local macro_rules | `(tactic| walk_at "ris") => `(tactic| first | assumption | fail)
def pD (p : Int × Int) : PyData := .tuple [.int p.1, .int p.2]
def VQ : Option (Int × Int) -> PyData
 | none => .none
 | some p => pD p
def IM (m : V) (k : Int) (p : Int × Int) : Int × Option (Int × Int) := match m with
 | .int i => if i <= k then (i, none) else (k, some p)
 | _ => (k, some p)
def J1 : RU -> Int × Int
 | .behind st _ wd _ => (st, st + wd)
 | .vV st _ _ wd _ => (st, st + wd)
def V6 : RU -> Int -> Int
 | .behind _ gp _ _, _ => gp
 | .vV _ gp mo _ _, n => gS gp mo n
def Zq : RU -> Int
 | .behind _ _ wd _ => wd
 | .vV _ _ _ wd _ => wd
def Lf (r : RU) (n s : Int) : Option (Int × Int) := (IM (mny r) (n + 1) (s + V6 r (n + 1), s + V6 r (n + 1) + Zq r)).2
theorem Ve {m : V} {k x y : Int} : LY m k (.tuple [.int x, .int y]) = VQ (IM m k (x, y)).2 := by
 cases m with
 | int i =>
   by_cases h : i <= k
   . rw [O5 h]; simp [IM, h, VQ]
   . rw [OL h]; simp [IM, h, VQ, pD]
 | _ => rfl
theorem UO {r : RU} {n : Int} {H : Hp} {v : V} (h : pE a H v r) : 1 <= V6 r n /\ 0 <= Zq r := by
 cases r with
 | behind st gp wd m => obtain ⟨_, _, _, h1, _, h2, _⟩ := h; exact ⟨h1, h2⟩
 | vV st gp mo wd m => obtain ⟨_, _, _, h1, h3, _, h2, _⟩ := h; exact ⟨TJ h1 h3, h2⟩
def B9 (C : Addr) : Sp := fun vs H Q E => ∃ i : BIx, nJ C (fB i) (fun _ => i.gp) i.wd i.m vs H Q E
theorem IJ (T : Txt K mg a) : dE P w K mg base 2 a.a7 ["self", "number", "settled"] [] (B9 a.az) :=
 ⟨⟨_, _, aL.ex fun i : BIx => FE T T.cn T.dY T.cO T.lq T.lV (QS T) i.ho (by walk_at "lk") (by walk_at "lk") (by walk_at "lk") (by walk_at "lk"), T.f7.binds fun _ _ _ _ _ _ => .all fun us hl => match us, hl with | [_, _, _], _ => rfl, .nil⟩⟩
def Cd (C : Addr) : Sp := fun vs H Q E => ∃ i : SIx, nJ C (fS i) (gS i.gp i.mo) i.wd i.m vs H Q E
theorem IQ (T : Txt K mg a) : dE P w K mg base 2 a.a7 ["self", "number", "settled"] [] (Cd a.au) :=
 ⟨⟨_, _, aL.ex fun i : SIx => FE T T.bw T.df T.cu T.jT T.kr (Rj i T) i.ho (by walk_at "lk") (by walk_at "lk") (by walk_at "lk") (by walk_at "lk"), T.f7.binds fun _ _ _ _ _ _ => .all fun us hl => match us, hl with | [_, _, _], _ => rfl, .nil⟩⟩
def Fd (C : Addr) : Sp := fun vs H Q E => ∃ i : BIx, rS C (fB i) i.st i.wd vs H Q E
theorem Kc (T : Txt K mg a) : dE P w K mg base 1 a.bj ["self"] [] (Fd a.az) :=
 ⟨⟨_, _, aL.ex fun i : BIx => HL T T.cn T.de T.cO (by walk_at "lk") (by walk_at "lk"), T.gX.binds fun _ _ _ _ _ _ => .all fun us hl => match us, hl with | [_], _ => rfl, .nil⟩⟩
def FH (C : Addr) : Sp := fun vs H Q E => ∃ i : SIx, rS C (fS i) i.st i.wd vs H Q E
theorem KR (T : Txt K mg a) : dE P w K mg base 1 a.bj ["self"] [] (FH a.au) :=
 ⟨⟨_, _, aL.ex fun i : SIx => HL T T.bw T.cN T.cu (by walk_at "lk") (by walk_at "lk"), T.gX.binds fun _ _ _ _ _ _ => .all fun us hl => match us, hl with | [_], _ => rfl, .nil⟩⟩
def Hi (C : Addr) : Sp := fun vs H Q _ => ∃ v st gp wd m, vs = [v] /\ oz H v C [("many", m), ("start", .int st), ("gap", .int gp), ("wide", .int wd)] /\ O6 m /\ 0 <= st /\ 1 <= gp /\ 0 <= wd /\ ∀ v' H', ay H H' -> oz H' v' C [("many", m), ("start", .int st), ("gap", .int gp), ("wide", .int wd)] -> Q v' H'
theorem TK (T : Txt K mg a) : aL P w K mg base eU 6 a.dI a.w5 ["self"] (Hi a.az) := by
 have AW := Cg (P := P) (w := w) (base := base) T
 have cl := T.cn
 have n0 := T.dY; have n1 := T.de; have n2 := T.eP; have n3 := T.cO
 refine T.oH.ok G3 (fun vs H Q E h => ?_) (fun c3 A outer s H vs Q E hr h => ?_)
 . obtain ⟨_, _, _, _, _, rfl, _⟩ := h; rfl
 . obtain ⟨v, st, gp, wd, m, rfl, hp, ho, h0, h1, h2, k⟩ := h
   refine ⟨_, (ag (aB (yA T.G1 AW (hr.mono (by decide)) rfl T.yu (ae (av (pv 0) rfl) (ae (av (pv 0) rfl) (ae (av (pv 0) rfl) (ae (av (pv 0) rfl) ai))))))), ?_⟩
   repeat' (walk_at "rd1")
   . exact ⟨_, _, _, _, rfl, by omega, by omega, by omega, ho⟩
   . rename_i hi
     exact k _ _ (by walk_at "same") hi
theorem Qk (T : Txt K mg a) : dE P w K mg base 6 a.dI ["self"] [] (Hi a.az) :=
 ⟨⟨_, _, TK T, T.oH.binds fun _ _ _ _ _ _ => .all fun us hl => match us, hl with | [_], _ => rfl, .nil⟩⟩
def HJ (C : Addr) : Sp := fun vs H Q _ => ∃ v st gp mo wd m, vs = [v] /\ oz H v C [("many", m), ("start", .int st), ("gap", .int gp), ("wide", .int wd), ("most", .int mo)] /\ O6 m /\ 0 <= st /\ 1 <= gp /\ gp <= mo /\ 0 <= wd /\ ∀ v' H', ay H H' -> oz H' v' C [("many", m), ("start", .int st), ("gap", .int gp), ("wide", .int wd), ("most", .int mo)] -> Q v' H'
theorem Ur (T : Txt K mg a) : aL P w K mg base eU 7 a.cY a.sC ["self"] (HJ a.au) := by
 have xh := zP (P := P) (w := w) (base := base) T
 have cl := T.bw
 have n0 := T.df; have n1 := T.cN; have n2 := T.dZ; have n3 := T.cu; have n4 := T.dh
 refine T.lC.ok F9 (fun vs H Q E h => ?_) (fun c3 A outer s H vs Q E hr h => ?_)
 . obtain ⟨_, _, _, _, _, _, rfl, _⟩ := h; rfl
 . obtain ⟨v, st, gp, mo, wd, m, rfl, hp, ho, h0, h1, h2, h3, k⟩ := h
   refine ⟨_, (ag (aB (yA T.Ef xh (hr.mono (by decide)) rfl T.A6 (ae (av (pv 0) rfl) (ae (av (pv 0) rfl) (ae (av (pv 0) rfl) (ae (av (pv 0) rfl) (ae (av (pv 0) rfl) ai)))))))), ?_⟩
   repeat' (walk_at "rd1")
   . exact ⟨_, _, _, _, _, rfl, by omega, by omega, by omega, by omega, ho⟩
   . rename_i hi
     exact k _ _ (by walk_at "same") hi
theorem QN (T : Txt K mg a) : dE P w K mg base 7 a.cY ["self"] [] (HJ a.au) :=
 ⟨⟨_, _, Ur T, T.lC.binds fun _ _ _ _ _ _ => .all fun us hl => match us, hl with | [_], _ => rfl, .nil⟩⟩
section
variable {H : Hp} {Q : VK} {E : XK} {v : V} {st gp mo wd n s : Int} {m : V}
theorem adN (h : pE a H v (.behind st gp wd m)) (q : ∀ v' H', ay H H' -> Dv H' v' (pD (J1 (.behind st gp wd m))) -> Q v' H') : Fd a.az [v] H Q E := by
 obtain ⟨hp, ho, _⟩ := h
 exact ⟨⟨st, gp, wd, m, ho⟩, D1 hp q⟩
theorem adQ (h : pE a H v (.vV st gp mo wd m)) (q : ∀ v' H', ay H H' -> Dv H' v' (pD (J1 (.vV st gp mo wd m))) -> Q v' H') : FH a.au [v] H Q E := by
 obtain ⟨hp, ho, _, r2, r3, r6, _⟩ := h
 exact ⟨⟨st, gp, mo, wd, m, ho, r2, r3, by omega⟩, D1 hp q⟩
theorem ad3 (h : pE a H v (.behind st gp wd m)) (h1 : 0 <= n) (h2 : n < 10 ^ 60) (q : ∀ v' H', ay H H' -> Dv H' v' (VQ (Lf (.behind st gp wd m) n s)) -> Q v' H') : B9 a.az [v, .int n, .int s] H Q E := by
 obtain ⟨hp, ho, _⟩ := h
 exact ⟨⟨st, gp, wd, m, ho⟩, A2 hp h1 (by omega) fun v' H' s' d => q v' H' s' (by rw [Ve] at d; exact d)⟩
theorem acO (h : pE a H v (.vV st gp mo wd m)) (h1 : 0 <= n) (h2 : n < 10 ^ 60) (q : ∀ v' H', ay H H' -> Dv H' v' (VQ (Lf (.vV st gp mo wd m) n s)) -> Q v' H') : Cd a.au [v, .int n, .int s] H Q E := by
 obtain ⟨hp, ho, _, r2, r3, r6, _⟩ := h
 exact ⟨⟨st, gp, mo, wd, m, ho, r2, r3, by omega⟩, A2 hp h1 (by omega) fun v' H' s' d => q v' H' s' (by rw [Ve] at d; exact d)⟩
theorem aeG (h : pE a H v (.behind st gp wd m)) (q : ∀ v' H', ay H H' -> pE a H' v' (.behind st gp wd m) -> Q v' H') : Hi a.az [v] H Q E := by
 obtain ⟨hp, ho, r⟩ := h
 exact ⟨v, st, gp, wd, m, rfl, hp, ho, r.1, r.2.1, r.2.2.2.1, fun v' H' s' i => q v' H' s' ⟨i, ho, r⟩⟩
theorem ae0 (h : pE a H v (.vV st gp mo wd m)) (q : ∀ v' H', ay H H' -> pE a H' v' (.vV st gp mo wd m) -> Q v' H') : HJ a.au [v] H Q E := by
 obtain ⟨hp, ho, r⟩ := h
 exact ⟨v, st, gp, mo, wd, m, rfl, hp, ho, r.1, r.2.1, r.2.2.1, r.2.2.2.2.1, fun v' H' s' i => q v' H' s' ⟨i, ho, r⟩⟩
end
local macro_rules | `(tactic| walk_at "use") => `(tactic| first | ((with_reducible refine' acO ?e ?e1 ?e2 (fun _ _ _ _ => ?_)); (case e => walk_at "ris"); (case e1 => omega); (case e2 => omega)) | fail)
local macro_rules | `(tactic| walk_at "use") => `(tactic| first | ((with_reducible refine' ad3 ?e ?e1 ?e2 (fun _ _ _ _ => ?_)); (case e => walk_at "ris"); (case e1 => omega); (case e2 => omega)) | fail)
local macro_rules | `(tactic| walk_at "use") => `(tactic| first | ((with_reducible refine' ae0 ?e (fun _ _ _ _ => ?_)); case e => walk_at "ris") | fail)
local macro_rules | `(tactic| walk_at "use") => `(tactic| first | ((with_reducible refine' aeG ?e (fun _ _ _ _ => ?_)); case e => walk_at "ris") | fail)
local macro_rules | `(tactic| walk_at "use") => `(tactic| first | ((with_reducible refine' adQ ?e (fun _ _ _ _ => ?_)); case e => walk_at "ris") | fail)
local macro_rules | `(tactic| walk_at "use") => `(tactic| first | ((with_reducible refine' adN ?e (fun _ _ _ _ => ?_)); case e => walk_at "ris") | fail)
local macro_rules | `(tactic| walk_at "rd1") => `(tactic| first | ((with_reducible refine Y2 ?_); (with_reducible refine Kt ?_); (with_reducible refine YX ?_); ((with_reducible refine' L9 ?e ?_); case e => exact rfl); ((with_reducible refine' UJ ?e1 ?e2 ?e3 ?e4 ?_); (case e1 => walk_at "at"); (case e2 => assumption); (case e3 => assumption); (case e4 => walk_at "lk")); ((with_reducible refine' Kf ?e1 ?e2 ?_); (case e1 => walk_at "ins"); (case e2 => walk_at "lk"))) | fail)
def Bm (ts : List (Str × Int)) : List (Str × PyData) := ts.map fun x => (x.1, .int x.2)
structure EC (C : Addr) (H : Hp) (v : V) (d : Addr) (n : Int) (ts : List (Str × Int)) : Prop where
 ins : oz H v C [("now", .int n), ("times", .ref d)]
 dat : gA H d (Bm ts)
theorem EC.keeps {C : Addr} {H H' : Hp} {v : V} {d : Addr} {n : Int} {ts : List (Str × Int)} (s : ay H H') (h : EC C H v d n ts) : EC C H' v d n ts := ⟨h.ins.keeps s, h.dat.keeps s⟩
theorem Pp (ts : List (Str × Int)) : (Bm ts).length = ts.length := List.length_map ..
def xK : Sp := fun vs H Q _ => ∃ v n t, vs = [v, n, t] /\ Q .aS H
theorem Xa {H : Hp} {Q : VK} {E : XK} {v n t : V} (q : Q .aS H) : xK [v, n, t] H Q E := ⟨v, n, t, rfl, q⟩
set_option hygiene false in
local macro_rules | `(tactic| walk_at "use") => `(tactic| first | with_reducible refine Xa ?_ | fail)
theorem Sd (T : Txt K mg a) : aL P w K mg base eU 1 a.fm a.BJ ["self", "name", "time"] xK := by
 refine T.wA.ok KW (fun vs H Q E h => ?_) (fun c3 A outer s H vs Q E hr h => ?_)
 . obtain ⟨_, _, _, rfl, _⟩ := h; rfl
 . obtain ⟨v, n, t, rfl, q⟩ := h
   refine ⟨_, (ag Pb), ?_⟩
   repeat' (walk_at "rd1")
   exact q
theorem Rb (T : Txt K mg a) : dE P w K mg base 1 a.fm ["self", "name", "time"] [] xK :=
 ⟨⟨_, _, Sd T, T.wA.binds fun _ _ _ _ _ _ => .all fun us hl => match us, hl with | [_, _, _], _ => rfl, .nil⟩⟩
theorem Mh {m : List (Str × PyData)} {k : Str} {d : PyData} (h : ig m k = none) : putD m k d = m ++ [(k, d)] := by
 unfold putD
 rw [if_neg]
 unfold ig at h
 rw [Option.map_eq_none_iff, List.find?_eq_none] at h
 simp only [List.any_eq_true, not_exists, not_and]
 exact h
theorem Gu {C d : Addr} {H H' : Hp} {v : V} {fs : List (Str × V)} {m : List (Str × PyData)} (h : oz H v C fs) (hd : gA H d m) (mv : Mv [d] H H') : oz H' v C fs := by
 obtain ⟨p, dx, rfl, e⟩ := h
 obtain ⟨kvs, e2, _⟩ := hd
 exact ⟨p, dx, rfl, mv.at (by simpa using iq e e2 (by intro y; cases y)) e⟩
def M4 (C : Addr) : Sp := fun vs H Q _ => ∃ v d n ts x t, vs = [v, .str x, .int t] /\ EC C H v d n ts /\ ts.length <= 100 /\ ig (Bm ts) x = none /\ n < t /\ ∀ H', Mv [d] H H' -> EC C H' v d n (ts ++ [(x, t)]) -> Q .aS H'
theorem aeK {C : Addr} {H : Hp} {Q : VK} {E : XK} {v : V} {d : Addr} {n t : Int} {ts : List (Str × Int)} {x : Str} (h : EC C H v d n ts) (hl : ts.length <= 100) (hx : ig (Bm ts) x = none) (ht : n < t) (q : ∀ H', Mv [d] H H' -> EC C H' v d n (ts ++ [(x, t)]) -> Q .aS H') : M4 C [v, .str x, .int t] H Q E := ⟨v, d, n, ts, x, t, rfl, h, hl, hx, ht, q⟩
theorem abP (T : Txt K mg a) : aL P w K mg base eU 2 a.d9 a.BP ["self", "name", "time"] (M4 a.aH) := by
 have n1 := T.dO; have n2 := T.bL; have cl := T.cC
 have V9 := T.Fp
 have W0 := Rb (P := P) (w := w) (base := base) T
 refine T.vX.ok J2 (fun vs H Q E h => ?_) (fun c3 A outer s H vs Q E hr h => ?_)
 . obtain ⟨_, _, _, _, _, _, rfl, _⟩ := h; rfl
 . obtain ⟨v, d, n, ts, x, t, rfl, hw, hl, hx, ht, q⟩ := h
   have hi := hw.ins; have hd := hw.dat
   have hml := Pp ts
   refine ⟨_, (af (bW (J3 (U2 (fj hr) (pv 1) (av (pv 0) rfl)) rfl)
    (ag cP)
    aM)
    (af (bW (aJ L1 (pv 2) (av (pv 0) rfl) (aI _))
     (ag cP)
     aM)
    (af (Cq (fj hr) (av (pv 0) rfl) (pv 1) (pv 2) rfl)
    (ag (aT (aF (pv 0) cl V9 W0 (hr.mono (by decide)) (ae (pv 1) (ae (pv 2) ai)))))))), ?_⟩
   repeat' (walk_at "rd1")
   . rename_i o e hb
     rw [e, hx] at hb
     cases hb
   . rename_i o e hb1 hb2 H2 o9 hd2
     have RK := Gu hi hd o9
     rw [Mh hx] at hd2
     repeat' (walk_at "rd1")
     exact q _ o9 ⟨RK, by unfold Bm at hd2 ⊢; rw [List.map_append]; exact hd2⟩
theorem WB (T : Txt K mg a) : dE P w K mg base 2 a.d9 ["self", "name", "time"] [] (M4 a.aH) :=
 ⟨⟨_, _, abP T, T.vX.binds fun _ _ _ _ _ _ => .all fun us hl => match us, hl with | [_, _, _], _ => rfl, .nil⟩⟩
theorem UI (T : Txt K mg a) : aL P w K mg base eU 1 a.ft a.CK ["self", "name", "time"] xK := by
 refine T.wq.ok JO (fun vs H Q E h => ?_) (fun c3 A outer s H vs Q E hr h => ?_)
 . obtain ⟨_, _, _, rfl, _⟩ := h; rfl
 . obtain ⟨v, n, t, rfl, q⟩ := h
   refine ⟨_, (ag Pb), ?_⟩
   repeat' (walk_at "rd1")
   exact q
theorem Rr (T : Txt K mg a) : dE P w K mg base 1 a.ft ["self", "name", "time"] [] xK :=
 ⟨⟨_, _, UI T, T.wq.binds fun _ _ _ _ _ _ => .all fun us hl => match us, hl with | [_, _, _], _ => rfl, .nil⟩⟩
def EI (C : Addr) : Sp := fun vs H Q _ => ∃ v d n ts x t, vs = [v, .str x] /\ EC C H v d n ts /\ ig (Bm ts) x = some (.int t) /\ Q .aS H
theorem R3 {C : Addr} {H : Hp} {Q : VK} {E : XK} {v : V} {d : Addr} {n t : Int} {ts : List (Str × Int)} {x : Str} (h : EC C H v d n ts) (hx : ig (Bm ts) x = some (.int t)) (q : Q .aS H) : EI C [v, .str x] H Q E := ⟨v, d, n, ts, x, t, rfl, h, hx, q⟩
theorem PY (T : Txt K mg a) : aL P w K mg base eU 1 a.aW a.iX ["self", "name"] (EI a.aH) := by
 have n2 := T.bL; have cl := T.cC
 refine T.fF.ok xC (fun vs H Q E h => ?_) (fun c3 A outer s H vs Q E hr h => ?_)
 . obtain ⟨_, _, _, _, _, _, rfl, _⟩ := h; rfl
 . obtain ⟨v, d, n, ts, x, t, rfl, hw, hx, q⟩ := h
   have hi := hw.ins; have hd := hw.dat
   refine ⟨_, (ag (bW (J3 (Jy (fj hr) (pv 1) (av (pv 0) rfl)) rfl)
    (ag cP)
    aM)), ?_⟩
   repeat' (walk_at "rd1")
   . rename_i o e hb
     rw [e, hx] at hb
     cases hb
   . exact q
theorem NR (T : Txt K mg a) : dE P w K mg base 1 a.aW ["self", "name"] [] (EI a.aH) :=
 ⟨⟨_, _, PY T, T.fF.binds fun _ _ _ _ _ _ => .all fun us hl => match us, hl with | [_, _], _ => rfl, .nil⟩⟩
def Hv (C : Addr) : Sp := fun vs H Q _ => ∃ v d n ts x t, vs = [v, .str x] /\ EC C H v d n ts /\ ig (Bm ts) x = some (.int t) /\ ∀ H', Mv [d] H H' -> EC C H' v d n (ts.filter fun y => decide (y.1 ≠ x)) -> ∀ z, Q z H'
theorem V1 {C : Addr} {H : Hp} {Q : VK} {E : XK} {v : V} {d : Addr} {n t : Int} {ts : List (Str × Int)} {x : Str} (h : EC C H v d n ts) (hx : ig (Bm ts) x = some (.int t)) (q : ∀ H', Mv [d] H H' -> EC C H' v d n (ts.filter fun y => decide (y.1 ≠ x)) -> ∀ z, Q z H') : Hv C [v, .str x] H Q E := ⟨v, d, n, ts, x, t, rfl, h, hx, q⟩
theorem U8 (T : Txt K mg a) : aL P w K mg base eU 2 a.dD a.Ar ["self", "name"] (Hv a.aH) := by
 have n1 := T.dO; have n2 := T.bL; have cl := T.cC
 have V3 := T.Fh; have Im := T.n9
 have W6 := Rr (P := P) (w := w) (base := base) T
 have IG := NR (P := P) (w := w) (base := base) T
 refine T.rm.ok yZ (fun vs H Q E h => ?_) (fun c3 A outer s H vs Q E hr h => ?_)
 . obtain ⟨_, _, _, _, _, _, rfl, _⟩ := h; rfl
 . obtain ⟨v, d, n, ts, x, t, rfl, hw, hx, q⟩ := h
   have hi := hw.ins; have hd := hw.dat
   refine ⟨_, (af (aT (aF (pv 0) cl Im IG (hr.mono (by decide)) (ae (pv 1) ai)))
    (af (aN (i := 2) yZ.nd rfl (Or.inl rfl) (B8 PySem.F.plainAttrs_dict PySem.F.slot_dict_pop PySem.F.type_dict_pop Gr (av (pv 0) rfl) (ae (pv 1) ai)))
    (af (aT (aF (pv 0) cl V3 W6 (hr.mono (by decide)) (ae (pv 1) (ae (pv 2) ai))))
    (ag (aB (pv 2)))))), ?_⟩
   repeat' (walk_at "rd1")
   refine R3 hw hx ?_
   repeat' (walk_at "rd1")
   refine SN hd ?_
   repeat' (walk_at "rd1")
   refine MV hd hx (fun v6 H6 mv6 hd6 => ?_)
   have hi6 := Gu hi hd mv6
   repeat' (walk_at "rd1")
   refine q _ mv6 ⟨hi6, ?_⟩ _
   have e : Bm (ts.filter fun y => decide (y.1 ≠ x)) = mZ (Bm ts) x := by
    unfold mZ Bm
    rw [List.filter_map]; rfl
   rw [e]; exact hd6
theorem Qs (T : Txt K mg a) : dE P w K mg base 2 a.dD ["self", "name"] [] (Hv a.aH) :=
 ⟨⟨_, _, U8 T, T.rm.binds fun _ _ _ _ _ _ => .all fun us hl => match us, hl with | [_, _], _ => rfl, .nil⟩⟩
def HU (C : Addr) : Sp := fun vs H Q _ => ∃ p dx n, vs = [.ref p, .int n] /\ H p = some (.ins C dx []) /\ ∀ H' d, Mv [p] H H' -> H d = none -> EC C H' (.ref p) d n [] -> Q .aS H'
theorem U9 (T : Txt K mg a) : aL P w K mg base eU 1 a.bC a.mU ["self", "now"] (HU a.aH) := by
 have n1 := T.dO; have n2 := T.bL; have cl := T.cC
 refine T.iw.ok Ds (fun vs H Q E h => ?_) (fun c3 A outer s H vs Q E hr h => ?_)
 . obtain ⟨_, _, _, rfl, _⟩ := h; rfl
 . obtain ⟨p, dx, n, rfl, hp, q⟩ := h
   refine ⟨_, (af (bh (pv 0) (pv 1) rfl)
    (ag (bh (pv 0) jh rfl))), ?_⟩
   repeat' (walk_at "rd1")
   rename_i d H2 GP Io hd2
   have MM : Mv [p] H (upd H p (.ins a.aH dx [("now", .int n)])) := .bo hp (by intro _ z; cases z)
   have e2 := GP p _ ao
   have o9 : Mv [p] H2 (upd H2 p (.ins a.aH dx [("now", .int n), ("times", .ref d)])) := .bo e2 (by intro _ z; cases z)
   have hn : H d = none := MM.none Io
   have hpd : d ≠ p := Ne.symm (aA hp hn)
   exact q _ d (MM.trans ((GP.mv (S := [p])).trans o9)) hn ⟨⟨p, dx, rfl, ao⟩, hd2.mv o9 (by simpa using hpd)⟩
theorem Rl (T : Txt K mg a) : dE P w K mg base 1 a.bC ["self", "now"] [] (HU a.aH) :=
 ⟨⟨_, _, U9 T, T.iw.binds fun _ _ _ _ _ _ s us kx hl => by
   obtain ⟨o, n, h1, h2⟩ := T.qM.ex
   have hl : us.length = 2 := by simp at hl; omega
   match us, hl with
   | [_, _], _ => exact PySem.W.binds_K kx rfl h1 h2 rfl rfl, .nil⟩⟩
theorem Wt {C : Addr} {H : Hp} {Q : VK} {E : XK} {n : Int} {us : List V} (eu : us = [.int n]) (k : ∀ v H2 d, ay H H2 -> H d = none -> EC C H2 v d n [] -> Q v H2) : Fg C (HU C) us H Q E := by
 refine ⟨_, eu, fun x dx hx hd ne => ⟨x, dx, n, rfl, ao, fun H' d mv h1 hg => ⟨rfl, ?_⟩⟩⟩
 have z : ∀ {d : Addr}, upd (upd H dx (.own x)) x (.ins C dx []) d = none -> H d = none := by
  intro d h
  unfold upd at h
  split at h
  . cases h
  . split at h
    . cases h
    . exact h
 refine k _ _ d (fun b u e => ?_) (z h1) hg
 have hb : b ≠ x := aA e hx
 refine mv.kp b u (by simpa using hb) ?_
 rw [aq hb, aq (aA e hd)]
 exact e
def JM (C : Addr) : Sp := fun vs H Q _ => ∃ v d n ts x, vs = [v, .str x] /\ EC C H v d n ts /\ (∀ t, ig (Bm ts) x = some (.int t) -> Q (.int t) H) /\ (ig (Bm ts) x = none -> Q .aS H)
theorem Wb {ts : List (Str × Int)} {x : Str} {e : PyData} (h : ig (Bm ts) x = some e) : ∃ t, e = .int t := by
 unfold ig at h
 obtain ⟨kv, h1, rfl⟩ := Option.map_eq_some_iff.mp h
 obtain ⟨y, _, rfl⟩ := List.mem_map.mp (List.mem_of_find?_eq_some h1)
 exact ⟨_, rfl⟩
theorem Qe (T : Txt K mg a) : aL P w K mg base eU 1 a.bP a.pN ["self", "name"] (JM a.aH) := by
 have n1 := T.dO; have n2 := T.bL; have cl := T.cC
 refine T.jn.ok EW (fun vs H Q E h => ?_) (fun c3 A outer s H vs Q E hr h => ?_)
 . obtain ⟨_, _, _, _, _, rfl, _⟩ := h; rfl
 . obtain ⟨v, d, n, ts, x, rfl, hw, q1, q2⟩ := h
   have hi := hw.ins; have hd := hw.dat
   refine ⟨_, (ag (aB (UG (fj hr) (av (pv 0) rfl) (pv 1) ⟨rfl, rfl, rfl, rfl⟩))), ?_⟩
   repeat' (walk_at "rd1")
   refine Ti hd (fun e he v' hv' => ?_) (fun he => ?_)
   . obtain ⟨t, rfl⟩ := Wb he
     obtain rfl := hv'.int_inv
     exact q1 t he
   . exact q2 he
theorem Nw (T : Txt K mg a) : dE P w K mg base 1 a.bP ["self", "name"] [] (JM a.aH) :=
 ⟨⟨_, _, Qe T, T.jn.binds fun _ _ _ _ _ _ => .all fun us hl => match us, hl with | [_, _], _ => rfl, .nil⟩⟩
def LK (C : Addr) : Sp := fun vs H Q _ => ∃ v d n ts, vs = [v] /\ EC C H v d n ts /\ (ts = [] -> Q .aS H) /\ (∀ t ∈ ts.map (·.2), (∀ u ∈ ts.map (·.2), t <= u) -> Q (.int t) H)
theorem Vb (T : Txt K mg a) : aL P w K mg base eU 1 a.cJ a.wO ["self"] (LK a.aH) := by
 have n1 := T.dO; have n2 := T.bL; have cl := T.cC
 refine T.oW.ok HM (fun vs H Q E h => ?_) (fun c3 A outer s H vs Q E hr h => ?_)
 . obtain ⟨_, _, _, _, rfl, _⟩ := h; rfl
 . obtain ⟨v, d, n, ts, rfl, hw, q1, q2⟩ := h
   have hi := hw.ins; have hd := hw.dat
   refine ⟨_, (af (bW (rQ (dC (av (pv 0) rfl) (fun _ => rfl)))
    (ag (aB d0))
    aM)
    (ag (aB (VL (av (pv 0) rfl) rfl rfl T.rn)))), ?_⟩
   repeat' (walk_at "rd1")
   refine VR hd ?_
   repeat' (walk_at "rd1")
   . rename_i hb
     exact q1 (by cases ts with | nil => rfl | cons y r => simp [Bm] at hb)
   . rename_i hb
     have KG : 0 < (ts.map (·.2)).length := by
      cases ts with
      | nil => simp [Bm] at hb
      | cons y r => simp
     refine aaN hd (ns := ts.map (·.2)) (by unfold Bm; rw [List.map_map, List.map_map]; rfl) KG (fun t ht hm => ?_)
     exact q2 t ht hm
theorem Jc (T : Txt K mg a) : dE P w K mg base 1 a.cJ ["self"] [] (LK a.aH) :=
 ⟨⟨_, _, Vb T, T.oW.binds fun _ _ _ _ _ _ => .all fun us hl => match us, hl with | [_], _ => rfl, .nil⟩⟩
def leD (t : Int) (x : Str × PyData) : Bool := match x.2 with
 | .int u => decide (u <= t)
 | _ => false
def Yx (x : Str × Int) : Int × Str := (x.2, x.1)
def Srt (ks : List (Int × Str)) : Prop := ks.Pairwise fun c d => fD d c = false
theorem Gq {α : Type} (l : List α) : l.filter (fun _ => true) = l := List.filter_eq_self.mpr fun _ _ => rfl
def Ex (C : Addr) : Sp := fun vs H Q _ => ∃ v d n ts t, vs = [v, .int t] /\ EC C H v d n ts /\ ts.length < 60 /\ ∀ q H', ay H H' -> H q = none -> d5 H' q (((ts.filter fun x => decide (x.2 <= t)).map (·.1)).map PyData.str) -> Q (.ref q) H'
theorem Uy {C : Addr} {H : Hp} {Q : VK} {E : XK} {v : V} {d : Addr} {n t : Int} {ts : List (Str × Int)} (h : EC C H v d n ts) (hl : ts.length < 60) (q : ∀ q H', ay H H' -> H q = none -> d5 H' q (((ts.filter fun x => decide (x.2 <= t)).map (·.1)).map PyData.str) -> Q (.ref q) H') : Ex C [v, .int t] H Q E := ⟨v, d, n, ts, t, rfl, h, hl, q⟩
theorem PQ (T : Txt K mg a) : aL P w K mg base eU 1 a.dM a.wZ ["self", "to"] (Ex a.aH) := by
 have n1 := T.dO; have n2 := T.bL; have cl := T.cC
 refine T.oN.ok Ht (fun vs H Q E h => ?_) (fun c3 A outer s H vs Q E hr h => ?_)
 . obtain ⟨_, _, _, _, _, rfl, _⟩ := h; rfl
 . obtain ⟨v, d, n, ts, t, rfl, hw, hl, q⟩ := h
   have hi := hw.ins; have hd := hw.dat
   refine ⟨_, (ag (aB (JS (Hj (T := ["name", "time"]) (M := ["self", "to"]) (Y0 (aj iH) ["self", "to"] rfl rfl (by decide +kernel)) rfl (U7 (av (pv 0) rfl)) (fun _ _ _ _ _ => (Py (K := K) (n := 2) rfl rfl (du (aX (i := 0) (show List.Nodup (["name", "time", "self", "to"] : List Str) by decide +kernel) rfl (Or.inl rfl)) (du (aX (i := 1) (show List.Nodup (["name", "time", "self", "to"] : List Str) by decide +kernel) rfl (Or.inl rfl)) yE)))) (LJ (rT (by decide) (rT (by decide) JH))) (fun _ _ _ _ _ => (Gs (aJ L1 (pv 1) (pv 3) (aI _)))) (fun _ _ _ _ _ => (pv 0)))))), ?_⟩
   repeat' (walk_at "rd1")
   refine aeg hd (fun R hR => ?_) (leD t) (fun x => .str x.1) (by rw [Pp]; omega) (fun _ => rfl) (fun y c Hf H2 N hc mvf hrd GP hy yes no => ?_) (fun q1 H1 sm1 Ii Ij => ?_)
   . repeat' (walk_at "rd1")
     exact hR
   . obtain ⟨x, hx, rfl⟩ := List.mem_map.mp hc
     refine JU hy (fun w1 w2 f1 f2 => ?_)
     obtain rfl := f1.str_inv
     obtain rfl := f2.int_inv
     repeat' (walk_at "rd1")
     refine CM (fun hb => ?_) (fun hb => no hb _ (ay.refl _))
     repeat' (walk_at "rd1")
     exact yes hb _ _ (ay.refl _) (.str _)
   have PX : d5 H1 q1 (((ts.filter fun x => decide (x.2 <= t)).map (·.1)).map PyData.str) := by
    unfold Bm at Ij
    rw [List.filter_map, List.map_map] at Ij
    rw [List.map_map]; exact Ij
   repeat' (walk_at "rd1")
   exact q q1 H1 sm1 Ii PX
theorem Oh (T : Txt K mg a) : dE P w K mg base 1 a.dM ["self", "to"] [] (Ex a.aH) :=
 ⟨⟨_, _, PQ T, T.oN.binds fun _ _ _ _ _ _ => .all fun us hl => match us, hl with | [_, _], _ => rfl, .nil⟩⟩
theorem HQ {ts : List (Str × Int)} (h : (ts.map (·.1)).Nodup) {x : Str × Int} (hx : x ∈ ts) : ig (Bm ts) x.1 = some (.int x.2) := by
 unfold ig Bm
 rw [List.find?_map]
 induction ts with
 | nil => cases hx
 | cons y r ih =>
   rw [List.map_cons, List.nodup_cons] at h
   rw [List.find?_cons]
   by_cases e : y.1 = x.1
   . simp only [Function.comp, e, decide_true]
     rcases List.mem_cons.mp hx with rfl | Df
     . rfl
     . exact absurd (List.mem_map_of_mem (f := (·.1)) Df) (e ▸ h.1)
   . simp only [Function.comp, e, decide_false]
     rcases List.mem_cons.mp hx with rfl | Df
     . exact absurd rfl e
     . exact ih h.2 Df
theorem Gv {α β : Type} {f : α -> β} {l : List α} {j : Nat} {c : α} (h : (l.map f).Nodup) (hc : l[j]? = some c) : f c ∉ (l.take j).map f := by
 intro hm
 obtain ⟨d, hd, e⟩ := List.mem_map.mp hm
 obtain ⟨i, hi, rfl⟩ := List.getElem_of_mem hd
 have Jt : i < j := by rw [List.length_take] at hi; omega
 have hjl : j < l.length := (List.getElem?_eq_some_iff.mp hc).1
 rw [List.Nodup, List.pairwise_map] at h
 have := List.pairwise_iff_getElem.mp h i j (by omega) hjl Jt
 rw [List.getElem_take] at e
 have Vm : l[j] = c := Option.some.inj ((List.getElem?_eq_getElem hjl).symm.trans hc)
 rw [Vm] at this
 exact this e
theorem take_snoc {α : Type} {l : List α} {j : Nat} {c : α} (h : l[j]? = some c) : l.take (j + 1) = l.take j ++ [c] := by
 rw [List.take_add_one, h]; rfl
def SQ (C : Addr) : Sp := fun vs H Q _ => ∃ p d n ts t, vs = [.ref p, .int t] /\ EC C H (.ref p) d n ts /\ ts.length < 60 /\ (ts.map (·.1)).Nodup /\ n <= t /\ ∀ q H' ks, Mv [p, d] H H' -> H q = none -> ks.Perm ((ts.filter fun x => decide (x.2 <= t)).map Yx) -> Srt ks -> d5 H' q (ks.map pairD) -> EC C H' (.ref p) d t (ts.filter fun x => !decide (x.2 <= t)) -> Q (.ref q) H'
theorem aaS (T : Txt K mg a) : aL P w K mg base eU 3 a.d8 a.C5 ["self", "to"] (SQ a.aH) := by
 have n1 := T.dO; have n2 := T.bL; have cl := T.cC
 have Rn := T.z9
 have RC := Oh (P := P) (w := w) (base := base) T
 refine T.vO.ok j8 (fun vs H Q E h => ?_) (fun c3 A outer s H vs Q E hr h => ?_)
 . obtain ⟨_, _, _, _, _, rfl, _⟩ := h; rfl
 . obtain ⟨p, d, n, ts, t, rfl, hw, hl, qS, hnt, q⟩ := h
   have hi := hw.ins; have hd := hw.dat
   refine ⟨_, (af (bW (aJ HK (pv 1) (av (pv 0) rfl) (aI _))
    (ag cP)
    aM)
    (af (aN (i := 2) j8.nd rfl (Or.inl rfl) (bB Nh rfl T.fz PyProof.Rows.boot_sorted (ae (Hj (T := ["name"]) (M := ["self", "to", "told", "time", "04"]) (Y0 (aj lW) ["self", "to", "told", "time", "name"] rfl rfl (by decide +kernel)) rfl (iO (aF (pv 0) cl Rn RC (hr.mono (by decide)) (ae (pv 1) ai))) (fun _ _ _ _ _ => (aX (i := 0) (show List.Nodup (["name", "self", "to", "told", "time", "04"] : List Str) by decide +kernel) rfl (Or.inl rfl))) (j9 (by decide)) (fun _ _ _ _ _ => Gy) (fun _ _ _ _ _ => (c5 (ae (gK (fj hr) (Dc (K := K) rfl (pv 1) rfl) (pv 0) (fun _ _ => rfl)) (ae (pv 0) ai))))) ai)))
    (af (bh (pv 0) (pv 1) rfl)
    (af (oQ PassesOwn.never rfl (iO (pv 2)) (Hr (n := 2) rfl (du (aX (i := 3) j8.nd rfl (Or.inl rfl)) (du (aX (i := 4) j8.nd rfl (Or.inl rfl)) yE)))
     (ag (aT (B8 PySem.F.plainAttrs_dict PySem.F.slot_dict_pop PySem.F.type_dict_pop Gr (av (pv 0) rfl) (ae (pv 4) ai)))))
    (ag (aB (pv 2))))))), ?_⟩
   repeat' (walk_at "rd1")
   refine Uy hw hl (fun q0 H1 sm1 Ii hq0 => ?_)
   have Pa := hw.keeps sm1
   have hd1 := Pa.dat
   have DU := Pa.ins
   have hfl : (ts.filter fun x => decide (x.2 <= t)).length <= ts.length := List.length_filter_le _ _
   refine adR (cs := ts.filter fun x => decide (x.2 <= t)) (gd := fun x => .str x.1) (fun _ => true) (fun x => pairD (Yx x)) (by have := hq0.dv; rwa [List.map_map] at this) (by omega) (fun _ => rfl) (fun y x H2 N hx GP hy yes no => ?_) (fun q1 H2 GP Io Ij => ?_)
   . have L0 := HQ qS (List.mem_filter.mp hx).1
     obtain rfl := hy.str_inv
     have RK := DU.keeps GP
     have hd2 := hd1.keeps GP
     repeat' (walk_at "rd1")
     refine CM (fun hb => ?_) (fun hb => by cases hb)
     repeat' (walk_at "rd1")
     exact yes rfl _ _ (by walk_at "same") (by walk_at "dat")
   rw [Gq] at Ij
   have PX : Dv H2 (.ref q1) (.list (((ts.filter fun x => decide (x.2 <= t)).map Yx).map pairD)) := by
    have := Ij.dv
    rw [List.map_map]; exact this
   repeat' (walk_at "rd1")
   refine Xz PX (by rw [List.length_map]; omega) (fun q2 H3 ks sm3 J6 hp hs G8 => ?_)
   repeat' (walk_at "rd1")
   obtain ⟨p', dx, e, Zw⟩ := (DU.keeps GP).keeps sm3
   cases e
   have hd3 := (hd1.keeps GP).keeps sm3
   have hpd : d ≠ p := by
    obtain ⟨kvs, e2, _⟩ := hd3
    exact iq e2 Zw (by intro y; cases y)
   have XS : q2 ≠ p := by
    obtain ⟨xs, e2, _⟩ := G8
    exact iq e2 Zw (by intro y; cases y)
   have hqd : q2 ≠ d := by
    obtain ⟨xs, e2, _⟩ := G8
    obtain ⟨kvs, e3, _⟩ := hd3
    exact iq e2 e3 (by intro y; cases y)
   repeat' (walk_at "rd1")
   have Ng : Mv [p] H3 (upd H3 p (.ins a.aH dx [("now", .int t), ("times", .ref d)])) := .bo Zw (by intro _ z; cases z)
   have hi4 : oz (upd H3 p (.ins a.aH dx [("now", .int t), ("times", .ref d)])) (.ref p) a.aH [("now", .int t), ("times", .ref d)] := ⟨p, dx, rfl, ao⟩
   generalize upd H3 p (.ins a.aH dx [("now", .int t), ("times", .ref d)]) = H4 at *
   have hd4 : gA H4 d (Bm ts) := hd3.mv Ng (by simpa using hpd)
   have XH : d5 H4 q2 (ks.map pairD) := G8.mv Ng (by simpa using XS)
   have hkn : (ks.map (·.2)).Nodup := by
    have h1 : (ks.map (·.2)).Perm (((ts.filter fun x => decide (x.2 <= t)).map Yx).map (·.2)) := hp.map _
    refine h1.nodup_iff.mpr ?_
    rw [List.map_map]
    exact qS.sublist (List.filter_sublist.map _)
   have hkm : ∀ k ∈ ks, ∃ x ∈ ts, x.2 <= t /\ k = Yx x := fun k hk => by
    obtain ⟨x, hx, rfl⟩ := List.mem_map.mp (hp.mem_iff.mp hk)
    exact ⟨x, (List.mem_filter.mp hx).1, of_decide_eq_true (List.mem_filter.mp hx).2, rfl⟩
   refine Yu (Hb := H4) (cs := ks) (gd := pairD) XH.dv (fun j σ' H' => ∃ z3 z4, σ' = [some (.ref p), some (.int t), some (.ref q2), z3, z4] /\ Mv [d] H4 H' /\ gA H' d (Bm (ts.filter fun x => !((ks.take j).map (·.2)).contains x.1))) ⟨_, _, rfl, Mv.refl, by show gA H4 d (Bm (ts.filter fun _ => true)); rw [Gq]; exact hd4⟩ (fun i σ' H' _ ⟨_, _, _, mv, _⟩ a' xs e hx => by cases e; exact mv.sq (by simpa using hqd) hx) ?_ ?_
   . rintro j k x σ' H' hk ⟨z3, z4, rfl, RQ, Yk⟩ hdx _
     have hx : Dv H' x (.tuple [.int k.1, .str k.2]) := hdx rfl RQ.tp
     refine JU hx (fun w1 w2 f1 f2 => ?_)
     obtain rfl := f1.int_inv
     obtain rfl := f2.str_inv
     have hi5 : oz H' (.ref p) a.aH [("now", .int t), ("times", .ref d)] := Gu hi4 hd4 RQ
     obtain ⟨y, hy, hyt, rfl⟩ := hkm k (List.mem_of_getElem? hk)
     have L0 : ig (Bm (ts.filter fun x => !((ks.take j).map (·.2)).contains x.1)) (Yx y).2 = some (.int y.2) := by
      refine HQ (x := y) (qS.sublist (List.filter_sublist.map _)) (List.mem_filter.mpr ⟨hy, ?_⟩)
      have := Gv hkn hk
      rw [Bool.not_eq_true', <- Bool.not_eq_true, List.contains_iff_mem]
      exact this
     repeat' (walk_at "rd1")
     refine SN Yk ?_
     repeat' (walk_at "rd1")
     refine MV Yk L0 (fun v6 H6 mv6 hd6 => ?_)
     repeat' (walk_at "rd1")
     refine ⟨_, _, rfl, RQ.trans mv6, ?_⟩
     have e : Bm (ts.filter fun x => !((ks.take (j + 1)).map (·.2)).contains x.1) = mZ (Bm (ts.filter fun x => !((ks.take j).map (·.2)).contains x.1)) (Yx y).2 := by
      unfold mZ Bm
      rw [List.filter_map, List.filter_filter]
      congr 1
      refine List.filter_congr fun x hx => ?_
      rw [take_snoc hk, List.map_append, Bool.eq_iff_iff]
      simp
      exact and_comm
     rw [e]; exact hd6
   . rintro σ' H' ⟨z3, z4, rfl, RQ, Yk⟩
     rw [List.take_length] at Yk
     have e : (ts.filter fun x => !(ks.map (·.2)).contains x.1) = ts.filter fun x => !decide (x.2 <= t) := by
      refine List.filter_congr fun x hx => ?_
      congr 1
      rw [Bool.eq_iff_iff, List.contains_iff_mem, decide_eq_true_eq]
      constructor
      . intro hm
        obtain ⟨k, hk, e⟩ := List.mem_map.mp hm
        obtain ⟨y, hy, hyt, rfl⟩ := hkm k hk
        have h1 := HQ qS hy
        have h2 := HQ qS hx
        have e' : y.1 = x.1 := e
        rw [e', h2] at h1
        have h3 : x.2 = y.2 := by
         injection h1 with h1
         injection h1
        omega
      . intro ht
        exact List.mem_map.mpr ⟨Yx x, hp.mem_iff.mpr (List.mem_map_of_mem (List.mem_filter.mpr ⟨hx, decide_eq_true ht⟩)), rfl⟩
     rw [e] at Yk
     repeat' (walk_at "rd1")
     refine q q2 H' ks ?_ ((sm1.trans GP).none J6) hp hs (XH.mv RQ (by simpa using hqd)) ⟨Gu hi4 hd4 RQ, Yk⟩
     refine Mv.step (Mv.step (((sm1.trans GP).trans sm3).mv (S := [p, d])) Ng fun b hb => .inl ?_) RQ fun b hb => .inl (List.mem_cons_of_mem _ hb)
     have : b = p := by simpa using hb
     rw [this]; exact List.mem_cons_self
theorem X3 (T : Txt K mg a) : dE P w K mg base 3 a.d8 ["self", "to"] [] (SQ a.aH) :=
 ⟨⟨_, _, aaS T, T.vO.binds fun _ _ _ _ _ _ => .all fun us hl => match us, hl with | [_, _], _ => rfl, .nil⟩⟩
structure gE where
 ru : RU
 wt : Int
 hm : Option Str
 dy : Bool
 no : Int
 st : Option (Int × Int)
 sn : Option Int
 un : Option Int
def RJ : Option Str -> V | none => .aS | some s => .str s
def dP (n : Str) (rv sv : V) (x : gE) : List (Str × V) := [("name", .str n), ("rule", rv), ("weight", .int x.wt), ("home", RJ x.hm), ("by_day", .bl x.dy), ("number", .int x.no), ("stretch", sv), ("since", ow x.sn), ("until", ow x.un)]
def fR (a : Ad) (H : Hp) (b : Addr) (n : Str) (x : gE) : Prop := ∃ rv sv, oz H (.ref b) a.aw (dP n rv sv x) /\ pE a H rv x.ru /\ Dv H sv (VQ x.st)
theorem nH (o : Option (Int × Int)) : Gf (VQ o) = true := by cases o <;> rfl
theorem fR.keeps {H H' : Hp} {b : Addr} {n : Str} {x : gE} (s : ay H H') (h : fR a H b n x) : fR a H' b n x := by
 obtain ⟨rv, sv, h1, h2, h3⟩ := h
 exact ⟨rv, sv, h1.keeps s, h2.keeps s, h3.keeps s⟩
theorem pE.mv {H H' : Hp} {b dx : Addr} {fs : List (Str × V)} {v : V} {r : RU} (T : Txt K mg a) (m : Mv [b] H H') (e : H b = some (.ins a.aw dx fs)) (h : pE a H v r) : pE a H' v r :=
 pE.fr (cs := [a.aw]) (S := []) (Fr.QM m e List.mem_cons_self)
  (by simpa using T.gR)
  (by simpa using T.fW)
  h
theorem fR.upd {H : Hp} {b dx : Addr} {n : Str} {x : gE} {rv sv : V} (T : Txt K mg a) (e : ∃ fs, H b = some (.ins a.aw dx fs)) (hr : pE a H rv x.ru) (hs : Dv H sv (VQ x.st)) : Mv [b] H (upd H b (.ins a.aw dx (dP n rv sv x))) /\ fR a (upd H b (.ins a.aw dx (dP n rv sv x))) b n x := by
 obtain ⟨fs, e⟩ := e
 have mv : Mv [b] H (L2.upd H b (.ins a.aw dx (dP n rv sv x))) := .bo e (by intro _ z; cases z)
 exact ⟨mv, rv, sv, ⟨b, dx, rfl, ao⟩, hr.mv T mv e, mv.dat (nH _) hs⟩
def lead (x : gE) (sh : Int) : Int := if x.dy = true then sh else 0
def J0 (a : Ad) : Sp := fun vs H Q _ => ∃ b n x sh, vs = [.ref b, .int sh] /\ fR a H b n x /\ Q (.int (lead x sh)) H
theorem abL {H : Hp} {Q : VK} {E : XK} {b : Addr} {n : Str} {x : gE} {sh : Int} (h : fR a H b n x) (q : Q (.int (lead x sh)) H) : J0 a [.ref b, .int sh] H Q E := ⟨b, n, x, sh, rfl, h, q⟩
theorem Wq (T : Txt K mg a) : aL P w K mg base eU 1 a.e7 a.Ct ["self", "shift"] (J0 a) := by
 have cl := T.aK; have n1 := T.dX
 refine T.vo.ok Lb (fun vs H Q E h => ?_) (fun c3 A outer s H vs Q E hr h => ?_)
 . obtain ⟨_, _, _, _, rfl, _⟩ := h; rfl
 . obtain ⟨b, n, x, sh, rfl, ⟨rv, sv, hi, hR, hd⟩, q⟩ := h
   unfold dP at hi
   unfold lead at q
   refine ⟨_, (ag (aB (GA (dC (av (pv 0) rfl) (fun _ => rfl)) (pv 1) ak))), ?_⟩
   cases hx : x.dy
   . rw [hx] at hi q
     repeat' (walk_at "rd1")
     exact q
   . rw [hx] at hi q
     repeat' (walk_at "rd1")
     exact q
theorem LN (T : Txt K mg a) : dE P w K mg base 1 a.e7 ["self", "shift"] [] (J0 a) :=
 ⟨⟨_, _, Wq T, T.vo.binds fun _ _ _ _ _ _ => .all fun us hl => match us, hl with | [_, _], _ => rfl, .nil⟩⟩
def Ej (a : Ad) : Sp := fun vs H Q _ => ∃ b n x, vs = [.ref b] /\ fR a H b n x /\ Q (.bl x.st.isNone) H
theorem Tc {H : Hp} {Q : VK} {E : XK} {b : Addr} {n : Str} {x : gE} (h : fR a H b n x) (q : Q (.bl x.st.isNone) H) : Ej a [.ref b] H Q E := ⟨b, n, x, rfl, h, q⟩
theorem Ru (T : Txt K mg a) : aL P w K mg base eU 1 a.cT a.sr ["self"] (Ej a) := by
 have cl := T.aK; have n1 := T.bq
 refine T.kl.ok FU (fun vs H Q E h => ?_) (fun c3 A outer s H vs Q E hr h => ?_)
 . obtain ⟨_, _, _, rfl, _⟩ := h; rfl
 . obtain ⟨b, n, x, rfl, ⟨rv, sv, hi, hR, hd⟩, q⟩ := h
   unfold dP at hi
   refine ⟨_, (ag (aB (iL KD (av (pv 0) rfl) d0 (aI _)))), ?_⟩
   cases hx : x.st with
   | none =>
     rw [hx] at hd q
     obtain rfl := hd.PJ
     repeat' (walk_at "rd1")
     exact q
   | some p =>
     rw [hx] at hd q
     cases hd
     repeat' (walk_at "rd1")
     exact q
theorem GZ (T : Txt K mg a) : dE P w K mg base 1 a.cT ["self"] [] (Ej a) :=
 ⟨⟨_, _, Ru T, T.kl.binds fun _ _ _ _ _ _ => .all fun us hl => match us, hl with | [_], _ => rfl, .nil⟩⟩
def Eu (a : Ad) : Sp := fun vs H Q _ => ∃ b n x, vs = [.ref b] /\ fR a H b n x /\ Q (.bl x.sn.isSome) H
theorem UQ {H : Hp} {Q : VK} {E : XK} {b : Addr} {n : Str} {x : gE} (h : fR a H b n x) (q : Q (.bl x.sn.isSome) H) : Eu a [.ref b] H Q E := ⟨b, n, x, rfl, h, q⟩
theorem Q6 (T : Txt K mg a) : aL P w K mg base eU 1 a.bF a.ko ["self"] (Eu a) := by
 have cl := T.aK; have n1 := T.b4
 refine T.ic.ok AF (fun vs H Q E h => ?_) (fun c3 A outer s H vs Q E hr h => ?_)
 . obtain ⟨_, _, _, rfl, _⟩ := h; rfl
 . obtain ⟨b, n, x, rfl, ⟨rv, sv, hi, hR, hd⟩, q⟩ := h
   unfold dP at hi
   refine ⟨_, (ag (aB (iL rW (av (pv 0) rfl) d0 (aI _)))), ?_⟩
   cases hx : x.sn with
   | none =>
     rw [hx] at hi q
     simp only [ow] at hi
     repeat' (walk_at "rd1")
     exact q
   | some p =>
     rw [hx] at hi q
     simp only [ow] at hi
     repeat' (walk_at "rd1")
     exact q
theorem N6 (T : Txt K mg a) : dE P w K mg base 1 a.bF ["self"] [] (Eu a) :=
 ⟨⟨_, _, Q6 T, T.ic.binds fun _ _ _ _ _ _ => .all fun us hl => match us, hl with | [_], _ => rfl, .nil⟩⟩
def rest (x : gE) : gE := { x with sn := none, un := none }
def Ld (a : Ad) : Sp := fun vs H Q _ => ∃ b n x, vs = [.ref b] /\ fR a H b n x /\ ∀ H', Mv [b] H H' -> fR a H' b n (rest x) -> Q .aS H'
theorem aar {H : Hp} {Q : VK} {E : XK} {b : Addr} {n : Str} {x : gE} (h : fR a H b n x) (q : ∀ H', Mv [b] H H' -> fR a H' b n (rest x) -> Q .aS H') : Ld a [.ref b] H Q E := ⟨b, n, x, rfl, h, q⟩
theorem WQ (T : Txt K mg a) : aL P w K mg base eU 1 a.e8 a.CN ["self"] (Ld a) := by
 have cl := T.aK; have n1 := T.b4; have n2 := T.cK
 refine T.wy.ok Kw (fun vs H Q E h => ?_) (fun c3 A outer s H vs Q E hr h => ?_)
 . obtain ⟨_, _, _, rfl, _⟩ := h; rfl
 . obtain ⟨b, n, x, rfl, ⟨rv, sv, ⟨p, dx, e, hi⟩, hR, hd⟩, q⟩ := h
   cases e
   have hi0 : ∃ fs, H b = some (.ins a.aw dx fs) := ⟨_, hi⟩
   unfold dP at hi
   refine ⟨_, (af (bh (pv 0) d0 rfl)
    (ag (bh (pv 0) d0 rfl))), ?_⟩
   repeat' (walk_at "rd1")
   simp only [jY]
   obtain ⟨mv, hb⟩ := fR.upd (n := n) (x := rest x) T hi0 hR hd
   exact q _ mv hb
theorem U5 (T : Txt K mg a) : dE P w K mg base 1 a.e8 ["self"] [] (Ld a) :=
 ⟨⟨_, _, WQ T, T.wy.binds fun _ _ _ _ _ _ => .all fun us hl => match us, hl with | [_], _ => rfl, .nil⟩⟩
def EJ (a : Ad) : Sp := fun vs H Q _ => ∃ b n x f l, vs = [.ref b] /\ fR a H b n x /\ x.st = some (f, l) /\ ∀ v' H', ay H H' -> Dv H' v' (.tuple [.int x.no, .int f, .int l]) -> Q v' H'
theorem SE {H : Hp} {Q : VK} {E : XK} {b : Addr} {n : Str} {x : gE} {f l : Int} (h : fR a H b n x) (hs : x.st = some (f, l)) (q : ∀ v' H', ay H H' -> Dv H' v' (.tuple [.int x.no, .int f, .int l]) -> Q v' H') : EJ a [.ref b] H Q E := ⟨b, n, x, f, l, rfl, h, hs, q⟩
theorem Qh (T : Txt K mg a) : aL P w K mg base eU 1 a.eF a.y9 ["self"] (EJ a) := by
 have cl := T.aK; have n1 := T.bq; have n2 := T.ck
 refine T.rE.ok IL (fun vs H Q E h => ?_) (fun c3 A outer s H vs Q E hr h => ?_)
 . obtain ⟨_, _, _, _, _, rfl, _⟩ := h; rfl
 . obtain ⟨b, n, x, f, l, rfl, ⟨rv, sv, hi, hR, hd⟩, hs, q⟩ := h
   unfold dP at hi
   rw [hs] at hd
   have hd : Dv H sv (.tuple [.int f, .int l]) := hd
   refine ⟨_, (ag (aB (c5 (ae (av (pv 0) rfl) (ae (bV eV (av (pv 0) rfl) ak (fun _ _ => rfl)) (ae (bV eV (av (pv 0) rfl) ak (fun _ _ => rfl)) ai)))))), ?_⟩
   repeat' (walk_at "rd1")
   exact q _ _ (by walk_at "same") (by walk_at "dat")
theorem Nc (T : Txt K mg a) : dE P w K mg base 1 a.eF ["self"] [] (EJ a) :=
 ⟨⟨_, _, Qh T, T.rE.binds fun _ _ _ _ _ _ => .all fun us hl => match us, hl with | [_], _ => rfl, .nil⟩⟩
def wait (x : gE) (now sh f l : Int) : gE := { x with sn := some (max (f - lead x sh) (now + 1)), un := some (l - lead x sh) }
local macro_rules | `(tactic| walk_at "bat") => `(tactic| first | (refine' fR.keeps ?s ?m; (case s => assumption); (case m => walk_at "bat")) | fail)
set_option hygiene false in
local macro_rules | `(tactic| walk_at "bat") => `(tactic| first | assumption | fail)
local macro_rules | `(tactic| walk_at "use") => `(tactic| first | ((with_reducible refine' SE ?e ?e2 (fun _ _ _ _ => ?_)); (case e => walk_at "bat"); (case e2 => assumption)) | fail)
local macro_rules | `(tactic| walk_at "use") => `(tactic| first | ((with_reducible refine' UQ ?e ?_); case e => walk_at "bat") | fail)
local macro_rules | `(tactic| walk_at "use") => `(tactic| first | ((with_reducible refine' Tc ?e ?_); case e => walk_at "bat") | fail)
local macro_rules | `(tactic| walk_at "use") => `(tactic| first | ((with_reducible refine' abL ?e ?_); case e => walk_at "bat") | fail)
def HD (a : Ad) : Sp := fun vs H Q _ => ∃ b n x now sh f l, vs = [.ref b, .int now, .int sh] /\ fR a H b n x /\ x.st = some (f, l) /\ ∀ H', Mv [b] H H' -> fR a H' b n (wait x now sh f l) -> Q .aS H'
theorem Xc {H : Hp} {Q : VK} {E : XK} {b : Addr} {n : Str} {x : gE} {now sh f l : Int} (h : fR a H b n x) (hs : x.st = some (f, l)) (q : ∀ H', Mv [b] H H' -> fR a H' b n (wait x now sh f l) -> Q .aS H') : HD a [.ref b, .int now, .int sh] H Q E := ⟨b, n, x, now, sh, f, l, rfl, h, hs, q⟩
theorem Ux (T : Txt K mg a) : aL P w K mg base eU 2 a.fc a.C2 ["self", "now", "shift"] (HD a) := by
 have cl := T.aK; have n1 := T.bq; have n2 := T.b4; have n3 := T.cK
 have Z3 := T.wU
 have abz := LN (P := P) (w := w) (base := base) T
 refine T.uR.ok CJ (fun vs H Q E h => ?_) (fun c3 A outer s H vs Q E hr h => ?_)
 . obtain ⟨_, _, _, _, _, _, _, rfl, _⟩ := h; rfl
 . obtain ⟨b, n, x, now, sh, f, l, rfl, hB, hs, q⟩ := h
   obtain ⟨rv, sv, ⟨p, dx, e, hi⟩, hR, hd⟩ := id hB
   cases e
   have hi0 : ∃ fs, H b = some (.ins a.aw dx fs) := ⟨_, hi⟩
   unfold dP at hi
   have hd0 := hd
   rw [hs] at hd
   have hd : Dv H sv (.tuple [.int f, .int l]) := hd
   refine ⟨_, (af (aN (i := 3) CJ.nd rfl (Or.inl rfl) (aF (pv 0) cl Z3 abz (hr.mono (by decide)) (ae (pv 2) ai)))
    (af (bh (pv 0) (bB (Rh rfl) rfl T.KZ PyProof.Rows.boot_max (ae (aC AK (bV eV (av (pv 0) rfl) ak (fun _ _ => rfl)) (pv 3)) (ae (aC bU (pv 1) ak) ai))) rfl)
    (ag (bh (pv 0) (aC AK (bV eV (av (pv 0) rfl) ak (fun _ _ => rfl)) (pv 3)) rfl)))), ?_⟩
   repeat' (walk_at "rd1")
   rename_i sn e1 e2 e3
   obtain rfl : sn = max (f - lead x sh) (now + 1) := by omega
   have hd1 := (Mv.bo (o := .ins a.aw dx [("name", .str n), ("rule", rv), ("weight", .int x.wt), ("home", RJ x.hm), ("by_day", .bl x.dy), ("number", .int x.no), ("stretch", sv), ("since", .int (max (f - lead x sh) (now + 1))), ("until", ow x.un)]) hi (by intro _ z; cases z)).dat rfl hd
   repeat' (walk_at "rd1")
   simp only [jY]
   obtain ⟨mv, hb⟩ := fR.upd (n := n) (x := wait x now sh f l) T hi0 hR hd0
   exact q _ mv hb
theorem PR (T : Txt K mg a) : dE P w K mg base 2 a.fc ["self", "now", "shift"] [] (HD a) :=
 ⟨⟨_, _, Ux T, T.uR.binds fun _ _ _ _ _ _ => .all fun us hl => match us, hl with | [_, _, _], _ => rfl, .nil⟩⟩
def Ia (a : Ad) : Sp := fun vs H Q _ => ∃ b n x f l t, vs = [.ref b, .int t] /\ fR a H b n x /\ x.st = some (f, l) /\ t < l /\ ∀ q H', ay H H' -> H q = none -> d5 H' q [] -> Q (.ref q) H'
theorem WC {H : Hp} {Q : VK} {E : XK} {b : Addr} {n : Str} {x : gE} {f l t : Int} (h : fR a H b n x) (hs : x.st = some (f, l)) (h1 : t < l) (q : ∀ q H', ay H H' -> H q = none -> d5 H' q [] -> Q (.ref q) H') : Ia a [.ref b, .int t] H Q E := ⟨b, n, x, f, l, t, rfl, h, hs, h1, q⟩
theorem R1 (T : Txt K mg a) : aL P w K mg base eU 5 a.cA a.qZ ["self", "shown"] (Ia a) := by
 have cl := T.aK; have n0 := T.bt; have n1 := T.bq; have n2 := T.ck; have n3 := T.fy
 refine T.jA.ok iy (fun vs H Q E h => ?_) (fun c3 A outer s H vs Q E hr h => ?_)
 . obtain ⟨_, _, _, _, _, _, rfl, _⟩ := h; rfl
 . obtain ⟨b, n, x, f, l, t, rfl, hB, hs, h1, q⟩ := h
   obtain ⟨rv, sv, hi, hR, hd⟩ := id hB
   unfold dP at hi
   rw [hs] at hd
   have hd : Dv H sv (.tuple [.int f, .int l]) := hd
   refine ⟨_, (af (aN (i := 2) iy.nd rfl (Or.inl rfl) (av (pv 0) rfl))
    (af (aN (i := 3) iy.nd rfl (Or.inl rfl) (bV eV (av (pv 0) rfl) ak (fun _ _ => rfl)))
    (af (bW (aJ RZ (pv 3) (pv 1) (aI _))
     (ag (aB (fY ai)))
     aM)
    (af cP
    (af cP
    (af cP
    (ag cP))))))), ?_⟩
   repeat' (walk_at "rd1")
   all_goals first | exact q _ _ (by walk_at "same") (by walk_at "none") (by assumption)
theorem QI (T : Txt K mg a) : dE P w K mg base 5 a.cA ["self", "shown"] [] (Ia a) :=
 ⟨⟨_, _, R1 T, T.jA.binds fun _ _ _ _ _ _ => .all fun us hl => match us, hl with | [_, _], _ => rfl, .nil⟩⟩
def Ei (x : gE) (t : Int) : gE := { x with st := Lf x.ru x.no t, no := x.no + 1 }
def Ks (a : Ad) : Sp := fun vs H Q _ => ∃ b n x t, vs = [.ref b, .int t] /\ fR a H b n x /\ 0 <= x.no /\ x.no < 10 ^ 50 /\ ∀ H', Mv [b] H H' -> fR a H' b n (Ei x t) -> Q .aS H'
theorem abi {H : Hp} {Q : VK} {E : XK} {b : Addr} {n : Str} {x : gE} {t : Int} (h : fR a H b n x) (h0 : 0 <= x.no) (h1 : x.no < 10 ^ 50) (q : ∀ H', Mv [b] H H' -> fR a H' b n (Ei x t) -> Q .aS H') : Ks a [.ref b, .int t] H Q E := ⟨b, n, x, t, rfl, h, h0, h1, q⟩
theorem WU (T : Txt K mg a) : aL P w K mg base eU 3 a.dN a.xZ ["self", "at"] (Ks a) := by
 have cl := T.aK; have n1 := T.bq; have n2 := T.ck; have n3 := T.fy
 have F5 := IJ (P := P) (w := w) (base := base) T
 have En := IQ (P := P) (w := w) (base := base) T
 refine T.o8.ok HF (fun vs H Q E h => ?_) (fun c3 A outer s H vs Q E hr h => ?_)
 . obtain ⟨_, _, _, _, rfl, _⟩ := h; rfl
 . obtain ⟨b, n, x, t, rfl, ⟨rv, sv, ⟨p, dx, e, hi⟩, hR, hd⟩, h0, h1, q⟩ := h
   cases e
   have hi0 : ∃ fs, H b = some (.ins a.aw dx fs) := ⟨_, hi⟩
   unfold dP at hi
   refine ⟨_, (fP (bh (pv 0) (Ou (aF (av (pv 0) rfl) T.cn T.tT F5 (hr.mono (by decide)) (ae (av (pv 0) rfl) (ae (pv 1) ai))) (aF (av (pv 0) rfl) T.bw T.pZ En (hr.mono (by decide)) (ae (av (pv 0) rfl) (ae (pv 1) ai)))) rfl)
    (ag (bh (pv 0) (aC bU (av (pv 0) rfl) ak) rfl))), ?_⟩
   refine oX (fun σ' H' => ∃ RX, σ' = [some (.ref b), some (.int t)] /\ Mv [b] H H' /\ H' b = some (.ins a.aw dx (dP n rv RX x)) /\ pE a H' rv x.ru /\ Dv H' RX (VQ (Lf x.ru x.no t))) ?_ ?_
   . cases hx : x.ru with
     | behind st gp wd m =>
       rw [hx] at hR
       have WL := hR
       obtain ⟨Vs, _⟩ := hR
       repeat' (walk_at "rd1")
       rename_i RX H2 s2 KY
       have o9 := Mv.bo (o := .ins a.aw dx (dP n rv RX x)) (s2 _ _ hi) (by intro _ z; cases z)
       exact ⟨RX, rfl, s2.mv.trans o9, ao, (WL.keeps s2).mv T o9 (s2 _ _ hi), o9.dat (nH _) KY⟩
     | vV st gp mo wd m =>
       rw [hx] at hR
       have WL := hR
       obtain ⟨Vs, _⟩ := hR
       repeat' (walk_at "rd1")
       rename_i RX H2 s2 KY
       have o9 := Mv.bo (o := .ins a.aw dx (dP n rv RX x)) (s2 _ _ hi) (by intro _ z; cases z)
       exact ⟨RX, rfl, s2.mv.trans o9, ao, (WL.keeps s2).mv T o9 (s2 _ _ hi), o9.dat (nH _) KY⟩
   rintro σ' H2 ⟨RX, rfl, o9, e2, hR2, KY⟩
   have e20 : ∃ fs, H2 b = some (.ins a.aw dx fs) := ⟨_, e2⟩
   unfold dP at e2
   repeat' (walk_at "rd1")
   obtain ⟨mv, hb⟩ := fR.upd (n := n) (x := Ei x t) T e20 hR2 KY
   exact q _ (o9.trans mv) hb
theorem T6 (T : Txt K mg a) : dE P w K mg base 3 a.dN ["self", "at"] [] (Ks a) :=
 ⟨⟨_, _, WU T, T.o8.binds fun _ _ _ _ _ _ => .all fun us hl => match us, hl with | [_, _], _ => rfl, .nil⟩⟩
def pO (r : RU) (wt : Int) (hm : Option Str) (dy : Bool) : gE := ⟨r, wt, hm, dy, 0, some (J1 r), none, none⟩
def Hh (a : Ad) : Sp := fun vs H Q _ => ∃ p dx n rv r wt hm dy, vs = [.ref p, .str n, rv, .int wt, RJ hm, .bl dy] /\ H p = some (.ins a.aw dx []) /\ pE a H rv r /\ ∀ H', Mv [p] H H' -> fR a H' p n (pO r wt hm dy) -> Q .aS H'
theorem Ui (T : Txt K mg a) : aL P w K mg base eU 8 a.cB a.pH ["self", "name", "rule", "weight", "home", "by_day"] (Hh a) := by
 have cl := T.aK; have n0 := T.bt; have n1 := T.bq; have n2 := T.ck; have n3 := T.fy; have n4 := T.fq; have n5 := T.gZ; have n6 := T.dX; have n7 := T.b4; have n8 := T.cK
 have IH := Qk (P := P) (w := w) (base := base) T
 have Ic := Kc (P := P) (w := w) (base := base) T
 have HB := QN (P := P) (w := w) (base := base) T
 have FY := KR (P := P) (w := w) (base := base) T
 refine T.jC.ok DY (fun vs H Q E h => ?_) (fun c3 A outer s H vs Q E hr h => ?_)
 . obtain ⟨_, _, _, _, _, _, _, _, rfl, _⟩ := h; rfl
 . obtain ⟨p, dx, n, rv, r, wt, hm, dy, rfl, hp, hR, q⟩ := h
   refine ⟨_, (af (bh (pv 0) (pv 1) rfl)
    (fP (bh (pv 0) (Ou (cS (pv 2) T.cn T.Ao IH (hr.mono (by decide))) (cS (pv 2) T.bw T.x8 HB (hr.mono (by decide)))) rfl)
    (af (bh (pv 0) (pv 3) rfl)
    (af (bh (pv 0) (pv 4) rfl)
    (af (bh (pv 0) (pv 5) rfl)
    (af (bh (pv 0) ak rfl)
    (fP (bh (pv 0) (Ou (cS (av (pv 0) rfl) T.cn T.wc Ic (hr.mono (by decide))) (cS (av (pv 0) rfl) T.bw T.uA FY (hr.mono (by decide)))) rfl)
    (af (bh (pv 0) d0 rfl)
    (ag (bh (pv 0) d0 rfl)))))))))), ?_⟩
   repeat' (walk_at "rd1")
   have MM := Mv.bo (o := .ins a.aw dx [("name", .str n)]) hp (by intro _ z; cases z)
   have hR1 := hR.mv T MM hp
   have e1 : upd H p (.ins a.aw dx [("name", .str n)]) p = some (.ins a.aw dx [("name", .str n)]) := ao
   generalize upd H p (.ins a.aw dx [("name", .str n)]) = H1 at *
   refine oX (fun σ' H' => ∃ Jo, σ' = [some (.ref p), some (.str n), some rv, some (.int wt), some (RJ hm), some (.bl dy)] /\ Mv [p] H H' /\ H' p = some (.ins a.aw dx [("name", .str n), ("rule", Jo)]) /\ pE a H' Jo r) ?_ ?_
   . cases r with
     | behind st gp wd m =>
       have WL := hR1
       obtain ⟨Vs, _⟩ := hR1
       repeat' (walk_at "rd1")
       rename_i Jo H2 s2 hr2
       have o9 := Mv.bo (o := .ins a.aw dx [("name", .str n), ("rule", Jo)]) (s2 _ _ e1) (by intro _ z; cases z)
       exact ⟨Jo, rfl, MM.trans (s2.mv.trans o9), ao, hr2.mv T o9 (s2 _ _ e1)⟩
     | vV st gp mo wd m =>
       have WL := hR1
       obtain ⟨Vs, _⟩ := hR1
       repeat' (walk_at "rd1")
       rename_i Jo H2 s2 hr2
       have o9 := Mv.bo (o := .ins a.aw dx [("name", .str n), ("rule", Jo)]) (s2 _ _ e1) (by intro _ z; cases z)
       exact ⟨Jo, rfl, MM.trans (s2.mv.trans o9), ao, hr2.mv T o9 (s2 _ _ e1)⟩
   rintro σ' H2 ⟨Jo, rfl, o9, e2, hR2⟩
   clear e1 hR1 MM
   repeat' (walk_at "rd1")
   simp only [jY]
   have Yl : Mv [p] H (upd H2 p (.ins a.aw dx [("name", .str n), ("rule", Jo), ("weight", .int wt), ("home", RJ hm), ("by_day", .bl dy), ("number", .int 0)])) := o9.trans (Mv.bo e2 (by intro _ z; cases z))
   have hR3 := hR2.mv T (Mv.bo (o := .ins a.aw dx [("name", .str n), ("rule", Jo), ("weight", .int wt), ("home", RJ hm), ("by_day", .bl dy), ("number", .int 0)]) e2 (by intro _ z; cases z)) e2
   refine oX (fun σ' H' => ∃ sv, σ' = [some (.ref p), some (.str n), some rv, some (.int wt), some (RJ hm), some (.bl dy)] /\ Mv [p] H H' /\ H' p = some (.ins a.aw dx [("name", .str n), ("rule", Jo), ("weight", .int wt), ("home", RJ hm), ("by_day", .bl dy), ("number", .int 0), ("stretch", sv)]) /\ pE a H' Jo r /\ Dv H' sv (pD (J1 r))) ?_ ?_
   . cases r with
     | behind st gp wd m =>
       have WL := hR3
       obtain ⟨Vs, _⟩ := hR3
       repeat' (walk_at "rd1")
       rename_i sv H4 s4 hs4
       have Ng := Mv.bo (o := .ins a.aw dx [("name", .str n), ("rule", Jo), ("weight", .int wt), ("home", RJ hm), ("by_day", .bl dy), ("number", .int 0), ("stretch", sv)]) (s4 _ _ ao) (by intro _ z; cases z)
       exact ⟨sv, rfl, Yl.trans (s4.mv.trans Ng), ao, (WL.keeps s4).mv T Ng (s4 _ _ ao), Ng.dat rfl hs4⟩
     | vV st gp mo wd m =>
       have WL := hR3
       obtain ⟨Vs, _⟩ := hR3
       repeat' (walk_at "rd1")
       rename_i sv H4 s4 hs4
       have Ng := Mv.bo (o := .ins a.aw dx [("name", .str n), ("rule", Jo), ("weight", .int wt), ("home", RJ hm), ("by_day", .bl dy), ("number", .int 0), ("stretch", sv)]) (s4 _ _ ao) (by intro _ z; cases z)
       exact ⟨sv, rfl, Yl.trans (s4.mv.trans Ng), ao, (WL.keeps s4).mv T Ng (s4 _ _ ao), Ng.dat rfl hs4⟩
   rintro σ' H5 ⟨sv, rfl, RQ, e5, hR5, hs5⟩
   repeat' (walk_at "rd1")
   simp only [jY]
   obtain ⟨mv6, hb6⟩ := fR.upd (n := n) (x := pO r wt hm dy) T ⟨_, e5⟩ hR5 hs5
   exact q _ (RQ.trans mv6) hb6
theorem Ot (T : Txt K mg a) : dE P w K mg base 8 a.cB ["self", "name", "rule", "weight", "home", "by_day"] [] (Hh a) :=
 ⟨⟨_, _, Ui T, T.jC.binds fun _ _ _ _ _ _ => .all fun us hl => match us, hl with | [_, _, _, _, _, _], _ => rfl, .nil⟩⟩
theorem Wz {H : Hp} {Q : VK} {E : XK} {n : Str} {rv : V} {r : RU} {wt : Int} {hm : Option Str} {dy : Bool} {us : List V} (eu : us = [.str n, rv, .int wt, RJ hm, .bl dy]) (hR : pE a H rv r) (k : ∀ b H2, ay H H2 -> H b = none -> fR a H2 b n (pO r wt hm dy) -> Q (.ref b) H2) : Fg a.aw (Hh a) us H Q E := by
 refine ⟨_, eu, fun x dx hx hd ne => ⟨x, dx, n, rv, r, wt, hm, dy, rfl, ao, hR.keeps (fun b u e => ?_), fun H' mv hg => ⟨rfl, ?_⟩⟩⟩
 . rw [aq (aA e hx), aq (aA e hd)]; exact e
 . refine k _ _ (fun b u e => ?_) hx hg
   have hb : b ≠ x := aA e hx
   refine mv.kp b u (by simpa using hb) ?_
   rw [aq hb, aq (aA e hd)]
   exact e
structure KS where
 now : Int
 sh : Int
 f : Str -> Option gE
 t : Str -> Option Int
structure Lay where
 p : Addr
 wp : Addr
 td : Addr
 bd : Addr
 gv : V
 ad : Str -> Addr
 nm : List Str
def aP (L : Lay) (now sh : Int) : List (Str × V) := [("waits", .ref L.wp), ("rounds", .aS), ("now", .int now), ("shift", .int sh), ("groups", L.gv), ("by_name", .ref L.bd)]
structure bZ (a : Ad) (H : Hp) (L : Lay) (k : KS) : Prop where
 ins : oz H (.ref L.p) a.ah (aP L k.now k.sh)
 wt : ∃ ts, EC a.aH H (.ref L.wp) L.td k.now ts /\ (ts.map (·.1)).Nodup /\ ∀ n u, (n, u) ∈ ts ↔ k.t n = some u
 bd : ∃ ns, rP H L.bd ns (fun n => .ref (L.ad n)) /\ ns.Nodup /\ ∀ n, n ∈ ns ↔ (k.f n).isSome = true
 bl : ∀ n x, k.f n = some x -> fR a H (L.ad n) n x
 ne : L.td ≠ L.bd
 nl : L.nm.length <= 55
 nt : ∀ n, (k.t n).isSome = true -> n ∈ L.nm
 nf : ∀ n, (k.f n).isSome = true -> n ∈ L.nm
abbrev qR (a : Ad) (L : Lay) (H H' : Hp) : Prop := Fr [a.aw, a.ah, a.aH] [L.td, L.bd] H H'
theorem qh {α : Type} [DecidableEq α] : ∀ {l m : List α}, l.Nodup -> (∀ x ∈ l, x ∈ m) -> l.length <= m.length
 | [], _, _, _ => Nat.zero_le _
 | x :: l, m, h, hs => by
   rw [List.nodup_cons] at h
   have h1 := qh (l := l) (m := m.erase x) h.2 fun y hy => (List.mem_erase_of_ne (fun e : y = x => h.1 (by rw [<- e]; exact hy))).mpr (hs y (List.mem_cons_of_mem _ hy))
   have h2 := List.length_erase_of_mem (hs x List.mem_cons_self)
   have h3 : 0 < m.length := List.length_pos_of_mem (hs x List.mem_cons_self)
   rw [List.length_cons]
   omega
section
variable {H H' : Hp} {L : Lay} {k : KS} {n : Str} {x x' : gE}
theorem bZ.keeps (s : ay H H') (h : bZ a H L k) : bZ a H' L k := by
 obtain ⟨ts, w1, w2, w3⟩ := h.wt
 obtain ⟨ns, b1, b2, b3⟩ := h.bd
 exact ⟨h.ins.keeps s, ⟨ts, w1.keeps s, w2, w3⟩, ⟨ns, b1.keeps s, b2, b3⟩, fun n x e => (h.bl n x e).keeps s, h.ne, h.nl, h.nt, h.nf⟩
theorem fR.at (h : fR a H b n x) : ∃ dx rv sv, H b = some (.ins a.aw dx (dP n rv sv x)) := by
 obtain ⟨rv, sv, ⟨p, dx, e, hi⟩, _⟩ := h
 cases e
 exact ⟨dx, rv, sv, hi⟩
theorem DB {C D : Addr} {b dx : Addr} {v : V} {fs gs : List (Str × V)} (m : Mv [b] H H') (e : H b = some (.ins D dx gs)) (nq : C ≠ D) (h : oz H v C fs) : oz H' v C fs := by
 obtain ⟨p, dy, rfl, hi⟩ := h
 refine ⟨p, dy, rfl, m.at (fun z => ?_) hi⟩
 rw [List.mem_singleton.mp z, e] at hi
 cases hi
 exact nq rfl
theorem nX {C : Addr} {b : Addr} {v : V} {fs : List (Str × V)} {kvs : List (Key × V)} (m : Mv [b] H H') (e : H b = some (.dK kvs)) (h : oz H v C fs) : oz H' v C fs := by
 obtain ⟨p, dy, rfl, hi⟩ := h
 refine ⟨p, dy, rfl, m.at (fun z => ?_) hi⟩
 rw [List.mem_singleton.mp z, e] at hi
 cases hi
theorem fR.mvB (T : Txt K mg a) {m' : Str} {y : gE} {b c : Addr} (h : fR a H b n x) (g : fR a H c m' y) (nq : n ≠ m') (m : Mv [c] H H') : fR a H' b n x := by
 obtain ⟨dx, Jo, RX, e⟩ := g.at
 obtain ⟨rv, sv, ⟨p, dy, e0, hi⟩, h2, h3⟩ := h
 cases e0
 refine ⟨rv, sv, ⟨b, dy, rfl, m.at (fun z => ?_) hi⟩, h2.mv T m e, m.dat (nH _) h3⟩
 rw [List.mem_singleton.mp z, e] at hi
 have hi : HO.ins a.aw dx (dP m' Jo RX y) = HO.ins a.aw dy (dP n rv sv x) := Option.some.inj hi
 injection hi with _ _ hf
 unfold dP at hf
 injection hf with h4 _
 injection h4 with _ h5
 injection h5 with h6
 exact nq h6.symm
theorem pE.Ys {c : Addr} {kvs : List (Key × V)} {v : V} {r : RU} (m : Mv [c] H H') (e : H c = some (.dK kvs)) (h : pE a H v r) : pE a H' v r := pE.fr (cs := []) (S := [c]) (Fr.dkM m e List.mem_cons_self)
 (by simp)
 (by simp)
 h
theorem fR.Ys {c : Addr} {kvs : List (Key × V)} (m : Mv [c] H H') (e : H c = some (.dK kvs)) (h : fR a H b n x) : fR a H' b n x := by
 obtain ⟨rv, sv, h1, h2, h3⟩ := h
 exact ⟨rv, sv, nX m e h1, h2.Ys m e, m.dat (nH _) h3⟩
theorem bZ.abS (T : Txt K mg a) (h : bZ a H L k) (hx : k.f n = some x) (m : Mv [L.ad n] H H') (hb : fR a H' (L.ad n) n x') : bZ a H' L { k with f := cm k.f n (some x') } /\ qR a L H H' := by
 have hB := h.bl n x hx
 obtain ⟨dx, rv, sv, e⟩ := hB.at
 obtain ⟨ts, w1, w2, w3⟩ := h.wt
 obtain ⟨ns, b1, b2, b3⟩ := h.bd
 have nd1 : ∀ {d : Addr} {kvs : List (Key × V)}, H d = some (.dK kvs) -> d ∉ [L.ad n] := fun {d kvs} e2 z => by rw [List.mem_singleton.mp z, e] at e2; cases e2
 obtain ⟨kw, ew, _⟩ := id w1.dat
 refine ⟨⟨DB m e (Ne.symm T.dW) h.ins, ⟨ts, ⟨DB m e (Ne.symm T.jb) w1.ins, w1.dat.mv m (nd1 ew)⟩, w2, w3⟩, ⟨ns, b1.mv m (nd1 b1), b2, fun y => ?_⟩, fun y z hz => ?_, h.ne, h.nl, h.nt, fun y hy => ?_⟩, Fr.QM m e List.mem_cons_self⟩
 . rw [b3]
   by_cases ey : y = n
   . subst ey; simp [aE, hx]
   . show _ ↔ (cm k.f n (some x') y).isSome = true
     rw [aZ ey]
 . by_cases ey : y = n
   . subst ey
     have hz : cm k.f y (some x') y = some z := hz
     rw [aE] at hz
     cases hz
     exact hb
   . have hz : cm k.f n (some x') y = some z := hz
     rw [aZ ey] at hz
     exact (h.bl y z hz).mvB T hB ey m
 . by_cases ey : y = n
   . subst ey; exact h.nf y (by rw [hx]; rfl)
   . refine h.nf y ?_
     have hy : (cm k.f n (some x') y).isSome = true := hy
     rwa [aZ ey] at hy
theorem bZ.aeB (h : bZ a H L k) {ts : List (Str × Int)} {t' : Str -> Option Int} (m : Mv [L.td] H H') (w : EC a.aH H' (.ref L.wp) L.td k.now ts) (w2 : (ts.map (·.1)).Nodup) (w3 : ∀ n u, (n, u) ∈ ts ↔ t' n = some u) (w4 : ∀ n, (t' n).isSome = true -> n ∈ L.nm) : bZ a H' L { k with t := t' } /\ qR a L H H' := by
 obtain ⟨ts0, v1, _⟩ := h.wt
 obtain ⟨kvs, e, _⟩ := id v1.dat
 obtain ⟨ns, b1, b2, b3⟩ := h.bd
 refine ⟨⟨nX m e h.ins, ⟨ts, w, w2, w3⟩, ⟨ns, b1.mv m (by simpa using Ne.symm h.ne), b2, b3⟩, fun y z hz => (h.bl y z hz).Ys m e, h.ne, h.nl, w4, h.nf⟩, Fr.dkM m e List.mem_cons_self⟩
theorem bZ.pop (h : bZ a H L k) {ns : List Str} (b1 : rP H L.bd ns (fun n => .ref (L.ad n))) (b2 : ns.Nodup) (b3 : ∀ n, n ∈ ns ↔ (k.f n).isSome = true) (m : Mv [L.bd] H H') (Vz : rP H' L.bd (ns.filter fun y => decide (y ≠ n)) (fun n => .ref (L.ad n))) : bZ a H' L { k with f := cm k.f n none } /\ qR a L H H' := by
 obtain ⟨ts, w1, w2, w3⟩ := h.wt
 have hf : ∀ y, (cm k.f n none y).isSome = true ↔ y ≠ n /\ (k.f y).isSome = true := fun y => by
  by_cases ey : y = n
  . subst ey; simp [aE]
  . rw [aZ ey]; simp [ey]
 refine ⟨⟨nX m b1 h.ins, ⟨ts, ⟨nX m b1 w1.ins, w1.dat.mv m (by simpa using h.ne)⟩, w2, w3⟩, ⟨_, Vz, b2.sublist List.filter_sublist, fun y => ?_⟩, fun y z hz => ?_, h.ne, h.nl, h.nt, fun y hy => h.nf y ((hf y).mp hy).2⟩, Fr.dkM m b1 (List.mem_cons_of_mem _ List.mem_cons_self)⟩
 . show _ ↔ (cm k.f n none y).isSome = true
   rw [hf, List.mem_filter, b3]; simp [and_comm]
 . have hz : cm k.f n none y = some z := hz
   by_cases ey : y = n
   . subst ey; rw [aE] at hz; cases hz
   . rw [aZ ey] at hz
     exact (h.bl y z hz).Ys m b1
theorem bZ.afT (h : bZ a H L k) {ns : List Str} {b : Addr} (b1 : rP H L.bd ns (fun n => .ref (L.ad n))) (b2 : ns.Nodup) (b3 : ∀ n, n ∈ ns ↔ (k.f n).isSome = true) (hn : k.f n = none) (hm : n ∈ L.nm) (hb : fR a H b n x) (m : Mv [L.bd] H H') (Vz : rP H' L.bd (ns ++ [n]) (cm (fun n => .ref (L.ad n)) n (.ref b))) : bZ a H' { L with ad := cm L.ad n b } { k with f := cm k.f n (some x) } /\ qR a L H H' := by
 obtain ⟨ts, w1, w2, w3⟩ := h.wt
 have hf : ∀ y, (cm k.f n (some x) y).isSome = true ↔ y = n \/ (k.f y).isSome = true := fun y => by
  by_cases ey : y = n
  . subst ey; simp [aE]
  . rw [aZ ey]; simp [ey]
 have Vn : n ∉ ns := fun z => by rw [b3, hn] at z; cases z
 refine ⟨⟨nX m b1 h.ins, ⟨ts, ⟨nX m b1 w1.ins, w1.dat.mv m (by simpa using h.ne)⟩, w2, w3⟩, ⟨_, Vz.congr fun y hy => ?_, ?_, fun y => ?_⟩, fun y z hz => ?_, h.ne, h.nl, h.nt, fun y hy => ?_⟩, Fr.dkM m b1 (List.mem_cons_of_mem _ List.mem_cons_self)⟩
 . show cm (fun n => V.ref (L.ad n)) n (V.ref b) y = V.ref (cm L.ad n b y)
   by_cases ey : y = n
   . subst ey; rw [aE, aE]
   . rw [aZ ey, aZ ey]
 . rw [List.nodup_append]
   refine ⟨b2, by simp, fun y hy z hz => ?_⟩
   rw [List.mem_singleton.mp hz]
   exact fun e => Vn (e ▸ hy)
 . show _ ↔ (cm k.f n (some x) y).isSome = true
   rw [hf, List.mem_append, b3, List.mem_singleton, or_comm]
 . have hz : cm k.f n (some x) y = some z := hz
   show fR a H' (cm L.ad n b y) y z
   by_cases ey : y = n
   . subst ey
     rw [aE] at hz
     cases hz
     rw [aE]
     exact hb.Ys m b1
   . rw [aZ ey] at hz
     rw [aZ ey]
     exact (h.bl y z hz).Ys m b1
 . rcases (hf y).mp hy with e | hy
   . rw [e]; exact hm
   . exact h.nf y hy
end
local macro_rules | `(tactic| walk_at "vat") => `(tactic| first | (refine' rP.keeps ?s ?m; (case s => assumption); (case m => walk_at "vat")) | fail)
set_option hygiene false in
local macro_rules | `(tactic| walk_at "vat") => `(tactic| first | assumption | fail)
local macro_rules | `(tactic| walk_at "kat") => `(tactic| first | (refine' bZ.keeps ?s ?m; (case s => assumption); (case m => walk_at "kat")) | fail)
set_option hygiene false in
local macro_rules | `(tactic| walk_at "kat") => `(tactic| first | assumption | fail)
local macro_rules | `(tactic| walk_at "rd1") => `(tactic| first | ((with_reducible refine' ae1 ?e1 ?_); (case e1 => walk_at "vat")) | fail)
local macro_rules | `(tactic| walk_at "rd1") => `(tactic| first | ((with_reducible refine' X9 ?e1 ?e2 ?_); (case e1 => walk_at "vat"); (case e2 => assumption)) | fail)
local macro_rules | `(tactic| walk_at "rd1") => `(tactic| first | ((with_reducible refine' ZC ?e1 (fun _ _ _ => ?_)); (case e1 => walk_at "vat")) | fail)
def D7 (a : Ad) : Sp := fun vs H Q _ => ∃ L k n x, vs = [.ref L.p, .str n] /\ bZ a H L k /\ k.f n = some x /\ Q (.ref (L.ad n)) H
theorem Sj {H : Hp} {Q : VK} {E : XK} {L : Lay} {k : KS} {n : Str} {x : gE} (h : bZ a H L k) (hx : k.f n = some x) (q : Q (.ref (L.ad n)) H) : D7 a [.ref L.p, .str n] H Q E := ⟨L, k, n, x, rfl, h, hx, q⟩
theorem Qg (T : Txt K mg a) : aL P w K mg base eU 1 a.b5 a.rZ ["self", "name"] (D7 a) := by
 have cl := T.aD; have n1 := T.aR
 refine T.lF.ok FX (fun vs H Q E h => ?_) (fun c3 A outer s H vs Q E hr h => ?_)
 . obtain ⟨_, _, _, _, rfl, _⟩ := h; rfl
 . obtain ⟨L, k, n, x, rfl, hk, hx, q⟩ := h
   have hi := hk.ins
   unfold aP at hi
   obtain ⟨ns, b1, b2, b3⟩ := hk.bd
   have hn : n ∈ ns := by rw [b3, hx]; rfl
   refine ⟨_, (af (bW (J3 (Jy (fj hr) (pv 1) (av (pv 0) rfl)) rfl)
    (ag cP)
    aM)
    (ag (aB (gK (fj hr) (av (pv 0) rfl) (pv 1) (fun _ _ => rfl))))), ?_⟩
   repeat' (walk_at "rd1")
   . rename_i o e1 e2 hb
     rw [e2 hn] at hb
     cases hb
   . exact q
theorem NT (T : Txt K mg a) : dE P w K mg base 1 a.b5 ["self", "name"] [] (D7 a) :=
 ⟨⟨_, _, Qg T, T.lF.binds fun _ _ _ _ _ _ => .all fun us hl => match us, hl with | [_, _], _ => rfl, .nil⟩⟩
def AY (a : Ad) : Sp := fun vs H Q _ => ∃ v b n x, vs = [v, .ref b] /\ fR a H b n x /\ x.hm = none /\ Q (.bl true) H
theorem QO {H : Hp} {Q : VK} {E : XK} {v : V} {b : Addr} {n : Str} {x : gE} (h : fR a H b n x) (hx : x.hm = none) (q : Q (.bl true) H) : AY a [v, .ref b] H Q E := ⟨v, b, n, x, rfl, h, hx, q⟩
theorem NK (T : Txt K mg a) : aL P w K mg base eU 1 a.bR a.pI ["self", "bell"] (AY a) := by
 have cl := T.aK; have n1 := T.gZ
 refine T.jm.ok EB (fun vs H Q E h => ?_) (fun c3 A outer s H vs Q E hr h => ?_)
 . obtain ⟨_, _, _, _, rfl, _⟩ := h; rfl
 . obtain ⟨v, b, n, x, rfl, ⟨rv, sv, hi, hR, hd⟩, hx, q⟩ := h
   unfold dP at hi
   rw [hx] at hi
   simp only [RJ] at hi
   refine ⟨_, (ag (aB (aer (iL KD (av (pv 1) rfl) d0 (aI _)) (Hx vW)))), ?_⟩
   repeat' (walk_at "rd1")
   exact q
theorem Lx (T : Txt K mg a) : dE P w K mg base 1 a.bR ["self", "bell"] [] (AY a) :=
 ⟨⟨_, _, NK T, T.jm.binds fun _ _ _ _ _ _ => .all fun us hl => match us, hl with | [_, _], _ => rfl, .nil⟩⟩
def Hy (a : Ad) : Sp := fun vs H Q _ => ∃ L k b n x, vs = [.ref L.p, .ref b] /\ bZ a H L k /\ fR a H b n x /\ Q (.int (k.now + lead x k.sh)) H
theorem PF {H : Hp} {Q : VK} {E : XK} {L : Lay} {k : KS} {b : Addr} {n : Str} {x : gE} (h : bZ a H L k) (hb : fR a H b n x) (q : Q (.int (k.now + lead x k.sh)) H) : Hy a [.ref L.p, .ref b] H Q E := ⟨L, k, b, n, x, rfl, h, hb, q⟩
theorem Tp (T : Txt K mg a) : aL P w K mg base eU 2 a.bS a.qF ["self", "bell"] (Hy a) := by
 have cl := T.aD; have n1 := T.a8; have n2 := T.cw
 have Mj := LN (P := P) (w := w) (base := base) T
 refine T.jx.ok El (fun vs H Q E h => ?_) (fun c3 A outer s H vs Q E hr h => ?_)
 . obtain ⟨_, _, _, _, _, rfl, _⟩ := h; rfl
 . obtain ⟨L, k, b, n, x, rfl, hk, hb, q⟩ := h
   have hi := hk.ins
   unfold aP at hi
   have hbi : ∃ fs, oz H (.ref b) a.aw fs /\ fs.lookup ("lead" : Str) = none := by
    obtain ⟨rv, sv, hi, _⟩ := hb
    exact ⟨_, hi, by unfold dP; walk_at "lk"⟩
   obtain ⟨fs, hbi, Rg⟩ := hbi
   refine ⟨_, (ag (aB (aC bU (av (pv 0) rfl) (aF (pv 1) T.aK T.wU Mj (hr.mono (by decide)) (ae (av (pv 0) rfl) ai))))), ?_⟩
   repeat' (walk_at "rd1")
   exact q
theorem Ja (T : Txt K mg a) : dE P w K mg base 2 a.bS ["self", "bell"] [] (Hy a) :=
 ⟨⟨_, _, Tp T, T.jx.binds fun _ _ _ _ _ _ => .all fun us hl => match us, hl with | [_, _], _ => rfl, .nil⟩⟩
theorem fR.uP {H : Hp} {b : Addr} {n : Str} {x : gE} (h : fR a H b n x) : ∃ fs, oz H (.ref b) a.aw fs /\ fs.lookup ("lead" : Str) = none /\ fs.lookup ("is_over" : Str) = none /\ fs.lookup ("is_waiting" : Str) = none /\ fs.lookup ("catch_up" : Str) = none /\ fs.lookup ("wait" : Str) = none /\ fs.lookup ("rest" : Str) = none /\ fs.lookup ("move" : Str) = none /\ fs.lookup ("about" : Str) = none /\ fs.lookup ("name" : Str) = some (.str n) /\ fs.lookup ("until" : Str) = some (ow x.un) /\ fs.lookup ("since" : Str) = some (ow x.sn) /\ fs.lookup ("by_day" : Str) = some (.bl x.dy) /\ fs.lookup ("weight" : Str) = some (.int x.wt) /\ fs.lookup ("number" : Str) = some (.int x.no) := by
 obtain ⟨rv, sv, hi, _⟩ := h
 refine ⟨_, hi, ?_⟩
 unfold dP
 exact ⟨by walk_at "lk", by walk_at "lk", by walk_at "lk", by walk_at "lk", by walk_at "lk", by walk_at "lk", by walk_at "lk", by walk_at "lk", by walk_at "lk", by walk_at "lk", by walk_at "lk", by walk_at "lk", by walk_at "lk", by walk_at "lk"⟩
theorem EC.uP {H : Hp} {v : V} {d : Addr} {n : Int} {ts : List (Str × Int)} (h : EC a.aH H v d n ts) : ∃ fs, oz H v a.aH fs /\ fs.lookup ("put" : Str) = none /\ fs.lookup ("take" : Str) = none /\ fs.lookup ("time_of" : Str) = none /\ fs.lookup ("due" : Str) = none /\ fs.lookup ("least" : Str) = none :=
 ⟨_, h.ins, by walk_at "lk", by walk_at "lk", by walk_at "lk", by walk_at "lk", by walk_at "lk"⟩
theorem TN {ts : List (Str × Int)} {t : Str -> Option Int} (h1 : (ts.map (·.1)).Nodup) (h2 : ∀ n u, (n, u) ∈ ts ↔ t n = some u) (n : Str) : ig (Bm ts) n = (t n).map PyData.int := by
 cases e : t n with
 | some u => exact HQ h1 ((h2 n u).mpr e)
 | none =>
   unfold ig Bm
   rw [Option.map_none, Option.map_eq_none_iff, List.find?_eq_none]
   intro kv Y4
   obtain ⟨y, hy, rfl⟩ := List.mem_map.mp Y4
   have := (h2 y.1 y.2).mp hy
   intro z
   have z : y.1 = n := of_decide_eq_true z
   rw [z, e] at this
   cases this
def K2 (a : Ad) : Sp := fun vs H Q _ => ∃ L k n x, vs = [.ref L.p, .ref (L.ad n)] /\ bZ a H L k /\ k.f n = some x /\ ∀ H', qR a L H H' -> bZ a H' L { k with f := cm k.f n (some (rest x)), t := cm k.t n none } -> Q .aS H'
theorem R6 {H : Hp} {Q : VK} {E : XK} {L : Lay} {k : KS} {n : Str} {x : gE} (h : bZ a H L k) (hx : k.f n = some x) (q : ∀ H', qR a L H H' -> bZ a H' L { k with f := cm k.f n (some (rest x)), t := cm k.t n none } -> Q .aS H') : K2 a [.ref L.p, .ref (L.ad n)] H Q E := ⟨L, k, n, x, rfl, h, hx, q⟩
theorem W4 (T : Txt K mg a) : aL P w K mg base eU 3 a.er a.Cu ["self", "bell"] (K2 a) := by
 have cl := T.aD; have n1 := T.bp; have cb := T.aK; have n2 := T.bt; have cr := T.cC
 have MI := U5 (P := P) (w := w) (base := base) T
 have IP := Nw (P := P) (w := w) (base := base) T
 have Ni := Qs (P := P) (w := w) (base := base) T
 refine T.xa.ok Ku (fun vs H Q E h => ?_) (fun c3 A outer s H vs Q E hr h => ?_)
 . obtain ⟨_, _, _, _, rfl, _⟩ := h; rfl
 . obtain ⟨L, k, n, x, rfl, hk, hx, q⟩ := h
   have hi := hk.ins
   unfold aP at hi
   have hB := hk.bl n x hx
   obtain ⟨fs, hb, l1, l2, l3, l4, l5, l6, l7, l8, l9, l10, XA, XG, VS, W5⟩ := hB.uP
   obtain ⟨ts, w1, w2, w3⟩ := hk.wt
   obtain ⟨gs, hw, k1, k2, k3, k4, k5⟩ := w1.uP
   have L0 := TN w2 w3 n
   refine ⟨_, (fP (bW (aJ rW (aF (av (pv 0) rfl) T.cC T.y3 IP (hr.mono (by decide)) (ae (av (pv 1) rfl) ai)) d0 (aI _))
    (ag (aT (aF (av (pv 0) rfl) T.cC T.HE Ni (hr.mono (by decide)) (ae (av (pv 1) rfl) ai))))
    aM)
    (ag (aT (cS (pv 1) T.aK T.Fz MI (hr.mono (by decide)))))), ?_⟩
   refine oX (fun σ' H' => σ' = [some (.ref L.p), some (.ref (L.ad n))] /\ qR a L H H' /\ bZ a H' L { k with t := cm k.t n none }) ?_ ?_
   . cases e : k.t n with
     | none =>
       rw [e] at L0
       repeat' (walk_at "rd1")
       refine ⟨.ref L.wp, L.td, k.now, ts, n, rfl, w1, fun t ht => (by rw [L0] at ht; cases ht), fun _ => ?_⟩
       repeat' (walk_at "rd1")
       refine ⟨rfl, Fr.refl, ?_⟩
       have : cm k.t n none = k.t := by
        funext y
        by_cases ey : y = n
        . rw [ey, aE, e]
        . rw [aZ ey]
       rw [this]; exact hk
     | some u =>
       rw [e] at L0
       repeat' (walk_at "rd1")
       refine ⟨.ref L.wp, L.td, k.now, ts, n, rfl, w1, fun t ht => ?_, fun ht => (by rw [L0] at ht; cases ht)⟩
       repeat' (walk_at "rd1")
       refine V1 w1 L0 (fun H' mv YJ z => ?_)
       repeat' (walk_at "rd1")
       have f1 : ∀ y v, (y, v) ∈ (ts.filter fun y => decide (y.1 ≠ n)) ↔ cm k.t n none y = some v := fun y v => by
        by_cases ey : y = n
        . subst ey; simp [aE]
        . rw [List.mem_filter, w3, aZ ey]; simp [ey]
       have f2 : ∀ y, (cm k.t n none y).isSome = true -> y ∈ L.nm := fun y hy => by
        by_cases ey : y = n
        . subst ey; rw [aE] at hy; cases hy
        . rw [aZ ey] at hy; exact hk.nt y hy
       obtain ⟨Q7, fr⟩ := hk.aeB (t' := cm k.t n none) mv YJ (w2.sublist (List.filter_sublist.map _)) f1 f2
       exact ⟨rfl, fr, Q7⟩
   rintro σ' H1 ⟨rfl, Bk, jd⟩
   have Qr := jd.bl n x hx
   obtain ⟨fs1, hb1, _, _, _, _, _, m6, _⟩ := Qr.uP
   repeat' (walk_at "rd1")
   refine aar Qr (fun H2 o9 ZQ => ?_)
   repeat' (walk_at "rd1")
   obtain ⟨yw, BQ⟩ := jd.abS T hx o9 ZQ
   exact q _ (Bk.trans BQ) yw
theorem MC (T : Txt K mg a) : dE P w K mg base 3 a.er ["self", "bell"] [] (K2 a) :=
 ⟨⟨_, _, W4 T, T.xa.binds fun _ _ _ _ _ _ => .all fun us hl => match us, hl with | [_, _], _ => rfl, .nil⟩⟩
theorem A7 {β : Type} {f : Str -> β} {k : Str} {u v : β} : cm (cm f k u) k v = cm f k v := by
 funext y
 by_cases e : y = k
 . rw [e, aE, aE]
 . rw [aZ e, aZ e, aZ e]
local macro_rules | `(tactic| walk_at "fr") => `(tactic| first | (refine' Fr.step ?m ?s; (case s => assumption); (case m => walk_at "fr")) | fail)
local macro_rules | `(tactic| walk_at "fr") => `(tactic| first | (refine' Fr.trans ?m ?s; (case s => assumption); (case m => walk_at "fr")) | fail)
set_option hygiene false in
local macro_rules | `(tactic| walk_at "fr") => `(tactic| first | assumption | fail)
set_option hygiene false in
local macro_rules | `(tactic| walk_at "fr") => `(tactic| first | exact Fr.refl | fail)
def Bc (a : Ad) : Sp := fun vs H Q _ => ∃ L k n x f l, vs = [.ref L.p, .ref (L.ad n)] /\ bZ a H L k /\ k.f n = some x /\ x.st = some (f, l) /\ k.t n = none /\ k.now < l - lead x k.sh /\ ∀ H', qR a L H H' -> bZ a H' L { k with f := cm k.f n (some (wait x k.now k.sh f l)), t := cm k.t n (some (l - lead x k.sh)) } -> Q .aS H'
theorem Ry {H : Hp} {Q : VK} {E : XK} {L : Lay} {k : KS} {n : Str} {x : gE} {f l : Int} (h : bZ a H L k) (hx : k.f n = some x) (hs : x.st = some (f, l)) (ht : k.t n = none) (hl : k.now < l - lead x k.sh) (q : ∀ H', qR a L H H' -> bZ a H' L { k with f := cm k.f n (some (wait x k.now k.sh f l)), t := cm k.t n (some (l - lead x k.sh)) } -> Q .aS H') : Bc a [.ref L.p, .ref (L.ad n)] H Q E := ⟨L, k, n, x, f, l, rfl, h, hx, hs, ht, hl, q⟩
theorem M8 (T : Txt K mg a) : aL P w K mg base eU 3 a.bO a.p6 ["self", "bell"] (Bc a) := by
 have cl := T.aD; have n1 := T.bp; have n3 := T.a8; have n4 := T.cw; have cb := T.aK; have n2 := T.bt; have n5 := T.cK; have cr := T.cC
 have L7 := PR (P := P) (w := w) (base := base) T
 have Rk := WB (P := P) (w := w) (base := base) T
 refine T.jk.ok EE (fun vs H Q E h => ?_) (fun c3 A outer s H vs Q E hr h => ?_)
 . obtain ⟨_, _, _, _, _, _, rfl, _⟩ := h; rfl
 . obtain ⟨L, k, n, x, f, l, rfl, hk, hx, hs, ht, hl, q⟩ := h
   have hi := hk.ins
   unfold aP at hi
   have hB := hk.bl n x hx
   obtain ⟨fs, hb, l1, l2, l3, l4, l5, l6, l7, l8, l9, l10, XA, XG, VS, W5⟩ := hB.uP
   refine ⟨_, (fP (aT (aF (pv 1) T.aK T.E4 L7 (hr.mono (by decide)) (ae (av (pv 0) rfl) (ae (av (pv 0) rfl) ai))))
    (ag (aT (aF (av (pv 0) rfl) T.cC T.Jv Rk (hr.mono (by decide)) (ae (av (pv 1) rfl) (ae (av (pv 1) rfl) ai)))))), ?_⟩
   repeat' (walk_at "rd1")
   refine oX (fun σ' H' => σ' = [some (.ref L.p), some (.ref (L.ad n))] /\ qR a L H H' /\ bZ a H' L { k with f := cm k.f n (some (wait x k.now k.sh f l)) }) ?_ ?_
   . repeat' (walk_at "rd1")
     refine Xc hB hs (fun H2 o9 ZQ => ?_)
     repeat' (walk_at "rd1")
     obtain ⟨yw, BQ⟩ := hk.abS T hx o9 ZQ
     exact ⟨rfl, BQ, yw⟩
   rintro σ' H1 ⟨rfl, Bk, jd⟩
   clear hi hB hb l1 l2 l3 l4 l5 l6 l7 l8 l9 l10 XA XG VS W5
   have hi := jd.ins
   unfold aP at hi
   have hB := jd.bl n (wait x k.now k.sh f l) aE
   obtain ⟨fs, hb, l1, l2, l3, l4, l5, l6, l7, l8, l9, l10, XA, XG, VS, W5⟩ := hB.uP
   have l10 : fs.lookup ("until" : Str) = some (.int (l - lead x k.sh)) := l10
   obtain ⟨ts, w1, w2, w3⟩ := jd.wt
   obtain ⟨gs, hw, k1, k2, k3, k4, k5⟩ := w1.uP
   have L0 := TN w2 w3 n
   have ht' : ({ k with f := cm k.f n (some (wait x k.now k.sh f l)) } : KS).t n = none := ht
   rw [ht'] at L0
   have hlen : ts.length <= 100 := by
    have := qh w2 (m := L.nm) fun y hy => by
     obtain ⟨z, hz, rfl⟩ := List.mem_map.mp hy
     exact jd.nt z.1 (by rw [(w3 z.1 z.2).mp hz]; rfl)
    have h55 := jd.nl
    rw [List.length_map] at this
    omega
   repeat' (walk_at "rd1")
   refine aeK w1 hlen L0 hl (fun H2 o9 YJ => ?_)
   repeat' (walk_at "rd1")
   have Vn : n ∈ L.nm := jd.nf n (by show (cm k.f n (some _) n).isSome = true; rw [aE]; rfl)
   have f0 : n ∉ ts.map (·.1) := fun z => by
    obtain ⟨y, hy, rfl⟩ := List.mem_map.mp z
    have := (w3 y.1 y.2).mp hy
    rw [ht'] at this
    cases this
   have f1 : ∀ y v, (y, v) ∈ ts ++ [(n, l - lead x k.sh)] ↔ cm k.t n (some (l - lead x k.sh)) y = some v := fun y v => by
    rw [List.mem_append, w3]
    by_cases ey : y = n
    . subst ey
      rw [aE]
      show k.t y = some v \/ _ ↔ _
      rw [ht]
      simp [eq_comm]
    . rw [aZ ey]; simp [ey]
   have f2 : ∀ y, (cm k.t n (some (l - lead x k.sh)) y).isSome = true -> y ∈ L.nm := fun y hy => by
    by_cases ey : y = n
    . subst ey; exact Vn
    . rw [aZ ey] at hy; exact jd.nt y hy
   have f3 : ((ts ++ [(n, l - lead x k.sh)]).map (·.1)).Nodup := by
    rw [List.map_append, List.nodup_append]
    refine ⟨w2, by simp, fun y hy z hz => ?_⟩
    rw [List.mem_singleton.mp hz]
    exact fun e : y = n => f0 (by rw [<- e]; exact hy)
   obtain ⟨yw, BQ⟩ := jd.aeB (t' := cm k.t n (some (l - lead x k.sh))) o9 YJ f3 f1 f2
   exact q _ (Bk.trans BQ) yw
theorem Ms (T : Txt K mg a) : dE P w K mg base 3 a.bO ["self", "bell"] [] (Bc a) :=
 ⟨⟨_, _, M8 T, T.jk.binds fun _ _ _ _ _ _ => .all fun us hl => match us, hl with | [_, _], _ => rfl, .nil⟩⟩
def D8 (a : Ad) : Sp := fun vs H Q _ => ∃ L k n x, vs = [.ref L.p, .ref (L.ad n)] /\ bZ a H L k /\ k.f n = some x /\ ∀ H', qR a L H H' -> bZ a H' L { k with f := cm k.f n none, t := cm k.t n none } -> fR a H' (L.ad n) n (rest x) -> Q .aS H'
theorem To {H : Hp} {Q : VK} {E : XK} {L : Lay} {k : KS} {n : Str} {x : gE} (h : bZ a H L k) (hx : k.f n = some x) (q : ∀ H', qR a L H H' -> bZ a H' L { k with f := cm k.f n none, t := cm k.t n none } -> fR a H' (L.ad n) n (rest x) -> Q .aS H') : D8 a [.ref L.p, .ref (L.ad n)] H Q E := ⟨L, k, n, x, rfl, h, hx, q⟩
theorem Qt (T : Txt K mg a) : aL P w K mg base eU 4 a.cM a.yo ["self", "bell"] (D8 a) := by
 have cl := T.aD; have n1 := T.aR; have cb := T.aK; have n2 := T.bt
 have MQ := T.oZ
 have N7 := MC (P := P) (w := w) (base := base) T
 refine T.oV.ok GI (fun vs H Q E h => ?_) (fun c3 A outer s H vs Q E hr h => ?_)
 . obtain ⟨_, _, _, _, rfl, _⟩ := h; rfl
 . obtain ⟨L, k, n, x, rfl, hk, hx, q⟩ := h
   have hi := hk.ins
   unfold aP at hi
   refine ⟨_, (af (aT (aF (pv 0) cl MQ N7 (hr.mono (by decide)) (ae (pv 1) ai)))
    (ag (aT (B8 PySem.F.plainAttrs_dict PySem.F.slot_dict_pop PySem.F.type_dict_pop Gr (av (pv 0) rfl) (ae (av (pv 1) rfl) ai))))), ?_⟩
   repeat' (walk_at "rd1")
   refine R6 hk hx (fun H1 Bk jd => ?_)
   have DU := jd.ins
   unfold aP at DU
   have hB := jd.bl n (rest x) aE
   obtain ⟨fs, hb, l1, l2, l3, l4, l5, l6, l7, l8, l9, l10, XA, XG, VS, W5⟩ := hB.uP
   obtain ⟨ns, b1, b2, b3⟩ := jd.bd
   have hn : n ∈ ns := by rw [b3]; show (cm k.f n (some _) n).isSome = true; rw [aE]; rfl
   repeat' (walk_at "rd1")
   refine VX b1 hn (fun H2 o9 Vz => ?_)
   repeat' (walk_at "rd1")
   obtain ⟨yw, BQ⟩ := jd.pop b1 b2 b3 o9 Vz
   have yw : bZ a H2 L { k with f := cm (cm k.f n (some (rest x))) n none, t := cm k.t n none } := yw
   rw [A7] at yw
   exact q _ (Bk.trans BQ) yw (hB.Ys o9 b1)
theorem M5 (T : Txt K mg a) : dE P w K mg base 4 a.cM ["self", "bell"] [] (D8 a) :=
 ⟨⟨_, _, Qt T, T.oV.binds fun _ _ _ _ _ _ => .all fun us hl => match us, hl with | [_, _], _ => rfl, .nil⟩⟩
def Fw (n : Str) : PyData := .tuple [.str "over", .str n]
def E1 (a : Ad) : Sp := fun vs H Q _ => ∃ L k n x, vs = [.ref L.p, .ref (L.ad n)] /\ bZ a H L k /\ k.f n = some x /\ ∀ q H', qR a L H H' -> H q = none -> d5 H' q [Fw n] -> bZ a H' L { k with f := cm k.f n none, t := cm k.t n none } -> Q (.ref q) H'
theorem S0 {H : Hp} {Q : VK} {E : XK} {L : Lay} {k : KS} {n : Str} {x : gE} (h : bZ a H L k) (hx : k.f n = some x) (q : ∀ q H', qR a L H H' -> H q = none -> d5 H' q [Fw n] -> bZ a H' L { k with f := cm k.f n none, t := cm k.t n none } -> Q (.ref q) H') : E1 a [.ref L.p, .ref (L.ad n)] H Q E := ⟨L, k, n, x, rfl, h, hx, q⟩
theorem Rf (T : Txt K mg a) : aL P w K mg base eU 5 a.cL a.xo ["self", "bell"] (E1 a) := by
 have cl := T.aD; have cb := T.aK; have n2 := T.bt
 have UN := T.sR
 have Uk := M5 (P := P) (w := w) (base := base) T
 refine T.oY.ok Hn (fun vs H Q E h => ?_) (fun c3 A outer s H vs Q E hr h => ?_)
 . obtain ⟨_, _, _, _, rfl, _⟩ := h; rfl
 . obtain ⟨L, k, n, x, rfl, hk, hx, q⟩ := h
   have hi := hk.ins
   unfold aP at hi
   refine ⟨_, (af (aT (aF (pv 0) cl UN Uk (hr.mono (by decide)) (ae (pv 1) ai)))
    (ag (aB (fY (ae (c5 (ae gY (ae (av (pv 1) rfl) ai))) ai))))), ?_⟩
   repeat' (walk_at "rd1")
   refine To hk hx (fun H1 Bk jd hB => ?_)
   obtain ⟨fs, hb, l1, l2, l3, l4, l5, l6, l7, l8, l9, l10, XA, XG, VS, W5⟩ := hB.uP
   repeat' (walk_at "rd1")
   rename_i v2 H2 s2 hv2 q3 H3 s3 J6 Gw
   exact q _ _ ((Bk.step s2).step s3) (Bk.none (s2.none J6)) Gw ((jd.keeps s2).keeps s3)
theorem A1 (T : Txt K mg a) : dE P w K mg base 5 a.cL ["self", "bell"] [] (E1 a) :=
 ⟨⟨_, _, Rf T, T.oY.binds fun _ _ _ _ _ _ => .all fun us hl => match us, hl with | [_, _], _ => rfl, .nil⟩⟩
def aV (k : KS) (x : gE) : Int := k.now + lead x k.sh
structure vd (k : KS) (x : gE) (f l : Int) : Prop where
 st : x.st = some (f, l)
 hm : x.hm = none
 gt : aV k x < l
def wz (k : KS) (n : Str) (x : gE) (l : Int) : KS := { k with f := cm k.f n (some (wait (rest x) k.now k.sh (x.st.getD (0, 0)).1 l)), t := cm k.t n (some (l - lead x k.sh)) }
def Np (_ : KS) (_ : Str) (_ : gE) (_ : Int) : List PyData := []
def NB (a : Ad) : Sp := fun vs H Q _ => ∃ L k n x f l, vs = [.ref L.p, .ref (L.ad n)] /\ bZ a H L k /\ k.f n = some x /\ vd k x f l /\ ∀ q H', qR a L H H' -> H q = none -> d5 H' q (Np k n x l) -> bZ a H' L (wz k n x l) -> Q (.ref q) H'
theorem TV {H : Hp} {Q : VK} {E : XK} {L : Lay} {k : KS} {n : Str} {x : gE} {f l : Int} (h : bZ a H L k) (hx : k.f n = some x) (ok : vd k x f l) (q : ∀ q H', qR a L H H' -> H q = none -> d5 H' q (Np k n x l) -> bZ a H' L (wz k n x l) -> Q (.ref q) H') : NB a [.ref L.p, .ref (L.ad n)] H Q E := ⟨L, k, n, x, f, l, rfl, h, hx, ok, q⟩
theorem aav (T : Txt K mg a) : aL P w K mg base eU 6 a.eX a.Fb ["self", "bell"] (NB a) := by
 have cl := T.aD; have cb := T.aK
 have MQ := T.oZ; have N9 := T.mz; have AJ := T.gU; have wC := T.gf; have M3 := T.nR
 have N7 := MC (P := P) (w := w) (base := base) T
 have NX := Lx (P := P) (w := w) (base := base) T
 have AZ := Ja (P := P) (w := w) (base := base) T
 have x9 := A1 (P := P) (w := w) (base := base) T
 have M6 := Ms (P := P) (w := w) (base := base) T
 have Ga := QI (P := P) (w := w) (base := base) T
 have kH := GZ (P := P) (w := w) (base := base) T
 refine T.AB.ok Fi (fun vs H Q E h => ?_) (fun c3 A outer s H vs Q E hr h => ?_)
 . obtain ⟨_, _, _, _, _, _, rfl, _⟩ := h; rfl
 . obtain ⟨L, k, n, x, f, l, rfl, hk, hx, ok, q⟩ := h
   have hi := hk.ins
   unfold aP at hi
   refine ⟨_, (af (aT (aF (pv 0) cl MQ N7 (hr.mono (by decide)) (ae (pv 1) ai)))
    (af (bW (rQ (dC (aF (pv 0) cl N9 NX (hr.mono (by decide)) (ae (pv 1) ai)) (fun _ => rfl)))
     (ag (aB (fY ai)))
     aM)
    (af (aN (i := 2) Fi.nd rfl (Or.inl rfl) (aF (pv 1) T.aK T.sP Ga (hr.mono (by decide)) (ae (aF (pv 0) cl AJ AZ (hr.mono (by decide)) (ae (pv 1) ai)) ai)))
    (af (bW (dC (cS (pv 1) T.aK T.kB kH (hr.mono (by decide))) (fun _ => rfl))
     (ag (aB (aC Oi (pv 2) (aF (pv 0) cl wC x9 (hr.mono (by decide)) (ae (pv 1) ai)))))
     aM)
    (af (aT (aF (pv 0) cl M3 M6 (hr.mono (by decide)) (ae (pv 1) ai)))
    (ag (aB (pv 2)))))))), ?_⟩
   repeat' (walk_at "rd1")
   refine R6 hk hx (fun H1 Bk jd => ?_)
   have DU := jd.ins
   unfold aP at DU
   have Qr := jd.bl n (rest x) aE
   obtain ⟨fs, hb, l1, l2, l3, l4, l5, l6, l7, l8, l9, l10, XA, XG, VS, W5⟩ := Qr.uP
   repeat' (walk_at "rd1")
   refine QO Qr ok.hm ?_
   repeat' (walk_at "rd1")
   refine PF jd Qr ?_
   repeat' (walk_at "rd1")
   refine WC Qr ok.st ok.gt (fun q2 H2 s2 Io G8 => ?_)
   have yw := jd.keeps s2
   have ZQ := Qr.keeps s2
   have RK := yw.ins
   unfold aP at RK
   obtain ⟨fs2, hb2, _, o2, _⟩ := ZQ.uP
   have DI : (rest x).st = some (f, l) := ok.st
   repeat' (walk_at "rd1")
   . rename_i hb
     rw [DI] at hb
     cases hb
   . refine Ry yw aE DI aE (by have := ok.gt; unfold aV at this; show k.now < l - lead x k.sh; omega) (fun H3 EK yy => ?_)
     have yy : bZ a H3 L { k with f := cm (cm k.f n (some (rest x))) n (some (wait (rest x) k.now k.sh f l)), t := cm (cm k.t n none) n (some (l - lead x k.sh)) } := yy
     rw [A7, A7] at yy
     repeat' (walk_at "rd1")
     exact q _ _ ((Bk.step s2).trans EK) (Bk.none Io) (EK.lat G8) (by unfold wz; rw [ok.st]; exact yy)
theorem Kz (T : Txt K mg a) : dE P w K mg base 6 a.eX ["self", "bell"] [] (NB a) :=
 ⟨⟨_, _, aav T, T.AB.binds fun _ _ _ _ _ _ => .all fun us hl => match us, hl with | [_, _], _ => rfl, .nil⟩⟩
def Es (n : Str) (x : gE) (t : Int) : List PyData := match Lf x.ru x.no t with
 | none => [Fw n]
 | some _ => []
def yI (k : KS) (n : Str) (x : gE) (t : Int) : KS := match Lf x.ru x.no t with
 | none => { k with f := cm k.f n none, t := cm k.t n none }
 | some (_, l) => wz k n (Ei x t) l
theorem abR {r : RU} {n t f l : Int} {H : Hp} {v : V} (h : pE a H v r) (e : Lf r n t = some (f, l)) : t < f /\ f <= l := by
 obtain ⟨g1, g2⟩ := UO (n := n + 1) h
 unfold Lf at e
 have key : ∀ {m : V} {k : Int} {p : Int × Int}, (IM m k p).2 = some (f, l) -> p = (f, l) := by
  intro m k p e
  cases m with
  | int i =>
    by_cases h : i <= k
    . simp [IM, h] at e
    . simp only [IM, if_neg h] at e; exact Option.some.inj e
  | _ => exact Option.some.inj e
 have e := key e
 injection e with e1 e2
 omega
theorem fR.ris {H : Hp} {b : Addr} {n : Str} {x : gE} (h : fR a H b n x) : ∃ v, pE a H v x.ru := let ⟨rv, _, _, h2, _⟩ := h; ⟨rv, h2⟩
def EY (a : Ad) : Sp := fun vs H Q _ => ∃ L k n x, vs = [.ref L.p, .ref (L.ad n), .int (aV k x)] /\ bZ a H L k /\ k.f n = some x /\ x.hm = none /\ 0 <= x.no /\ x.no < 10 ^ 50 /\ ∀ q H', qR a L H H' -> H q = none -> d5 H' q (Es n x (aV k x)) -> bZ a H' L (yI k n x (aV k x)) -> Q (.ref q) H'
theorem Uo {H : Hp} {Q : VK} {E : XK} {L : Lay} {k : KS} {n : Str} {x : gE} {t : Int} (h : bZ a H L k) (hx : k.f n = some x) (hm : x.hm = none) (h0 : 0 <= x.no) (h1 : x.no < 10 ^ 50) (et : t = aV k x) (q : ∀ q H', qR a L H H' -> H q = none -> d5 H' q (Es n x (aV k x)) -> bZ a H' L (yI k n x (aV k x)) -> Q (.ref q) H') : EY a [.ref L.p, .ref (L.ad n), .int t] H Q E := ⟨L, k, n, x, by rw [et], h, hx, hm, h0, h1, q⟩
theorem PV (T : Txt K mg a) : aL P w K mg base eU 7 a.cI a.xr ["self", "bell", "at"] (EY a) := by
 have cl := T.aD; have cb := T.aK
 have wC := T.gf; have LQ := T.j4
 have x9 := A1 (P := P) (w := w) (base := base) T
 have Mr := Kz (P := P) (w := w) (base := base) T
 have Iz := T6 (P := P) (w := w) (base := base) T
 have kH := GZ (P := P) (w := w) (base := base) T
 refine T.o7.ok Hl (fun vs H Q E h => ?_) (fun c3 A outer s H vs Q E hr h => ?_)
 . obtain ⟨_, _, _, _, rfl, _⟩ := h; rfl
 . obtain ⟨L, k, n, x, rfl, hk, hx, hm, h0, h1, q⟩ := h
   have hi := hk.ins
   unfold aP at hi
   have hB := hk.bl n x hx
   obtain ⟨rv, sv, hI, hR, hd⟩ := id hB
   unfold dP at hI
   refine ⟨_, (af (aT (aF (pv 1) T.aK T.Am Iz (hr.mono (by decide)) (ae (pv 2) ai)))
    (af (bW (dC (cS (pv 1) T.aK T.kB kH (hr.mono (by decide))) (fun _ => rfl))
     (ag (aB (aF (pv 0) cl wC x9 (hr.mono (by decide)) (ae (pv 1) ai))))
     aM)
    (ag (aB (aF (pv 0) cl LQ Mr (hr.mono (by decide)) (ae (pv 1) ai)))))), ?_⟩
   repeat' (walk_at "rd1")
   refine abi hB h0 h1 (fun H1 MM Qr => ?_)
   obtain ⟨jd, Bk⟩ := hk.abS T hx MM Qr
   have DU := jd.ins
   unfold aP at DU
   obtain ⟨fs1, hb1, _, o1, _⟩ := Qr.uP
   have est : (Ei x (aV k x)).st = Lf x.ru x.no (aV k x) := rfl
   unfold Es yI at q
   cases DI : Lf x.ru x.no (aV k x) with
   | none =>
     rw [DI] at q est
     repeat' (walk_at "rd1")
     . refine S0 jd aE (fun q3 H3 EK J6 Gw yy => ?_)
       have yy : bZ a H3 L { k with f := cm (cm k.f n (some (Ei x (aV k x)))) n none, t := cm k.t n none } := yy
       rw [A7] at yy
       repeat' (walk_at "rd1")
       exact q _ _ (Bk.trans EK) (Bk.none J6) Gw yy
     . rename_i hb
       rw [est] at hb
       cases hb
   | some fl =>
     obtain ⟨f, l⟩ := fl
     rw [DI] at q est
     have hgt := abR hR DI
     repeat' (walk_at "rd1")
     . rename_i hb
       rw [est] at hb
       cases hb
     . refine TV jd aE ⟨est, hm, by show aV k x < l; omega⟩ (fun q3 H3 EK J6 Gw yy => ?_)
       have yy : bZ a H3 L { k with f := cm (cm k.f n (some (Ei x (aV k x)))) n (some (wait (rest (Ei x (aV k x))) k.now k.sh ((Ei x (aV k x)).st.getD (0, 0)).1 l)), t := cm k.t n (some (l - lead x k.sh)) } := yy
       rw [A7] at yy
       repeat' (walk_at "rd1")
       exact q _ _ (Bk.trans EK) (Bk.none J6) Gw yy
theorem Ob (T : Txt K mg a) : dE P w K mg base 7 a.cI ["self", "bell", "at"] [] (EY a) :=
 ⟨⟨_, _, PV T, T.o7.binds fun _ _ _ _ _ _ => .all fun us hl => match us, hl with | [_, _, _], _ => rfl, .nil⟩⟩
theorem abx {k : KS} {n m : Str} {x : gE} {l : Int} (h : m ≠ n) : (wz k n x l).f m = k.f m := aZ h
theorem T2 (k : KS) (n : Str) (x : gE) (l : Int) : (wz k n x l).now = k.now /\ (wz k n x l).sh = k.sh := ⟨rfl, rfl⟩
theorem Mt (k : KS) (n : Str) (x : gE) (l : Int) : (Np k n x l).length <= 3 := Nat.zero_le _
theorem vd.same {k k' : KS} {x : gE} {f l : Int} (h : vd k x f l) (e1 : k'.now = k.now) (e2 : k'.sh = k.sh) : vd k' x f l := by
 have e : aV k' x = aV k x := by unfold aV; rw [e1, e2]
 exact ⟨h.st, h.hm, by rw [e]; exact h.gt⟩
theorem Us {k : KS} {n : Str} {x y : gE} {l : Int} : wz { k with f := cm k.f n (some y) } n x l = wz k n x l := by
 unfold wz
 simp only [A7]
def KI (H H' : Hp) : Prop := ∀ x o, H x = some o -> (∀ xs, o ≠ .lst xs) -> H' x = some o
section
variable {H H' H1 : Hp} {L : Lay} {k : KS} {n : Str} {x : gE}
theorem Ov {q : Addr} {ds : List PyData} (m : Mv [q] H H') (h : d5 H q ds) : KI H H' := fun y o e nl => m.kp y o (fun z => by
 obtain ⟨xs, e2, _⟩ := h
 rw [List.mem_singleton.mp z, e2] at e
 cases e
 exact nl _ rfl) e
theorem KI.ins {C : Addr} {v : V} {fs : List (Str × V)} (s : KI H H') (h : oz H v C fs) : oz H' v C fs := by
 obtain ⟨p, dx, rfl, e⟩ := h
 exact ⟨p, dx, rfl, s _ _ e (by intro _ z; cases z)⟩
theorem KI.tup (s : KI H H') : ∀ a xs, H a = some (.tup xs) -> H' a = some (.tup xs) := fun _ _ e => s _ _ e (by intro _ z; cases z)
theorem KI.dla {p : Addr} {m : List (Str × PyData)} (s : KI H H') (h : gA H p m) : gA H' p m := by
 obtain ⟨kvs, e, d⟩ := h
 exact ⟨kvs, s _ _ e (by intro _ z; cases z), d.yz s.tup⟩
theorem KI.ris {v : V} {r : RU} (s : KI H H') (h : pE a H v r) : pE a H' v r := by cases r <;> exact ⟨s.ins h.1, h.2⟩
theorem KI.bat {b : Addr} (s : KI H H') (h : fR a H b n x) : fR a H' b n x := by
 obtain ⟨rv, sv, h1, h2, h3⟩ := h
 exact ⟨rv, sv, s.ins h1, s.ris h2, h3.yz s.tup (nH _)⟩
theorem KI.kat (s : KI H H') (h : bZ a H L k) : bZ a H' L k := by
 obtain ⟨ts, w1, w2, w3⟩ := h.wt
 obtain ⟨ns, b1, b2, b3⟩ := h.bd
 exact ⟨s.ins h.ins, ⟨ts, ⟨s.ins w1.ins, s.dla w1.dat⟩, w2, w3⟩, ⟨ns, s _ _ b1 (by intro _ z; cases z), b2, b3⟩, fun n x e => s.bat (h.bl n x e), h.ne, h.nl, h.nt, h.nf⟩
theorem Ny {cs S : List Addr} {q : Addr} (f : Fr cs S H H1) (m : Mv [q] H1 H') (hn : H q = none) : Fr cs S H H' := ⟨fun y o e a b => m.kp y o (fun z => by rw [List.mem_singleton.mp z, hn] at e; cases e) (f.kp y o e a b), fun y e => f.dm y (m.dm y e)⟩
end
theorem Lj {H : Hp} {p : Addr} {ss : List Str} (h : d5 H p (ss.map PyData.str)) : H p = some (.lst (ss.map V.str)) := by
 obtain ⟨xs, e, dv, im⟩ := h
 have : xs = ss.map V.str := by
  clear e im
  induction ss generalizing xs with
  | nil => cases dv; rfl
  | cons s ss ih =>
    cases dv with
    | cons h r =>
      rw [h.str_inv, ih _ r]; rfl
 rw [this] at e
 exact e
theorem Pw {H : Hp} {Q : VK} {p : Addr} {ns : List Str} {f : Str -> V} (hp : rP H p ns f) (hl : ns.length < 64) (h : ∀ q H' ss, ay H H' -> H q = none -> ss.Perm ns -> RH ss -> d5 H' q (ss.map PyData.str) -> Q (.ref q) H') : Oz [.ref p] H Q := ⟨_, rfl, p, _, ns, rfl, hp, rP.adM, hl, h⟩
def uq (k : KS) (ss : List Str) : Prop := RH ss /\ ∀ n, n ∈ ss ↔ (k.f n).isSome = true
theorem bZ.len {H : Hp} {L : Lay} {k : KS} (h : bZ a H L k) {ns : List Str} (b2 : ns.Nodup) (b3 : ∀ n, n ∈ ns ↔ (k.f n).isSome = true) : ns.length < 60 := by
 have := qh b2 (m := L.nm) fun y hy => h.nf y ((b3 y).mp hy)
 have := h.nl
 omega
theorem uq.len {H : Hp} {L : Lay} {k : KS} {ss : List Str} (h : bZ a H L k) (hs : uq k ss) (nd : ss.Nodup) : ss.length < 60 := h.len nd hs.2
def G5 (a : Ad) : Sp := fun vs H Q _ => ∃ L k, vs = [.ref L.p] /\ bZ a H L k /\ ∀ q H' ss, ay H H' -> H q = none -> uq k ss -> ss.Nodup -> d5 H' q (ss.map PyData.str) -> Q (.ref q) H'
theorem O8 {H : Hp} {Q : VK} {E : XK} {L : Lay} {k : KS} (h : bZ a H L k) (q : ∀ q H' ss, ay H H' -> H q = none -> uq k ss -> ss.Nodup -> d5 H' q (ss.map PyData.str) -> Q (.ref q) H') : G5 a [.ref L.p] H Q E := ⟨L, k, rfl, h, q⟩
theorem Ue (T : Txt K mg a) : aL P w K mg base eU 1 a.cW a.tW ["self"] (G5 a) := by
 have cl := T.aD; have n1 := T.aR
 refine T.ky.ok F8 (fun vs H Q E h => ?_) (fun c3 A outer s H vs Q E hr h => ?_)
 . obtain ⟨_, _, rfl, _⟩ := h; rfl
 . obtain ⟨L, k, rfl, hk, q⟩ := h
   have hi := hk.ins
   unfold aP at hi
   obtain ⟨ns, b1, b2, b3⟩ := hk.bd
   have hlen := hk.len b2 b3
   refine ⟨_, (ag (aB (bB (G2 rfl) rfl T.fz PyProof.Rows.boot_sorted (ae (av (pv 0) rfl) ai)))), ?_⟩
   repeat' (walk_at "rd1")
   refine Pw b1 (by omega) (fun q1 H1 ss s1 Ii Vl hu1 Ij => ?_)
   repeat' (walk_at "rd1")
   exact q q1 H1 ss s1 Ii ⟨hu1, fun n => by rw [Vl.mem_iff, b3]⟩ (Vl.nodup_iff.mpr b2) Ij
theorem QP (T : Txt K mg a) : dE P w K mg base 1 a.cW ["self"] [] (G5 a) :=
 ⟨⟨_, _, Ue T, T.ky.binds fun _ _ _ _ _ _ => .all fun us hl => match us, hl with | [_], _ => rfl, .nil⟩⟩
def Kg (a : Ad) : Sp := fun vs H Q _ => ∃ L k, vs = [.ref L.p] /\ bZ a H L k /\ ∀ q H' ss, ay H H' -> H q = none -> uq k ss -> ss.Nodup -> H' q = some (.lst (ss.map fun n => .ref (L.ad n))) -> Q (.ref q) H'
theorem Se {H : Hp} {Q : VK} {E : XK} {L : Lay} {k : KS} (h : bZ a H L k) (q : ∀ q H' ss, ay H H' -> H q = none -> uq k ss -> ss.Nodup -> H' q = some (.lst (ss.map fun n => .ref (L.ad n))) -> Q (.ref q) H') : Kg a [.ref L.p] H Q E := ⟨L, k, rfl, h, q⟩
theorem Wu (T : Txt K mg a) : aL P w K mg base eU 1 a.bA a.ou ["self"] (Kg a) := by
 have cl := T.aD; have n1 := T.aR
 refine T.iA.ok CV (fun vs H Q E h => ?_) (fun c3 A outer s H vs Q E hr h => ?_)
 . obtain ⟨_, _, rfl, _⟩ := h; rfl
 . obtain ⟨L, k, rfl, hk, q⟩ := h
   have hi := hk.ins
   unfold aP at hi
   obtain ⟨ns, b1, b2, b3⟩ := hk.bd
   have hlen := hk.len b2 b3
   refine ⟨_, (ag (aB (Hj (T := ["name"]) (M := ["self"]) (Y0 (aj fA) ["self"] rfl rfl (by decide +kernel)) rfl (iO (bB (G2 rfl) rfl T.fz PyProof.Rows.boot_sorted (ae (av (pv 0) rfl) ai))) (fun _ _ _ _ _ => (aX (i := 0) (show List.Nodup (["name", "self"] : List Str) by decide +kernel) rfl (Or.inl rfl))) (j9 (by decide)) (fun _ _ _ _ _ => Gy) (fun _ _ _ _ _ => (gK (fj hr) (Dc (K := K) rfl (pv 1) rfl) (pv 0) (fun _ _ => rfl)))))), ?_⟩
   repeat' (walk_at "rd1")
   refine Pw b1 (by omega) (fun q1 H1 ss s1 Ii Vl hu1 Ij => ?_)
   have hN : uq k ss := ⟨hu1, fun n => by rw [Vl.mem_iff, b3]⟩
   have hsl : ss.length = ns.length := Vl.length_eq
   refine TU (xs := ss.map V.str) (.inl (.inl (Lj Ij))) (by rw [List.length_map]; omega) (fun i acc H' => ay H1 H' /\ acc = (ss.take i).map fun n => .ref (L.ad n)) ⟨ay.refl _, rfl⟩ (fun i acc H' hi ⟨s2, e⟩ => ⟨ay.seq s2 (.inl (.inl (Lj Ij))), by rw [e, List.length_map, List.length_map, List.length_take]; omega⟩) (fun i x acc H' N hx ⟨s2, e⟩ yes no => ?_) (fun acc H' q2 ⟨s2, e⟩ Io => ?_)
   . rw [List.getElem?_map] at hx
     obtain ⟨n, hn, rfl⟩ := Option.map_eq_some_iff.mp hx
     have Qb : n ∈ ns := Vl.mem_iff.mp (List.mem_of_getElem? hn)
     have RK := (hi.keeps s1).keeps s2
     have b12 := (b1.keeps s1).keeps s2
     repeat' (walk_at "rd1")
     refine CM (fun _ => ?_) (fun hb => by cases hb)
     repeat' (walk_at "rd1")
     exact yes _ _ ⟨s2, by rw [take_snoc hn, List.map_append, e]; rfl⟩
   . rw [List.length_map, List.take_length] at e
     refine q q2 _ ss ((s1.trans s2).trans (dB Io)) ((s1.trans s2).none Io) hN (Vl.nodup_iff.mpr b2) ?_
     rw [ao, e]
theorem Mb (T : Txt K mg a) : dE P w K mg base 1 a.bA ["self"] [] (Kg a) :=
 ⟨⟨_, _, Wu T, T.iA.binds fun _ _ _ _ _ _ => .all fun us hl => match us, hl with | [_], _ => rfl, .nil⟩⟩
def Qo (x : gE) : Int := (x.st.getD (0, 0)).2
def Ez (s : KS × List PyData) (n : Str) : KS × List PyData := match s.1.f n with
 | some x => (wz s.1 n x (Qo x), s.2 ++ Np s.1 n x (Qo x))
 | none => s
def layA (k : KS) (ns : List Str) : KS × List PyData := ns.foldl Ez (k, [])
theorem Qc (k : KS) (ns : List Str) (n : Str) : layA k (ns ++ [n]) = Ez (layA k ns) n := by unfold layA; rw [List.foldl_append]; rfl
theorem Qq (s : KS × List PyData) (n : Str) : (Ez s n).1.now = s.1.now /\ (Ez s n).1.sh = s.1.sh /\ (∀ m, m ≠ n -> (Ez s n).1.f m = s.1.f m) /\ (Ez s n).2.length <= s.2.length + 3 := by
 unfold Ez
 cases e : s.1.f n with
 | none => exact ⟨rfl, rfl, fun _ _ => rfl, Nat.le_add_right _ _⟩
 | some x =>
   obtain ⟨a1, a2⟩ := T2 s.1 n x (Qo x)
   refine ⟨a1, a2, fun m hm => abx hm, ?_⟩
   have := Mt s.1 n x (Qo x)
   simp only [List.length_append]
   omega
theorem Jj : ∀ (ns : List Str) (s : KS × List PyData), (ns.foldl Ez s).1.now = s.1.now /\ (ns.foldl Ez s).1.sh = s.1.sh /\ (∀ m, m ∉ ns -> (ns.foldl Ez s).1.f m = s.1.f m) /\ (ns.foldl Ez s).2.length <= s.2.length + 3 * ns.length
 | [], s => ⟨rfl, rfl, fun _ _ => rfl, Nat.le_refl _⟩
 | n :: r, s => by
   obtain ⟨h1, h2, h3, h4⟩ := Jj r (Ez s n)
   obtain ⟨g1, g2, g3, g4⟩ := Qq s n
   refine ⟨h1.trans g1, h2.trans g2, fun m hm => ?_, ?_⟩
   . rw [List.mem_cons, not_or] at hm
     exact (h3 m hm.2).trans (g3 m hm.1)
   . rw [List.foldl_cons, List.length_cons]
     omega
theorem Q8 (k : KS) (ns : List Str) : (layA k ns).1.now = k.now /\ (layA k ns).1.sh = k.sh /\ (∀ m, m ∉ ns -> (layA k ns).1.f m = k.f m) /\ (layA k ns).2.length <= 3 * ns.length := by
 have := Jj ns (k, [])
 simpa [layA] using this
theorem vd.lst {k : KS} {x : gE} {f l : Int} (h : vd k x f l) : Qo x = l := by unfold Qo; rw [h.st]; rfl
def OT (k : KS) (ns : List Str) : Prop := ns.Nodup /\ ∀ n ∈ ns, ∃ x f l, k.f n = some x /\ vd k x f l
def EZ (a : Ad) : Sp := fun vs H Q _ => ∃ L k p ns, vs = [.ref L.p, .ref p] /\ bZ a H L k /\ H p = some (.lst (ns.map fun n => .ref (L.ad n))) /\ ns.length <= 100 /\ OT k ns /\ ∀ q H', qR a L H H' -> H q = none -> d5 H' q (layA k ns).2 -> bZ a H' L (layA k ns).1 -> Q (.ref q) H'
theorem Sh {H : Hp} {Q : VK} {E : XK} {L : Lay} {k : KS} {p : Addr} {ns : List Str} (h : bZ a H L k) (hp : H p = some (.lst (ns.map fun n => .ref (L.ad n)))) (hl : ns.length <= 100) (ok : OT k ns) (q : ∀ q H', qR a L H H' -> H q = none -> d5 H' q (layA k ns).2 -> bZ a H' L (layA k ns).1 -> Q (.ref q) H') : EZ a [.ref L.p, .ref p] H Q E := ⟨L, k, p, ns, rfl, h, hp, hl, ok, q⟩
theorem NV {H : Hp} {Q : VK} {p b : Addr} {ds es : List PyData} (hp : d5 H p ds) (hb : d5 H b es) (hl : ds.length + es.length <= 4000) (h : ∀ H2, Mv [p] H H2 -> d5 H2 p (ds ++ es) -> Q .aS H2) : O2 (.ref p) [.ref b] H Q := by
 obtain ⟨xs, e, dv, im⟩ := hp
 obtain ⟨zs, e2, dv2, im2⟩ := hb
 have mv : Mv [p] H (upd H p (.lst (xs ++ zs))) := .bo e (by intro _ z; cases z)
 refine ⟨p, b, xs, zs, rfl, rfl, e, e2, small (by rw [dv.length, dv2.length]; exact hl), h _ mv ⟨_, ao, ?_, ?_⟩⟩
 . exact c7.append (dv.yz mv.tp im) (dv2.yz mv.tp im2)
 . rw [rC] at *
   intro d hd
   rcases List.mem_append.mp hd with hd | hd
   . exact im d hd
   . exact im2 d hd
theorem RA (T : Txt K mg a) : aL P w K mg base eU 7 a.cj a.sf ["self", "bells"] (EZ a) := by
 have cl := T.aD
 have LQ := T.j4
 have Mr := Kz (P := P) (w := w) (base := base) T
 refine T.k9.ok jt (fun vs H Q E h => ?_) (fun c3 A outer s H vs Q E hr h => ?_)
 . obtain ⟨_, _, _, _, rfl, _⟩ := h; rfl
 . obtain ⟨L, k, p, ns, rfl, hk, hp, hl, ⟨qS, bD⟩, q⟩ := h
   refine ⟨_, (af (aN (i := 2) jt.nd rfl (Or.inl rfl) (fY ai))
    (af (oQ PassesOwn.never rfl (iO (pv 1)) (aX (i := 3) jt.nd rfl (Or.inl rfl))
     (ag (aT (B8 PySem.F.plainAttrs_list PySem.F.slot_list_extend PySem.F.type_list_extend Eo (pv 2) (ae (aF (pv 0) cl LQ Mr (hr.mono (by decide)) (ae (pv 3) ai)) ai)))))
    (ag (aB (pv 2))))), ?_⟩
   repeat' (walk_at "rd1")
   rename_i q1 H1 s1 Ii Ij
   have Vl := s1 _ _ hp
   refine forL (xs := ns.map fun n => .ref (L.ad n)) (.inl (.inl Vl)) (fun i σ' H' => ∃ z, σ' = [some (.ref L.p), some (.ref p), some (.ref q1), z] /\ qR a L H H' /\ H' p = some (.lst (ns.map fun n => .ref (L.ad n))) /\ d5 H' q1 (layA k (ns.take i)).2 /\ bZ a H' L (layA k (ns.take i)).1) ⟨_, rfl, s1.fr, Vl, Ij, hk.keeps s1⟩ (fun i σ' H' _ ⟨_, _, _, TC, _⟩ => .inl (.inl TC)) ?_ ?_
   . rintro i y σ' H2 hy ⟨z, rfl, BQ, X7, G8, yw⟩
     rw [List.getElem?_map] at hy
     obtain ⟨n, hn, rfl⟩ := Option.map_eq_some_iff.mp hy
     have RK := yw.ins
     unfold aP at RK
     obtain ⟨x, f, l, hx, ok⟩ := bD n (List.mem_of_getElem? hn)
     have Xx : n ∉ ns.take i := by
      have := Gv (f := id) (l := ns) (j := i) (c := n) (by rw [List.map_id]; exact qS) hn
      rwa [List.map_id] at this
     obtain ⟨e1, e2, e3, e4⟩ := Q8 k (ns.take i)
     have hlen : (ns.take i).length <= ns.length := by rw [List.length_take]; omega
     have hx2 := (e3 n Xx).trans hx
     have ok2 := ok.same (k' := (layA k (ns.take i)).1) e1 e2
     repeat' (walk_at "rd1")
     refine TV yw hx2 ok2 (fun q3 H3 EK J6 Gw yy => ?_)
     have acZ := EK.lat G8
     have hl3 := Mt (layA k (ns.take i)).1 n x l
     repeat' (walk_at "rd1")
     refine NV acZ Gw (by omega) (fun H4 Ng XH => ?_)
     have KG : p ≠ q1 := aA hp Ii
     have hp3 : H3 p = some (.lst (ns.map fun n => .ref (L.ad n))) := EK.kp p _ X7 (by intro _ z; cases z) (by intro _ _ _ z; cases z)
     have hs : layA k (ns.take (i + 1)) = (wz (layA k (ns.take i)).1 n x l, (layA k (ns.take i)).2 ++ Np (layA k (ns.take i)).1 n x l) := by
      rw [take_snoc hn, Qc]
      unfold Ez
      rw [hx2]
      simp only [ok.lst]
     refine ⟨_, rfl, Ny (BQ.trans EK) Ng Ii, Ng.kp p _ (by simpa using KG) hp3, ?_, ?_⟩
     . rw [hs]; exact XH
     . rw [hs]; exact (Ov Ng acZ).kat yy
   . rintro σ' H2 ⟨z, rfl, BQ, X7, G8, yw⟩
     rw [List.length_map, List.take_length] at G8 yw
     repeat' (walk_at "rd1")
     exact q _ _ BQ Ii G8 yw
theorem MU (T : Txt K mg a) : dE P w K mg base 7 a.cj ["self", "bells"] [] (EZ a) :=
 ⟨⟨_, _, RA T, T.k9.binds fun _ _ _ _ _ _ => .all fun us hl => match us, hl with | [_, _], _ => rfl, .nil⟩⟩
def K7 (a : Ad) : Sp := fun vs H Q _ => ∃ L k n x b, vs = [.ref L.p, .ref b] /\ bZ a H L k /\ k.f n = none /\ n ∈ L.nm /\ fR a H b n x /\ ∀ H', qR a L H H' -> bZ a H' { L with ad := cm L.ad n b } { k with f := cm k.f n (some x) } -> Q .aS H'
theorem aa4 {H : Hp} {Q : VK} {E : XK} {L : Lay} {k : KS} {n : Str} {x : gE} {b : Addr} (h : bZ a H L k) (hx : k.f n = none) (hm : n ∈ L.nm) (hb : fR a H b n x) (q : ∀ H', qR a L H H' -> bZ a H' { L with ad := cm L.ad n b } { k with f := cm k.f n (some x) } -> Q .aS H') : K7 a [.ref L.p, .ref b] H Q E := ⟨L, k, n, x, b, rfl, h, hx, hm, hb, q⟩
theorem Wd (T : Txt K mg a) : aL P w K mg base eU 1 a.d6 a.CL ["self", "bell"] (K7 a) := by
 have cl := T.aD; have n1 := T.aR; have cb := T.aK; have n2 := T.bt
 refine T.vG.ok Lc (fun vs H Q E h => ?_) (fun c3 A outer s H vs Q E hr h => ?_)
 . obtain ⟨_, _, _, _, _, rfl, _⟩ := h; rfl
 . obtain ⟨L, k, n, x, b, rfl, hk, hx, hm, hB, q⟩ := h
   have hi := hk.ins
   unfold aP at hi
   obtain ⟨ns, b1, b2, b3⟩ := hk.bd
   have hlen := hk.len b2 b3
   obtain ⟨fs, hb, l1, l2, l3, l4, l5, l6, l7, l8, l9, l10, XA, XG, VS, W5⟩ := hB.uP
   have Vn : n ∉ ns := fun z => by rw [b3, hx] at z; cases z
   refine ⟨_, (ag (Cq (fj hr) (av (pv 0) rfl) (av (pv 1) rfl) (pv 1) rfl)), ?_⟩
   repeat' (walk_at "rd1")
   refine Xg b1 (by omega) Vn (fun H2 o9 Vz => ?_)
   repeat' (walk_at "rd1")
   obtain ⟨yw, BQ⟩ := hk.afT b1 b2 b3 hx hm hB o9 Vz
   exact q _ BQ yw
theorem T4 (T : Txt K mg a) : dE P w K mg base 1 a.d6 ["self", "bell"] [] (K7 a) :=
 ⟨⟨_, _, Wd T, T.vG.binds fun _ _ _ _ _ _ => .all fun us hl => match us, hl with | [_, _], _ => rfl, .nil⟩⟩
def NP (a : Ad) : Sp := fun vs H Q _ => ∃ L k n rv r wt dy, vs = [.ref L.p, .str n, rv, .int wt, .aS, .bl dy] /\ bZ a H L k /\ k.f n = none /\ n ∈ L.nm /\ pE a H rv r /\ 1 <= wt /\ vd k (pO r wt none dy) (J1 r).1 (J1 r).2 /\ ∀ q H' b, qR a L H H' -> H q = none -> d5 H' q (Np k n (pO r wt none dy) (J1 r).2) -> bZ a H' { L with ad := cm L.ad n b } (wz k n (pO r wt none dy) (J1 r).2) -> Q (.ref q) H'
theorem acX {H : Hp} {Q : VK} {E : XK} {L : Lay} {k : KS} {n : Str} {rv : V} {r : RU} {wt : Int} {dy : Bool} (h : bZ a H L k) (hx : k.f n = none) (hm : n ∈ L.nm) (hR : pE a H rv r) (hw : 1 <= wt) (ok : vd k (pO r wt none dy) (J1 r).1 (J1 r).2) (q : ∀ q H' b, qR a L H H' -> H q = none -> d5 H' q (Np k n (pO r wt none dy) (J1 r).2) -> bZ a H' { L with ad := cm L.ad n b } (wz k n (pO r wt none dy) (J1 r).2) -> Q (.ref q) H') : NP a [.ref L.p, .str n, rv, .int wt, .aS, .bl dy] H Q E := ⟨L, k, n, rv, r, wt, dy, rfl, h, hx, hm, hR, hw, ok, q⟩
theorem aaW (T : Txt K mg a) : aL P w K mg base eU 10 a.eC a.yT ["self", "name", "rule", "weight", "group", "by_day"] (NP a) := by
 have cl := T.aD; have n1 := T.aR; have cb := T.aK
 have ZV := T.zQ; have LQ := T.j4
 have aat := T4 (P := P) (w := w) (base := base) T
 have Mr := Kz (P := P) (w := w) (base := base) T
 have Sv := Ot (P := P) (w := w) (base := base) T
 refine T.rG.ok yU (fun vs H Q E h => ?_) (fun c3 A outer s H vs Q E hr h => ?_)
 . obtain ⟨_, _, _, _, _, _, _, rfl, _⟩ := h; rfl
 . obtain ⟨L, k, n, rv, r, wt, dy, rfl, hk, hx, hm, hR, hw, ok, q⟩ := h
   have hi := hk.ins
   unfold aP at hi
   obtain ⟨ns, b1, b2, b3⟩ := hk.bd
   have Vn : n ∉ ns := fun z => by rw [b3, hx] at z; cases z
   refine ⟨_, (af (bW (J3 (U2 (fj hr) (pv 1) (av (pv 0) rfl)) rfl)
    (ag cP)
    aM)
    (af (bW (PW.pt (EH (aJ rW (pv 4) d0 (aI _)) (yx (rQ (dC vW (fun _ => rfl))))))
     (ag cP)
     aM)
    (af (bW (aJ HK (pv 3) ak (aI _))
     (ag cP)
     aM)
    (af (aN (i := 6) yU.nd rfl (Or.inl rfl) (yA T.S7 Sv (hr.mono (by decide)) rfl T.PD (ae (pv 1) (ae (pv 2) (ae (pv 3) (ae (pv 4) (ae (pv 5) ai)))))))
    (af (aT (aF (pv 0) cl ZV aat (hr.mono (by decide)) (ae (pv 6) ai)))
    (ag (aB (aF (pv 0) cl LQ Mr (hr.mono (by decide)) (ae (pv 6) ai))))))))), ?_⟩
   repeat' (walk_at "rd1")
   . rename_i o e1 e2 hb
     exact absurd (e1.mp hb) Vn
   . refine Wz (hm := none) rfl hR (fun b H1 s1 Ii Qr => ?_)
     have jd := hk.keeps s1
     have DU := jd.ins
     unfold aP at DU
     repeat' (walk_at "rd1")
     refine aa4 jd hx hm Qr (fun H2 BQ yw => ?_)
     have RK : oz H2 (.ref L.p) a.ah (aP { L with ad := cm L.ad n b } k.now k.sh) := yw.ins
     unfold aP at RK
     repeat' (walk_at "rd1")
     have eb : b = ({ L with ad := cm L.ad n b } : Lay).ad n := aE.symm
     rw [show (V.ref b) = V.ref (({ L with ad := cm L.ad n b } : Lay).ad n) by rw [<- eb]]
     refine TV (L := { L with ad := cm L.ad n b }) yw (x := pO r wt none dy) aE (ok.same rfl rfl) (fun q3 H3 EK J6 Gw yy => ?_)
     repeat' (walk_at "rd1")
     have EK : qR a L H2 H3 := EK
     rw [Us] at yy
     exact q _ _ b ((s1.fr.trans BQ).trans EK) (s1.none (BQ.none J6)) Gw yy
theorem Wi (T : Txt K mg a) : dE P w K mg base 10 a.eC ["self", "name", "rule", "weight", "group", "by_day"] [] (NP a) :=
 ⟨⟨_, _, aaW T, T.rG.binds fun _ _ _ _ _ _ s us kx hl => by
   obtain ⟨o, n, h1, h2⟩ := T.Dy.ex
   have hl : us.length = 6 := by simp at hl; omega
   match us, hl with
   | [_, _, _, _, _, _], _ => exact PySem.W.binds_K kx rfl h1 h2 rfl rfl, .nil⟩⟩
def Gz (a : Ad) : Sp := fun vs H Q _ => ∃ L k n x f l, vs = [.ref L.p, .str n] /\ bZ a H L k /\ k.f n = some x /\ x.st = some (f, l) /\ ∀ v' H', ay H H' -> Dv H' v' (.tuple [.int x.no, .int f, .int l]) -> Q v' H'
theorem Xs {H : Hp} {Q : VK} {E : XK} {L : Lay} {k : KS} {n : Str} {x : gE} {f l : Int} (h : bZ a H L k) (hx : k.f n = some x) (hs : x.st = some (f, l)) (q : ∀ v' H', ay H H' -> Dv H' v' (.tuple [.int x.no, .int f, .int l]) -> Q v' H') : Gz a [.ref L.p, .str n] H Q E := ⟨L, k, n, x, f, l, rfl, h, hx, hs, q⟩
theorem Um (T : Txt K mg a) : aL P w K mg base eU 2 a.cQ a.r9 ["self", "name"] (Gz a) := by
 have cl := T.aD; have cb := T.aK
 have RF := T.qv
 have QE := NT (P := P) (w := w) (base := base) T
 have KJ := Nc (P := P) (w := w) (base := base) T
 refine T.kX.ok F4 (fun vs H Q E h => ?_) (fun c3 A outer s H vs Q E hr h => ?_)
 . obtain ⟨_, _, _, _, _, _, rfl, _⟩ := h; rfl
 . obtain ⟨L, k, n, x, f, l, rfl, hk, hx, hs, q⟩ := h
   have hi := hk.ins
   unfold aP at hi
   have hB := hk.bl n x hx
   obtain ⟨fs, hb, l1, l2, l3, l4, l5, l6, l7, l8, l9, l10, XA, XG, VS, W5⟩ := hB.uP
   refine ⟨_, (ag (aB (cS (aF (pv 0) cl RF QE (hr.mono (by decide)) (ae (pv 1) ai)) T.aK T.DA KJ (hr.mono (by decide))))), ?_⟩
   repeat' (walk_at "rd1")
   refine Sj hk hx ?_
   repeat' (walk_at "rd1")
   exact q _ _ (by walk_at "same") (by walk_at "dat")
theorem QC (T : Txt K mg a) : dE P w K mg base 2 a.cQ ["self", "name"] [] (Gz a) :=
 ⟨⟨_, _, Um T, T.kX.binds fun _ _ _ _ _ _ => .all fun us hl => match us, hl with | [_, _], _ => rfl, .nil⟩⟩
theorem bZ.ahK (T : Txt K mg a) {H : Hp} {L : Lay} {k : KS} {dx : Addr} {fs : List (Str × V)} {now sh : Int} {t : Str -> Option Int} (h : bZ a H L k) (e : H L.p = some (.ins a.ah dx fs)) (hw : ∃ ts, EC a.aH H (.ref L.wp) L.td now ts /\ (ts.map (·.1)).Nodup /\ ∀ n u, (n, u) ∈ ts ↔ t n = some u) (ht : ∀ n, (t n).isSome = true -> n ∈ L.nm) : bZ a (upd H L.p (.ins a.ah dx (aP L now sh))) L { k with now := now, sh := sh, t := t } /\ qR a L H (upd H L.p (.ins a.ah dx (aP L now sh))) := by
 have m : Mv [L.p] H (upd H L.p (.ins a.ah dx (aP L now sh))) := .bo e (by intro _ z; cases z)
 obtain ⟨ts, w1, w2, w3⟩ := hw
 obtain ⟨ns, b1, b2, b3⟩ := h.bd
 have nd1 : ∀ {d : Addr} {kvs : List (Key × V)}, H d = some (.dK kvs) -> d ∉ [L.p] := fun {d kvs} e2 z => by rw [List.mem_singleton.mp z, e] at e2; cases e2
 obtain ⟨kw, ew, _⟩ := id w1.dat
 refine ⟨⟨⟨L.p, dx, rfl, ao⟩, ⟨ts, ⟨DB m e (Ne.symm T.dJ) w1.ins, w1.dat.mv m (nd1 ew)⟩, w2, w3⟩, ⟨ns, b1.mv m (nd1 b1), b2, b3⟩, fun y z hz => ?_, h.ne, h.nl, ht, h.nf⟩, Fr.QM m e (List.mem_cons_of_mem _ List.mem_cons_self)⟩
 obtain ⟨rv, sv, h1, h2, h3⟩ := h.bl y z hz
 refine ⟨rv, sv, DB m e T.dW h1, ?_, m.dat (nH _) h3⟩
 exact pE.fr (cs := [a.ah]) (S := []) (Fr.QM m e List.mem_cons_self)
  (by simpa using T.dU)
  (by simpa using T.di)
  h2
def F6 (k : KS) (ss : List Str) : List Str := ss.filter fun n => (k.f n).any (·.dy)
def JT (a : Ad) : Sp := fun vs H Q _ => ∃ L k d, vs = [.ref L.p, .int d] /\ bZ a H L k /\ 0 <= k.now + k.sh + d /\ (∀ ss, uq k ss -> ss.Nodup -> OT { k with sh := k.sh + d } (F6 k ss)) /\ ∀ q H' ss, qR a L H H' -> H q = none -> uq k ss -> ss.Nodup -> d5 H' q (layA { k with sh := k.sh + d } (F6 k ss)).2 -> bZ a H' L (layA { k with sh := k.sh + d } (F6 k ss)).1 -> Q (.ref q) H'
theorem Z2 {H : Hp} {Q : VK} {E : XK} {L : Lay} {k : KS} {d : Int} (h : bZ a H L k) (h0 : 0 <= k.now + k.sh + d) (ok : ∀ ss, uq k ss -> ss.Nodup -> OT { k with sh := k.sh + d } (F6 k ss)) (q : ∀ q H' ss, qR a L H H' -> H q = none -> uq k ss -> ss.Nodup -> d5 H' q (layA { k with sh := k.sh + d } (F6 k ss)).2 -> bZ a H' L (layA { k with sh := k.sh + d } (F6 k ss)).1 -> Q (.ref q) H') : JT a [.ref L.p, .int d] H Q E := ⟨L, k, d, rfl, h, h0, ok, q⟩
theorem VC (T : Txt K mg a) : aL P w K mg base eU 8 a.dH a.xu ["self", "by"] (JT a) := by
 have cl := T.aD; have n1 := T.a8; have n2 := T.cw; have cb := T.aK; have n3 := T.dX
 have yp := T.gx; have QU := T.qc
 have vw := Mb (P := P) (w := w) (base := base) T
 have P7 := MU (P := P) (w := w) (base := base) T
 refine T.oU.ok HC (fun vs H Q E h => ?_) (fun c3 A outer s H vs Q E hr h => ?_)
 . obtain ⟨_, _, _, rfl, _⟩ := h; rfl
 . obtain ⟨L, k, d, rfl, hk, h0, bD, q⟩ := h
   obtain ⟨p, dx, e, hi⟩ := hk.ins
   cases e
   obtain ⟨jd, Bk⟩ := hk.ahK T (now := k.now) (sh := k.sh + d) hi hk.wt hk.nt
   unfold aP at hi
   refine ⟨_, (af (bW (aJ HK (aC bU (aC bU (av (pv 0) rfl) (av (pv 0) rfl)) (pv 1)) ak (aI _))
    (ag cP)
    aM)
    (fP (bh (pv 0) (aC bU (av (pv 0) rfl) (pv 1)) rfl)
    (ag (aB (aF (pv 0) cl QU P7 (hr.mono (by decide)) (ae (Hj (T := ["bell"]) (M := ["self", "by"]) (Y0 (aj iJ) ["self", "by"] rfl rfl (by decide +kernel)) rfl (iO (cS (pv 0) cl yp vw (hr.mono (by decide)))) (fun _ _ _ _ _ => (aX (i := 0) (show List.Nodup (["bell", "self", "by"] : List Str) by decide +kernel) rfl (Or.inl rfl))) (j9 (by decide)) (fun _ _ _ _ _ => (Gs (Jh (K := K) rfl (Dc (K := K) rfl (pv 0) rfl) (fun _ => rfl)))) (fun _ _ _ _ _ => (pv 0))) ai)))))), ?_⟩
   repeat' (walk_at "rd1")
   refine oX (fun σ' H' => σ' = [some (.ref L.p), some (.int d)] /\ qR a L H H' /\ bZ a H' L { k with sh := k.sh + d }) ?_ ?_
   . repeat' (walk_at "rd1")
     exact ⟨rfl, Bk, jd⟩
   clear jd Bk
   rintro σ' H1 ⟨rfl, Bk, jd⟩
   have DU := jd.ins
   unfold aP at DU
   repeat' (walk_at "rd1")
   refine Se jd (fun q2 H2 ss s2 Io hN qS G8 => ?_)
   have hlen := hN.len jd qS
   refine TU (xs := ss.map fun n => .ref (L.ad n)) (.inl (.inl G8)) (by rw [List.length_map]; omega) (fun i acc H' => ay H2 H' /\ acc = (F6 k (ss.take i)).map (fun n => .ref (L.ad n)) /\ acc.length <= i) ⟨ay.refl _, rfl, Nat.le_refl _⟩ (fun i acc H' hi ⟨s3, _, e⟩ => ⟨ay.seq s3 (.inl (.inl G8)), by omega⟩) (fun i v acc H' N hx ⟨s3, ea, hal⟩ yes no => ?_) (fun acc H' q3 ⟨s3, ea, _⟩ J6 => ?_)
   . rw [List.getElem?_map] at hx
     obtain ⟨n, hn, rfl⟩ := Option.map_eq_some_iff.mp hx
     obtain ⟨x, hfx⟩ := Option.isSome_iff_exists.mp ((hN.2 n).mp (List.mem_of_getElem? hn))
     have hB := ((jd.keeps s2).keeps s3).bl n x hfx
     obtain ⟨fs, hb, l1, l2, l3, l4, l5, l6, l7, l8, l9, l10, XA, XG, VS, W5⟩ := hB.uP
     have hfx : k.f n = some x := hfx
     have TQ : F6 k (ss.take (i + 1)) = F6 k (ss.take i) ++ (if x.dy = true then [n] else []) := by
      unfold F6
      rw [take_snoc hn, List.filter_append]
      congr 1
      rw [List.filter_cons, List.filter_nil]
      simp [hfx]
     repeat' (walk_at "rd1")
     refine CM (fun hb => ?_) (fun hb => ?_)
     . rw [if_pos hb] at TQ
       repeat' (walk_at "rd1")
       refine yes _ _ ⟨s3, ?_, by rw [List.length_append, List.length_singleton]; omega⟩
       rw [TQ, ea, List.map_append]; rfl
     . rw [if_neg (by rw [hb]; exact Bool.false_ne_true), List.append_nil] at TQ
       refine no _ ⟨s3, ?_, by omega⟩
       rw [TQ, ea]
   . rw [List.length_map, List.take_length] at ea
     have s4 : ay H2 (upd H' q3 (.lst acc)) := s3.trans (dB J6)
     have hk4 := (jd.keeps s2).keeps s4
     have hi4 := hk4.ins
     unfold aP at hi4
     have hl4 : (F6 k ss).length <= ss.length := List.length_filter_le _ _
     repeat' (walk_at "rd1")
     refine Sh hk4 (ns := F6 k ss) (by rw [ao, ea]) (by omega) (bD ss hN qS) (fun q5 H5 fr5 Vw hq5 hk5 => ?_)
     repeat' (walk_at "rd1")
     exact q _ _ ss ((Bk.step (s2.trans s4)).trans fr5) (Bk.none (s2.none (s4.none Vw))) hN qS hq5 hk5
theorem UY (T : Txt K mg a) : dE P w K mg base 8 a.dH ["self", "by"] [] (JT a) :=
 ⟨⟨_, _, VC T, T.oU.binds fun _ _ _ _ _ _ => .all fun us hl => match us, hl with | [_, _], _ => rfl, .nil⟩⟩
def AV (t : Str -> Option Int) (to : Int) : Str -> Option Int := fun n => (t n).filter fun u => decide (to < u)
def D4 (a : Ad) : Sp := fun vs H Q _ => ∃ L k to, vs = [.ref L.p, .int to] /\ bZ a H L k /\ k.now <= to /\ ∀ q H' ks, qR a L H H' -> H q = none -> (∀ u n, (u, n) ∈ ks ↔ k.t n = some u /\ u <= to) -> Srt ks -> (ks.map (·.2)).Nodup -> d5 H' q ((ks.map (·.2)).map PyData.str) -> bZ a H' L { k with now := to, t := AV k.t to } -> Q (.ref q) H'
theorem RW {H : Hp} {Q : VK} {E : XK} {L : Lay} {k : KS} {to : Int} (h : bZ a H L k) (h0 : k.now <= to) (q : ∀ q H' ks, qR a L H H' -> H q = none -> (∀ u n, (u, n) ∈ ks ↔ k.t n = some u /\ u <= to) -> Srt ks -> (ks.map (·.2)).Nodup -> d5 H' q ((ks.map (·.2)).map PyData.str) -> bZ a H' L { k with now := to, t := AV k.t to } -> Q (.ref q) H') : D4 a [.ref L.p, .int to] H Q E := ⟨L, k, to, rfl, h, h0, q⟩
theorem bZ.ahy {H : Hp} {L : Lay} {k : KS} (hk : bZ a H L k) {ts : List (Str × Int)} (w2 : (ts.map (·.1)).Nodup) (w3 : ∀ n u, (n, u) ∈ ts ↔ k.t n = some u) : ts.length < 60 := by
 have := qh w2 (m := L.nm) fun y hy => by
  obtain ⟨z, hz, rfl⟩ := List.mem_map.mp hy
  exact hk.nt z.1 (by rw [(w3 z.1 z.2).mp hz]; rfl)
 have h55 := hk.nl
 rw [List.length_map] at this
 omega
theorem Vf (T : Txt K mg a) {cs S : List Addr} {H H' : Hp} {b : Addr} {n : Str} {x : gE} (f : Fr cs S H H') (hc : ∀ C ∈ cs, C = a.ah \/ C = a.aH) (h : fR a H b n x) : fR a H' b n x := by
 obtain ⟨rv, sv, h1, h2, h3⟩ := h
 refine ⟨rv, sv, f.ins (fun z => ?_) h1, pE.fr f
  (fun z => ?_)
  (fun z => ?_)
  h2, f.yz (nH _) h3⟩
 . rcases hc _ z with e | e
   . exact T.dW e
   . exact T.jb e
 . rcases hc _ z with e | e
   . exact T.dU e
   . exact T.iM e
 . rcases hc _ z with e | e
   . exact T.di e
   . exact T.ie e
theorem Ql (T : Txt K mg a) : aL P w K mg base eU 4 a.b9 a.uI ["self", "time"] (D4 a) := by
 have cl := T.aD; have n1 := T.a8; have n2 := T.bp; have cr := T.cC
 have Qj := X3 (P := P) (w := w) (base := base) T
 refine T.kI.ok Gg (fun vs H Q E h => ?_) (fun c3 A outer s H vs Q E hr h => ?_)
 . obtain ⟨_, _, _, rfl, _⟩ := h; rfl
 . obtain ⟨L, k, to, rfl, hk, h0, q⟩ := h
   obtain ⟨p, dx, e, hi⟩ := hk.ins
   cases e
   have MM := Mv.bo (o := .ins a.ah dx (aP L to k.sh)) hi (by intro _ z; cases z)
   have Bk : Fr [a.ah] [] H _ := Fr.QM MM hi List.mem_cons_self
   have fk1 : qR a L H _ := Fr.QM MM hi (List.mem_cons_of_mem _ List.mem_cons_self)
   obtain ⟨ts, w1, w2, w3⟩ := hk.wt
   obtain ⟨ns, b1, b2, b3⟩ := hk.bd
   have hlen := hk.ahy w2 w3
   have DU : upd H L.p (.ins a.ah dx (aP L to k.sh)) L.p = some (.ins a.ah dx (aP L to k.sh)) := ao
   unfold aP at hi
   refine ⟨_, (fP (bh (pv 0) (pv 1) rfl)
    (ag (aB (Hj (T := ["due", "name"]) (M := ["self", "time"]) (Y0 (aj hJ) ["self", "time"] rfl rfl (by decide +kernel)) rfl (iO (aF (av (pv 0) rfl) T.cC T.Js Qj (hr.mono (by decide)) (ae (pv 1) ai))) (fun _ _ _ _ _ => (Py (K := K) (n := 2) rfl rfl (du (aX (i := 0) (show List.Nodup (["due", "name", "self", "time"] : List Str) by decide +kernel) rfl (Or.inl rfl)) (du (aX (i := 1) (show List.Nodup (["due", "name", "self", "time"] : List Str) by decide +kernel) rfl (Or.inl rfl)) yE)))) (LJ (rT (by decide) (rT (by decide) JH))) (fun _ _ _ _ _ => Gy) (fun _ _ _ _ _ => (pv 1)))))), ?_⟩
   refine oX (fun σ' H' => σ' = [some (.ref L.p), some (.int to)] /\ H' = upd H L.p (.ins a.ah dx (aP L to k.sh))) ?_ ?_
   . repeat' (walk_at "rd1")
     exact ⟨rfl, rfl⟩
   rintro σ' H1 ⟨rfl, eH⟩
   rw [<- eH] at MM Bk fk1 DU
   clear eH
   have YJ : EC a.aH H1 (.ref L.wp) L.td k.now ts := by
    obtain ⟨kw, ew, _⟩ := id w1.dat
    exact ⟨Bk.ins (by simpa using Ne.symm T.dJ) w1.ins, Bk.dla (by simp) w1.dat⟩
   have Vz : rP H1 L.bd ns (fun n => .ref (L.ad n)) := Bk.kp _ _ b1 (by intro _ _; simp) (by intro _ _ _ z; cases z)
   obtain ⟨gs, hw, k1, k2, k3, k4, k5⟩ := YJ.uP
   have hiK : oz H1 (.ref L.p) a.ah (aP L to k.sh) := ⟨_, _, rfl, DU⟩
   unfold aP at hiK
   repeat' (walk_at "rd1")
   refine ⟨L.wp, L.td, k.now, ts, to, rfl, YJ, by omega, w2, h0, fun q2 H2 ks o9 Io X7 KY G8 hw2 => ?_⟩
   have BQ : Fr [a.aH] [L.td] H1 H2 := by
    obtain ⟨wp, dw, ewp, hwp⟩ := YJ.ins
    cases ewp
    obtain ⟨kw2, ew2, _⟩ := id YJ.dat
    refine ⟨fun y o e c1 c2 => o9.kp y o (fun z => ?_) e, o9.dm⟩
    rw [List.mem_cons, List.mem_singleton] at z
    rcases z with z | z
    . rw [z, hwp] at e; cases e; exact c2 _ _ _ rfl List.mem_cons_self
    . rw [z, ew2] at e; cases e; exact c1 _ rfl (by simp [z])
   have fk2 : qR a L H1 H2 := ⟨fun y o e c1 c2 => BQ.kp y o e (fun kvs ek z => c1 kvs ek (by simp only [List.mem_singleton] at z; rw [z]; exact List.mem_cons_self)) (fun C dx fs ei z => c2 C dx fs ei (by simp only [List.mem_singleton] at z; rw [z]; simp)), BQ.dm⟩
   have hkm : ∀ u n, (u, n) ∈ ks ↔ k.t n = some u /\ u <= to := fun u n => by
    rw [X7.mem_iff, List.mem_map]
    constructor
    . rintro ⟨y, hy, ey⟩
      obtain ⟨h1, h2⟩ := List.mem_filter.mp hy
      cases ey
      exact ⟨(w3 _ _).mp h1, of_decide_eq_true h2⟩
    . rintro ⟨h1, h2⟩
      exact ⟨(n, u), List.mem_filter.mpr ⟨(w3 n u).mpr h1, decide_eq_true h2⟩, rfl⟩
   have hkn : (ks.map (·.2)).Nodup := by
    refine (X7.map _).nodup_iff.mpr ?_
    rw [List.map_map]
    exact w2.sublist (List.filter_sublist.map _)
   have yw : bZ a H2 L { k with now := to, t := AV k.t to } := by
    have ag1 : oz H1 (.ref L.p) a.ah (aP L to k.sh) := ⟨_, _, rfl, DU⟩
    refine ⟨BQ.ins (by simpa using T.dJ) ag1, ⟨_, hw2, w2.sublist (List.filter_sublist.map _), fun n u => ?_⟩, ⟨ns, BQ.kp _ _ Vz (fun _ _ => by simpa using Ne.symm hk.ne) (by intro _ _ _ z; cases z), b2, b3⟩, fun y z hz => Vf T BQ (by simp) (Vf T Bk (by simp) (hk.bl y z hz)), hk.ne, hk.nl, fun y hy => hk.nt y ?_, hk.nf⟩
    . rw [List.mem_filter, w3]
      show _ ↔ (k.t n).filter _ = some u
      rw [Option.filter_eq_some_iff]
      simp
    . have hy : ((k.t y).filter fun u => decide (to < u)).isSome = true := hy
      cases e : k.t y with
      | none => rw [e] at hy; cases hy
      | some u => rfl
   have L0 : ks.length < 60 := by
    have := X7.length_eq
    rw [List.length_map] at this
    have := List.length_filter_le (fun x : Str × Int => decide (x.2 <= to)) ts
    omega
   refine adR (cs := ks) (gd := pairD) (fun _ => true) (fun x => .str x.2) G8.dv (by omega) (fun _ => rfl) (fun y c H' N hc sm' K8 yes no => ?_) (fun q3 H3 s3 J6 Gw => ?_)
   . refine JU K8 (fun w1 w2 f1 f2 => ?_)
     obtain rfl := f1.int_inv
     obtain rfl := f2.str_inv
     repeat' (walk_at "rd1")
     refine CM (fun _ => ?_) (fun hb => by cases hb)
     repeat' (walk_at "rd1")
     exact yes rfl _ _ (ay.refl _) (.str _)
   . rw [Gq] at Gw
     repeat' (walk_at "rd1")
     exact q q3 H3 ks ((fk1.trans fk2).step s3) (fk1.none (fk2.none J6)) hkm KY hkn (by rw [List.map_map]; exact Gw) (yw.keeps s3)
theorem G9 (T : Txt K mg a) : dE P w K mg base 4 a.b9 ["self", "time"] [] (D4 a) :=
 ⟨⟨_, _, Ql T, T.kI.binds fun _ _ _ _ _ _ => .all fun us hl => match us, hl with | [_, _], _ => rfl, .nil⟩⟩
def L8 (a : Ad) : Sp := fun vs H Q _ => ∃ L k to, vs = [.ref L.p, .int to] /\ bZ a H L k /\ (∀ n u, k.t n = some u -> u <= to -> Q (.bl true) H) /\ ((∀ n u, k.t n = some u -> to < u) -> Q (.bl false) H)
theorem Ut (T : Txt K mg a) : aL P w K mg base eU 2 a.bI a.ke ["self", "to"] (L8 a) := by
 have cl := T.aD; have n2 := T.bp; have cr := T.cC
 have v7 := Jc (P := P) (w := w) (base := base) T
 refine T.gM.ok k6 (fun vs H Q E h => ?_) (fun c3 A outer s H vs Q E hr h => ?_)
 . obtain ⟨_, _, _, rfl, _⟩ := h; rfl
 . obtain ⟨L, k, to, rfl, hk, q1, q2⟩ := h
   have hi := hk.ins
   unfold aP at hi
   obtain ⟨ts, w1, w2, w3⟩ := hk.wt
   obtain ⟨gs, hw, k1, k2, k3, k4, k5⟩ := w1.uP
   refine ⟨_, (af (aN (i := 2) k6.nd rfl (Or.inl rfl) (cS (av (pv 0) rfl) T.cC T.xj v7 (hr.mono (by decide))))
    (ag (aB (Ig (iL rW (pv 2) d0 (aI _)) (Hx (iL L1 (pv 2) (pv 1) (aI _))))))), ?_⟩
   repeat' (walk_at "rd1")
   refine ⟨.ref L.wp, L.td, k.now, ts, rfl, w1, fun e => ?_, fun t ht hm => ?_⟩
   . repeat' (walk_at "rd1")
     exact q2 fun n u hu => by rw [<- w3, e] at hu; cases hu
   . obtain ⟨y, hy, rfl⟩ := List.mem_map.mp ht
     have hy' := (w3 y.1 y.2).mp hy
     repeat' (walk_at "rd1")
     by_cases hle : y.2 <= to
     . rw [show decide (y.2 <= to) = true from decide_eq_true hle]
       exact q1 _ _ hy' hle
     . rw [show decide (y.2 <= to) = false from decide_eq_false hle]
       refine q2 fun n u hu => ?_
       have := hm u (List.mem_map.mpr ⟨(n, u), (w3 n u).mpr hu, rfl⟩)
       omega
theorem QQ (T : Txt K mg a) : dE P w K mg base 2 a.bI ["self", "to"] [] (L8 a) :=
 ⟨⟨_, _, Ut T, T.gM.binds fun _ _ _ _ _ _ => .all fun us hl => match us, hl with | [_, _], _ => rfl, .nil⟩⟩
theorem Ly {X : Cx} {k : Nat} {f C : Addr} {ps : List Str} {sp : Sp} {dQ : List V} {x : Str} {p pos : Pos} (M : Mk X.K C f) (F : dE X.prog X.w X.K X.mg X.base k f ps dQ sp) (hr : cF (k + 1) X.A) (hg : Gl X x) (hm : X.mg x = some (.ref C))
 (Gd : (x == ("__debug__" : Str)) = false := by decide) : PE X (.Call (.Name x p) [] [] pos) (Hg C sp dQ E0 LU) := by
 rw [Ju]
 obtain ⟨fd, ds, F, hb, hd⟩ := F.ex
 exact Ul M F hr hg hm hb hd JN Gd
def R8 (C : Addr) : Sp := fun vs H Q _ => ∃ p dx, vs = [.ref p] /\ H p = some (.ins C dx []) /\ ∀ H', Mv [p] H H' -> Q .aS H'
theorem adJ (T : Txt K mg a) : aL P w K mg base eU 1 a.bK a.lB ["self"] (R8 a.bG) := by
 have n1 := T.eD; have n2 := T.fV; have cl := T.iz
 refine T.hZ.ok Bh (fun vs H Q E h => ?_) (fun c3 A outer s H vs Q E hr h => ?_)
 . obtain ⟨_, _, rfl, _⟩ := h; rfl
 . obtain ⟨p, dx, rfl, hp, q⟩ := h
   refine ⟨_, (af (bh (pv 0) jh rfl)
    (ag (bh (pv 0) jh rfl))), ?_⟩
   repeat' (walk_at "rd1")
   rename_i d1 H1 s1 Ii hd1 d2 H2 s2 Io hd2
   have e1 := s1 _ _ hp
   have MM := Mv.bo (o := .ins a.bG dx [("above_of", .ref d1)]) e1 (by intro _ z; cases z)
   have e2 := s2 _ _ (ao (H := H1) (a := p) (o := .ins a.bG dx [("above_of", .ref d1)]))
   have o9 := Mv.bo (o := .ins a.bG dx [("above_of", .ref d1), ("marks", .ref d2)]) e2 (by intro _ z; cases z)
   exact q _ ((s1.mv (S := [p])).trans (MM.trans (s2.mv.trans o9)))
theorem KP (T : Txt K mg a) : dE P w K mg base 1 a.bK ["self"] [] (R8 a.bG) :=
 ⟨⟨_, _, adJ T, T.hZ.binds fun _ _ _ _ _ _ => .all fun us hl => match us, hl with | [_], _ => rfl, .nil⟩⟩
theorem Jf {H H' : Hp} {x dx : Addr} {o : HO} (hx : H x = none) (hd : H dx = none) (m : Mv [x] (upd (upd H dx (.own x)) x o) H') : ay H H' := fun b u e => by
 have hb : b ≠ x := aA e hx
 refine m.kp b u (by simpa using hb) ?_
 rw [aq hb, aq (aA e hd)]
 exact e
theorem VN {C : Addr} {H : Hp} {Q : VK} {E : XK} (k : ∀ v H2, ay H H2 -> Q v H2) : Fg C (R8 C) [] H Q E :=
 ⟨_, rfl, fun x dx hx hd _ => ⟨x, dx, rfl, ao, fun H' mv => ⟨rfl, k _ _ (Jf hx hd mv)⟩⟩⟩
def k0 (now : Int) : KS := ⟨now, 0, fun _ => none, fun _ => none⟩
def xg (a : Ad) : Sp := fun vs H Q _ => ∃ p dx now nm, vs = [.ref p, .aS, .int now] /\ H p = some (.ins a.ah dx []) /\ (nm : List Str).length <= 55 /\ ∀ H' L, Mv [p] H H' -> L.p = p -> L.nm = nm -> H L.td = none -> H L.bd = none -> bZ a H' L (k0 now) -> Q .aS H'
theorem Sf (T : Txt K mg a) : aL P w K mg base eU 3 a.bQ a.qH ["self", "rounds", "now"] (xg a) := by
 have cl := T.aD; have n1 := T.bp; have n2 := T.fC; have n3 := T.a8; have n4 := T.cw; have n5 := T.fu; have n6 := T.aR
 have Xq := Rl (P := P) (w := w) (base := base) T
 have NC := KP (P := P) (w := w) (base := base) T
 refine T.jy.ok EG (fun vs H Q E h => ?_) (fun c3 A outer s H vs Q E hr h => ?_)
 . obtain ⟨_, _, _, _, rfl, _⟩ := h; rfl
 . obtain ⟨p, dx, now, nm, rfl, hp, Vr, q⟩ := h
   refine ⟨_, (af (bh (pv 0) (GA (aJ KD (pv 1) d0 (aI _)) (yA T.Yq Xq (hr.mono (by decide)) rfl T.Tv (ae (pv 2) ai)) vW) rfl)
    (af (bh (pv 0) (GA (aJ KD (pv 1) d0 (aI _)) d0 vW) rfl)
    (af (bh (pv 0) (pv 2) rfl)
    (af (bh (pv 0) ak rfl)
    (af (bh (pv 0) (Ly T.Mp NC (hr.mono (by decide)) rfl T.Jm) rfl)
    (ag (bh (pv 0) jh rfl))))))), ?_⟩
   repeat' (walk_at "rd1")
   refine Wt rfl (fun wv H1 td s1 Ii Pa => ?_)
   obtain ⟨wp, dw, rfl, hwp⟩ := Pa.ins
   have e1 := s1 _ _ hp
   have MM := Mv.bo (o := .ins a.ah dx [("waits", .ref wp)]) e1 (by intro _ z; cases z)
   repeat' (walk_at "rd1")
   rw [jY, jY, jY]
   have o9 := Mv.bo (o := .ins a.ah dx [("waits", .ref wp), ("rounds", .aS), ("now", .int now), ("shift", .int 0)]) e1 (by intro _ z; cases z)
   refine VN (fun gv H3 s3 => ?_)
   have e3 := s3 _ _ (ao (H := H1) (a := p) (o := .ins a.ah dx [("waits", .ref wp), ("rounds", .aS), ("now", .int now), ("shift", .int 0)]))
   have Yl := Mv.bo (o := .ins a.ah dx [("waits", .ref wp), ("rounds", .aS), ("now", .int now), ("shift", .int 0), ("groups", gv)]) e3 (by intro _ z; cases z)
   repeat' (walk_at "rd1")
   repeat' (walk_at "rd1")
   rename_i bd H5 s5 Vw Yk
   have e5 := s5 _ _ (ao (H := H3) (a := p) (o := .ins a.ah dx [("waits", .ref wp), ("rounds", .aS), ("now", .int now), ("shift", .int 0), ("groups", gv)]))
   have RQ := Mv.bo (o := .ins a.ah dx [("waits", .ref wp), ("rounds", .aS), ("now", .int now), ("shift", .int 0), ("groups", gv), ("by_name", .ref bd)]) e5 (by intro _ z; cases z)
   have mA : Mv [p] H1 H5 := o9.trans (s3.mv.trans (Yl.trans s5.mv))
   have mB := mA.trans RQ
   have Xt : H1 bd = none := (o9.trans (s3.mv.trans Yl)).none Vw
   obtain ⟨kw, ew, _⟩ := id Pa.dat
   have KG : td ≠ bd := aA ew Xt
   have ntd : td ∉ [p] := fun z => by rw [List.mem_singleton.mp z, e1] at ew; cases ew
   have nbd : bd ∉ [p] := fun z => by rw [List.mem_singleton.mp z, e1] at Xt; cases Xt
   refine q _ ⟨p, wp, td, bd, gv, fun _ => 0, nm⟩ ((s1.mv (S := [p])).trans mB) rfl rfl Ii (s1.none Xt) ⟨⟨p, dx, rfl, ao⟩, ⟨[], ⟨DB mB e1 (Ne.symm T.dJ) Pa.ins, Pa.dat.mv mB ntd⟩, List.nodup_nil, fun n u => by simp [k0]⟩, ⟨[], (WX Yk).mv RQ nbd, List.nodup_nil, fun n => by simp [k0]⟩, fun n x e => (by cases e), KG, Vr, fun n e => (by cases e), fun n e => (by cases e)⟩
theorem Rc (T : Txt K mg a) : dE P w K mg base 3 a.bQ ["self", "rounds", "now"] [] (xg a) :=
 ⟨⟨_, _, Sf T, T.jy.binds fun _ _ _ _ _ _ => .all fun us hl => match us, hl with | [_, _, _], _ => rfl, .nil⟩⟩
theorem Tx (T : Txt K mg a) : aL P w K mg base eU 4 a.bM a.gy ["self", "rounds", "now"] (xg a) := by
 have F1 := Rc (P := P) (w := w) (base := base) T
 refine T.gW.ok A0 (fun vs H Q E h => ?_) (fun c3 A outer s H vs Q E hr h => ?_)
 . obtain ⟨_, _, _, _, rfl, _⟩ := h; rfl
 . obtain ⟨p, dx, now, nm, rfl, hp, Vr, q⟩ := h
   refine ⟨_, (ag (aT (KO rfl T.OG T.sT F1 (hr.mono (by decide)) (ae (pv 0) (ae (pv 1) (ae (pv 2) ai)))))), ?_⟩
   repeat' (walk_at "rd1")
   refine ⟨p, dx, now, nm, rfl, hp, Vr, fun H' L m e1 e2 e3 e4 hk => ?_⟩
   repeat' (walk_at "rd1")
   exact q H' L m e1 e2 e3 e4 hk
theorem N5 (T : Txt K mg a) : Binds K a.gy ["self", "rounds", "now"] [.none, .int 0 a.cg] := T.gW.binds fun _ _ _ _ _ _ s us kx hl => by
 obtain ⟨o, n, h1, h2⟩ := T.lT.ex
 have hl : us.length = 1 := by simp at hl; omega
 match us, hl with
 | [_], _ => exact PySem.W.binds_K kx rfl h1 h2 rfl rfl
theorem K9 (T : Txt K mg a) : dE P w K mg base 4 a.bM ["self", "rounds", "now"] [.aS, .int 0] (xg a) := ⟨⟨_, _, Tx T, N5 T, .cons rfl (.cons ⟨_, rfl⟩ .nil)⟩⟩
theorem Wg {H : Hp} {Q : VK} {E : XK} {now : Int} {us : List V} (nm : List Str) (eu : us = [.aS, .int now]) (Vr : nm.length <= 55) (k : ∀ L H2, ay H H2 -> L.nm = nm -> H L.td = none -> H L.bd = none -> bZ a H2 L (k0 now) -> Q (.ref L.p) H2) : Fg a.ah (xg a) us H Q E := by
 have z : ∀ {x dx d : Addr} {o : HO}, upd (upd H dx (.own x)) x o d = none -> H d = none := by
  intro x dx d o h
  unfold upd at h
  split at h
  . cases h
  . split at h
    . cases h
    . exact h
 refine ⟨_, eu, fun x dx hx hd ne => ⟨x, dx, now, nm, rfl, ao, Vr, fun H' L m e1 e2 e3 e4 hk => ⟨rfl, ?_⟩⟩⟩
 subst e1
 exact k L _ (Jf hx hd m) e2 (z e3) (z e4) hk
def om (n : Str) (no now sn un : Int) : PyData := .tuple [.str "rang", .str n, .int no, .int now, .int sn, .int un]
def Ox (a : Ad) : Sp := fun vs H Q _ => ∃ b n x, vs = [.ref b] /\ fR a H b n x /\ ∀ v' H', ay H H' -> Dv H' v' (.tuple [.int (-x.wt), .str n]) -> Q v' H'
theorem adO {H : Hp} {Q : VK} {E : XK} {b : Addr} {n : Str} {x : gE} (h : fR a H b n x) (q : ∀ v' H', ay H H' -> Dv H' v' (.tuple [.int (-x.wt), .str n]) -> Q v' H') : Ox a [.ref b] H Q E := ⟨b, n, x, rfl, h, q⟩
theorem ZZ (T : Txt K mg a) : aL P w K mg base eU 1 a.fh a.Ck ["bell"] (Ox a) := by
 have cl := T.aK; have n1 := T.fq; have n2 := T.bt
 refine T.x5.ok JP (fun vs H Q E h => ?_) (fun c3 A outer s H vs Q E hr h => ?_)
 . obtain ⟨_, _, _, rfl, _⟩ := h; rfl
 . obtain ⟨b, n, x, rfl, ⟨rv, sv, hi, hR, hd⟩, q⟩ := h
   unfold dP at hi
   refine ⟨_, (ag (aB (c5 (ae (ael aaM (av (pv 0) rfl)) (ae (av (pv 0) rfl) ai))))), ?_⟩
   repeat' (walk_at "rd1")
   exact q _ _ (by walk_at "same") (by walk_at "dat")
theorem VB (T : Txt K mg a) : dE P w K mg base 1 a.fh ["bell"] [] (Ox a) :=
 ⟨⟨_, _, ZZ T, T.x5.binds fun _ _ _ _ _ _ => .all fun us hl => match us, hl with | [_], _ => rfl, .nil⟩⟩
def J8 (a : Ad) : Sp := fun vs H Q _ => ∃ L k n x sn un, vs = [.ref L.p, .ref (L.ad n), .aS] /\ bZ a H L k /\ k.f n = some x /\ x.sn = some sn /\ x.un = some un /\ x.hm = none /\ 0 <= x.no /\ x.no < 10 ^ 50 /\ ∀ q H', qR a L H H' -> H q = none -> d5 H' q (om n x.no k.now sn un :: Es n x (aV k x)) -> bZ a H' L (yI k n x (aV k x)) -> Q (.ref q) H'
theorem abW {H : Hp} {Q : VK} {E : XK} {L : Lay} {k : KS} {n : Str} {x : gE} {sn un : Int} (h : bZ a H L k) (hx : k.f n = some x) (es : x.sn = some sn) (eu : x.un = some un) (hm : x.hm = none) (h0 : 0 <= x.no) (h1 : x.no < 10 ^ 50) (q : ∀ q H', qR a L H H' -> H q = none -> d5 H' q (om n x.no k.now sn un :: Es n x (aV k x)) -> bZ a H' L (yI k n x (aV k x)) -> Q (.ref q) H') : J8 a [.ref L.p, .ref (L.ad n), .aS] H Q E := ⟨L, k, n, x, sn, un, rfl, h, hx, es, eu, hm, h0, h1, q⟩
theorem GU (n : Str) (x : gE) (t : Int) : (Es n x t).length <= 1 := by unfold Es; split <;> simp
theorem Yd (T : Txt K mg a) : aL P w K mg base eU 8 a.dG a.xf ["self", "bell", "deed"] (J8 a) := by
 have cl := T.aD; have cb := T.aK; have n1 := T.a8; have n2 := T.bt; have n3 := T.ck; have n4 := T.b4; have n5 := T.cK
 have Tw := T.tf; have AJ := T.gU; have wC := T.gf
 have UP := Ob (P := P) (w := w) (base := base) T
 have AZ := Ja (P := P) (w := w) (base := base) T
 have x9 := A1 (P := P) (w := w) (base := base) T
 refine T.oP.ok wL (fun vs H Q E h => ?_) (fun c3 A outer s H vs Q E hr h => ?_)
 . obtain ⟨_, _, _, _, _, _, rfl, _⟩ := h; rfl
 . obtain ⟨L, k, n, x, sn, un, rfl, hk, hx, es, eu, hm, h0, h1, q⟩ := h
   have hi := hk.ins
   unfold aP at hi
   have hB := hk.bl n x hx
   obtain ⟨rv, sv, hI, hR, hd⟩ := id hB
   unfold dP at hI
   rw [es, eu] at hI
   simp only [ow] at hI
   refine ⟨_, (af (aN (i := 3) wL.nd rfl (Or.inl rfl) (c5 (ae gY (ae (av (pv 1) rfl) (ae (av (pv 1) rfl) (ae (av (pv 0) rfl) (ae (av (pv 1) rfl) (ae (av (pv 1) rfl) ai))))))))
    (af (bW (PW.pt (EH (aJ rW (pv 2) d0 (aI _)) (yx (aJ aaV vW FP (aI _)))))
     (ag (aB (aC Oi (fY (ae (pv 3) ai)) (aF (pv 0) cl wC x9 (hr.mono (by decide)) (ae (pv 1) ai)))))
     aM)
    (ag (aB (aC Oi (fY (ae (pv 3) ai)) (aF (pv 0) cl Tw UP (hr.mono (by decide)) (ae (pv 1) (ae (aF (pv 0) cl AJ AZ (hr.mono (by decide)) (ae (pv 1) ai)) ai)))))))), ?_⟩
   repeat' (walk_at "rd1")
   rename_i v1 H1 s1 hv1 _ q2 H2 s2 Io G8
   have yw := (hk.keeps s1).keeps s2
   have ZQ := (hB.keeps s1).keeps s2
   refine PF yw ZQ ?_
   repeat' (walk_at "rd1")
   refine Uo yw hx hm h0 h1 rfl (fun q3 H3 EK J6 Gw yy => ?_)
   have hl := GU n x (aV k x)
   refine RY (EK.lat G8) Gw (by simp only [List.length_cons, List.length_nil]; omega) (fun q4 H4 s4 hn4 XH => ?_)
   repeat' (walk_at "rd1")
   exact q _ _ (((s1.trans s2).fr.trans EK).step s4) (s1.none (s2.none (EK.none hn4))) XH (yy.keeps s4)
theorem Ts (T : Txt K mg a) : dE P w K mg base 8 a.dG ["self", "bell", "deed"] [] (J8 a) :=
 ⟨⟨_, _, Yd T, T.oP.binds fun _ _ _ _ _ _ => .all fun us hl => match us, hl with | [_, _, _], _ => rfl, .nil⟩⟩
def eJ (k : KS) (n : Str) : Bool := (k.f n).any fun x => x.sn.any fun s => decide (s <= k.now)
def gC (s : KS × List PyData) (n : Str) : KS × List PyData := match s.1.f n with
 | some x => (yI s.1 n x (aV s.1 x), s.2 ++ (om n x.no s.1.now (x.sn.getD 0) (x.un.getD 0) :: Es n x (aV s.1 x)))
 | none => s
def b7 (u : Int) (n : Str) : PyData := .tuple [.str "woke", .int u, .str n]
def GY (k : KS) (n : Str) : Int × Str := ((k.f n).elim 0 fun x => -x.wt, n)
structure abB (k : KS) : Prop where
 hm : ∀ n x, k.f n = some x -> x.hm = none /\ 0 <= x.no /\ x.no < 10 ^ 50
 un : ∀ n x s, k.f n = some x -> x.sn = some s -> ∃ u, x.un = some u
 nw : ∀ n u, k.t n = some u -> k.now <= u
 tx : ∃ n u, k.t n = some u
theorem abe {k : KS} {n m : Str} {x : gE} {t : Int} (h : m ≠ n) : (yI k n x t).f m = k.f m := by
 unfold yI
 split
 . exact aZ h
 . exact aZ h
theorem Sn (k : KS) (n : Str) (x : gE) (t : Int) : (yI k n x t).now = k.now /\ (yI k n x t).sh = k.sh := by
 unfold yI
 split <;> exact ⟨rfl, rfl⟩
theorem P4 (s : KS × List PyData) (n : Str) : (gC s n).1.now = s.1.now /\ (gC s n).1.sh = s.1.sh /\ (∀ m, m ≠ n -> (gC s n).1.f m = s.1.f m) /\ (gC s n).2.length <= s.2.length + 2 := by
 unfold gC
 cases e : s.1.f n with
 | none => exact ⟨rfl, rfl, fun _ _ => rfl, Nat.le_add_right _ _⟩
 | some x =>
   obtain ⟨a1, a2⟩ := Sn s.1 n x (aV s.1 x)
   refine ⟨a1, a2, fun m hm => abe hm, ?_⟩
   have := GU n x (aV s.1 x)
   simp only [List.length_append, List.length_cons]
   omega
theorem Ec : ∀ (ns : List Str) (s : KS × List PyData), (ns.foldl gC s).1.now = s.1.now /\ (ns.foldl gC s).1.sh = s.1.sh /\ (∀ m, m ∉ ns -> (ns.foldl gC s).1.f m = s.1.f m) /\ (ns.foldl gC s).2.length <= s.2.length + 2 * ns.length
 | [], s => ⟨rfl, rfl, fun _ _ => rfl, Nat.le_refl _⟩
 | n :: r, s => by
   obtain ⟨h1, h2, h3, h4⟩ := Ec r (gC s n)
   obtain ⟨g1, g2, g3, g4⟩ := P4 s n
   refine ⟨h1.trans g1, h2.trans g2, fun m hm => ?_, ?_⟩
   . rw [List.mem_cons, not_or] at hm
     exact (h3 m hm.2).trans (g3 m hm.1)
   . rw [List.foldl_cons, List.length_cons]
     omega
theorem Jk {s : KS × List PyData} {n : Str} {x : gE} {sn un : Int} (h : s.1.f n = some x) (es : x.sn = some sn) (eu : x.un = some un) : gC s n = (yI s.1 n x (aV s.1 x), s.2 ++ (om n x.no s.1.now sn un :: Es n x (aV s.1 x))) := by
 unfold gC
 rw [h]
 simp only [es, eu, Option.getD_some]
theorem T7 {α β : Type} {g : α -> β} {l m : List β} (h : l.Perm m) : ∀ rs : List α, m = rs.map g -> ∃ ns : List α, ns.Perm rs /\ l = ns.map g := by
 induction h with
 | nil => intro rs e; cases rs with
   | nil => exact ⟨[], .nil, rfl⟩
   | cons => cases e
 | cons x _ ih => intro rs e; cases rs with
   | nil => cases e
   | cons r rs =>
     injection e with e1 e2
     obtain ⟨ns, p, rfl⟩ := ih rs e2
     exact ⟨r :: ns, p.cons r, by rw [e1]; rfl⟩
 | swap x y l => intro rs e; match rs, e with
   | r :: t :: rs, e =>
     injection e with e1 e2
     injection e2 with e2 e3
     exact ⟨t :: r :: rs, .swap r t rs, by rw [e1, e2, e3]; rfl⟩
 | trans _ _ ih1 ih2 =>
   intro rs e
   obtain ⟨ns, p, e2⟩ := ih2 rs e
   obtain ⟨ns', p', e3⟩ := ih1 ns e2
   exact ⟨ns', p'.trans p, e3⟩
def HH (a : Ad) : Sp := fun vs H Q _ => ∃ L k, vs = [.ref L.p, .aS] /\ bZ a H L k /\ abB k /\ ∀ (q : Addr) (H' : Hp) (u0 : Int) (n0 : Str) (r0 ks : List (Int × Str)) (ns : List Str), qR a L H H' -> H q = none -> (∀ u n, (u, n) ∈ ks ↔ k.t n = some u /\ u <= u0) -> Srt ks -> ks = (u0, n0) :: r0 -> (∀ n u, k.t n = some u -> u0 <= u) -> ns.Nodup -> (∀ n, n ∈ ns ↔ eJ { k with now := u0, t := AV k.t u0 } n = true) -> ns.Pairwise (fun c d => fD (GY k d) (GY k c) = false) -> d5 H' q (ns.foldl gC ({ k with now := u0, t := AV k.t u0 }, [b7 u0 n0])).2 -> bZ a H' L (ns.foldl gC ({ k with now := u0, t := AV k.t u0 }, [b7 u0 n0])).1 -> Q (.ref q) H'
theorem Ol (T : Txt K mg a) : aL P w K mg base eU 9 a.bH a.kR ["self", "deed"] (HH a) := by
 have cl := T.aD; have n1 := T.a8; have n2 := T.bp; have cb := T.aK; have n3 := T.b4; have cr := T.cC
 have yp := T.gx; have Ep := T.iF; have Zx := T.z8
 have vw := Mb (P := P) (w := w) (base := base) T
 have EA := G9 (P := P) (w := w) (base := base) T
 have ZA := Ts (P := P) (w := w) (base := base) T
 have Mz := VB (P := P) (w := w) (base := base) T
 have B6 := N6 (P := P) (w := w) (base := base) T
 have v7 := Jc (P := P) (w := w) (base := base) T
 refine T.gN.ok cV (fun vs H Q E h => ?_) (fun c3 A outer s H vs Q E hr h => ?_)
 . obtain ⟨_, _, rfl, _⟩ := h; rfl
 . obtain ⟨L, k, rfl, hk, ok, q⟩ := h
   have hi := hk.ins
   unfold aP at hi
   obtain ⟨ts, w1, w2, w3⟩ := hk.wt
   obtain ⟨gs, hw, k1, k2, k3, k4, k5⟩ := w1.uP
   refine ⟨_, (af (aN (i := 2) cV.nd rfl (Or.inl rfl) (aF (pv 0) cl Ep EA (hr.mono (by decide)) (ae (cS (av (pv 0) rfl) T.cC T.xj v7 (hr.mono (by decide))) ai)))
    (af (aN (i := 3) cV.nd rfl (Or.inl rfl) (fY (ae (c5 (ae gY (ae (av (pv 0) rfl) (ae (bV eV (pv 2) ak (fun _ _ => rfl)) ai)))) ai)))
    (af (adX (i := 4) cV.nd rfl (Or.inl rfl) (T := ["bell"]) (M := ["self", "deed", "names", "entries", "may_ring", "05"]) (Y0 (aj eS) ["self", "deed", "names", "entries", "may_ring", "bell"] rfl rfl (by decide +kernel)) rfl (iO (cS (pv 0) cl yp vw (hr.mono (by decide)))) (fun _ _ _ _ _ => (aX (i := 0) (show List.Nodup (["bell", "self", "deed", "names", "entries", "may_ring", "05"] : List Str) by decide +kernel) rfl (Or.inl rfl))) (j9 (by decide)) (fun _ _ _ _ _ => (Gs (PW.pt (EH (Jh (K := K) rfl (cS (pv 0) T.aK T.mW B6 (hr.mono (by decide))) (fun _ => rfl)) (yx (aJ L1 (Dc (K := K) rfl (pv 0) rfl) (Dc (K := K) rfl (pv 1) rfl) (aI _))))))) (fun _ _ _ _ _ => (pv 0)) rfl)
    (af (oQ PassesOwn.never rfl (iO (RT Mz (hr.mono (by decide)) rfl T.fz (X4 rfl T.Di rfl) (ae (pv 4) ai))) (aX (i := 5) cV.nd rfl (Or.inl rfl))
     (ag (aT (B8 PySem.F.plainAttrs_list PySem.F.slot_list_extend PySem.F.type_list_extend Eo (pv 3) (ae (aF (pv 0) cl Zx ZA (hr.mono (by decide)) (ae (pv 5) (ae (pv 1) ai))) ai)))))
    (ag (aB (pv 3))))))), ?_⟩
   repeat' (walk_at "rd1")
   refine ⟨_, _, _, ts, rfl, w1, fun e => ?_, fun u0 hu0 hle => ?_⟩
   . exfalso
     obtain ⟨n, u, e1⟩ := ok.tx
     have := (w3 n u).mpr e1
     rw [e] at this
     cases this
   . obtain ⟨⟨m0, Z1⟩, hm0, e0⟩ := List.mem_map.mp hu0
     have e0 : Z1 = u0 := e0
     subst e0
     have hm0 := (w3 m0 Z1).mp hm0
     have aeR : ∀ n u, k.t n = some u -> Z1 <= u := fun n u e => hle u (List.mem_map.mpr ⟨(n, u), (w3 n u).mpr e, rfl⟩)
     repeat' (walk_at "rd1")
     refine ⟨L, k, Z1, rfl, hk, ok.nw m0 Z1 hm0, fun q1 H1 ks Bk Ii hks hsr qS Ij jd => ?_⟩
     cases ks with
     | nil => have := (hks Z1 m0).mpr ⟨hm0, Int.le_refl _⟩; cases this
     | cons c0 r0 =>
       obtain ⟨uc, n0⟩ := c0
       have hc := (hks uc n0).mp List.mem_cons_self
       obtain rfl : uc = Z1 := Int.le_antisymm hc.2 (aeR n0 uc hc.1)
       have DU := jd.ins
       unfold aP at DU
       have i0 : JF (((uc, n0) :: r0).map (·.2) |>.map PyData.str) 0 = some (.str n0) := Gn (j := 0) rfl
       repeat' (walk_at "rd1")
       rename_i v1 H2 s2 hv2 q3 H3 s3 J6 Gw
       have Gw : d5 H3 q3 [b7 uc n0] := Gw
       have yy := (jd.keeps s2).keeps s3
       refine Se yy (fun q4 H4 ss s4 hn4 hN aez XH => ?_)
       have hlen := hN.len yy aez
       have hk4 := yy.keeps s4
       generalize ek : ({ k with now := uc, t := AV k.t uc } : KS) = k' at *
       have ekf : k'.f = k.f := by rw [<- ek]
       have ekn : k'.now = uc := by rw [<- ek]
       refine TU (xs := ss.map fun n => .ref (L.ad n)) (.inl (.inl XH)) (by rw [List.length_map]; omega) (fun i acc H' => ay H4 H' /\ acc = ((ss.take i).filter (eJ k')).map (fun n => .ref (L.ad n)) /\ acc.length <= i) ⟨ay.refl _, rfl, Nat.le_refl _⟩ (fun i acc H' hi ⟨s5, _, e⟩ => ⟨ay.seq s5 (.inl (.inl XH)), by omega⟩) (fun i v acc H' N hx ⟨s5, ea, hal⟩ yes no => ?_) (fun acc H' q5 ⟨s5, ea, agO⟩ Vw => ?_)
       . rw [List.getElem?_map] at hx
         obtain ⟨n, hn, rfl⟩ := Option.map_eq_some_iff.mp hx
         obtain ⟨x, hfx⟩ := Option.isSome_iff_exists.mp ((hN.2 n).mp (List.mem_of_getElem? hn))
         have hk5 := hk4.keeps s5
         have hi5 := hk5.ins
         unfold aP at hi5
         have hB := hk5.bl n x hfx
         obtain ⟨rv, sv, hI, hR, hd⟩ := id hB
         unfold dP at hI
         have TQ : (ss.take (i + 1)).filter (eJ k') = (ss.take i).filter (eJ k') ++ (if eJ k' n = true then [n] else []) := by
          rw [take_snoc hn, List.filter_append]
          congr 1
          rw [List.filter_cons, List.filter_nil]
         have Wh : eJ k' n = x.sn.any fun s => decide (s <= k'.now) := by unfold eJ; rw [hfx]; rfl
         cases hxs : x.sn with
         | none =>
           rw [hxs] at Wh hI
           simp only [ow] at hI
           have Wh : eJ k' n = false := Wh
           rw [if_neg (by rw [Wh]; exact Bool.false_ne_true), List.append_nil] at TQ
           repeat' (walk_at "rd1")
           . rename_i hb
             rw [hxs] at hb
             cases hb
           . refine CM (fun hb => by cases hb) (fun _ => ?_)
             refine no _ ⟨s5, ?_, by omega⟩
             rw [TQ, ea]
         | some sn =>
           rw [hxs] at Wh hI
           simp only [ow] at hI
           have Wh : eJ k' n = decide (sn <= k'.now) := Wh
           repeat' (walk_at "rd1")
           . refine CM (fun hb => ?_) (fun hb => ?_)
             . have hb : decide (sn <= k'.now) = true := hb
               rw [if_pos (by rw [Wh]; exact hb)] at TQ
               repeat' (walk_at "rd1")
               refine yes _ _ ⟨s5, ?_, by rw [List.length_append, List.length_singleton]; omega⟩
               rw [TQ, ea, List.map_append]; rfl
             . have hb : decide (sn <= k'.now) = false := hb
               rw [if_neg (by rw [Wh, hb]; exact Bool.false_ne_true), List.append_nil] at TQ
               refine no _ ⟨s5, ?_, by omega⟩
               rw [TQ, ea]
           . rename_i hb
             rw [hxs] at hb
             cases hb
       . rw [List.length_map, List.take_length] at ea
         repeat' (walk_at "rd1")
         have s6 : ay H4 (upd H' q5 (.lst acc)) := s5.trans (dB Vw)
         have hk6 := hk4.keeps s6
         have hq6 : upd H' q5 (.lst acc) q5 = some (.lst acc) := ao
         generalize upd H' q5 (.lst acc) = H6 at *
         have Zk : ∀ n ∈ ss.filter (eJ k'), ∃ x, k'.f n = some x := fun n hn => by
          have := (List.mem_filter.mp hn).2
          unfold eJ at this
          cases e : k'.f n with
          | none => rw [e] at this; cases this
          | some x => exact ⟨x, rfl⟩
         obtain ⟨kf, hkf⟩ : ∃ kf : V -> Int × Str, ∀ n ∈ ss.filter (eJ k'), kf (.ref (L.ad n)) = GY k' n := by
          classical
          refine ⟨fun v => if h : ∃ n, n ∈ ss.filter (eJ k') /\ v = .ref (L.ad n) then GY k' h.choose else (0, ⟨#[]⟩), fun n hn => ?_⟩
          have h : ∃ m, m ∈ ss.filter (eJ k') /\ V.ref (L.ad n) = .ref (L.ad m) := ⟨n, hn, rfl⟩
          show (if h : ∃ m, m ∈ ss.filter (eJ k') /\ V.ref (L.ad n) = .ref (L.ad m) then GY k' h.choose else (0, ⟨#[]⟩)) = GY k' n
          rw [dif_pos h]
          obtain ⟨g1, g2⟩ := h.choose_spec
          obtain ⟨x, hx⟩ := Zk n hn
          obtain ⟨y, hy⟩ := Zk _ g1
          have e : L.ad n = L.ad h.choose := by injection g2
          obtain ⟨dx, r1, r2, b1⟩ := (hk6.bl n x hx).at
          obtain ⟨dy, r3, r4, b2⟩ := (hk6.bl _ y hy).at
          rw [<- e, b1] at b2
          have b2 := Option.some.inj b2
          injection b2 with _ _ hf
          unfold dP at hf
          injection hf with h4 _
          injection h4 with _ h5
          injection h5 with h6
          rw [<- h6]
         refine ⟨q5, acc, kf, rfl, .inl (.inl hq6), by rw [List.length_map] at agO; omega, fun v hv H7 s7 => ?_, fun q8 ys H8 s8 hn8 agb ⟨hpm, hpw⟩ => ?_⟩
         . rw [ea] at hv
           obtain ⟨n, hn, rfl⟩ := List.mem_map.mp hv
           obtain ⟨x, hx⟩ := Zk n hn
           rw [hkf n hn]
           refine adO ((hk6.keeps s7).bl n x hx) (fun v' H'' s'' d'' => ⟨s'', ?_⟩)
           unfold GY
           rw [hx]
           exact d''
         . obtain ⟨ns, Uc, rfl⟩ := T7 hpm _ ea
           have s9 : ay H6 (upd H8 q8 (.lst (ns.map fun n => .ref (L.ad n)))) := s8.trans (dB agb)
           have WW : upd H8 q8 (.lst (ns.map fun n => V.ref (L.ad n))) q8 = some (.lst (ns.map fun n => .ref (L.ad n))) := ao
           have hn9 : H6 q8 = none := hn8
           generalize upd H8 q8 (.lst (ns.map fun n => .ref (L.ad n))) = H9 at *
           have WH := hk6.keeps s9
           have s39 : ay H3 H9 := (s4.trans s6).trans s9
           have afY := Gw.keeps s39
           have Vn : ns.Nodup := Uc.nodup_iff.mpr (aez.filter _)
           have Qb : ∀ n, n ∈ ns ↔ eJ k' n = true := fun n => by
            rw [Uc.mem_iff, List.mem_filter]
            refine ⟨fun h => h.2, fun h => ⟨(hN.2 n).mpr ?_, h⟩⟩
            unfold eJ at h
            cases e : k'.f n with
            | none => rw [e] at h; cases h
            | some x => rfl
           have fr9 : qR a L H H9 := Bk.step ((s2.trans s3).trans s39)
           have adq : H q3 = none := Bk.none (s2.none J6)
           have Vq : ns.length <= 60 := by rw [Uc.length_eq]; have := List.length_filter_le (eJ k') ss; omega
           have afW : ∀ n ∈ ns, ∃ x sn un, k'.f n = some x /\ x.sn = some sn /\ x.un = some un := fun n hn => by
            have h := (Qb n).mp hn
            unfold eJ at h
            cases e : k'.f n with
            | none => rw [e] at h; cases h
            | some x =>
              rw [e] at h
              cases es : x.sn with
              | none => simp [es] at h
              | some sn =>
                obtain ⟨un, eu⟩ := ok.un n x sn (by rw [<- ekf]; exact e) es
                exact ⟨x, sn, un, rfl, es, eu⟩
           repeat' (walk_at "rd1")
           refine forL (xs := ns.map fun n => .ref (L.ad n)) (.inl (.inl WW)) (fun i σ' H' => ∃ z, σ' = [some (.ref L.p), some .aS, some (.ref q1), some (.ref q3), some (.ref q5), z] /\ qR a L H H' /\ H' q8 = some (.lst (ns.map fun n => .ref (L.ad n))) /\ d5 H' q3 ((ns.take i).foldl gC (k', [b7 uc n0])).2 /\ bZ a H' L ((ns.take i).foldl gC (k', [b7 uc n0])).1) ⟨_, rfl, fr9, WW, afY, WH⟩ (fun i σ' H' _ ⟨_, _, _, TC, _⟩ => .inl (.inl TC)) ?_ ?_
           . rintro i y σ' Ha hy ⟨z, rfl, fra, hpa, hqa, hka⟩
             rw [List.getElem?_map] at hy
             obtain ⟨n, hn, rfl⟩ := Option.map_eq_some_iff.mp hy
             have hia := hka.ins
             unfold aP at hia
             obtain ⟨x, sn, un, hx, es, eu⟩ := afW n (List.mem_of_getElem? hn)
             have Xx : n ∉ ns.take i := by
              have := Gv (f := id) (l := ns) (j := i) (c := n) (by rw [List.map_id]; exact Vn) hn
              rwa [List.map_id] at this
             obtain ⟨e1, e2, e3, e4⟩ := Ec (ns.take i) (k', [b7 uc n0])
             have ail : (ns.take i).length <= ns.length := by rw [List.length_take]; omega
             have hx2 := (e3 n Xx).trans hx
             obtain ⟨o1, o2, o3⟩ := ok.hm n x (by rw [<- ekf]; exact hx)
             repeat' (walk_at "rd1")
             refine abW hka hx2 es eu o1 o2 o3 (fun qb Hb frb hnb hqb hkb => ?_)
             have ae7 := frb.lat hqa
             have hlb := GU n x (aV ((ns.take i).foldl gC (k', [b7 uc n0])).1 x)
             repeat' (walk_at "rd1")
             refine NV ae7 hqb (by simp only [List.length_cons] at e4 ⊢; simp only [List.length_nil] at e4; omega) (fun Hc mvc hqc => ?_)
             have KG : q8 ≠ q3 := fun z => by
              have : H6 q3 ≠ none := fun zz => by
               obtain ⟨xs, ex, _⟩ := Gw
               rw [(s4.trans s6) _ _ ex] at zz; cases zz
              exact this (z ▸ hn9)
             have hpb : Hb q8 = some (.lst (ns.map fun n => .ref (L.ad n))) := frb.kp q8 _ hpa (by intro _ z; cases z) (by intro _ _ _ z; cases z)
             have hs : (ns.take (i + 1)).foldl gC (k', [b7 uc n0]) = (yI ((ns.take i).foldl gC (k', [b7 uc n0])).1 n x (aV ((ns.take i).foldl gC (k', [b7 uc n0])).1 x), ((ns.take i).foldl gC (k', [b7 uc n0])).2 ++ (om n x.no ((ns.take i).foldl gC (k', [b7 uc n0])).1.now sn un :: Es n x (aV ((ns.take i).foldl gC (k', [b7 uc n0])).1 x))) := by
              rw [take_snoc hn, List.foldl_append]
              exact Jk hx2 es eu
             refine ⟨_, rfl, Ny (fra.trans frb) mvc adq, mvc.kp q8 _ (by simpa using KG) hpb, ?_, ?_⟩
             . rw [hs]; exact hqc
             . rw [hs]; exact (Ov mvc ae7).kat hkb
           . rintro σ' Ha ⟨z, rfl, fra, hpa, hqa, hka⟩
             rw [List.length_map, List.take_length] at hqa hka
             repeat' (walk_at "rd1")
             subst ek
             refine q _ _ uc n0 r0 _ ns fra adq hks hsr rfl aeR Vn Qb ?_ hqa hka
             have : ns.Pairwise (fun c d => fD (kf (.ref (L.ad d))) (kf (.ref (L.ad c))) = false) := List.pairwise_map.mp hpw
             refine this.imp_of_mem fun {c d} hc hd h => ?_
             rw [hkf c (Uc.mem_iff.mp hc), hkf d (Uc.mem_iff.mp hd)] at h
             exact h
theorem LW (T : Txt K mg a) : dE P w K mg base 9 a.bH ["self", "deed"] [] (HH a) :=
 ⟨⟨_, _, Ol T, T.gN.binds fun _ _ _ _ _ _ => .all fun us hl => match us, hl with | [_, _], _ => rfl, .nil⟩⟩
def Wok (k : KS) (es : List PyData) (k2 : KS) : Prop := ∃ (u0 : Int) (n0 : Str) (r0 ks : List (Int × Str)) (ns : List Str), (∀ u n, (u, n) ∈ ks ↔ k.t n = some u /\ u <= u0) /\ Srt ks /\ ks = (u0, n0) :: r0 /\ (∀ n u, k.t n = some u -> u0 <= u) /\ ns.Nodup /\ (∀ n, n ∈ ns ↔ eJ { k with now := u0, t := AV k.t u0 } n = true) /\ ns.Pairwise (fun c d => fD (GY k d) (GY k c) = false) /\ ns.foldl gC ({ k with now := u0, t := AV k.t u0 }, [b7 u0 n0]) = (k2, es) /\ ns.length <= 60
def R7 (a : Ad) : Sp := fun vs H Q _ => ∃ L k to m, vs = [.ref L.p, .int to, .int m, .aS] /\ bZ a H L k /\ k.now <= to /\ ((∀ n u, k.t n = some u -> to < u) -> ∀ q H', qR a L H H' -> H q = none -> d5 H' q [] -> bZ a H' L { k with now := to } -> Q (.ref q) H') /\ ((∃ n u, k.t n = some u /\ u <= to) -> m = 1 /\ abB k /\ ∀ q H' es k2, Wok k es k2 -> qR a L H H' -> H q = none -> d5 H' q es -> bZ a H' L k2 -> Q (.ref q) H')
theorem Yj (T : Txt K mg a) : aL P w K mg base eU 10 a.ez a.j1 ["self", "to", "most", "deed"] (R7 a) := by
 have cl := T.aD; have n1 := T.a8
 have Oe := T.mO; have Ep := T.iF; have MY := T.nP
 have Nq := QQ (P := P) (w := w) (base := base) T
 have EA := G9 (P := P) (w := w) (base := base) T
 have M0 := LW (P := P) (w := w) (base := base) T
 refine T.nE.ok j2 (fun vs H Q E h => ?_) (fun c3 A outer s H vs Q E hr h => ?_)
 . obtain ⟨_, _, _, _, rfl, _⟩ := h; rfl
 . obtain ⟨L, k, to, m, rfl, hk, h0, qn, qy⟩ := h
   have hi := hk.ins
   unfold aP at hi
   refine ⟨_, (af (bW (aJ HK (pv 1) (av (pv 0) rfl) (aI _))
    (ag cP)
    aM)
    (af (aN (i := 4) j2.nd rfl (Or.inl rfl) (fY ai))
    (af (aN (i := 5) j2.nd rfl (Or.inl rfl) ak)
    (af (GJ PassesOwn.never (dC (aF (pv 0) cl Oe Nq (hr.mono (by decide)) (ae (pv 1) ai)) (fun _ => rfl))
     (af (aT (B8 PySem.F.plainAttrs_list PySem.F.slot_list_extend PySem.F.type_list_extend Eo (pv 4) (ae (aF (pv 0) cl MY M0 (hr.mono (by decide)) (ae (pv 3) ai)) ai)))
     (af (aN (i := 5) j2.nd rfl (Or.inl rfl) (aC bU (pv 5) ak))
     (ag (bW (aJ (hV hr.Le) (pv 5) (pv 2) (aI _))
      (ag (aB (pv 4)))
      aM)))))
    (af (aT (aF (pv 0) cl Ep EA (hr.mono (by decide)) (ae (pv 1) ai)))
    (ag (aB (pv 4)))))))), ?_⟩
   repeat' (walk_at "rd1")
   rename_i q1 H1 s1 Ii Ij
   have jd := hk.keeps s1
   have DU := jd.ins
   unfold aP at DU
   refine JV (fun j σ' H' => σ' = [some (.ref L.p), some (.int to), some (.int m), some .aS, some (.ref q1), some (.int 0)] /\ H' = H1) ⟨0, rfl, rfl⟩ ?_
   rintro j σ' H' ⟨rfl, rfl⟩
   repeat' (walk_at "rd1")
   refine ⟨L, k, to, rfl, jd, fun n u e1 e2 => ?_, fun h1 => ?_⟩
   . obtain ⟨rfl, ok, q⟩ := qy ⟨n, u, e1, e2⟩
     repeat' (walk_at "rd1")
     refine ⟨L, k, rfl, jd, ok, fun q2 H2 u0 n0 r0 ks ns BQ Io g1 g2 g3 g4 g5 g6 g7 G8 yw => ?_⟩
     have YL : ns.length <= 60 := by
      have h1 : ∀ y ∈ ns, y ∈ L.nm := fun y hy => by
       have := (g6 y).mp hy
       unfold eJ at this
       refine jd.nf y ?_
       cases e : k.f y with
       | none => simp [e] at this
       | some x => rfl
      have h2 := qh g5 h1
      have := jd.nl
      omega
     have hle := (Ec ns ({ k with now := u0, t := AV k.t u0 }, [b7 u0 n0])).2.2.2
     repeat' (walk_at "rd1")
     refine NV (BQ.lat Ij) G8 (by simp only [List.length_cons, List.length_nil] at hle ⊢; omega) (fun H3 Yl Gw => ?_)
     repeat' (walk_at "rd1")
     refine q _ _ _ _ ⟨u0, n0, r0, ks, ns, g1, g2, g3, g4, g5, g6, g7, rfl, YL⟩ (Ny (s1.fr.trans BQ) Yl Ii) Ii (by rw [List.nil_append] at Gw; exact Gw) ((Ov Yl (BQ.lat Ij)).kat yw)
   . repeat' (walk_at "rd1")
     refine RW jd h0 (fun q2 H2 ks BQ Io hm2 _ _ G8 yw => ?_)
     repeat' (walk_at "rd1")
     have e : AV k.t to = k.t := by
      funext n
      unfold AV
      cases et : k.t n with
      | none => rfl
      | some u => rw [Option.filter_some, if_pos (decide_eq_true (h1 n u et))]
     rw [e] at yw
     exact qn h1 _ _ (s1.fr.trans BQ) Ii (BQ.lat Ij) yw
theorem aaB (T : Txt K mg a) : Binds K a.j1 ["self", "to", "most", "deed"] [.int 60 a.eZ, .none] := T.nE.binds fun _ _ _ _ _ _ s us kx hl => by
 obtain ⟨o, n, h1, h2⟩ := T.vB.ex
 have hl : us.length = 2 := by simp at hl; omega
 match us, hl with
 | [_, _], _ => exact PySem.W.binds_K kx rfl h1 h2 rfl rfl
theorem S9 (T : Txt K mg a) : dE P w K mg base 10 a.ez ["self", "to", "most", "deed"] [.int 60, .aS] (R7 a) := ⟨⟨_, _, Yj T, aaB T, .cons ⟨_, rfl⟩ (.cons rfl .nil)⟩⟩
theorem Z4 (T : Txt K mg a) : Binds K a.j1 ["self", "to", "most", "deed"] [.none] := T.nE.binds fun _ _ _ _ _ _ s us kx hl => by
 obtain ⟨o, n, h1, h2⟩ := T.vB.ex
 have hl : us.length = 3 := by simp at hl; omega
 match us, hl with
 | [_, _, _], _ => exact PySem.W.binds_K kx rfl h1 h2 rfl rfl
theorem Td (T : Txt K mg a) : dE P w K mg base 10 a.ez ["self", "to", "most", "deed"] [.aS] (R7 a) := ⟨⟨_, _, Yj T, Z4 T, .cons rfl .nil⟩⟩
def dig (n : Nat) : List Nat := if h : n < 26 then [97 + n] else dig (n / 26) ++ [97 + n % 26]
 termination_by n
 decreasing_by omega
def und (l : List Nat) : Nat := l.foldl (fun a c => a * 26 + (c - 97)) 0
theorem O1 (n : Nat) : und (dig n) = n := by
 induction n using Nat.strongRecOn with
 | ind n ih =>
   unfold dig
   split
   . simp [und]
   . have := ih (n / 26) (by omega)
     unfold und at *
     rw [List.foldl_append, this]
     simp
     omega
theorem Xf {n m : Nat} (h : dig n = dig m) : n = m := by rw [<- O1 n, h, O1]
theorem OU : ∀ (k n : Nat), n < 26 ^ (k + 1) -> (dig n).length <= k + 1
 | 0, n, h => by unfold dig; rw [dif_pos (by simpa using h)]; simp
 | k + 1, n, h => by
   unfold dig
   split
   . simp
   . have : n / 26 < 26 ^ (k + 1) := by rw [Nat.div_lt_iff_lt_mul (by decide)]; rw [Nat.pow_succ] at h; exact h
     have := OU k (n / 26) this
     simp; omega
def A9 (l : List Nat) : Str := ⟨l.toArray⟩
theorem Lk {a b : List Nat} (h : A9 a = A9 b) : a = b := by
 unfold A9 at h
 have := congrArg (fun s : Str => s.cps.toList) h
 simpa using this
def nameEnd (n : Nat) (l : List Nat) : List Nat := if n = 0 /\ l ≠ [] then l else dig n ++ l
theorem Kj {n : Nat} {l : List Nat} (h : ¬ (n = 0 /\ l ≠ [])) : nameEnd (n / 26) ((97 + n % 26) :: l) = nameEnd n l := by
 unfold nameEnd
 rw [if_neg h]
 by_cases h2 : n < 26
 . rw [if_pos ⟨by omega, by simp⟩]
   unfold dig
   rw [dif_pos h2]
   have : n % 26 = n := by omega
   rw [this]; rfl
 . rw [if_neg (by omega)]
   conv => rhs; unfold dig
   rw [dif_neg h2, List.append_assoc]; rfl
def Gh (n : Nat) : Str := A9 (dig n)
theorem Uq {n m : Nat} (h : Gh n = Gh m) : n = m := Xf (Lk h)
theorem aaC (N : Nat) : ∀ c ∈ dig N, c < 0x110000 := by
 induction N using Nat.strongRecOn with
 | ind n ih =>
   intro c hc
   unfold dig at hc
   split at hc
   . have : c = 97 + n := by simpa using hc
     omega
   . rcases List.mem_append.mp hc with hc | hc
     . exact ih (n / 26) (by omega) c hc
     . have : c = 97 + n % 26 := by simpa using hc
       omega
theorem Y9 (N : Nat) : PyData.canLay0 (.str (Gh N)) = true := by
 show (Str.cps (Gh N)).all (· < 0x110000) = true
 rw [Array.all_eq_true']
 intro c hc
 exact decide_eq_true (aaC N c (by simpa [Gh, A9] using hc))
def Kl : Sp := fun vs H Q _ => ∃ c k, vs = [.int c, .int k] /\ 0 <= k /\ k < 61 /\ Q (.str (Gh (c % 3000000007 * 61 + k).toNat)) H
theorem aaf {H : Hp} {Q : VK} {E : XK} {c k : Int} (h1 : 0 <= k) (h2 : k < 61) (q : Q (.str (Gh (c % 3000000007 * 61 + k).toNat)) H) : Kl [.int c, .int k] H Q E := ⟨c, k, rfl, h1, h2, q⟩
theorem aal {n : Int} (h0 : 0 <= n) (h1 : n < 26) : JF (Str.cps "abcdefghijklmnopqrstuvwxyz").toList n = some (97 + n.toNat) := by
 obtain ⟨m, rfl⟩ := Int.eq_ofNat_of_zero_le h0
 have hm : m < 26 := by omega
 refine Gn ?_
 have : ∀ m : Fin 26, (Str.cps "abcdefghijklmnopqrstuvwxyz").toList[m.val]? = some (97 + m.val) := by decide +kernel
 exact this ⟨m, hm⟩
theorem XB (T : Txt K mg a) : aL P w K mg base eU 1 a.d7 a.Dj ["_law_cell", "_law_k"] Kl := by
 refine T.xG.ok gG (fun vs H Q E h => ?_) (fun c3 A outer s H vs Q E hr h => ?_)
 . obtain ⟨_, _, rfl, _⟩ := h; rfl
 . obtain ⟨c, k, rfl, h1, h2, q⟩ := h
   refine ⟨_, (af (aN (i := 2) gG.nd rfl (Or.inl rfl) (aC bU (aC DH (aC cZ (pv 0) ak) ak) (pv 1)))
    (af (aN (i := 3) gG.nd rfl (Or.inl rfl) gY)
    (af (GJ PassesOwn.never (PW.pt (OX (aJ RZ (pv 2) ak (aI _)) (N3 (aJ (hV hr.Le) (pv 3) gY (aI _)))))
     (af (aN (i := 3) gG.nd rfl (Or.inl rfl) (aC Xp (bV eV gY (aC cZ (pv 2) ak) (fun _ _ => rfl)) (pv 3)))
     (ag (aN (i := 2) gG.nd rfl (Or.inl rfl) (aC cR (pv 2) ak)))))
    (ag (aB (pv 3)))))), ?_⟩
   have hN : (c % 3000000007 * 61 + k) = ((c % 3000000007 * 61 + k).toNat : Int) := by omega
   have hB : (c % 3000000007 * 61 + k).toNat < 26 ^ 9 := by have : (26 : Nat) ^ 9 = 5429503678976 := by decide
                                                            omega
   generalize (c % 3000000007 * 61 + k).toNat = N at hN hB q
   repeat' (walk_at "rd1")
   rw [hN]
   refine JV (fun m σ' H' => ∃ (n : Nat) (l : List Nat), σ' = [some (.int c), some (.int k), some (.int n), some (.str (A9 l))] /\ H' = H /\ n < 26 ^ 9 /\ nameEnd n l = dig N /\ m = n + (if l = [] then 1 else 0)) ⟨_, N, [], rfl, rfl, hB, by simp [nameEnd], rfl⟩ ?_
   rintro m σ' H' ⟨n, l, rfl, rfl, hn, he, rfl⟩
   have hl : l.length <= 9 := by
    have h1 := OU 8 N hB
    rw [<- he] at h1
    unfold nameEnd at h1
    split at h1
    . exact h1
    . rw [List.length_append] at h1; omega
   have YL : (A9 l).length <= 9 := by show l.toArray.size <= 9; simpa using hl
   have step : ¬ (n = 0 /\ l ≠ []) -> ∀ σ2 : St, σ2 = [some (.int c), some (.int k), some (.int ((n : Int) / 26)), some (.str (A9 ((97 + n % 26) :: l)))] -> ∃ m', m' < n + (if l = [] then 1 else 0) /\ ∃ (n' : Nat) (l' : List Nat), σ2 = [some (.int c), some (.int k), some (.int n'), some (.str (A9 l'))] /\ H' = H' /\ n' < 26 ^ 9 /\ nameEnd n' l' = dig N /\ m' = n' + (if l' = [] then 1 else 0) := by
    intro hs σ2 e
    refine ⟨n / 26, ?_, n / 26, (97 + n % 26) :: l, by rw [e, show ((n / 26 : Nat) : Int) = (n : Int) / 26 by omega], rfl, by omega, by rw [Kj hs]; exact he, by simp⟩
    by_cases h0 : l = []
    . rw [if_pos h0]; omega
    . rw [if_neg h0]
      have : n ≠ 0 := fun z => hs ⟨z, h0⟩
      omega
   have cat : ∀ x : Nat, (⟨#[x]⟩ : Str) ++ A9 l = A9 (x :: l) := fun x => by
    show (⟨#[x] ++ l.toArray⟩ : Str) = ⟨(x :: l).toArray⟩
    congr 1
    simp
   have ix : JF (Str.cps "abcdefghijklmnopqrstuvwxyz").toList ((n : Int) % 26) = some (97 + n % 26) := by
    rw [aal (by omega) (by omega)]
    rw [show ((n : Int) % 26).toNat = n % 26 by omega]
   have aeW : (Str.length "abcdefghijklmnopqrstuvwxyz") <= sizeLine := by decide
   repeat' (walk_at "rd1")
   . refine UL aeW ix (L9 rfl (ND ?_ ?_))
     . show 1 + (A9 l).length <= 4000; omega
     . rw [cat]
       repeat' (walk_at "rd1")
       exact step (by omega) _ rfl
   . refine UL aeW ix (L9 rfl (ND ?_ ?_))
     . show 1 + (A9 l).length <= 4000; omega
     . rw [cat]
       repeat' (walk_at "rd1")
       refine step ?_ _ rfl
       rename_i hb1 hb _ _
       intro z
       have : A9 l = A9 [] := V.str.inj hb
       exact z.2 (Lk this)
   . rename_i hb1 hb
     have h0 : n = 0 := by omega
     have KG : l ≠ [] := fun z => hb (by rw [z]; rfl)
     have : nameEnd n l = l := by unfold nameEnd; rw [if_pos ⟨h0, KG⟩]
     rw [this] at he
     rw [he]
     exact q
theorem U3 (T : Txt K mg a) : dE P w K mg base 1 a.d7 ["_law_cell", "_law_k"] [] Kl :=
 ⟨⟨_, _, XB T, T.xG.binds fun _ _ _ _ _ _ => .all fun us hl => match us, hl with | [_, _], _ => rfl, .nil⟩⟩
local macro_rules | `(tactic| walk_at "use") => `(tactic| first | ((with_reducible refine' aaf ?e1 ?e2 ?_); (case e1 => omega); (case e2 => omega)) | fail)
def aeC (K : PySem.W.Frag) (x : V) (g : TG) (tb : TS) (D : Ends) (σ : St) (H1 : Hp) : Prop := ∃ a, x = .ref a /\ (∃ xs, IB K H1 a xs) /\ ∃ W : Nat -> Nat -> St -> Hp -> Prop, (∃ m, W 0 m σ H1) /\ ∀ i m σ H, W i m σ H ->
 ((Y7 K a).stop i H /\ D.nx σ H) \/ ((Y7 K a).go i H /\ ∃ N : St -> Hp -> Prop, (∀ σ' H', N σ' H' -> ∃ m', m' < m /\ W (i + 1) m' σ' H') /\ ∀ x H', (Y7 K a).Vj i H x H' -> g x σ H' fun σ2 H2 => tb { D with nx := N, ct := N, bk := D.nx } σ2 H2)
section
variable {σ : St} {H : Hp} {D : Ends} {K : PySem.W.Frag} {v : V} {g : TG} {tb : TS}
theorem Z8 {tl : TE} (h : tl σ H fun x H1 => aeC K x g tb D σ H1) : P6 (ac7 K tl) g tb D σ H := h
theorem agB {ds : List PyData} (hd : Dv H v (.tuple ds)) (S : Nat -> St -> Prop) (h0 : S 0 σ) (hs : ∀ i d x σ', ds[i]? = some d -> Dv H x d -> S i σ' -> g x σ' H fun σ2 H2 => tb { D with nx := fun abq H' => S (i + 1) abq /\ H' = H, ct := fun abq H' => S (i + 1) abq /\ H' = H, bk := D.nx } σ2 H2) (he : ∀ σ', S ds.length σ' -> D.nx σ' H) : aeC K v g tb D σ H := by
 cases hd with
 | tup h r =>
   rename_i a xs
   refine ⟨a, rfl, ⟨xs, .of h⟩, W8 (fun i σ' H' => S i σ' /\ H' = H) ⟨h0, rfl⟩ (fun i σ' H' _ p => by rw [p.2]; exact .of h) (fun i x σ' H' hx p => ?_) (fun σ' H' p => ?_)⟩
   . obtain ⟨p1, rfl⟩ := p
     have hl := r.length
     have hi : i < ds.length := by have := (List.getElem?_eq_some_iff.mp hx).1; omega
     obtain ⟨x', Df, K8⟩ := r.get (i := i) (d := ds[i]) (List.getElem?_eq_getElem hi)
     rw [hx] at Df
     cases Df
     exact hs i _ x σ' (List.getElem?_eq_getElem hi) K8 p1
   . obtain ⟨p1, rfl⟩ := p
     rw [r.length] at p1
     exact he σ' p1
end
set_option hygiene false in
local macro_rules | `(tactic| walk_at "rd1") => `(tactic| first | with_reducible refine Z8 ?_ | fail)
def Flat (d : PyData) : Prop := (∃ s, d = .str s) \/ ∃ i, d = .int i
def Ent (e : PyData) : Prop := ∃ ps, e = .tuple ps /\ ∀ p ∈ ps, Flat p
def GQ : Sp := fun vs H Q _ => ∃ v es, vs = [v] /\ Dv H v (.list es) /\ (∀ e ∈ es, Ent e) /\ Q (.bl true) H
theorem Vx {H : Hp} {Q : VK} {E : XK} {v : V} {es : List PyData} (h : Dv H v (.list es)) (he : ∀ e ∈ es, Ent e) (q : Q (.bl true) H) : GQ [v] H Q E := ⟨v, es, rfl, h, he, q⟩
theorem Kr (T : Txt K mg a) : aL P w K mg base eU 1 a.dr a.yS ["_law_found"] qt := by
 refine T.rD.ok IA (fun vs H Q E h => ?_) (fun c3 A outer s H vs Q E hr h => ?_)
 . obtain ⟨_, _, rfl, _⟩ := h; rfl
 . obtain ⟨v, d, rfl, hd, k⟩ := h
   refine ⟨_, (ag (aB (Ig (bB k7 rfl T.bE PyProof.Rows.boot_isinstance (ae (pv 0) (ae (rR (v := .ty "int") rfl T.GK PyProof.Rows.boot_int rfl) ai))) (Hx (S3 (bB k7 rfl T.bE PyProof.Rows.boot_isinstance (ae (pv 0) (ae (rR (v := .ty "bool") rfl T.Dp PyProof.Rows.boot_bool rfl) ai)))))))), ?_⟩
   repeat' (walk_at "rd1")
   . refine XJ ?_; cases d <;> simp_all [isInt, isBool]
   . refine XJ ?_; cases d <;> simp_all [isInt, isBool]
theorem IK (T : Txt K mg a) : dE P w K mg base 1 a.dr ["_law_found"] [] qt :=
 ⟨⟨_, _, Kr T, T.rD.binds fun _ _ _ _ _ _ => .all fun us hl => match us, hl with | [_], _ => rfl, .nil⟩⟩
theorem SM (T : Txt K mg a) : aL P w K mg base eU 2 a.dA a.y0 ["_law_found"] GQ := by
 have J9 := IK (P := P) (w := w) (base := base) T
 refine T.rO.ok oJ (fun vs H Q E h => ?_) (fun c3 A outer s H vs Q E hr h => ?_)
 . obtain ⟨_, _, rfl, _⟩ := h; rfl
 . obtain ⟨v, es, rfl, hv, he, q⟩ := h
   refine ⟨_, (af (bW (rQ (dC (bB k7 rfl T.bE PyProof.Rows.boot_isinstance (ae (pv 0) (ae (rR (v := .ty "list") rfl T.yD PyProof.Rows.boot_list rfl) ai))) (fun _ => rfl)))
    (ag (aB FP))
    aM)
    (af (oQ PassesOwn.never rfl (iO (pv 0)) (aX (i := 1) oJ.nd rfl (Or.inl rfl))
     (af (bW (rQ (dC (bB k7 rfl T.bE PyProof.Rows.boot_isinstance (ae (pv 1) (ae (rR (v := .ty "tuple") rfl T.DT PyProof.Rows.boot_tuple rfl) ai))) (fun _ => rfl)))
      (ag (aB FP))
      aM)
     (ag (oQ PassesOwn.never rfl (abK (pv 1)) (aX (i := 2) oJ.nd rfl (Or.inl rfl))
      (ag (bW (PW.pt (EH (rQ (dC (bB k7 rfl T.bE PyProof.Rows.boot_isinstance (ae (pv 2) (ae (rR (v := .ty "str") rfl T.KU PyProof.Rows.boot_str rfl) ai))) (fun _ => rfl))) (yx (rQ (dC (c6 J9 (hr.mono (by decide)) rfl T.zN T.zY (ae (pv 2) ai)) (fun _ => rfl))))))
       (ag (aB FP))
       aM))))))
    (ag (aB FP)))), ?_⟩
   repeat' (walk_at "rd1")
   refine agJ (cs := es) (gd := fun d => d) (by rw [List.map_id']; exact hv) (fun i σ' H' => H' = H /\ ∃ z1 z2, σ' = [some v, z1, z2]) ⟨rfl, _, _, rfl⟩ (fun i σ' H' _ ⟨e, _⟩ b xs _ hx => by rw [e]; exact hx) ?_ ?_
   . rintro i e x σ' H' hi ⟨rfl, z1, z2, rfl⟩ _ hx
     obtain ⟨ps, rfl, hps⟩ := he e (List.mem_of_getElem? hi)
     have hx : Dv H' x (.tuple ps) := hx (ay.refl _)
     repeat' (walk_at "rd1")
     refine agB hx (fun j σ' => ∃ z, σ' = [some v, some x, z]) ⟨_, rfl⟩ ?_ ?_
     . rintro j d y σ' hj hy ⟨z, rfl⟩
       rcases hps d (List.mem_of_getElem? hj) with ⟨s, rfl⟩ | ⟨n, rfl⟩
       . obtain rfl := hy.str_inv
         repeat' (walk_at "rd1")
         exact ⟨⟨_, rfl⟩, rfl⟩
       . obtain rfl := hy.int_inv
         repeat' (walk_at "rd1")
         exact ⟨⟨_, rfl⟩, rfl⟩
     . rintro σ' ⟨z, rfl⟩
       exact ⟨rfl, _, _, rfl⟩
   . rintro σ' H' ⟨rfl, z1, z2, rfl⟩
     repeat' (walk_at "rd1")
     exact q
theorem QL (T : Txt K mg a) : dE P w K mg base 2 a.dA ["_law_found"] [] GQ :=
 ⟨⟨_, _, SM T, T.rO.binds fun _ _ _ _ _ _ => .all fun us hl => match us, hl with | [_], _ => rfl, .nil⟩⟩
theorem S2 {m : List (Str × PyData)} {x n : Str} : ig (mZ m x) n = if n = x then none else ig m n := by
 unfold ig mZ
 rw [List.find?_filter]
 split
 . rename_i h
   subst h
   rw [List.find?_eq_none.mpr]
   . rfl
   . intro y _
     simp
 . rename_i h
   congr 2
   funext y
   by_cases e : y.1 = n
   . simp [e, h]
   . simp [e]
theorem OH {m : List (Str × PyData)} {x n : Str} {d : PyData} : ig (putD m x d) n = if n = x then some d else ig m n := by
 unfold putD
 split
 . rename_i h
   unfold ig
   rw [List.find?_map, Option.map_map]
   have e1 : ((fun kv : Str × PyData => decide (kv.1 = n)) ∘ fun kv : Str × PyData => if kv.1 = x then (kv.1, d) else kv) = fun kv => decide (kv.1 = n) := by
    funext kv
    by_cases e : kv.1 = x <;> simp [e]
   rw [e1]
   split
   . rename_i e
     subst e
     obtain ⟨y, hy, hd⟩ := List.any_eq_true.mp h
     cases hf : m.find? fun kv => decide (kv.1 = n) with
     | none => exact absurd hd (List.find?_eq_none.mp hf y hy)
     | some z =>
       have := List.find?_some hf
       have e2 : z.1 = n := of_decide_eq_true this
       simp [e2]
   . rename_i e
     cases hf : m.find? fun kv => decide (kv.1 = n) with
     | none => rfl
     | some z =>
       have := List.find?_some hf
       have e2 : z.1 = n := of_decide_eq_true this
       have e3 : ¬ z.1 = x := fun q => e (e2.symm.trans q)
       simp [e3]
 . rename_i h
   unfold ig
   rw [List.find?_append]
   split
   . rename_i e
     subst e
     rw [List.find?_eq_none.mpr]
     . simp
     . intro y hy z
       exact h (List.any_eq_true.mpr ⟨y, hy, z⟩)
   . rename_i e
     have : ¬ x = n := fun q => e q.symm
     simp [this]
theorem Kq {m : List (Str × PyData)} {n : Str} : n ∈ m.map (·.1) ↔ (ig m n).isSome = true := by
 unfold ig
 rw [Option.isSome_map, List.find?_isSome, List.mem_map]
 constructor
 . rintro ⟨y, hy, e⟩; exact ⟨y, hy, decide_eq_true e⟩
 . rintro ⟨y, hy, e⟩; exact ⟨y, hy, of_decide_eq_true e⟩
theorem Ih {m : List (Str × PyData)} {x : Str} {d : PyData} (h : (m.map (·.1)).Nodup) : ((putD m x d).map (·.1)).Nodup /\ (putD m x d).length <= m.length + 1 := by
 unfold putD
 split
 . rw [List.map_map, List.length_map]
   refine ⟨?_, by omega⟩
   have : (m.map ((fun y : Str × PyData => y.1) ∘ fun kv => if kv.1 = x then (kv.1, d) else kv)) = m.map (·.1) := List.map_congr_left fun kv _ => by
    by_cases e : kv.1 = x <;> simp [e]
   rw [this]; exact h
 . rename_i hx
   rw [List.map_append, List.length_append]
   refine ⟨?_, Nat.le_refl _⟩
   rw [List.nodup_append]
   refine ⟨h, by simp, fun y hy z hz => ?_⟩
   rw [List.mem_singleton.mp hz]
   intro e
   obtain ⟨w, hw, ew⟩ := List.mem_map.mp hy
   exact hx (List.any_eq_true.mpr ⟨w, hw, decide_eq_true (ew.trans e)⟩)
theorem IU {m : List (Str × PyData)} {x : Str} (h : (m.map (·.1)).Nodup) : ((mZ m x).map (·.1)).Nodup /\ (mZ m x).length <= m.length := by
 unfold mZ
 exact ⟨h.sublist (List.filter_sublist.map _), List.length_filter_le _ _⟩
structure Ir (ds : List PyData) : Prop where
 c : PyData.canLayAll0 ds = true
 d : PyData.depthAll ds <= 3
 e : PyData.eqvAll ds ds = true
theorem Ir.nil : Ir [] := ⟨rfl, Nat.zero_le _, rfl⟩
theorem Ir.cons {d : PyData} {ds : List PyData} (h1 : d.canLay0 = true) (h2 : d.depth <= 3) (h3 : PyData.eqv d d = true) (h : Ir ds) : Ir (d :: ds) := by
 refine ⟨?_, ?_, ?_⟩
 . rw [PyData.canLayAll0, h1, h.c]; rfl
 . have := h.d; rw [PyData.depthAll]; omega
 . rw [PyData.eqvAll, h3, h.e]; rfl
theorem YW {K : PySem.W.Frag} {H : Hp} {Q : VK} {f : Bool -> Bool} {x y : V} {ds : List PyData} (h1 : Dv H x (.list ds)) (h2 : Dv H y (.list ds)) (hl : Ir ds) (h : Q (.bl (f true)) H) : Ri K f x y H Q := by
 refine Y6 h1 h2 (by rw [PyData.canLay0]; exact hl.c) (by rw [PyData.canLay0]; exact hl.c) ?_ ?_
 . have := hl.d
   rw [PyData.depth]
   omega
 . rw [PyData.eqv, hl.e]; exact h
theorem XI {ds : List PyData} (h : Ir ds) (hd : PyData.depthAll ds <= 2) : (PyData.tuple ds).canLay0 = true /\ (PyData.tuple ds).depth <= 3 /\ PyData.eqv (.tuple ds) (.tuple ds) = true := by
 refine ⟨by rw [PyData.canLay0]; exact h.c, ?_, by rw [PyData.eqv]; exact h.e⟩
 rw [PyData.depth]
 omega
theorem Flat.lay {d : PyData} (h : Flat d) (hs : ∀ s, d = .str s -> PyData.canLay0 (.str s) = true) : d.canLay0 = true /\ d.depth = 0 /\ PyData.eqv d d = true := by
 rcases h with ⟨s, rfl⟩ | ⟨i, rfl⟩
 . exact ⟨hs s rfl, rfl, by simp [PyData.eqv]⟩
 . exact ⟨rfl, rfl, by simp [PyData.eqv]⟩
theorem PB : ∀ {ps : List PyData}, (∀ p ∈ ps, Flat p) -> (∀ s, PyData.str s ∈ ps -> PyData.canLay0 (.str s) = true) -> Ir ps /\ PyData.depthAll ps = 0
 | [], _, _ => ⟨.nil, rfl⟩
 | p :: ps, h, hs => by
   obtain ⟨g1, g2⟩ := PB (ps := ps) (fun q hq => h q (List.mem_cons_of_mem _ hq)) (fun s hq => hs s (List.mem_cons_of_mem _ hq))
   obtain ⟨l1, l2, l3⟩ := (h p List.mem_cons_self).lay fun s e => hs s (by rw [<- e]; exact List.mem_cons_self)
   refine ⟨.cons l1 (by omega) l3 g1, ?_⟩
   rw [PyData.depthAll, l2, g2]; rfl
theorem Xb {ds : List PyData} (h : ∀ e ∈ ds, ∃ ps, e = .tuple ps /\ (∀ p ∈ ps, Flat p) /\ ∀ s, PyData.str s ∈ ps -> PyData.canLay0 (.str s) = true) : Ir ds := by
 induction ds with
 | nil => exact .nil
 | cons d ds ih =>
   obtain ⟨ps, rfl, h1, h2⟩ := h d List.mem_cons_self
   obtain ⟨g1, g2⟩ := PB h1 h2
   obtain ⟨l1, l2, l3⟩ := XI g1 (by omega)
   exact .cons l1 l2 l3 (ih fun e he => h e (List.mem_cons_of_mem _ he))
structure uQ where
 (nm : Str) (kd st gp mo wd : Int) (m : V) (dy : Int)
def mD : V -> PyData
 | .int i => .int i
 | _ => .none
def Hm (b : uQ) : PyData := .tuple [.str b.nm, .int b.kd, .int b.st, .int b.gp, .int b.mo, .int b.wd, mD b.m, .int b.dy]
structure lQ (b : uQ) : Prop where
 k : b.kd = 0 \/ b.kd = 1
 s0 : 1 <= b.st
 s1 : b.st <= 12
 g0 : 1 <= b.gp
 g1 : b.gp <= b.mo
 o1 : b.mo < 10 ^ 22
 w0 : 0 <= b.wd
 w1 : b.wd < 10 ^ 21
 m : b.m = .aS \/ ∃ i, b.m = .int i /\ 1 <= i /\ i <= 6
 d : b.dy = 0 \/ b.dy = 1
theorem lQ.mok {b : uQ} (h : lQ b) : O6 b.m := by
 rcases h.m with h | ⟨i, h, h1, _⟩
 . exact .inl h
 . exact .inr ⟨i, h, h1⟩
theorem lQ.mD {b : uQ} (h : lQ b) {H : Hp} {v : V} (hv : Dv H v (mD b.m)) : v = b.m := by
 rcases h.m with e | ⟨i, e, _⟩
 . rw [e] at hv ⊢; exact hv.PJ
 . rw [e] at hv ⊢; exact hv.int_inv
theorem Ki (b : uQ) (h : lQ b) : Gf (Hm b) = true := by
 rcases h.m with e | ⟨i, e, _⟩
 . unfold Hm; rw [e]; rfl
 . unfold Hm; rw [e]; rfl
def JW (K : PySem.W.Frag) : Sp := fun vs H Q _ => ∃ c k, vs = [.int c, .int k] /\ 0 <= k /\ k < 61 /\ ∀ v H' b, ay H H' -> Dv H' v (Hm b) -> lQ b -> b.nm = Gh (c % 3000000007 * 61 + k).toNat -> Q v H'
theorem aas {H : Hp} {Q : VK} {E : XK} {c k : Int} (h0 : 0 <= k) (h1 : k < 61) (q : ∀ v H' b, ay H H' -> Dv H' v (Hm b) -> lQ b -> b.nm = Gh (c % 3000000007 * 61 + k).toNat -> Q v H') : JW K [.int c, .int k] H Q E := ⟨c, k, rfl, h0, h1, q⟩
theorem Wx (T : Txt K mg a) : aL P w K mg base eU 2 a.ej a.BA ["_law_cell", "_law_k"] (JW K) := by
 have LI := U3 (P := P) (w := w) (base := base) T
 refine T.xU.ok cG (fun vs H Q E h => ?_) (fun c3 A outer s H vs Q E hr h => ?_)
 . obtain ⟨_, _, rfl, _⟩ := h; rfl
 . obtain ⟨c, k, rfl, h0, h1, q⟩ := h
   refine ⟨_, (af (aN (i := 2) cG.nd rfl (Or.inl rfl) (aC bU ak (aC cZ (aC cR (pv 0) ak) ak)))
    (af (aN (i := 3) cG.nd rfl (Or.inl rfl) (aC bU (pv 2) (aC cZ (aC cR (pv 0) ak) ak)))
    (af (aN (i := 4) cG.nd rfl (Or.inl rfl) (aC cZ (aC cR (pv 0) ak) ak))
    (fP (bW (aJ (hV hr.Le) (aC cZ (aC cR (pv 0) ak) ak) ak (aI _))
     (af (aN (i := 2) cG.nd rfl (Or.inl rfl) (aC bU ak (aC cZ (aC cR (pv 0) ak) (aC Bd ak ak))))
     (af (aN (i := 3) cG.nd rfl (Or.inl rfl) (aC bU (pv 2) (aC cZ (aC cR (pv 0) ak) (aC Bd ak ak))))
     (ag (aN (i := 4) cG.nd rfl (Or.inl rfl) (aC cZ (aC cR (pv 0) ak) (aC Bd ak ak))))))
     aM)
    (af (aN (i := 5) cG.nd rfl (Or.inl rfl) d0)
    (fP (bW (aJ (hV hr.Le) (aC cZ (aC cR (pv 0) ak) ak) ak (aI _))
     (ag (aN (i := 5) cG.nd rfl (Or.inl rfl) (aC bU ak (aC cZ (aC cR (pv 0) ak) ak))))
     aM)
    (ag (aB (c5 (ae (c6 LI (hr.mono (by decide)) rfl T.DN T.Bs (ae (pv 0) (ae (pv 1) ai))) (ae (aC cZ (pv 0) ak) (ae (aC bU ak (aC cZ (aC cR (pv 0) ak) ak)) (ae (pv 2) (ae (pv 3) (ae (pv 4) (ae (pv 5) (ae (aC cZ (aC cR (pv 0) ak) ak) ai))))))))))))))))), ?_⟩
   repeat' (walk_at "rd1")
   refine oX (fun σ' H' => H' = H /\ ∃ gp mo wd : Int, 1 <= gp /\ gp <= mo /\ mo < 10 ^ 22 /\ 0 <= wd /\ wd < 10 ^ 21 /\ σ' = [some (.int c), some (.int k), some (.int gp), some (.int mo), some (.int wd), none]) ?_ ?_
   . repeat' (walk_at "rd1")
     all_goals exact ⟨rfl, _, _, _, by omega, by omega, by omega, by omega, by omega, rfl⟩
   rintro σ' H' ⟨rfl, gp, mo, wd, g0, g1, o1, w0, w1, rfl⟩
   repeat' (walk_at "rd1")
   refine oX (fun σ' H2 => H2 = H' /\ ∃ m, (m = .aS \/ ∃ i, m = .int i /\ 1 <= i /\ i <= 6) /\ σ' = [some (.int c), some (.int k), some (.int gp), some (.int mo), some (.int wd), some m]) ?_ ?_
   . repeat' (walk_at "rd1")
     . exact ⟨rfl, _, .inr ⟨_, rfl, by omega, by omega⟩, rfl⟩
     . exact ⟨rfl, _, .inl rfl, rfl⟩
   rintro σ' H2 ⟨rfl, m, hm, rfl⟩
   have hmd : Dv H2 m (mD m) := by
    rcases hm with rfl | ⟨i, rfl, _⟩
    . exact .aS
    . exact .int _
   repeat' (walk_at "rd1")
   refine q _ _ ⟨Gh (c % 3000000007 * 61 + k).toNat, c % 2, 1 + c / 2 % 12, gp, mo, wd, m, c / 5 % 2⟩ (by walk_at "same") (by assumption) ⟨?_, ?_, ?_, g0, g1, o1, w0, w1, hm, ?_⟩ rfl
   . show c % 2 = 0 \/ c % 2 = 1; omega
   . show 1 <= 1 + c / 2 % 12; omega
   . show 1 + c / 2 % 12 <= 12; omega
   . show c / 5 % 2 = 0 \/ c / 5 % 2 = 1; omega
theorem TH (T : Txt K mg a) : dE P w K mg base 2 a.ej ["_law_cell", "_law_k"] [] (JW K) :=
 ⟨⟨_, _, Wx T, T.xU.binds fun _ _ _ _ _ _ => .all fun us hl => match us, hl with | [_, _], _ => rfl, .nil⟩⟩
def De (b : uQ) (sh : Int) : RU := if b.kd = 0 then .behind (b.st + sh * b.dy) b.gp b.wd b.m else .vV (b.st + sh * b.dy) b.gp b.mo b.wd b.m
def nj (b : uQ) (n : Int) : Int := if b.kd = 0 then b.gp else gS b.gp b.mo n
theorem Kp (b : uQ) (sh n : Int) : V6 (De b sh) n = nj b n /\ Zq (De b sh) = b.wd /\ mny (De b sh) = b.m /\ J1 (De b sh) = (b.st + sh * b.dy, b.st + sh * b.dy + b.wd) := by
 unfold De nj
 split <;> exact ⟨rfl, rfl, rfl, rfl⟩
theorem UU {b : uQ} (h : lQ b) (n : Int) : 1 <= nj b n /\ nj b n <= b.mo := by
 unfold nj
 split
 . exact ⟨h.g0, h.g1⟩
 . exact ⟨TJ h.g0 h.g1, acQ⟩
theorem S8 {b : uQ} (h : lQ b) (sh : Int) : sh * b.dy = if b.dy = 1 then sh else 0 := by
 rcases h.d with e | e
 . rw [e]; simp
 . rw [e]; simp
def JZ (a : Ad) : Sp := fun vs H Q _ => ∃ bv b sh, vs = [bv, .int sh] /\ Dv H bv (Hm b) /\ lQ b /\ 0 <= sh /\ sh < 10 ^ 39 /\ ∀ v H', ay H H' -> pE a H' v (De b sh) -> Q v H'
theorem aby {H : Hp} {Q : VK} {E : XK} {bv : V} {b : uQ} {sh : Int} (h1 : Dv H bv (Hm b)) (h2 : lQ b) (h3 : 0 <= sh) (h4 : sh < 10 ^ 39) (q : ∀ v H', ay H H' -> pE a H' v (De b sh) -> Q v H') : JZ a [bv, .int sh] H Q E := ⟨bv, b, sh, rfl, h1, h2, h3, h4, q⟩
theorem Xv (T : Txt K mg a) : aL P w K mg base eU 8 a.en a.Bu ["_law_bell_here", "_law_shift"] (JZ a) := by
 have AW := Cg (P := P) (w := w) (base := base) T
 have xh := zP (P := P) (w := w) (base := base) T
 refine T.vI.ok Ce (fun vs H Q E h => ?_) (fun c3 A outer s H vs Q E hr h => ?_)
 . obtain ⟨_, _, _, rfl, _⟩ := h; rfl
 . obtain ⟨bv, b, sh, rfl, h1, ok, h3, h4, q⟩ := h
   unfold Hm at h1
   have e1 := S8 ok sh
   have hd : 0 <= b.dy /\ b.dy <= 1 := by rcases ok.d with e | e <;> rw [e] <;> decide
   obtain ⟨hd0, hd1⟩ := hd
   have hs : 0 <= sh * b.dy /\ sh * b.dy < 10 ^ 39 := by rw [e1]; split <;> omega
   obtain ⟨hs0, hs1⟩ := hs
   have g0 := ok.g0; have g1 := ok.g1; have o1 := ok.o1; have w0 := ok.w0; have w1 := ok.w1; have s0 := ok.s0; have s1 := ok.s1; have ho := ok.mok
   have em : ∀ {H : Hp} {v : V}, Dv H v (mD b.m) -> v = b.m := fun h => ok.mD h
   unfold De at q
   refine ⟨_, (af (aN (i := 2) Ce.nd rfl (Or.inl rfl) (aC bU (bV eV (pv 0) ak (fun _ _ => rfl)) (aC DH (pv 1) (bV eV (pv 0) ak (fun _ _ => rfl)))))
    (af (bW (aJ (hV hr.Le) (bV eV (pv 0) ak (fun _ _ => rfl)) ak (aI _))
     (ag (aB (yA T.G1 AW (hr.mono (by decide)) rfl T.yu (ae (pv 2) (ae (bV eV (pv 0) ak (fun _ _ => rfl)) (ae (bV eV (pv 0) ak (fun _ _ => rfl)) (ae (bV eV (pv 0) ak (fun _ _ => rfl)) ai)))))))
     aM)
    (ag (aB (yA T.Ef xh (hr.mono (by decide)) rfl T.A6 (ae (pv 2) (ae (bV eV (pv 0) ak (fun _ _ => rfl)) (ae (bV eV (pv 0) ak (fun _ _ => rfl)) (ae (bV eV (pv 0) ak (fun _ _ => rfl)) (ae (bV eV (pv 0) ak (fun _ _ => rfl)) ai)))))))))), ?_⟩
   repeat' (walk_at "rd1")
   . rename_i hb x hx
     rw [em hx]
     exact ⟨_, _, _, _, rfl, by omega, by omega, by omega, ho⟩
   . rename_i hb x hx v H2 s2 hi
     rw [em hx] at hi
     exact q v H2 s2 (by rw [if_pos hb]; exact ⟨hi, ho, by omega, by omega, by omega, by omega, by omega⟩)
   . rename_i hb x hx
     rw [em hx]
     exact ⟨_, _, _, _, _, rfl, by omega, by omega, by omega, by omega, ho⟩
   . rename_i hb x hx v H2 s2 hi
     rw [em hx] at hi
     exact q v H2 s2 (by rw [if_neg hb]; exact ⟨hi, ho, by omega, by omega, by omega, by omega, by omega, by omega⟩)
theorem S6 (T : Txt K mg a) : dE P w K mg base 8 a.en ["_law_bell_here", "_law_shift"] [] (JZ a) :=
 ⟨⟨_, _, Xv T, T.vI.binds fun _ _ _ _ _ _ => .all fun us hl => match us, hl with | [_, _], _ => rfl, .nil⟩⟩
def Kk : Sp := fun vs H Q _ => ∃ bv b n, vs = [bv, .int n] /\ Dv H bv (Hm b) /\ lQ b /\ 1 <= n /\ n < 1000 /\ Q (.int (nj b n)) H
theorem Zv {H : Hp} {Q : VK} {E : XK} {bv : V} {b : uQ} {n : Int} (h1 : Dv H bv (Hm b)) (h2 : lQ b) (h3 : 1 <= n) (h4 : n < 1000) (q : Q (.int (nj b n)) H) : Kk [bv, .int n] H Q E := ⟨bv, b, n, rfl, h1, h2, h3, h4, q⟩
theorem X0 (T : Txt K mg a) : aL P w K mg base eU 1 a.e9 a.Fv ["_law_bell_here", "_law_number"] Kk := by
 refine T.Ba.ok lY (fun vs H Q E h => ?_) (fun c3 A outer s H vs Q E hr h => ?_)
 . obtain ⟨_, _, _, rfl, _⟩ := h; rfl
 . obtain ⟨bv, b, n, rfl, h1, ok, h3, h4, q⟩ := h
   unfold Hm at h1
   have g0 := ok.g0; have g1 := ok.g1; have o1 := ok.o1
   unfold nj at q
   refine ⟨_, (af (aN (i := 2) lY.nd rfl (Or.inl rfl) (bV eV (pv 0) ak (fun _ _ => rfl)))
    (af (bW (aJ (hV hr.Le) (bV eV (pv 0) ak (fun _ _ => rfl)) ak (aI _))
     (ag (aB (pv 2)))
     aM)
    (af (oQ PassesOwn.never rfl (JG rfl T.pR (ae (aC AK (pv 1) ak) ai)) (aX (i := 3) lY.nd rfl (Or.inl rfl))
     (ag (aN (i := 2) lY.nd rfl (Or.inl rfl) (bB (DX rfl) rfl T.rn PyProof.Rows.boot_min (ae (bV eV (pv 0) ak (fun _ _ => rfl)) (ae (aC bU (pv 2) (pv 2)) ai))))))
    (ag (aB (pv 2)))))), ?_⟩
   repeat' (walk_at "rd1")
   . rename_i hb
     rw [if_pos hb] at q
     exact q
   . rename_i hb
     rw [if_neg hb] at q
     refine EX (fun j σ' H' => ∃ z, H' = H /\ σ' = [some bv, some (.int n), some (.int (gS b.gp b.mo (j + 1))), z]) ⟨none, rfl, by rw [show ((0 : Nat) : Int) + 1 = 1 from rfl, abC g1]; rfl⟩ ?_ ?_
     . rintro j σ' H' hj ⟨z, rfl, rfl⟩
       repeat' (walk_at "rd1")
       rename_i z2 e1 e2 e3
       have e4 := Wy (gp := b.gp) (mo := b.mo) (n := (j : Int) + 1) (by omega) (by omega)
       have e5 : z2 = gS b.gp b.mo (((j + 1 : Nat) : Int) + 1) := by
        rw [show (((j + 1 : Nat) : Int) + 1) = (j : Int) + 1 + 1 by omega, e4]
        omega
       rw [e5]
       exact ⟨_, rfl, rfl⟩
     . rintro σ' H' ⟨z, rfl, rfl⟩
       rw [show (((n - 1).toNat : Int) + 1) = n by omega]
       repeat' (walk_at "rd1")
       exact q
theorem Sr (T : Txt K mg a) : dE P w K mg base 1 a.e9 ["_law_bell_here", "_law_number"] [] Kk :=
 ⟨⟨_, _, X0 T, T.Ba.binds fun _ _ _ _ _ _ => .all fun us hl => match us, hl with | [_, _], _ => rfl, .nil⟩⟩
def Kb (a : Ad) : Sp := fun vs H Q _ => ∃ L k x f l bv b sh, vs = [.ref L.p, bv, .int sh] /\ bZ a H L k /\ Dv H bv (Hm b) /\ lQ b /\ 0 <= sh /\ sh < 10 ^ 39 /\ k.f b.nm = some x /\ x.st = some (f, l) /\ ∀ v' H', ay H H' -> Dv H' v' (.tuple [.int x.no, .int (f - sh * b.dy), .int (l - sh * b.dy)]) -> Q v' H'
theorem aaJ {H : Hp} {Q : VK} {E : XK} {L : Lay} {k : KS} {x : gE} {f l : Int} {bv : V} {b : uQ} {sh : Int} (hk : bZ a H L k) (h1 : Dv H bv (Hm b)) (h2 : lQ b) (h3 : 0 <= sh) (h4 : sh < 10 ^ 39) (hx : k.f b.nm = some x) (hs : x.st = some (f, l)) (q : ∀ v' H', ay H H' -> Dv H' v' (.tuple [.int x.no, .int (f - sh * b.dy), .int (l - sh * b.dy)]) -> Q v' H') : Kb a [.ref L.p, bv, .int sh] H Q E := ⟨L, k, x, f, l, bv, b, sh, rfl, hk, h1, h2, h3, h4, hx, hs, q⟩
theorem XF (T : Txt K mg a) : aL P w K mg base eU 3 a.eh a.B3 ["_law_keeper", "_law_bell_here", "_law_shift"] (Kb a) := by
 have GV := QC (P := P) (w := w) (base := base) T
 refine T.vF.ok j7 (fun vs H Q E h => ?_) (fun c3 A outer s H vs Q E hr h => ?_)
 . obtain ⟨_, _, _, _, _, _, _, _, rfl, _⟩ := h; rfl
 . obtain ⟨L, k, x, f, l, bv, b, sh, rfl, hk, h1, ok, h3, h4, hx, hs, q⟩ := h
   have hi := hk.ins
   unfold aP at hi
   unfold Hm at h1
   have hd : 0 <= b.dy /\ b.dy <= 1 := by rcases ok.d with e | e <;> rw [e] <;> decide
   obtain ⟨hd0, hd1⟩ := hd
   refine ⟨_, (af (Od (aF (pv 0) T.aD T.yf GV (hr.mono (by decide)) (ae (bV eV (pv 1) ak (fun _ _ => rfl)) ai)) (Hr (n := 3) rfl (du (aX (i := 3) j7.nd rfl (Or.inl rfl)) (du (aX (i := 4) j7.nd rfl (Or.inl rfl)) (du (aX (i := 5) j7.nd rfl (Or.inl rfl)) yE)))))
    (ag (aB (c5 (ae (pv 3) (ae (aC AK (pv 4) (aC DH (pv 2) (bV eV (pv 1) ak (fun _ _ => rfl)))) (ae (aC AK (pv 5) (aC DH (pv 2) (bV eV (pv 1) ak (fun _ _ => rfl)))) ai))))))), ?_⟩
   repeat' (walk_at "rd1")
   refine TY ?_
   repeat' (walk_at "rd1")
   refine Xs hk hx hs (fun v1 H1 s1 hv1 => ?_)
   refine Si hv1 (fun w1 w2 w3 f1 f2 f3 => ?_)
   obtain rfl := f1.int_inv
   obtain rfl := f2.int_inv
   obtain rfl := f3.int_inv
   have h11 := h1.keeps s1
   repeat' (walk_at "rd1")
   exact q _ _ (by walk_at "same") (by walk_at "dat")
theorem Uj (T : Txt K mg a) : dE P w K mg base 3 a.eh ["_law_keeper", "_law_bell_here", "_law_shift"] [] (Kb a) :=
 ⟨⟨_, _, XF T, T.vF.binds fun _ _ _ _ _ _ => .all fun us hl => match us, hl with | [_, _, _], _ => rfl, .nil⟩⟩
abbrev WT := Str -> Option (Int × Int × Int)
def wD (p : Int × Int × Int) : PyData := .tuple [.int p.1, .int p.2.1, .int p.2.2]
def Wm (m : List (Str × PyData)) (wt : WT) : Prop := (m.map (·.1)).Nodup /\ ∀ n, ig m n = (wt n).map wD
def BF (b : uQ) (sh : Int) (p : Int × Int × Int) : gE := ⟨De b sh, 1, none, decide (b.dy = 1), p.1, some (p.2.1 + sh * b.dy, p.2.2 + sh * b.dy), some p.2.1, some p.2.2⟩
def J5 (b : uQ) (u : Int) (p : Int × Int × Int) : Option (Int × Int × Int) := if b.m = .int (p.1 + 1) then none else some (p.1 + 1, u + nj b (p.1 + 1), u + nj b (p.1 + 1) + b.wd)
def Pu (b : uQ) (n : Str) (p : Int × Int × Int) : List PyData := if b.m = .int (p.1 + 1) then [Fw n] else []
def eM (bf : Str -> uQ) (u : Int) (s : WT × List PyData) (n : Str) : WT × List PyData := match s.1 n with
 | none => s
 | some p => if p.2.1 <= u then (cm s.1 n (J5 (bf n) u p), s.2 ++ (om n p.1 u p.2.1 p.2.2 :: Pu (bf n) n p)) else s
section
variable {bf : Str -> uQ} {u sh : Int} {s : WT × List PyData} {n : Str} {p : Int × Int × Int}
theorem EV (h : s.1 n = some p) (h2 : p.2.1 <= u) : eM bf u s n = (cm s.1 n (J5 (bf n) u p), s.2 ++ (om n p.1 u p.2.1 p.2.2 :: Pu (bf n) n p)) := by
 unfold eM
 rw [h]
 simp only [if_pos h2]
theorem Ke (h : s.1 n = some p) (h2 : ¬ p.2.1 <= u) : eM bf u s n = s := by
 unfold eM
 rw [h]
 simp only [if_neg h2]
theorem JA (h : s.1 n = none) : eM bf u s n = s := by
 unfold eM
 rw [h]
theorem Oy {m : Str} (h : m ≠ n) : (eM bf u s n).1 m = s.1 m := by
 cases e : s.1 n with
 | none => rw [JA e]
 | some p =>
   by_cases h2 : p.2.1 <= u
   . rw [EV e h2]; exact aZ h
   . rw [Ke e h2]
theorem Gp : ∀ (ns : List Str) (s : WT × List PyData) {m : Str}, m ∉ ns -> (ns.foldl (eM bf u) s).1 m = s.1 m
 | [], _, _, _ => rfl
 | n :: r, s, m, h => by
   rw [List.mem_cons, not_or] at h
   rw [List.foldl_cons, Gp r _ h.2, Oy h.1]
def rgW (wt : WT) (u : Int) (n : Str) : Bool := (wt n).any fun p => decide (p.2.1 <= u)
theorem uS {wt : WT} : ∀ (ss : List Str), ss.Nodup -> ∀ s : WT × List PyData, (∀ n ∈ ss, s.1 n = wt n) -> ss.foldl (eM bf u) s = (ss.filter (rgW wt u)).foldl (eM bf u) s
 | [], _, _, _ => rfl
 | n :: r, qS, s, h => by
   rw [List.nodup_cons] at qS
   have hn := h n List.mem_cons_self
   by_cases hb : rgW wt u n = true
   . rw [List.filter_cons_of_pos hb, List.foldl_cons, List.foldl_cons]
     refine uS r qS.2 _ fun m hm => ?_
     rw [Oy (show m ≠ n from fun e => qS.1 (e ▸ hm))]
     exact h m (List.mem_cons_of_mem _ hm)
   . rw [List.filter_cons_of_neg hb, List.foldl_cons]
     have e : eM bf u s n = s := by
      cases e : s.1 n with
      | none => exact JA e
      | some p =>
        refine Ke e fun z => hb ?_
        unfold rgW
        rw [<- hn, e]
        exact decide_eq_true z
     rw [e]
     exact uS r qS.2 _ fun m hm => h m (List.mem_cons_of_mem _ hm)
theorem G6 {b : uQ} (ok : lQ b) : lead (BF b sh p) sh = sh * b.dy := by
 rw [S8 ok]
 unfold lead BF
 by_cases e : b.dy = 1 <;> simp [e]
theorem Yc {k : KS} {es : List PyData} (ok : lQ (bf n)) (hk : k.f n = some (BF (bf n) sh p)) (hn : k.now = u) (hs : k.sh = sh) (hm : ∀ i, (bf n).m = .int i -> p.1 < i) : gC (k, es) n = ({ k with f := cm k.f n ((J5 (bf n) u p).map (BF (bf n) sh)), t := cm k.t n ((J5 (bf n) u p).map (·.2.2)) }, es ++ (om n p.1 u p.2.1 p.2.2 :: Pu (bf n) n p)) := by
 subst hn hs
 generalize hb : bf n = b at *
 obtain ⟨q1, q2, q3, _⟩ := Kp b k.sh (p.1 + 1)
 have hl := G6 (b := b) (sh := k.sh) (p := p) ok
 have hsw : aV k (BF b k.sh p) = k.now + k.sh * b.dy := by
  unfold aV; rw [hl]
 obtain ⟨g1, _⟩ := UU ok (p.1 + 1)
 rw [Jk (s := (k, es)) hk rfl rfl]
 show (yI k n (BF b k.sh p) (aV k (BF b k.sh p)), es ++ (om n p.1 k.now p.2.1 p.2.2 :: Es n (BF b k.sh p) (aV k (BF b k.sh p)))) = _
 rw [hsw]
 have hf : Lf (BF b k.sh p).ru (BF b k.sh p).no (k.now + k.sh * b.dy) = (IM b.m (p.1 + 1) (k.now + k.sh * b.dy + nj b (p.1 + 1), k.now + k.sh * b.dy + nj b (p.1 + 1) + b.wd)).2 := by
  show Lf (De b k.sh) p.1 _ = _
  unfold Lf
  rw [q1, q2, q3]
 by_cases ho : b.m = .int (p.1 + 1)
 . have hf2 : Lf (BF b k.sh p).ru (BF b k.sh p).no (k.now + k.sh * b.dy) = none := by rw [hf, ho]; simp [IM]
   have e1 : J5 b k.now p = none := by unfold J5; rw [if_pos ho]
   have e2 : Pu b n p = [Fw n] := by unfold Pu; rw [if_pos ho]
   unfold yI Es
   rw [hf2, e1, e2]
   rfl
 . have hf2 : Lf (BF b k.sh p).ru (BF b k.sh p).no (k.now + k.sh * b.dy) = some (k.now + k.sh * b.dy + nj b (p.1 + 1), k.now + k.sh * b.dy + nj b (p.1 + 1) + b.wd) := by
    rw [hf]
    rcases ok.m with e | ⟨i, e, _⟩
    . rw [e]; rfl
    . have := hm i e
      have hi : ¬ i <= p.1 + 1 := fun z => ho (by rw [e]; congr 1; omega)
      rw [e]; simp [IM, hi]
   have e1 : J5 b k.now p = some (p.1 + 1, k.now + nj b (p.1 + 1), k.now + nj b (p.1 + 1) + b.wd) := by unfold J5; rw [if_neg ho]
   have e2 : Pu b n p = [] := by unfold Pu; rw [if_neg ho]
   have YL : lead (rest (Ei (BF b k.sh p) (k.now + k.sh * b.dy))) k.sh = k.sh * b.dy := hl
   have hl3 : lead (Ei (BF b k.sh p) (k.now + k.sh * b.dy)) k.sh = k.sh * b.dy := hl
   have DI : (Ei (BF b k.sh p) (k.now + k.sh * b.dy)).st = some (k.now + k.sh * b.dy + nj b (p.1 + 1), k.now + k.sh * b.dy + nj b (p.1 + 1) + b.wd) := hf2
   unfold yI Es
   rw [hf2, e1, e2]
   simp only [wz, DI, Option.getD_some, Option.map_some, hl3]
   have w : wait (rest (Ei (BF b k.sh p) (k.now + k.sh * b.dy))) k.now k.sh (k.now + k.sh * b.dy + nj b (p.1 + 1)) (k.now + k.sh * b.dy + nj b (p.1 + 1) + b.wd) = BF b k.sh (p.1 + 1, k.now + nj b (p.1 + 1), k.now + nj b (p.1 + 1) + b.wd) := by
    unfold wait
    rw [YL]
    unfold BF
    have a1 : max (k.now + k.sh * b.dy + nj b (p.1 + 1) - k.sh * b.dy) (k.now + 1) = k.now + nj b (p.1 + 1) := by omega
    have a2 : k.now + k.sh * b.dy + nj b (p.1 + 1) + b.wd - k.sh * b.dy = k.now + nj b (p.1 + 1) + b.wd := by omega
    have a3 : Lf (De b k.sh) p.1 (k.now + k.sh * b.dy) = some (k.now + nj b (p.1 + 1) + k.sh * b.dy, k.now + nj b (p.1 + 1) + b.wd + k.sh * b.dy) := by
     have : Lf (De b k.sh) p.1 (k.now + k.sh * b.dy) = some (k.now + k.sh * b.dy + nj b (p.1 + 1), k.now + k.sh * b.dy + nj b (p.1 + 1) + b.wd) := hf2
     rw [this]
     congr 2 <;> omega
    rw [a1, a2]
    show (gE.mk (De b k.sh) 1 none (decide (b.dy = 1)) (p.1 + 1) (Lf (De b k.sh) p.1 (k.now + k.sh * b.dy)) _ _) = _
    rw [a3]
   rw [w]
   have a2 : k.now + k.sh * b.dy + nj b (p.1 + 1) + b.wd - k.sh * b.dy = k.now + nj b (p.1 + 1) + b.wd := by omega
   rw [a2]
theorem Wn {A B C D E F G : Prop} (h : A /\ B /\ C /\ D /\ E /\ F) (f : F -> G) : A /\ B /\ C /\ D /\ E /\ G := ⟨h.1, h.2.1, h.2.2.1, h.2.2.2.1, h.2.2.2.2.1, f h.2.2.2.2.2⟩
theorem PH : ∀ (ns : List Str), ns.Nodup -> ∀ (k : KS) (wt : WT) (es : List PyData), (∀ n, k.f n = (wt n).map (BF (bf n) sh)) -> k.now = u -> k.sh = sh -> (∀ n ∈ ns, lQ (bf n) /\ ∃ p, wt n = some p /\ p.2.1 <= u /\ ∀ i, (bf n).m = .int i -> p.1 < i) -> (∀ n, n ∉ ns -> k.t n = (wt n).map (·.2.2)) -> (ns.foldl gC (k, es)).2 = (ns.foldl (eM bf u) (wt, es)).2 /\ (∀ n, (ns.foldl gC (k, es)).1.f n = ((ns.foldl (eM bf u) (wt, es)).1 n).map (BF (bf n) sh)) /\ (∀ n, (ns.foldl gC (k, es)).1.t n = ((ns.foldl (eM bf u) (wt, es)).1 n).map (·.2.2)) /\ (ns.foldl gC (k, es)).1.now = u /\ (ns.foldl gC (k, es)).1.sh = sh /\ ∀ n ∈ ns, (ns.foldl (eM bf u) (wt, es)).1 n = (wt n).bind (J5 (bf n) u)
 | [], _, k, wt, es, hf, hn, hs, _, ht => ⟨rfl, hf, fun n => ht n (by simp), hn, hs, fun n h => (by cases h)⟩
 | n :: r, qS, k, wt, es, hf, hn, hs, Uc, ht => by
   rw [List.nodup_cons] at qS
   obtain ⟨ok, p, hp, hpu, hpm⟩ := Uc n List.mem_cons_self
   have hkn : k.f n = some (BF (bf n) sh p) := by rw [hf, hp]; rfl
   have e1 := Yc (es := es) ok hkn hn hs hpm
   have e2 : eM bf u (wt, es) n = (cm wt n (J5 (bf n) u p), es ++ (om n p.1 u p.2.1 p.2.2 :: Pu (bf n) n p)) := EV hp hpu
   rw [List.foldl_cons, List.foldl_cons, e1, e2]
   refine Wn (h := PH r qS.2 { k with f := cm k.f n ((J5 (bf n) u p).map (BF (bf n) sh)), t := cm k.t n ((J5 (bf n) u p).map (·.2.2)) } (cm wt n (J5 (bf n) u p)) (es ++ (om n p.1 u p.2.1 p.2.2 :: Pu (bf n) n p)) (fun m => ?_) hn hs (fun m hm => ?_) (fun m hm => ?_)) (fun i6 m hm => ?_)
   . by_cases e : m = n
     . subst e
       show cm k.f m _ m = (cm wt m _ m).map _
       rw [aE, aE]
     . show cm k.f n _ m = (cm wt n _ m).map _
       rw [aZ e, aZ e, hf]
   . have e : m ≠ n := fun e => qS.1 (e ▸ hm)
     obtain ⟨o, q, hq, h1, h2⟩ := Uc m (List.mem_cons_of_mem _ hm)
     exact ⟨o, q, by rw [aZ e]; exact hq, h1, h2⟩
   . by_cases e : m = n
     . subst e
       show cm k.t m _ m = (cm wt m _ m).map _
       rw [aE, aE]
     . show cm k.t n _ m = (cm wt n _ m).map _
       rw [aZ e, aZ e]
       exact ht m (by rw [List.mem_cons, not_or]; exact ⟨e, hm⟩)
   . rcases List.mem_cons.mp hm with rfl | hm
     . rw [Gp r _ qS.1, hp]
       show cm wt m (J5 (bf m) u p) m = _
       rw [aE]; rfl
     . rw [i6 m hm, aZ (show m ≠ n from fun e => qS.1 (e ▸ hm))]
end
theorem Wm.put {m : List (Str × PyData)} {wt : WT} {n : Str} {q : Int × Int × Int} (h : Wm m wt) : Wm (putD m n (wD q)) (cm wt n (some q)) := by
 refine ⟨(Ih h.1).1, fun y => ?_⟩
 rw [OH]
 by_cases e : y = n
 . rw [if_pos e, e, aE]; rfl
 . rw [if_neg e, aZ e]; exact h.2 y
theorem Wm.pop {m : List (Str × PyData)} {wt : WT} {n : Str} (h : Wm m wt) : Wm (mZ m n) (cm wt n none) := by
 refine ⟨(IU h.1).1, fun y => ?_⟩
 rw [S2]
 by_cases e : y = n
 . rw [if_pos e, e, aE]; rfl
 . rw [if_neg e, aZ e]; exact h.2 y
theorem OW {m : List (Str × PyData)} {x : Str} {d : PyData} (h : (ig m x).isSome = true) : (putD m x d).length = m.length := by
 unfold putD
 rw [if_pos]
 . rw [List.length_map]
 . rw [<- Kq] at h
   obtain ⟨y, hy, e⟩ := List.mem_map.mp h
   exact List.any_eq_true.mpr ⟨y, hy, decide_eq_true e⟩
local macro_rules | `(tactic| walk_at "drd") => `(tactic| first | (refine' gA.rd ?m; (case m => walk_at "dla")) | fail)
local macro_rules | `(tactic| walk_at "drd") => `(tactic| first | (refine' RG.keeps ?s ?m; (case s => assumption); (case m => walk_at "drd")) | fail)
set_option hygiene false in
local macro_rules | `(tactic| walk_at "drd") => `(tactic| first | assumption | fail)
local macro_rules | `(tactic| walk_at "rd1") => `(tactic| first | ((with_reducible refine' Xn ?e1 ?e2 ?_); (case e1 => walk_at "drd"); (case e2 => assumption)) | fail)
def NS (bs : List uQ) : List (Str × PyData) := bs.map fun b => (b.nm, Hm b)
theorem Tf {bs : List uQ} (h : (bs.map (·.nm)).Nodup) {b : uQ} (hb : b ∈ bs) : ig (NS bs) b.nm = some (Hm b) := by
 unfold ig NS
 rw [List.find?_map]
 induction bs with
 | nil => cases hb
 | cons y r ih =>
   rw [List.map_cons, List.nodup_cons] at h
   rw [List.find?_cons]
   by_cases e : y.nm = b.nm
   . simp only [Function.comp, e, decide_true]
     rcases List.mem_cons.mp hb with rfl | RN
     . rfl
     . exact absurd (List.mem_map_of_mem (f := (·.nm)) RN) (e ▸ h.1)
   . simp only [Function.comp, e, decide_false]
     rcases List.mem_cons.mp hb with rfl | RN
     . exact absurd rfl e
     . exact ih h.2 RN
structure O4 (wt : WT) (u : Int) (n : Str) : Prop where
 at' : ∃ p, wt n = some p /\ p.2.2 = u
 le : ∀ m p, wt m = some p -> u <= p.2.2
 nm : ∀ m p, wt m = some p -> p.2.2 = u -> Bn m n = false
def WOk (bs : List uQ) (bf : Str -> uQ) (wt : WT) : Prop := ∀ n p, wt n = some p -> bf n ∈ bs /\ (bf n).nm = n /\ lQ (bf n) /\ 0 <= p.1 /\ p.1 < 100
def Kh (K : PySem.W.Frag) : Sp := fun vs H Q _ => ∃ pb pw bs bf m wt, vs = [.ref pb, .ref pw] /\ gA H pb (NS bs) /\ (bs.map (·.nm)).Nodup /\ gA H pw m /\ Wm m wt /\ WOk bs bf wt /\ (∃ n p, wt n = some p) /\ m.length <= 10 /\ pb ≠ pw /\ ∀ v H' u n ss m', Mv [pw] H H' -> O4 wt u n -> ss.Perm (m.map (·.1)) -> RH ss -> Dv H' v (.tuple [.int u, .list (ss.foldl (eM bf u) (wt, [b7 u n])).2]) -> gA H' pw m' -> Wm m' (ss.foldl (eM bf u) (wt, [b7 u n])).1 -> m'.length <= 10 -> Q v H'
theorem Zo {H : Hp} {Q : VK} {E : XK} {pb pw : Addr} {bs : List uQ} {bf : Str -> uQ} {m : List (Str × PyData)} {wt : WT} (h1 : gA H pb (NS bs)) (h2 : (bs.map (·.nm)).Nodup) (h3 : gA H pw m) (h4 : Wm m wt) (h5 : WOk bs bf wt) (h6 : ∃ n p, wt n = some p) (h7 : m.length <= 10) (h8 : pb ≠ pw) (q : ∀ v H' u n ss m', Mv [pw] H H' -> O4 wt u n -> ss.Perm (m.map (·.1)) -> RH ss -> Dv H' v (.tuple [.int u, .list (ss.foldl (eM bf u) (wt, [b7 u n])).2]) -> gA H' pw m' -> Wm m' (ss.foldl (eM bf u) (wt, [b7 u n])).1 -> m'.length <= 10 -> Q v H') : Kh K [.ref pb, .ref pw] H Q E := ⟨pb, pw, bs, bf, m, wt, rfl, h1, h2, h3, h4, h5, h6, h7, h8, q⟩
def MO (m : List (Str × PyData)) (n : Str) : Int := match ig m n with
 | some (.tuple [_, _, .int l]) => l
 | _ => 0
theorem Wm.lst {m : List (Str × PyData)} {wt : WT} {n : Str} {p : Int × Int × Int} (h : Wm m wt) (e : wt n = some p) : ig m n = some (wD p) /\ MO m n = p.2.2 := by
 have h1 : ig m n = some (wD p) := by rw [h.2, e]; rfl
 refine ⟨h1, ?_⟩
 unfold MO
 rw [h1]
 rfl
theorem Wm.mem {m : List (Str × PyData)} {wt : WT} {n : Str} (h : Wm m wt) : n ∈ m.map (·.1) ↔ ∃ p, wt n = some p := by
 rw [Kq, h.2, Option.isSome_map, Option.isSome_iff_exists]
theorem Wm.get {m : List (Str × PyData)} {wt : WT} {n : Str} (h : Wm m wt) (hn : n ∈ m.map (·.1)) : ∃ p, wt n = some p /\ ig m n = some (.tuple [.int p.1, .int p.2.1, .int p.2.2]) /\ MO m n = p.2.2 := by
 obtain ⟨p, hp⟩ := h.mem.mp hn
 exact ⟨p, hp, (h.lst hp).1, (h.lst hp).2⟩
theorem Xi (T : Txt K mg a) : aL P w K mg base eU 2 a.eY a.E9 ["_law_bells", "_law_wait"] (Kh K) := by
 have NW := Sr (P := P) (w := w) (base := base) T
 refine T.A3.ok ef (fun vs H Q E h => ?_) (fun c3 A outer s H vs Q E hr h => ?_)
 . obtain ⟨_, _, _, _, _, _, rfl, _⟩ := h; rfl
 . obtain ⟨pb, pw, bs, bf, m, wt, rfl, hb, hnb, hw, wm, wok, ⟨n1, p1, Pa⟩, hl, KG, q⟩ := h
   have hm0 : 0 < (m.map (·.1)).length := List.length_pos_of_mem (wm.mem.mpr ⟨p1, Pa⟩)
   refine ⟨_, (af (aN (i := 2) ef.nd rfl (Or.inr rfl) (bB (Rz rfl) rfl T.rn PyProof.Rows.boot_min (ae (JS (Hj (T := ["_law_name_here"]) (M := ["_law_bells", "_law_wait", "_law_time", "_law_found", "04", "_law_number", "_law_first", "_law_last"]) (Y0 (aj lj) ["_law_bells", "_law_wait", "_law_time", "_law_found", "_law_name_here", "_law_number", "_law_first", "_law_last"] rfl rfl (by decide +kernel)) rfl (JX (pv 1)) (fun _ _ _ _ _ => (aX (i := 0) (show List.Nodup (["_law_name_here", "_law_bells", "_law_wait", "_law_time", "_law_found", "04", "_law_number", "_law_first", "_law_last"] : List Str) by decide +kernel) rfl (Or.inl rfl))) (j9 (by decide)) (fun _ _ _ _ _ => Gy) (fun _ _ _ _ _ => (bV (Yt (K := K) rfl) (gK (fj hr) (pv 2) (pv 0) (fun _ _ => rfl)) ak (fun _ _ => rfl))))) ai)))
    (af (aN (i := 3) ef.nd rfl (Or.inl rfl) (fY (ae (c5 (ae gY (ae (pv 2) (ae (bB (Qp rfl) rfl T.rn PyProof.Rows.boot_min (ae (JS (Hj (T := ["_law_name_here"]) (M := ["_law_bells", "_law_wait", "_law_time", "_law_found", "04", "_law_number", "_law_first", "_law_last"]) (Y0 (aj lj) ["_law_bells", "_law_wait", "_law_time", "_law_found", "_law_name_here", "_law_number", "_law_first", "_law_last"] rfl rfl (by decide +kernel)) rfl (JX (pv 1)) (fun _ _ _ _ _ => (aX (i := 0) (show List.Nodup (["_law_name_here", "_law_bells", "_law_wait", "_law_time", "_law_found", "04", "_law_number", "_law_first", "_law_last"] : List Str) by decide +kernel) rfl (Or.inl rfl))) (j9 (by decide)) (fun _ _ _ _ _ => (Gs (aJ (ZO (K := K) rfl hr.Le) (bV (Yt (K := K) rfl) (gK (fj hr) (pv 2) (pv 0) (fun _ _ => rfl)) ak (fun _ _ => rfl)) (pv 3) (aI _)))) (fun _ _ _ _ _ => (pv 0)))) ai)) ai)))) ai)))
    (af (oQ PassesOwn.never rfl (iO (bB HP rfl T.fz PyProof.Rows.boot_sorted (ae (Ji (GO rfl) rfl T.yD PyProof.Rows.boot_list (ae (pv 1) ai)) ai))) (aX (i := 4) ef.nd rfl (Or.inl rfl))
     (af (Od (gK (fj hr) (pv 1) (pv 4) (fun _ _ => rfl)) (Hr (n := 3) rfl (du (aX (i := 5) ef.nd rfl (Or.inl rfl)) (du (aX (i := 6) ef.nd rfl (Or.inl rfl)) (du (aX (i := 7) ef.nd rfl (Or.inl rfl)) yE)))))
     (ag (bW (aJ L1 (pv 6) (pv 2) (aI _))
      (af (aT (B8 PySem.F.plainAttrs_list PySem.F.slot_list_append PySem.F.type_list_append Je (pv 3) (ae (c5 (ae gY (ae (pv 4) (ae (pv 5) (ae (pv 2) (ae (pv 6) (ae (pv 7) ai))))))) ai)))
      (af (aN (i := 6) ef.nd rfl (Or.inl rfl) (aC bU (pv 2) (c6 NW (hr.mono (by decide)) rfl T.Fq T.FK (ae (gK (fj hr) (pv 0) (pv 4) (fun _ _ => rfl)) (ae (aC bU (pv 5) ak) ai)))))
      (af (Cq (fj hr) (pv 1) (pv 4) (c5 (ae (aC bU (pv 5) ak) (ae (pv 6) (ae (aC bU (pv 6) (bV eV (gK (fj hr) (pv 0) (pv 4) (fun _ _ => rfl)) ak (fun _ _ => rfl))) ai)))) rfl)
      (ag (bW (aJ (hV hr.Le) (aC bU (pv 5) ak) (bV eV (gK (fj hr) (pv 0) (pv 4) (fun _ _ => rfl)) ak (fun _ _ => rfl)) (aI _))
       (af (aT (B8 PySem.F.plainAttrs_list PySem.F.slot_list_append PySem.F.type_list_append Je (pv 3) (ae (c5 (ae gY (ae (pv 4) ai))) ai)))
       (ag (aT (B8 PySem.F.plainAttrs_dict PySem.F.slot_dict_pop PySem.F.type_dict_pop Gr (pv 1) (ae (pv 4) ai)))))
       aM)))))
      aM))))
    (ag (aB (c5 (ae (pv 2) (ae (pv 3) ai)))))))), ?_⟩
   repeat' (walk_at "rd1")
   refine Yr hw (fun R hR => ?_) (fun _ => true) (fun n => .int (MO m n)) (by omega) (fun _ => rfl) (fun c Hf H' N hc mvf hrd sm yes no => ?_) (fun q1 H1 s1 Ii Ij => ?_)
   . repeat' (walk_at "rd1")
     exact hR
   . obtain ⟨p, hp, L0, hls⟩ := wm.get hc
     repeat' (walk_at "rd1")
     refine CM (fun _ => ?_) (fun hb => by cases hb)
     repeat' (walk_at "rd1")
     exact yes rfl _ _ (by walk_at "same") (by rw [hls]; walk_at "dat")
   rw [Gq] at Ij
   have PX : Dv H1 (.ref q1) (.list (((m.map (·.1)).map (MO m)).map PyData.int)) := by rw [List.map_map]; exact Ij.dv
   repeat' (walk_at "rd1")
   refine Zt PX (by rw [List.length_map]; exact hm0) (fun u hu hle => ?_)
   obtain ⟨nu, hnu, rfl⟩ := List.mem_map.mp hu
   obtain ⟨pu, hpu, _, hlu⟩ := wm.get hnu
   have aaT := hw.keeps s1
   generalize eu : MO m nu = u at *
   repeat' (walk_at "rd1")
   refine Yr aaT (fun R hR => ?_) (fun n => decide (MO m n = u)) PyData.str (by omega) (fun _ => rfl) (fun c Hf H' N hc mvf hrd sm yes no => ?_) (fun q2 H2 s2 Io G8 => ?_)
   . repeat' (walk_at "rd1")
     exact hR
   . obtain ⟨p, hp, L0, hls⟩ := wm.get hc
     rw [hls] at yes no
     repeat' (walk_at "rd1")
     refine CM (fun hb => ?_) (fun hb => no (by simpa using hb) _ (by walk_at "same"))
     repeat' (walk_at "rd1")
     exact yes (by simpa using hb) _ _ (by walk_at "same") (.str _)
   repeat' (walk_at "rd1")
   refine aau G8.dv (List.length_pos_of_mem (List.mem_filter.mpr ⟨hnu, decide_eq_true eu⟩)) (fun n0 MJ ad8 => ?_)
   obtain ⟨acC, aaL⟩ := List.mem_filter.mp MJ
   obtain ⟨p0, Vs, _, hl0⟩ := wm.get acC
   have aaL := of_decide_eq_true aaL
   have least : O4 wt u n0 := ⟨⟨p0, Vs, by rw [<- hl0]; exact aaL⟩, fun n p e => by
    rw [<- (wm.lst e).2]
    exact hle _ (List.mem_map_of_mem (wm.mem.mpr ⟨p, e⟩)), fun n p e e2 => ad8 n (List.mem_filter.mpr ⟨wm.mem.mpr ⟨p, e⟩, decide_eq_true (by rw [(wm.lst e).2]; exact e2)⟩)⟩
   have hw2 := aaT.keeps s2
   have hb2 := (hb.keeps s1).keeps s2
   have sA := s1.trans s2
   clear Ij PX G8 aaT hw hb hle ad8 MJ acC hu
   repeat' (walk_at "rd1")
   rename_i v3 H3 s3 hv3 pf H4 s4 hn4 hf4
   have hf4 : d5 H4 pf [b7 u n0] := hf4
   have s24 := s3.trans s4
   have hw4 := hw2.keeps s24
   have hb4 := hb2.keeps s24
   have hpf : pw ≠ pf := hw4.neL hf4
   have hbf : pb ≠ pf := hb4.neL hf4
   refine OA hw4.rd (fun q5 H5 s5 Vw hq5 => ?_)
   repeat' (walk_at "rd1")
   rename_i q6 H6 ss s6 hn6 hp6 hu6 hq6
   have s46 := s5.trans s6
   have hw6 := hw4.keeps s46
   have hb6 := hb4.keeps s46
   have hf6 := hf4.keeps s46
   have hqf : q6 ≠ pf := Ne.symm ((hf4.keeps s5).ne hn6)
   have hqw : q6 ≠ pw := Ne.symm ((hw4.keeps s5).ne hn6)
   have qS : ss.Nodup := hp6.nodup_iff.mpr wm.1
   have sB : ay H H6 := (sA.trans s24).trans s46
   have hnf : H pf = none := sA.none (s3.none hn4)
   refine Yu (Hb := H6) (cs := ss) (gd := PyData.str) hq6.dv (fun i σ' H' => ∃ z1 z2 z3 z4 m', σ' = [some (.ref pb), some (.ref pw), some (.int u), some (.ref pf), z1, z2, z3, z4] /\ Mv [pw, pf] H6 H' /\ gA H' pw m' /\ Wm m' ((ss.take i).foldl (eM bf u) (wt, [b7 u n0])).1 /\ m'.length <= 10 /\ d5 H' pf ((ss.take i).foldl (eM bf u) (wt, [b7 u n0])).2 /\ ((ss.take i).foldl (eM bf u) (wt, [b7 u n0])).2.length <= 1 + 2 * i) ⟨none, none, none, none, m, rfl, Mv.refl, hw6, wm, hl, hf6, by simp⟩ (fun i σ' H' _ ⟨_, _, _, _, _, _, mv, _⟩ a' xs e hx => by cases e; exact mv.sq (by simp [hqf, hqw]) hx) ?_ ?_
   . rintro j n x σ' H7 hj ⟨z1, z2, z3, z4, m7, rfl, R5, ZX, YV, hl7, hf7, af8⟩ hdx _
     obtain rfl := (hdx rfl R5.tp).str_inv
     have hjl : j < ss.length := (List.getElem?_eq_some_iff.mp hj).1
     have hss : ss.length <= 10 := by rw [hp6.length_eq, List.length_map]; exact hl
     have hnj : n ∉ ss.take j := by
      have := Gv (f := id) (l := ss) (j := j) (c := n) (by rw [List.map_id]; exact qS) hj
      rwa [List.map_id] at this
     obtain ⟨p, hp⟩ := wm.mem.mp (hp6.mem_iff.mp (List.mem_of_getElem? hj))
     have hr : ((ss.take j).foldl (eM bf u) (wt, [b7 u n0])).1 n = some p := by rw [Gp _ _ hnj]; exact hp
     have aeI : (ss.take (j + 1)).foldl (eM bf u) (wt, [b7 u n0]) = eM bf u ((ss.take j).foldl (eM bf u) (wt, [b7 u n0])) n := by rw [take_snoc hj, List.foldl_append]; rfl
     rw [aeI]
     generalize (ss.take j).foldl (eM bf u) (wt, [b7 u n0]) = r at *
     obtain ⟨hbm, hbn, ok, p0', p1'⟩ := wok n p hp
     have Rg : ig (NS bs) n = some (Hm (bf n)) := by have := Tf hnb hbm; rwa [hbn] at this
     have L0 : ig m7 n = some (.tuple [.int p.1, .int p.2.1, .int p.2.2]) := by rw [YV.2, hr]; rfl
     have hb7 : gA H7 pb (NS bs) := hb6.mv R5 (by simp [KG, hbf])
     repeat' (walk_at "rd1")
     refine TY ?_
     repeat' (walk_at "rd1")
     rename_i v8 X6
     refine Si X6 (fun w1 w2 w3 f1 f2 f3 => ?_)
     obtain rfl := f1.int_inv
     obtain rfl := f2.int_inv
     obtain rfl := f3.int_inv
     unfold Hm at Rg
     clear X6 hdx
     repeat' (walk_at "rd1")
     . rename_i hb v9 H9 s9 hv9 Tz Wl agE bv VV
       have DI := EV (bf := bf) hr hb
       refine Zv (b := bf n) VV ok (by omega) (by omega) ?_
       have akH : gA Tz pw m7 := (ZX.keeps s9).mv Wl (by simpa using hpf)
       have akl : gA Tz pb (NS bs) := (hb7.keeps s9).mv Wl (by simpa using hbf)
       have aeJ : Mv [pw, pf] H6 Tz := (R5.Mf s9).step Wl (fun b hb => .inl (by rw [List.mem_singleton.mp hb]; simp))
       have ai7 : r.2.length <= 21 := by omega
       clear hv9 VV Wl
       have hls : (ig m7 n).isSome = true := by rw [L0]; rfl
       have put : ∀ {RM MS : Hp}, ay Tz RM -> Mv [pw] RM MS -> Mv [pw, pf] H6 MS /\ d5 MS pf (r.2 ++ [om n p.1 u p.2.1 p.2.2]) := fun {RM MS} Vv Iy => ⟨(aeJ.Mf Vv).step Iy (fun b hb => .inl (by rw [List.mem_singleton.mp hb]; simp)), (agE.keeps Vv).mv Iy (by simpa using Ne.symm hpf)⟩
       have fin : ∀ {RM MS : Hp}, ay Tz RM -> Mv [pw] RM MS -> gA MS pw (putD m7 n (wD (p.1 + 1, u + nj (bf n) (p.1 + 1), u + nj (bf n) (p.1 + 1) + (bf n).wd))) -> ¬ (bf n).m = .int (p.1 + 1) -> ∃ m', Mv [pw, pf] H6 MS /\ gA MS pw m' /\ Wm m' (eM bf u r n).1 /\ m'.length <= 10 /\ d5 MS pf (eM bf u r n).2 /\ (eM bf u r n).2.length <= 1 + 2 * (j + 1) := fun {RM MS} Vv Iy Nf ML => by
        obtain ⟨g1, g2⟩ := put Vv Iy
        have e1 : J5 (bf n) u p = some (p.1 + 1, u + nj (bf n) (p.1 + 1), u + nj (bf n) (p.1 + 1) + (bf n).wd) := by unfold J5; rw [if_neg ML]
        have e2 : Pu (bf n) n p = [] := by unfold Pu; rw [if_neg ML]
        rw [DI, e1, e2]
        exact ⟨_, g1, Nf, YV.put, by rw [OW hls]; exact hl7, g2, by simp only [List.length_append, List.length_cons, List.length_nil]; omega⟩
       rcases ok.m with em | ⟨i, em, i1, i2⟩
       . rw [em] at Rg
         simp only [mD] at Rg
         repeat' (walk_at "rd1")
         rename_i v11 RM Vv aeD MS Iy Nf v13 ac5 Te
         obtain ⟨m', g⟩ := fin Vv Iy Nf (by rw [em]; intro z; cases z)
         exact ⟨_, _, _, _, m', rfl, g⟩
       . rw [em] at Rg
         simp only [mD] at Rg
         repeat' (walk_at "rd1")
         . rename_i v11 RM Vv aeD MS Iy Nf v13 ac5 Te v14 H14 s14 akn H15 acK afR
           have aed := (Nf.keeps s14).mv acK (by simpa using hpf)
           obtain ⟨g1, _⟩ := put Vv Iy
           have e1 : J5 (bf n) u p = none := by unfold J5; rw [if_pos (by rw [em, Te])]
           have e2 : Pu (bf n) n p = [Fw n] := by unfold Pu; rw [if_pos (by rw [em, Te])]
           refine SN aed ?_
           repeat' (walk_at "rd1")
           refine MV aed (by rw [OH, if_pos rfl]) (fun v16 H16 aet ahM => ?_)
           repeat' (walk_at "rd1")
           have aec := (YV.put (n := n) (q := (p.1 + 1, u + nj (bf n) (p.1 + 1), u + nj (bf n) (p.1 + 1) + (bf n).wd))).pop (n := n)
           rw [A7] at aec
           rw [DI, e1, e2]
           refine ⟨_, _, _, _, _, rfl, ((g1.Mf s14).step acK (fun b hb => .inl (by rw [List.mem_singleton.mp hb]; simp))).step aet (fun b hb => .inl (by rw [List.mem_singleton.mp hb]; simp)), ahM, aec, ?_, ?_, by simp only [List.length_append, List.length_cons, List.length_nil]; omega⟩
           . have h1 := (IU (m := putD m7 n (wD (p.1 + 1, u + nj (bf n) (p.1 + 1), u + nj (bf n) (p.1 + 1) + (bf n).wd))) (x := n) (Ih YV.1).1).2
             rw [OW hls] at h1
             exact Nat.le_trans h1 hl7
           . have h2 := afR.mv aet (by simpa using Ne.symm hpf)
             rw [List.append_assoc] at h2
             exact h2
         . rename_i v11 RM Vv aeD MS Iy Nf v13 ac5 Te
           obtain ⟨m', g⟩ := fin Vv Iy Nf (by rw [em]; intro z; injection z with z; exact Te z.symm)
           exact ⟨_, _, _, _, m', rfl, g⟩
     . rename_i hb
       rw [Ke hr hb]
       exact ⟨_, _, _, _, m7, rfl, R5, ZX, YV, hl7, hf7, by omega⟩
   . rintro σ' H7 ⟨z1, z2, z3, z4, m7, rfl, R5, ZX, YV, hl7, hf7, af8⟩
     rw [List.take_length] at YV hf7
     repeat' (walk_at "rd1")
     rename_i v8 H8 s8 X6
     refine q v8 H8 u n0 ss m7 ?_ least hp6 hu6 X6 (ZX.keeps s8) YV hl7
     refine (Mv.step (sB.mv (S := [pw])) R5 (fun b hb => ?_)).Mf s8
     rw [List.mem_cons, List.mem_singleton] at hb
     rcases hb with e | e
     . rw [e]; exact .inl List.mem_cons_self
     . rw [e]; exact .inr hnf
theorem UW (T : Txt K mg a) : dE P w K mg base 2 a.eY ["_law_bells", "_law_wait"] [] (Kh K) :=
 ⟨⟨_, _, Xi T, T.A3.binds fun _ _ _ _ _ _ => .all fun us hl => match us, hl with | [_, _], _ => rfl, .nil⟩⟩
def fG (bs : List uQ) (n : Str) : uQ := (bs.find? fun b => decide (b.nm = n)).getD ⟨n, 0, 0, 0, 0, 0, .aS, 0⟩
theorem Mu {bs : List uQ} (h : (bs.map (·.nm)).Nodup) {b : uQ} (hb : b ∈ bs) : fG bs b.nm = b := by
 unfold fG
 induction bs with
 | nil => cases hb
 | cons y r ih =>
   rw [List.map_cons, List.nodup_cons] at h
   rw [List.find?_cons]
   by_cases e : y.nm = b.nm
   . simp only [e, decide_true, Option.getD_some]
     rcases List.mem_cons.mp hb with rfl | RN
     . rfl
     . exact absurd (List.mem_map_of_mem (f := (·.nm)) RN) (e ▸ h.1)
   . simp only [e, decide_false]
     rcases List.mem_cons.mp hb with rfl | RN
     . exact absurd rfl e
     . exact ih h.2 RN
structure Iv (bs : List uQ) (sh : Int) (j : Nat) (k : KS) (wt : WT) : Prop where
 esh : k.sh = sh
 n0 : 0 <= k.now
 n1 : k.now <= j * 10 ^ 23
 f : ∀ n, k.f n = (wt n).map (BF (fG bs n) sh)
 t : ∀ n, k.t n = (wt n).map (·.2.2)
 w : ∀ n p, wt n = some p -> fG bs n ∈ bs /\ (fG bs n).nm = n /\ lQ (fG bs n) /\ (0 <= p.1 /\ p.1 <= j) /\ k.now < p.2.1 /\ p.2.1 <= p.2.2 /\ p.2.2 <= (j + 1) * 10 ^ 23 /\ ∀ i, (fG bs n).m = .int i -> p.1 < i
section
variable {bs : List uQ} {sh u : Int} {j : Nat} {k k2 : KS} {wt : WT} {n : Str} {es : List PyData} {ss : List Str}
theorem Iv.ok (h : Iv bs sh j k wt) (hj : j <= 24) : WOk bs (fG bs) wt := fun n p e => by
 obtain ⟨h1, h2, h3, h4, _⟩ := h.w n p e
 exact ⟨h1, h2, h3, h4.1, by omega⟩
theorem Iv.rg (h : Iv bs sh j k wt) (hj : j <= 24) (hx : ∃ n p, wt n = some p) : abB k := by
 refine ⟨fun n x e => ?_, fun n x s e es => ?_, fun n u e => ?_, ?_⟩
 . rw [h.f] at e
   obtain ⟨p, hp, rfl⟩ := Option.map_eq_some_iff.mp e
   obtain ⟨_, _, _, h4, _⟩ := h.w n p hp
   refine ⟨rfl, h4.1, ?_⟩
   show p.1 < 10 ^ 50
   omega
 . rw [h.f] at e
   obtain ⟨p, hp, rfl⟩ := Option.map_eq_some_iff.mp e
   exact ⟨_, rfl⟩
 . rw [h.t] at e
   obtain ⟨p, hp, rfl⟩ := Option.map_eq_some_iff.mp e
   obtain ⟨_, _, _, _, h5, h6, _⟩ := h.w n p hp
   omega
 . obtain ⟨n, p, hp⟩ := hx
   exact ⟨n, p.2.2, by rw [h.t, hp]; rfl⟩
theorem Iv.woke (h : Iv bs sh j k wt) (wk : Wok k es k2) (lst : O4 wt u n) (hm : ∀ m, m ∈ ss ↔ ∃ p, wt m = some p) (hu : RH ss) (qS : ss.Nodup) : es = (ss.foldl (eM (fG bs) u) (wt, [b7 u n])).2 /\ k2.now = u /\ Iv bs sh (j + 1) k2 (ss.foldl (eM (fG bs) u) (wt, [b7 u n])).1 := by
 obtain ⟨u0, n0, r0, ks, ns, g1, g2, g3, g4, g5, g6, g7, g8, _⟩ := wk
 obtain ⟨pn, hpn, hpu⟩ := lst.at'
 have t0 : k.t n0 = some u0 := ((g1 u0 n0).mp (by rw [g3]; exact List.mem_cons_self)).1
 obtain ⟨p0, Vs, e0⟩ : ∃ p0, wt n0 = some p0 /\ p0.2.2 = u0 := by
  rw [h.t] at t0
  exact Option.map_eq_some_iff.mp t0
 have tn : k.t n = some u := by rw [h.t, hpn, <- hpu]; rfl
 obtain rfl : u = u0 := by
  have h1 := lst.le n0 p0 Vs
  have h2 := g4 n u tn
  omega
 obtain rfl : n = n0 := by
  refine OS ?_ (lst.nm n0 p0 Vs e0)
  have Qb := (g1 u n).mpr ⟨tn, Int.le_refl _⟩
  rw [g3] at Qb g2
  rcases List.mem_cons.mp Qb with e | hr
  . injection e with _ e
    rw [e]; exact Gx _
  . have := (List.pairwise_cons.mp g2).1 _ hr
    exact (gB.mp this).2 rfl
 have QK : ∀ m ∈ ns, ∃ p, wt m = some p /\ p.2.1 <= u /\ GY k m = (-1, m) := fun m hm => by
  have := (g6 m).mp hm
  unfold eJ at this
  simp only [h.f] at this
  cases e : wt m with
  | none => rw [e] at this; cases this
  | some p =>
    rw [e] at this
    refine ⟨p, rfl, of_decide_eq_true this, ?_⟩
    unfold GY
    rw [h.f, e]
    rfl
 have ens : ns = ss.filter (rgW wt u) := by
  refine Eb ((List.perm_ext_iff_of_nodup g5 (qS.sublist List.filter_sublist)).mpr fun m => ?_) ?_ (hu.sublist List.filter_sublist)
  . rw [List.mem_filter, hm]
    constructor
    . intro QH
      obtain ⟨p, h1, h2, _⟩ := QK m QH
      exact ⟨⟨p, h1⟩, by unfold rgW; rw [h1]; exact decide_eq_true h2⟩
    . rintro ⟨⟨p, h1⟩, h2⟩
      rw [g6]
      unfold eJ
      simp only [h.f, h1]
      unfold rgW at h2
      rw [h1] at h2
      exact h2
  . refine List.Pairwise.imp_of_mem (fun {c d} hc hd z => ?_) g7
    obtain ⟨_, _, _, e1⟩ := QK c hc
    obtain ⟨_, _, _, e2⟩ := QK d hd
    rw [e1, e2] at z
    exact (gB.mp z).2 rfl
 have Xm := PH (bf := fG bs) (u := u) (sh := sh) ns g5 { k with now := u, t := AV k.t u } wt [b7 u n] h.f rfl h.esh (fun m hm => ?_) (fun m hm => ?_)
 . rw [g8] at Xm
   obtain ⟨i1, i2, i3, i4, i5, i6⟩ := Xm
   have aan := uS (bf := fG bs) (u := u) (wt := wt) ss qS (wt, [b7 u n]) (fun _ _ => rfl)
   rw [<- ens] at aan
   rw [<- aan] at i1 i2 i3 i6
   refine ⟨i1, i4, i5, ?_, ?_, i2, i3, fun m p hp => ?_⟩
   . have := h.n0
     obtain ⟨_, _, _, _, h5, h6, _⟩ := h.w n pn hpn
     rw [i4]
     omega
   . obtain ⟨_, _, _, _, h5, h6, h7, _⟩ := h.w n pn hpn
     rw [i4]
     push_cast
     omega
   . obtain ⟨_, _, _, _, _, hn6, hn7, _⟩ := h.w n pn hpn
     by_cases QH : m ∈ ns
     . rw [i6 m QH] at hp
       obtain ⟨q, hq, hqn⟩ := Option.bind_eq_some_iff.mp hp
       obtain ⟨h1, h2, h3, h4, h5, h6, h7, h8⟩ := h.w m q hq
       unfold J5 at hqn
       split at hqn
       . cases hqn
       . rename_i ML
         cases hqn
         obtain ⟨a1, a2⟩ := UU h3 (q.1 + 1)
         have o1 := h3.o1
         have w0 := h3.w0
         have w1 := h3.w1
         refine ⟨h1, h2, h3, ⟨?_, ?_⟩, ?_, ?_, ?_, fun i e => ?_⟩
         . show 0 <= q.1 + 1; omega
         . show q.1 + 1 <= ((j + 1 : Nat) : Int); omega
         . rw [i4]; show u < u + nj (fG bs m) (q.1 + 1); omega
         . show u + nj (fG bs m) (q.1 + 1) <= u + nj (fG bs m) (q.1 + 1) + (fG bs m).wd; omega
         . show u + nj (fG bs m) (q.1 + 1) + (fG bs m).wd <= (((j + 1 : Nat) : Int) + 1) * 10 ^ 23
           push_cast
           omega
         . show q.1 + 1 < i
           have := h8 i e
           have : q.1 + 1 ≠ i := fun z => ML (by rw [e, z])
           omega
     . have e : (ss.foldl (eM (fG bs) u) (wt, [b7 u n])).1 m = wt m := by rw [aan, Gp _ _ QH]
       rw [e] at hp
       obtain ⟨h1, h2, h3, h4, h5, h6, h7, h8⟩ := h.w m p hp
       have ML : ¬ p.2.1 <= u := fun z => QH (by
        rw [g6]
        unfold eJ
        simp only [h.f, hp]
        exact decide_eq_true z)
       refine ⟨h1, h2, h3, ⟨h4.1, by push_cast; omega⟩, by rw [i4]; omega, h6, by push_cast; omega, h8⟩
 . obtain ⟨p, h1, h2, _⟩ := QK m hm
   obtain ⟨_, _, h3, _, _, _, _, h8⟩ := h.w m p h1
   exact ⟨h3, p, h1, h2, h8⟩
 . show AV k.t u m = _
   unfold AV
   rw [h.t]
   cases e : wt m with
   | none => rfl
   | some p =>
     obtain ⟨_, _, _, _, h5, h6, _⟩ := h.w m p e
     have ML : ¬ p.2.1 <= u := fun z => hm (by
      rw [g6]
      unfold eJ
      simp only [h.f, e]
      exact decide_eq_true z)
     show Option.filter _ (some p.2.2) = some p.2.2
     rw [Option.filter_some, if_pos (decide_eq_true (by omega))]
theorem Iv.add (h : Iv bs sh 0 k wt) {b : uQ} (ok : lQ b) (qS : (bs.map (·.nm)).Nodup) (hb : b.nm ∉ bs.map (·.nm)) : k.f b.nm = none /\ wt b.nm = none /\ Iv (bs ++ [b]) sh 0 (wz k b.nm (pO (De b sh) 1 none (decide (b.dy = 1))) (J1 (De b sh)).2) (cm wt b.nm (some (0, b.st, b.st + b.wd))) := by
 have hw : wt b.nm = none := by
  cases e : wt b.nm with
  | none => rfl
  | some p =>
    obtain ⟨h1, h2, _⟩ := h.w _ p e
    exact absurd (by rw [<- h2]; exact List.mem_map_of_mem h1) hb
 have ady : ((bs ++ [b]).map (·.nm)).Nodup := by
  rw [List.map_append, List.nodup_append]
  refine ⟨qS, by simp, fun y hy z hz => ?_⟩
  have : z = b.nm := by simpa using hz
  rw [this]
  exact fun e => hb (e ▸ hy)
 have adt : fG (bs ++ [b]) b.nm = b := Mu ady (by simp)
 have aea : ∀ n p, wt n = some p -> fG (bs ++ [b]) n = fG bs n := fun n p e => by
  obtain ⟨h1, h2, _⟩ := h.w n p e
  have := Mu ady (b := fG bs n) (List.mem_append_left _ h1)
  rwa [h2] at this
 have ML : k.now = 0 := by
  have h1 := h.n0
  have h2 := h.n1
  simp at h2
  omega
 have e1 := (Kp b sh 0).2.2.2
 have hl : lead (pO (De b sh) 1 none (decide (b.dy = 1))) k.sh = sh * b.dy := by
  rw [h.esh]
  exact G6 (p := (0, 0, 0)) ok
 have ew : wait (rest (pO (De b sh) 1 none (decide (b.dy = 1)))) k.now k.sh ((pO (De b sh) 1 none (decide (b.dy = 1))).st.getD (0, 0)).1 (J1 (De b sh)).2 = BF b sh (0, b.st, b.st + b.wd) := by
  unfold wait
  have YL : lead (rest (pO (De b sh) 1 none (decide (b.dy = 1)))) k.sh = sh * b.dy := hl
  rw [YL]
  have a0 : (pO (De b sh) 1 none (decide (b.dy = 1))).st = some (J1 (De b sh)) := rfl
  rw [a0, e1]
  unfold BF rest pO
  simp only [Option.getD_some]
  have a1 : max (b.st + sh * b.dy - sh * b.dy) (k.now + 1) = b.st := by rw [ML]; have := ok.s0; omega
  have a2 : b.st + sh * b.dy + b.wd - sh * b.dy = b.st + b.wd := by omega
  have a3 : b.st + sh * b.dy + b.wd = b.st + b.wd + sh * b.dy := by omega
  rw [a1, a2, e1, a3]
 have o1 := ok.o1; have w0 := ok.w0; have w1 := ok.w1; have s0 := ok.s0; have s1 := ok.s1
 refine ⟨by rw [h.f, hw]; rfl, hw, ⟨h.esh, h.n0, h.n1, fun n => ?_, fun n => ?_, fun n p hp => ?_⟩⟩
 . show cm k.f b.nm _ n = _
   rw [ew]
   by_cases e : n = b.nm
   . rw [e, aE, aE, adt]; rfl
   . rw [aZ e, aZ e, h.f]
     cases e2 : wt n with
     | none => rfl
     | some p => rw [aea n p e2]
 . show cm k.t b.nm _ n = _
   rw [hl, e1]
   by_cases e : n = b.nm
   . rw [e, aE, aE]
     show some (b.st + sh * b.dy + b.wd - sh * b.dy) = some (b.st + b.wd)
     congr 1
     omega
   . rw [aZ e, aZ e, h.t]
 . have ahr : (wz k b.nm (pO (De b sh) 1 none (decide (b.dy = 1))) (J1 (De b sh)).2).now = k.now := rfl
   rw [ahr]
   by_cases e : n = b.nm
   . rw [e, aE] at hp
     cases hp
     rw [e, adt]
     refine ⟨by simp, rfl, ok, ⟨Int.le_refl _, Int.le_refl _⟩, by rw [ML]; show 0 < b.st; omega, by show b.st <= b.st + b.wd; omega, by show b.st + b.wd <= _; simp; omega, fun i ei => ?_⟩
     rcases ok.m with z | ⟨i', z, z1, _⟩
     . rw [z] at ei; cases ei
     . rw [z] at ei
       injection ei with ei
       show (0 : Int) < i
       omega
   . rw [aZ e] at hp
     obtain ⟨h1, h2⟩ := h.w n p hp
     rw [aea n p hp]
     exact ⟨List.mem_append_left _ h1, h2⟩
theorem Iv.mono (h : Iv bs sh j k wt) : Iv bs sh (j + 1) k wt := by
 have h1 := h.n1
 refine ⟨h.esh, h.n0, by push_cast; omega, h.f, h.t, fun n p e => ?_⟩
 obtain ⟨h1, h2, h3, h4, h5, h6, h7, h8⟩ := h.w n p e
 exact ⟨h1, h2, h3, ⟨h4.1, by push_cast; omega⟩, h5, h6, by push_cast; omega, h8⟩
theorem Iv.lok (h : Iv bs sh 0 k wt) {b : uQ} (ok : lQ b) : vd k (pO (De b sh) 1 none (decide (b.dy = 1))) (J1 (De b sh)).1 (J1 (De b sh)).2 := by
 refine ⟨rfl, rfl, ?_⟩
 have hl : lead (pO (De b sh) 1 none (decide (b.dy = 1))) k.sh = sh * b.dy := by
  rw [h.esh]
  exact G6 (p := (0, 0, 0)) ok
 unfold aV
 rw [hl, (Kp b sh 0).2.2.2]
 have h1 := h.n0
 have h2 := h.n1
 have s0 := ok.s0
 have w0 := ok.w0
 simp at h2
 show k.now + sh * b.dy < b.st + sh * b.dy + b.wd
 omega
theorem P8 {bf : Str -> uQ} (P : PyData -> Prop) (h1 : ∀ m ∈ ss, ∀ a b c d, P (om m a b c d)) (h2 : ∀ m ∈ ss, P (Fw m)) : ∀ s : WT × List PyData, (∀ e ∈ s.2, P e) -> ∀ e ∈ (ss.foldl (eM bf u) s).2, P e := by
 induction ss with
 | nil => exact fun s h => h
 | cons m r ih =>
   intro s h
   rw [List.foldl_cons]
   refine ih (fun m hm => h1 m (List.mem_cons_of_mem _ hm)) (fun m hm => h2 m (List.mem_cons_of_mem _ hm)) _ fun e he => ?_
   unfold eM at he
   split at he
   . exact h e he
   . split at he
     . rcases List.mem_append.mp he with he | he
       . exact h e he
       . rcases List.mem_cons.mp he with rfl | he
         . exact h1 m List.mem_cons_self _ _ _ _
         . unfold Pu at he
           split at he
           . rw [List.mem_singleton.mp he]; exact h2 m List.mem_cons_self
           . cases he
     . exact h e he
end
def P9 (e : PyData) : Prop := ∃ ps, e = .tuple ps /\ (∀ p ∈ ps, Flat p) /\ ∀ s, PyData.str s ∈ ps -> PyData.canLay0 (.str s) = true
theorem UH {n : Str} (hn : PyData.canLay0 (.str n) = true) (a b c d : Int) : P9 (om n a b c d) := by
 refine ⟨_, rfl, fun p hp => ?_, fun s hs => ?_⟩
 . simp only [List.mem_cons, List.not_mem_nil, or_false] at hp
   rcases hp with rfl | rfl | rfl | rfl | rfl | rfl
   all_goals first | exact .inl ⟨_, rfl⟩ | exact .inr ⟨_, rfl⟩
 . simp only [List.mem_cons, List.not_mem_nil, or_false, PyData.str.injEq, reduceCtorEq] at hs
   rcases hs with rfl | rfl
   . decide +kernel
   . exact hn
theorem Ud {n : Str} (hn : PyData.canLay0 (.str n) = true) : P9 (Fw n) := by
 refine ⟨_, rfl, fun p hp => ?_, fun s hs => ?_⟩
 . simp only [List.mem_cons, List.not_mem_nil, or_false] at hp
   rcases hp with rfl | rfl
   all_goals exact .inl ⟨_, rfl⟩
 . simp only [List.mem_cons, List.not_mem_nil, or_false, PyData.str.injEq] at hs
   rcases hs with rfl | rfl
   . decide +kernel
   . exact hn
theorem SR {n : Str} (hn : PyData.canLay0 (.str n) = true) (u : Int) : P9 (b7 u n) := by
 refine ⟨_, rfl, fun p hp => ?_, fun s hs => ?_⟩
 . simp only [List.mem_cons, List.not_mem_nil, or_false] at hp
   rcases hp with rfl | rfl | rfl
   all_goals first | exact .inl ⟨_, rfl⟩ | exact .inr ⟨_, rfl⟩
 . simp only [List.mem_cons, List.not_mem_nil, or_false, PyData.str.injEq, reduceCtorEq, false_or] at hs
   rcases hs with rfl | rfl
   . decide +kernel
   . exact hn
theorem OC : ∀ {ps : List PyData}, (∀ p ∈ ps, Flat p) -> nd.V7 ps = true
 | [], _ => rfl
 | p :: r, h => by
   have h1 : nd p = true := by rcases h p List.mem_cons_self with ⟨s, rfl⟩ | ⟨i, rfl⟩ <;> rfl
   show (nd p && nd.V7 r) = true
   rw [h1, OC fun q hq => h q (List.mem_cons_of_mem _ hq)]
   rfl
theorem OQ : ∀ {es : List PyData}, (∀ e ∈ es, P9 e) -> nd.V7 es = true
 | [], _ => rfl
 | e :: r, h => by
   obtain ⟨ps, e1, h1, _⟩ := h e List.mem_cons_self
   have h1 : nd e = true := by rw [e1]; exact OC h1
   show (nd e && nd.V7 r) = true
   rw [h1, OQ fun q hq => h q (List.mem_cons_of_mem _ hq)]
   rfl
theorem bZ.dict {H H' : Hp} {L : Lay} {k : KS} {d : Addr} {kvs : List (Key × V)} (h : bZ a H L k) (m : Mv [d] H H') (e : H d = some (.dK kvs)) (n1 : d ≠ L.td) (n2 : d ≠ L.bd) : bZ a H' L k := by
 obtain ⟨ts, w1, w2, w3⟩ := h.wt
 obtain ⟨ns, b1, b2, b3⟩ := h.bd
 exact ⟨nX m e h.ins, ⟨ts, ⟨nX m e w1.ins, w1.dat.mv m (by simpa using Ne.symm n1)⟩, w2, w3⟩, ⟨ns, b1.mv m (by simpa using Ne.symm n2), b2, b3⟩, fun y z hz => (h.bl y z hz).Ys m e, h.ne, h.nl, h.nt, h.nf⟩
def nmK (ns : List Int) (i : Nat) : Str := Gh (cell ns i % 3000000007 * 61 + (i : Int)).toNat
theorem abg {ns : List Int} {i j : Nat} (hi : i < 61) (hj : j < 61) (h : nmK ns i = nmK ns j) : i = j := by
 have := Uq h
 omega
theorem QW {ss : List Str} (h : ∀ s ∈ ss, PyData.canLay0 (.str s) = true) : Ir (ss.map PyData.str) := by
 induction ss with
 | nil => exact .nil
 | cons s r ih => exact .cons (h s List.mem_cons_self) (Nat.zero_le _) (by simp [PyData.eqv]) (ih fun y hy => h y (List.mem_cons_of_mem _ hy))
structure St5 (a : Ad) (H : Hp) (L : Lay) (pb pw : Addr) (bs : List uQ) (sh : Int) (j : Nat) : Prop where
 ex : ∃ k m wt, bZ a H L k /\ gA H pw m /\ Wm m wt /\ m.length <= 10 /\ Iv bs sh j k wt
 hb : gA H pb (NS bs)
 nd : (bs.map (·.nm)).Nodup
 lb : bs.length <= 10
 nl : ∀ b ∈ bs, ∃ N, b.nm = Gh N
 n1 : pb ≠ pw
 n2 : pb ≠ L.td
 n3 : pb ≠ L.bd
 n4 : pw ≠ L.td
 n5 : pw ≠ L.bd
theorem abZ (T : Txt K mg a) : aL P w K mg base eU 14 a.zk a.K4 ["_law_script"] (R4 K) := by
 have cl := T.aD; have n1 := T.a8
 have hU := Ge (P := P) (w := w) (base := base) T
 have MA := TH (P := P) (w := w) (base := base) T
 have LC := S6 (P := P) (w := w) (base := base) T
 have Nj := UW (P := P) (w := w) (base := base) T
 have Ml := Uj (P := P) (w := w) (base := base) T
 have La := QL (P := P) (w := w) (base := base) T
 have Nv := K9 (P := P) (w := w) (base := base) T
 have Iw := S9 (P := P) (w := w) (base := base) T
 have IE := Td (P := P) (w := w) (base := base) T
 have IC := UY (P := P) (w := w) (base := base) T
 have J7 := Wi (P := P) (w := w) (base := base) T
 have yg := QP (P := P) (w := w) (base := base) T
 refine T.Uh.ok iB (fun vs H Q E h => ?_) (fun c3 A outer s H vs Q E hr h => ?_)
 . obtain ⟨_, _, rfl, _⟩ := h; rfl
 . obtain ⟨l0, ns, rfl, hS, hl, q⟩ := h
   refine ⟨_, (af (aN (i := 1) iB.nd rfl (Or.inl rfl) (Ly T.L6 Nv (hr.mono (by decide)) rfl T.IV))
    (af (aN (i := 2) iB.nd rfl (Or.inl rfl) (aC cZ (aC cR (c6 hU (hr.mono (by decide)) rfl T.eL T.eI (ae (pv 0) (ae ak ai))) ak) ak))
    (fP (bW (aJ (hV hr.Le) (aC cZ (aC cR (c6 hU (hr.mono (by decide)) rfl T.eL T.eI (ae (pv 0) (ae ak ai))) ak) ak) ak (aI _))
     (ag (aN (i := 2) iB.nd rfl (Or.inl rfl) (aC cZ (aC cR (c6 hU (hr.mono (by decide)) rfl T.eL T.eI (ae (pv 0) (ae ak ai))) ak) (aC Bd ak ak))))
     aM)
    (af (aT (aF (pv 1) T.aD T.Al IC (hr.mono (by decide)) (ae (pv 2) ai)))
    (af (aN (i := 3) iB.nd rfl (Or.inl rfl) jh)
    (af (aN (i := 4) iB.nd rfl (Or.inl rfl) jh)
    (af (oQ PassesOwn.never rfl (Rv rfl T.pR (ae ak (ae (bB (DX rfl) rfl T.rn PyProof.Rows.boot_min (ae (bB Jx rfl T.Hw PySem.boot_len (ae (pv 0) ai)) (ae (aC bU ak (aC cZ (c6 hU (hr.mono (by decide)) rfl T.eL T.eI (ae (pv 0) (ae ak ai))) ak)) ai))) ai))) (aX (i := 5) iB.nd rfl (Or.inl rfl))
     (af (aN (i := 6) iB.nd rfl (Or.inl rfl) (c6 MA (hr.mono (by decide)) rfl T.Cj T.BD (ae (bV eV (pv 0) (pv 5) (fun _ _ => rfl)) (ae (pv 5) ai))))
     (af (Cq (fj hr) (pv 3) (bV eV (pv 6) ak (fun _ _ => rfl)) (pv 6) rfl)
     (af (Cq (fj hr) (pv 4) (bV eV (pv 6) ak (fun _ _ => rfl)) (c5 (ae ak (ae (bV eV (pv 6) ak (fun _ _ => rfl)) (ae (aC bU (bV eV (pv 6) ak (fun _ _ => rfl)) (bV eV (pv 6) ak (fun _ _ => rfl))) ai)))) rfl)
     (ag (bW (aJ (KC hr.Le) (aF (pv 1) T.aD T.DP J7 (hr.mono (by decide)) (ae (bV eV (pv 6) ak (fun _ _ => rfl)) (ae (c6 LC (hr.mono (by decide)) rfl T.Cw T.Dw (ae (pv 6) (ae (pv 2) ai))) (ae ak (ae d0 (ae (iL (hV hr.Le) (bV eV (pv 6) ak (fun _ _ => rfl)) ak (aI _)) ai)))))) (fY ai) (aI _))
      (ag (aB FP))
      aM))))))
    (af (oQ PassesOwn.never rfl (JG rfl T.pR (ae ak ai)) (aX (i := 5) iB.nd rfl (Or.inl rfl))
     (ag (bW (aJ (O9 (Nat.lt_of_succ_lt (fj hr))) (pv 4) jh (aI _))
      (af (Od (c6 Nj (hr.mono (by decide)) rfl T.Fl T.FA (ae (pv 3) (ae (pv 4) ai))) (Hr (n := 2) rfl (du (aX (i := 7) iB.nd rfl (Or.inl rfl)) (du (aX (i := 8) iB.nd rfl (Or.inl rfl)) yE))))
      (af (aN (i := 9) iB.nd rfl (Or.inl rfl) (aF (pv 1) T.aD T.xI IE (hr.mono (by decide)) (ae (aC Bd ak ak) (ae ak ai))))
      (af (bW (PW.pt (OX (rQ (dC (c6 La (hr.mono (by decide)) rfl T.AA T.zV (ae (pv 9) ai)) (fun _ => rfl))) (OX (aJ (KC hr.Le) (pv 9) (pv 8) (aI _)) (N3 (aJ (KC hr.Le) (av (pv 1) rfl) (pv 7) (aI _))))))
       (ag (aB FP))
       aM)
      (ag (Vy (oQ PassesOwn.never rfl (JX (pv 4)) (aX (i := 10) iB.nd rfl (Or.inl rfl))
       (ag (bW (aJ (KC hr.Le) (c6 Ml (hr.mono (by decide)) rfl T.DF T.Cr (ae (pv 1) (ae (gK (fj hr) (pv 3) (pv 10) (fun _ _ => rfl)) (ae (pv 2) ai)))) (gK (fj hr) (pv 4) (pv 10) (fun _ _ => rfl)) (aI _))
        (ag (aB FP))
        aM))))))))
      aM)))
    (af (bW (aJ (O9 (Nat.lt_of_succ_lt (fj hr))) (pv 4) jh (aI _))
     (ag (aB (iL (hV hr.Le) (cS (pv 1) T.aD T.lJ yg (hr.mono (by decide))) (bB HP rfl T.fz PyProof.Rows.boot_sorted (ae (Ji (GO rfl) rfl T.yD PyProof.Rows.boot_list (ae (pv 4) ai)) ai)) (aI _))))
     aM)
    (ag (aB (Ig (iL (hV hr.Le) (aF (pv 1) T.aD T.xI Iw (hr.mono (by decide)) (ae (aC Bd ak ak) ai)) (fY ai) (aI _)) (Ig (iL (hV hr.Le) (av (pv 1) rfl) (aC Bd ak ak) (aI _)) (Hx (iL (hV hr.Le) (cS (pv 1) T.aD T.lJ yg (hr.mono (by decide))) (fY ai) (aI _)))))))))))))))), ?_⟩
   repeat' (walk_at "rd1")
   refine Wg ((List.range 10).map (nmK ns)) rfl (by simp) (fun L H1 s1 enm etd ebd jd => ?_)
   have hS1 := ay.seq s1 hS
   have DU := jd.ins
   unfold aP at DU
   repeat' (walk_at "rd1")
   refine oX (fun σ' H' => H' = H1 /\ ∃ sh : Int, 0 <= sh /\ sh < 10 ^ 39 /\ σ' = [some (.ref l0), some (.ref L.p), some (.int sh), none, none, none, none, none, none, none, none]) ?_ ?_
   . repeat' (walk_at "rd1")
     all_goals exact ⟨rfl, _, by omega, by omega, rfl⟩
   rintro σ' H' ⟨rfl, sh, hs0, hs1, rfl⟩
   repeat' (walk_at "rd1")
   have Nr : ∀ ss, uq (k0 0) ss -> ss = [] := fun ss hs => List.eq_nil_iff_forall_not_mem.mpr fun n hn => by have := (hs.2 n).mp hn; cases this
   refine Z2 jd (by show 0 <= (0 : Int) + 0 + sh; omega) (fun ss hs _ => by rw [Nr ss hs]; exact ⟨List.nodup_nil, fun n hn => by cases hn⟩) (fun q3 H3 ss EK J6 hs _ Gw yy => ?_)
   rw [Nr ss hs] at yy
   have yy : bZ a H3 L ⟨0, 0 + sh, fun _ => none, fun _ => none⟩ := yy
   rw [Int.zero_add] at yy
   have hS3 := EK.sql hS1
   clear DU jd Gw J6 s1 hS hS1 EK
   repeat' (walk_at "rd1")
   rename_i pb H4 s4 hn4 hb4 pw H5 s5 Vw hw5
   have hb5 := hb4.keeps s5
   have hk5 := (yy.keeps s4).keeps s5
   have hS5 := ay.seq s5 (ay.seq s4 hS3)
   have agl : pb ≠ pw := hb4.ne Vw
   have Oq : ∀ {H : Hp} {x : Addr} {k : KS}, bZ a H L k -> H x = none -> x ≠ L.td /\ x ≠ L.bd := fun {H x k} hk hx => by
    obtain ⟨ts, w1, _⟩ := hk.wt
    obtain ⟨kw, ew, _⟩ := id w1.dat
    obtain ⟨ns', b1, _⟩ := hk.bd
    have b1 : H L.bd = _ := b1
    exact ⟨fun z => (by rw [<- z, hx] at ew; cases ew), fun z => (by rw [<- z, hx] at b1; cases b1)⟩
   obtain ⟨f1, f2⟩ := Oq yy hn4
   obtain ⟨f3, f4⟩ := Oq (yy.keeps s4) Vw
   have SX : St5 a H5 L pb pw [] sh 0 := ⟨⟨_, [], fun _ => none, hk5, hw5, ⟨List.nodup_nil, fun _ => rfl⟩, Nat.zero_le _, ⟨rfl, Int.le_refl _, by show (0 : Int) <= _; simp, fun _ => rfl, fun _ => rfl, fun n p e => (by cases e)⟩⟩, hb5, List.nodup_nil, Nat.zero_le _, fun b hb => (by cases hb), agl, f1, f2, f3, f4⟩
   clear hb4 hb5 yy hk5 hw5 s4 s5 hn4 Vw hS3 Oq f1 f2 f3 f4 Nr
   refine WD ?_
   repeat' (walk_at "rd1")
   rename_i z ez1 ez2 ez3
   rw [List.length_map] at ez1 ez2
   refine ⟨1, z, rfl, ⟨by decide, by decide, by omega, by omega⟩, ?_⟩
   refine EX (fun j σ' H' => ∃ z1 z2 L' bs, σ' = [some (.ref l0), some (.ref L'.p), some (.int sh), some (.ref pb), some (.ref pw), z1, z2, none, none, none, none] /\ L'.nm = L.nm /\ St5 a H' L' pb pw bs sh 0 /\ bs.length = j /\ (∀ b ∈ bs, ∃ i, i <= j /\ b.nm = nmK ns i) /\ jj K H' l0 (ns.map V.int)) ⟨none, none, L, [], rfl, rfl, SX, rfl, fun b hb => (by cases hb), hS5⟩ ?_ ?_
   . rintro j σ' H5 hj ⟨z1, z2, L', bs, rfl, VI, ⟨⟨k, m, wt, hk, hw, wm, hml, iv⟩, hb, qS, hlb, Vq, m1, m2, m3, m4, m5⟩, Rg, Vr, hS5⟩
     have hi := hk.ins
     unfold aP at hi
     repeat' (walk_at "rd1")
     refine Yw hS5 (OJ (by omega) (by rw [List.length_map]; omega)) ?_
     repeat' (walk_at "rd1")
     refine aas (by omega) (by omega) (fun bv H6 b s6 VV ok hbn => ?_)
     have ada := VV
     unfold Hm at ada
     have hb6 := hb.keeps s6
     have hw6 := hw.keeps s6
     have Xr : b.nm = nmK ns (j + 1) := by
      rw [hbn]
      unfold nmK
      rw [show (1 + (j : Int)).toNat = j + 1 by omega, show ((j + 1 : Nat) : Int) = 1 + j by omega]
     have hnb : b.nm ∉ bs.map (·.nm) := fun z => by
      obtain ⟨c, hc, e⟩ := List.mem_map.mp z
      obtain ⟨i, hi, e2⟩ := Vr c hc
      have e : c.nm = b.nm := e
      rw [e2, Xr] at e
      have := abg (by omega) (by omega) e
      omega
     have agg : ig (NS bs) b.nm = none := by
      cases e : ig (NS bs) b.nm with
      | none => rfl
      | some d =>
        have := Kq.mpr (by rw [e]; rfl)
        unfold NS at this
        rw [List.map_map] at this
        exact absurd this hnb
     obtain ⟨hkn, hwn, iv'⟩ := iv.add ok qS hnb
     obtain ⟨kb6, eb6, _⟩ := id hb6
     repeat' (walk_at "rd1")
     refine SD hb6 (by unfold NS; rw [List.length_map]; omega) VV (Ki b ok) (fun H7 R5 hb7 => ?_)
     rw [Mh agg] at hb7
     have hb7 : gA H7 pb (NS (bs ++ [b])) := by unfold NS; rw [List.map_append]; exact hb7
     have aaw := R5.dat (Ki b ok) VV
     have Zg := aaw
     unfold Hm at Zg
     have Xh := (hk.keeps s6).dict R5 eb6 m2 m3
     have ZX := hw6.mv R5 (by simpa using Ne.symm m1)
     have fb : Fr [] [pb] H6 H7 := Fr.dkM R5 eb6 (by simp)
     have hS7 := fb.sql (ay.seq s6 hS5)
     have hlm : m.length <= 9 := by
      have h1 := qh wm.1 (m := bs.map (·.nm)) fun y hy => by
       obtain ⟨p, hp⟩ := wm.mem.mp hy
       obtain ⟨h2, h3, _⟩ := iv.w y p hp
       exact List.mem_map.mpr ⟨_, h2, h3⟩
      rw [List.length_map, List.length_map] at h1
      omega
     clear VV ada hb6 hw6 hk hi hb hw hS5 s6 eb6 hbn
     repeat' (walk_at "rd1")
     rename_i v8 H8 s8 X6 H9 mv9 hw9
     obtain ⟨kw8, ew8, _⟩ := id (ZX.keeps s8)
     have fw : Fr [] [pw] H8 H9 := Fr.dkM mv9 ew8 (by simp)
     have WH := (Xh.keeps s8).dict mv9 ew8 m4 m5
     have hb9 := (hb7.keeps s8).mv mv9 (by simpa using m1)
     have adV := mv9.dat (Ki b ok) (aaw.keeps s8)
     have YG := adV
     unfold Hm at YG
     have hS9 := fw.sql (ay.seq s8 hS7)
     have hi9 := WH.ins
     unfold aP at hi9
     clear X6 hb7 aaw Zg Xh ZX hS7 mv9
     repeat' (walk_at "rd1")
     refine aby adV ok hs0 hs1 (fun rv Tz Vh hR => ?_)
     have ahw := WH.keeps Vh
     have aiO := YG.keeps Vh
     have edy : id (decide (V.int b.dy = V.int 1)) = decide (b.dy = 1) := by simp
     repeat' (walk_at "rd1")
     rw [edy]
     refine acX ahw hkn (by rw [VI, enm]; exact List.mem_map.mpr ⟨j + 1, by rw [List.mem_range]; omega, Xr.symm⟩) hR (by decide) (iv.lok ok) (fun q11 RM b' aaO ajG aef agZ => ?_)
     have aef : d5 RM q11 [] := aef
     repeat' (walk_at "rd1")
     rename_i q12 MS s12 akQ akx akP
     refine ⟨_, _, { L' with ad := cm L'.ad b.nm b' }, bs ++ [b], rfl, VI, ⟨⟨_, _, _, agZ.keeps s12, (aaO.dla (by simp [m4, m5]) (hw9.keeps Vh)).keeps s12, wm.put (q := (0, b.st, b.st + b.wd)), ?_, iv'⟩, (aaO.dla (by simp [m2, m3]) (hb9.keeps Vh)).keeps s12, ?_, ?_, fun c hc => ?_, m1, m2, m3, m4, m5⟩, by rw [List.length_append, Rg]; rfl, fun c hc => ?_, ay.seq s12 (aaO.sql (ay.seq Vh hS9))⟩
     . exact Nat.le_trans (Ih wm.1).2 (by omega)
     . rw [List.map_append, List.nodup_append]
       refine ⟨qS, by simp, fun y hy z hz => ?_⟩
       have : z = b.nm := by simpa using hz
       rw [this]
       exact fun e => hnb (e ▸ hy)
     . rw [List.length_append, Rg, List.length_singleton]; omega
     . rcases List.mem_append.mp hc with hc | hc
       . exact Vq c hc
       . rw [List.mem_singleton.mp hc]; exact ⟨_, Xr⟩
     . rcases List.mem_append.mp hc with hc | hc
       . obtain ⟨i, h1, h2⟩ := Vr c hc
         exact ⟨i, by omega, h2⟩
       . rw [List.mem_singleton.mp hc]; exact ⟨j + 1, Nat.le_refl _, Xr⟩
   . rintro σ' H5 ⟨z1, z2, L', bs, rfl, VI, SX, Rg, Vr, hS5⟩
     clear Vr Rg VI
     repeat' (walk_at "rd1")
     refine EX (fun j σ' H' => ∃ z1 z2 z3 z4 z5 z6, σ' = [some (.ref l0), some (.ref L'.p), some (.int sh), some (.ref pb), some (.ref pw), z1, z2, z3, z4, z5, z6] /\ St5 a H' L' pb pw bs sh j) ⟨_, _, _, _, _, _, rfl, SX⟩ ?_ ?_
     . rintro j σ' H6 hj ⟨z1, z2, z3, z4, z5, z6, rfl, ⟨⟨k, m, wt, hk, hw, wm, hml, iv⟩, hb, qS, hlb, Vq, m1, m2, m3, m4, m5⟩⟩
       have hj : j < 24 := hj
       have hi := hk.ins
       unfold aP at hi
       obtain ⟨kw6, ew6, _⟩ := id hw
       have MJ := iv.n0
       have Ii := iv.n1
       repeat' (walk_at "rd1")
       . rename_i pe H7 s7 hn7 he7 hme
         obtain ⟨n1, p1, Pa⟩ : ∃ n p, wt n = some p := by
          cases m with
          | nil => cases hme
          | cons y r =>
            obtain ⟨p, hp⟩ := wm.mem.mp (show y.1 ∈ (y :: r).map (·.1) from List.mem_cons_self)
            exact ⟨_, p, hp⟩
         refine Zo (hb.keeps s7) qS (hw.keeps s7) wm (iv.ok (by omega)) ⟨n1, p1, Pa⟩ hml m1 (fun v8 H8 u n ss m8 mv8 lst hpm hup X6 hw8 wm8 hl8 => ?_)
         refine JU X6 (fun w1 dv f1 hdv => ?_)
         obtain rfl := f1.int_inv
         have hk8 := (hk.keeps s7).dict mv8 (s7 _ _ ew6) m4 m5
         have hb8 := (hb.keeps s7).mv mv8 (by simpa using m1)
         have hi8 := hk8.ins
         unfold aP at hi8
         have abN : ∀ m', m' ∈ ss ↔ ∃ p, wt m' = some p := fun m' => by rw [hpm.mem_iff, wm.mem]
         have ahe : ss.Nodup := hpm.nodup_iff.mpr wm.1
         have aap : ∀ m' p, wt m' = some p -> PyData.canLay0 (.str m') = true := fun m' p e => by
          obtain ⟨h1, h2, _⟩ := iv.w m' p e
          obtain ⟨N, h3⟩ := Vq _ h1
          rw [<- h2, h3]
          exact Y9 N
         have TX : ∀ e ∈ (ss.foldl (eM (fG bs) u) (wt, [b7 u n])).2, P9 e := by
          refine P8 P9 (fun m' Vu a b c d => ?_) (fun m' Vu => ?_) _ (fun e he => ?_)
          . obtain ⟨p, hp⟩ := (abN m').mp Vu
            exact UH (aap m' p hp) _ _ _ _
          . obtain ⟨p, hp⟩ := (abN m').mp Vu
            exact Ud (aap m' p hp)
          . rw [List.mem_singleton.mp he]
            obtain ⟨p, hp, _⟩ := lst.at'
            exact SR (aap n p hp) u
         have hle : k.now <= 10 ^ 39 := by omega
         have hto : ∃ n u, k.t n = some u /\ u <= 10 ^ 39 := by
          obtain ⟨_, _, _, _, _, _, h7, _⟩ := iv.w n1 p1 Pa
          exact ⟨n1, p1.2.2, by rw [iv.t, Pa]; rfl, by omega⟩
         clear hi
         repeat' (walk_at "rd1")
         refine ⟨L', k, 10 ^ 39, 1, rfl, hk8, hle, fun ML => ?_, fun _ => ⟨rfl, iv.rg (by omega) ⟨n1, p1, Pa⟩, fun q9 H9 es k2 wok fr9 hn9 WW WH => ?_⟩⟩
         . obtain ⟨n', u', h1, h2⟩ := hto
           have := ML n' u' h1
           omega
         . obtain ⟨ees, afZ, iv2⟩ := iv.woke wok lst abN hup ahe
           rw [ees] at WW
           have hi9 := WH.ins
           unfold aP at hi9
           rw [afZ] at hi9
           have acE : Dv H9 dv (.list (ss.foldl (eM (fG bs) u) (wt, [b7 u n])).2) := Dv.fr fr9 hdv (OQ TX)
           have hb9 := fr9.dla (by simp [m2, m3]) hb8
           have hw9 := fr9.dla (by simp [m4, m5]) hw8
           clear hdv X6 hi8 hb8 hw8 hk8 hk hb hw
           repeat' (walk_at "rd1")
           refine Vx WW.dv (fun e he => let ⟨ps, e1, e2, _⟩ := TX e he; ⟨ps, e1, e2⟩) ?_
           repeat' (walk_at "rd1")
           refine YW WW.dv acE (Xb TX) ?_
           repeat' (walk_at "rd1")
           refine PU hw9 (fun R hR => ?_) (fun o kvs e dk => ?_)
           . repeat' (walk_at "rd1")
             exact hR
           have mvf : Mv [pw] H9 (upd H9 pw (.ik o (.dK kvs))) := .bo e (by intro _ z; cases z)
           have hkf := WH.dict mvf e m4 m5
           have hbf := hb9.mv mvf (by simpa using m1)
           clear WW acE hi9
           refine agA e dk [] (by simp) (fun i σ' H' => ∃ z1 z2 z3 z4 z5 z6, σ' = [some (.ref l0), some (.ref L'.p), some (.int sh), some (.ref pb), some (.ref pw), z1, z2, z3, z4, z5, z6] /\ ay (upd H9 pw (.ik o (.dK kvs))) H') ⟨_, _, _, _, _, _, rfl, ay.refl _⟩ (fun i σ' H' ⟨_, _, _, _, _, _, _, sm⟩ => sm.mv) ?_ ?_
           . rintro i n' d σ' H' YC ⟨z1, z2, z3, z4, z5, z6, rfl, sm⟩ Lg hrd
             generalize upd H9 pw (.ik o (.dK kvs)) = Hf at *
             obtain ⟨p', TC⟩ := wm8.mem.mp (List.mem_map.mpr ⟨(n', d), List.mem_of_getElem? YC, rfl⟩)
             obtain ⟨b1, b2, b3, _⟩ := iv2.w n' p' TC
             have Rg : ig (NS bs) n' = some (Hm (fG bs n')) := by have := Tf qS b1; rwa [b2] at this
             unfold Hm at Rg
             have L0 : ig m8 n' = some (.tuple [.int p'.1, .int p'.2.1, .int p'.2.2]) := (wm8.lst TC).1
             have Q7 := hkf.keeps sm
             have RN := hbf.keeps sm
             have Df : k2.f (fG bs n').nm = some (BF (fG bs n') sh p') := by rw [b2, iv2.f, TC]; rfl
             clear hkf hbf hw9 hb9 WH
             repeat' (walk_at "rd1")
             rename_i bv VV
             refine aaJ Q7 (b := fG bs n') VV b3 hs0 hs1 Df rfl (fun v10 Tz Vh ZL => ?_)
             have ZL : Dv Tz v10 (.tuple [.int p'.1, .int p'.2.1, .int p'.2.2]) := by
              have e1 : p'.2.1 + sh * (fG bs n').dy - sh * (fG bs n').dy = p'.2.1 := by omega
              have e2 : p'.2.2 + sh * (fG bs n').dy - sh * (fG bs n').dy = p'.2.2 := by omega
              rw [e1, e2] at ZL
              exact ZL
             repeat' (walk_at "rd1")
             all_goals exact ⟨_, _, _, _, _, _, rfl, sm.trans Vh⟩
           . rintro σ' H' ⟨z1, z2, z3, z4, z5, z6, rfl, sm⟩
             have mvT := Mv.K1 (S := []) (by simp) e sm.mv
             have smT : ay H9 (upd H' pw (.dK kvs)) := fun b u e => mvT.kp b u (by simp) e
             exact ⟨_, _, _, _, _, _, rfl, ⟨⟨k2, m8, _, WH.keeps smT, hw9.keeps smT, wm8, hl8, iv2⟩, hb9.keeps smT, qS, hlb, Vq, m1, m2, m3, m4, m5⟩⟩
       . rename_i pe H7 s7 hn7 he7 hme
         exact ⟨_, _, _, _, _, _, rfl, ⟨⟨k, m, wt, hk.keeps s7, hw.keeps s7, wm, hml, iv.mono⟩, hb.keeps s7, qS, hlb, Vq, m1, m2, m3, m4, m5⟩⟩
     . rintro σ' H6 ⟨z1, z2, z3, z4, z5, z6, rfl, ⟨⟨k, m, wt, hk, hw, wm, hml, iv⟩, hb, qS, hlb, Vq, m1, m2, m3, m4, m5⟩⟩
       have hi := hk.ins
       unfold aP at hi
       repeat' (walk_at "rd1")
       . rename_i pe H7 s7 hn7 he7 hme
         have Xh := hk.keeps s7
         have hi7 := Xh.ins
         unfold aP at hi7
         refine O8 Xh (fun q8 H8 ss8 s8 hn8 hN agz hq8 => ?_)
         have hw8 := (hw.keeps s7).keeps s8
         repeat' (walk_at "rd1")
         refine OA hw8.rd (fun q9 H9 s9 hn9 WW => ?_)
         repeat' (walk_at "rd1")
         rename_i q10 Tz Z9 Vh agw abf agQ Uz
         have e : ss8 = Z9 := Eb ((List.perm_ext_iff_of_nodup agz (abf.nodup_iff.mpr wm.1)).mpr fun y => by rw [hN.2, abf.mem_iff, wm.mem, iv.f, Option.isSome_map, Option.isSome_iff_exists]) hN.1 agQ
         rw [e] at hq8
         refine YW ((hq8.keeps s9).keeps Vh).dv Uz.dv (QW fun y hy => ?_) ?_
         . obtain ⟨p, hp⟩ := wm.mem.mp (abf.mem_iff.mp hy)
           obtain ⟨h1, h2, _⟩ := iv.w y p hp
           obtain ⟨N, h3⟩ := Vq _ h1
           rw [<- h2, h3]
           exact Y9 N
         repeat' (walk_at "rd1")
         exact q _
       . rename_i pe H7 s7 hn7 he7 hme
         have Xh := hk.keeps s7
         obtain rfl : m = [] := by cases m with
          | nil => rfl
          | cons => cases hme
         have ML : ∀ n, wt n = none := fun n => by
          cases e : wt n with
          | none => rfl
          | some p => have := wm.mem.mpr ⟨p, e⟩; cases this
         have Ii := iv.n1
         refine ⟨L', k, 10 ^ 39, 60, rfl, Xh, by simp at Ii; omega, fun _ q8 H8 fr8 hn8 hq8 hk8 => ?_, fun ⟨n, u, h1, _⟩ => (by rw [iv.t, ML] at h1; cases h1)⟩
         have hi8 := hk8.ins
         unfold aP at hi8
         repeat' (walk_at "rd1")
         rename_i q9 H9 s9 hn9 WW _ _
         refine O8 (hk8.keeps s9) (fun q10 Tz Z9 Vh agw hN ah5 Uz => ?_)
         have e : Z9 = [] := List.eq_nil_iff_forall_not_mem.mpr fun n hn => by
          have := (hN.2 n).mp hn
          have : (k.f n).isSome = true := this
          rw [iv.f, ML] at this
          cases this
         rw [e] at Uz
         have Uz : d5 Tz q10 [] := Uz
         repeat' (walk_at "rd1")
         rw [show (PyData.list []).eqv (PyData.list []) = true by simp [PyData.eqv, PyData.eqvAll]]
         exact q _
end
end My
open PySem PySem.W PyProof.Rows
local macro_rules | `(tactic| walk_at "k_dg") => `(tactic| (refine' ⟨?a, ⟨_, L2.OZ ?l ?c⟩, ?k⟩; (case a => k_is); (case l => k_is); (case c => k_is); (case k => k_is)))
local macro_rules | `(tactic| walk_at "k_dm") => `(tactic| (refine' ⟨?a, ⟨_, L2.OZ ?l ?c⟩, ?k, ?i⟩; (case a => k_is); (case l => k_is); (case c => k_is); (case k => k_is); (case i => k_is)))
local macro_rules | `(tactic| walk_at "k_dt") => `(tactic| (refine' My.Xd ?l; (case l => k_is)))
local macro_rules | `(tactic| walk_at "k_ck") => `(tactic| (refine' ⟨?a, ?b, ?c, ?d, ?e, ?f, ?g⟩; (case a => k_is); (case b => k_is); (case c => k_is); (case d => k_is); (case e => k_is); (case f => k_is); (case g => k_is)))
set_option maxRecDepth 100000 in
set_option maxHeartbeats 0 in
theorem PySem.Challenge.cw_wakefew_k55_what_follows_holds : PySem.Challenge.rw_wakefew_k55_what_follows.Holds := by
 refine Hd ?_
 k_fill
 refine L2.Sb (l := PySem.Challenge.rw_wakefew_k55_what_follows) (n := 63) (k := 30) (x := "_law_script") (CX := L2.eU) (sp := My.R4) rfl (by decide) rfl ⟨rfl, by decide, by decide⟩ (fun w h Y => PySem.W.kIn_of Y) ?F ?S ?C
 case F =>
  intro w mg fa h KX G hmg
  have T : ∃ a : My.Ad, a.zk = a.zk /\ My.Txt (L2.KOf KX) mg a := by
   dsimp only [L2.KOf]
   refine' My.aa0 KX G ?h0 ?h1 ?h2 ?h3 ?h4 ?h5 ?h6 ?h7 ?h8 ?h11 ?h12 ?h13 ?h14 ?h15 ?h16 ?h17 ?h18 ?h19 ?h20 ?h21 ?h22 ?h23 ?h24 ?h25 ?h26 ?h27 ?h28 ?h29 ?h30 ?h31 ?h32 ?h33 ?h34 ?h35 ?h36 ?h37 ?h38 ?h39 ?h40 ?h41 ?h42 ?h43 ?h44 ?h45 ?h46 ?h47 ?h48 ?h49 ?h50 ?h51 ?h52 ?h53 ?h54 ?h55 ?h56 ?h57 ?h58 ?h59 ?h60 ?h61 ?h62 ?h63 ?h64 ?h65 ?h66 ?h67 ?h68 ?h69 ?h70 ?h71 ?h72 ?h73 ?h74 ?h75 ?h76 ?h77 ?h78 ?h79 ?h80 ?h81 ?h82 ?h83 ?h84 ?h85 ?h86 ?h87 ?h88 ?h89 ?h90 ?h91 ?h92 ?h93 ?h94 ?h95 ?h96 ?h97 ?h98 ?h99 ?h103 ?h104 ?h105 ?h106 ?h107 ?h108 ?h109 ?h110 ?h111 ?h112 ?h113 ?h114 ?h118 ?h119 ?h120 ?h121 ?h122 ?h123 ?h124 ?h125 ?h126 ?h127 ?h128 ?h129 ?h130 ?h131 ?h132 ?h133 ?h134 ?h135 ?h136 ?h137 ?h138 ?h139 ?h143 ?h144 ?h145 ?h146 ?h147 ?h148 ?h149 ?h150 ?h151 ?h152 ?h153 ?h154 ?h155 ?h156 ?h157 ?h158 ?h159 ?h160 ?h161 ?h162 ?h163 ?h164 ?h165 ?h166 ?h167 ?h168 ?h169 ?h170 ?h174 ?h175 ?h176 ?h177 ?h178 ?h179 ?h180 ?h181 ?h182 ?h183 ?h184 ?h185 ?h186 ?h187 ?h188 ?h189 ?h190 ?h191 ?h192 ?h193
   (case h0 => k_is)
   (case h1 => k_is)
   (case h2 => k_is)
   (case h3 => k_is)
   (case h4 => k_is)
   (case h5 => k_is)
   (case h6 => k_is)
   (case h7 => k_is)
   (case h8 => k_is)
   (case h11 => walk_at "k_dm")
   (case h12 => walk_at "k_dm")
   (case h13 => walk_at "k_dm")
   (case h14 => walk_at "k_dm")
   (case h15 => walk_at "k_dm")
   (case h16 => walk_at "k_dm")
   (case h17 => walk_at "k_dm")
   (case h18 => walk_at "k_dm")
   (case h19 => walk_at "k_dm")
   (case h20 => walk_at "k_dm")
   (case h21 => walk_at "k_dm")
   (case h22 => walk_at "k_dt")
   (case h23 => walk_at "k_dm")
   (case h24 => walk_at "k_dm")
   (case h25 => walk_at "k_dm")
   (case h26 => walk_at "k_dm")
   (case h27 => walk_at "k_dm")
   (case h28 => walk_at "k_dm")
   (case h29 => walk_at "k_dm")
   (case h30 => walk_at "k_dm")
   (case h31 => walk_at "k_dm")
   (case h32 => walk_at "k_dg")
   (case h33 => walk_at "k_dm")
   (case h34 => walk_at "k_dm")
   (case h35 => walk_at "k_dm")
   (case h36 => walk_at "k_dm")
   (case h37 => walk_at "k_dm")
   (case h38 => walk_at "k_dm")
   (case h39 => walk_at "k_dm")
   (case h40 => walk_at "k_dm")
   (case h41 => walk_at "k_dm")
   (case h42 => walk_at "k_dm")
   (case h43 => walk_at "k_dm")
   (case h44 => walk_at "k_dm")
   (case h45 => walk_at "k_dm")
   (case h46 => walk_at "k_dm")
   (case h47 => walk_at "k_dg")
   (case h48 => walk_at "k_dm")
   (case h49 => walk_at "k_dt")
   (case h50 => walk_at "k_dm")
   (case h51 => walk_at "k_dt")
   (case h52 => walk_at "k_dm")
   (case h53 => walk_at "k_dm")
   (case h54 => walk_at "k_dt")
   (case h55 => walk_at "k_dm")
   (case h56 => walk_at "k_dm")
   (case h57 => walk_at "k_dm")
   (case h58 => walk_at "k_dm")
   (case h59 => walk_at "k_dm")
   (case h60 => walk_at "k_dg")
   (case h61 => walk_at "k_dm")
   (case h62 => walk_at "k_dm")
   (case h63 => walk_at "k_dm")
   (case h64 => walk_at "k_dt")
   (case h65 => walk_at "k_dm")
   (case h66 => walk_at "k_dm")
   (case h67 => walk_at "k_dm")
   (case h68 => walk_at "k_dm")
   (case h69 => walk_at "k_dm")
   (case h70 => walk_at "k_dt")
   (case h71 => walk_at "k_dm")
   (case h72 => walk_at "k_dm")
   (case h73 => walk_at "k_dg")
   (case h74 => walk_at "k_dg")
   (case h75 => walk_at "k_dg")
   (case h76 => walk_at "k_dg")
   (case h77 => walk_at "k_dg")
   (case h78 => walk_at "k_dg")
   (case h79 => walk_at "k_dg")
   (case h80 => walk_at "k_dg")
   (case h81 => walk_at "k_dg")
   (case h82 => walk_at "k_dg")
   (case h83 => walk_at "k_ck")
   (case h84 => k_is)
   (case h85 => k_is)
   (case h86 => k_is)
   (case h87 => k_is)
   (case h88 => k_is)
   (case h89 => k_is)
   (case h90 => k_is)
   (case h91 => k_is)
   (case h92 => k_is)
   (case h93 => k_is)
   (case h94 => k_is)
   (case h95 => walk_at "k_ck")
   (case h96 => k_is)
   (case h97 => k_is)
   (case h98 => k_is)
   (case h99 => k_is)
   (case h103 => walk_at "k_ck")
   (case h104 => k_is)
   (case h105 => k_is)
   (case h106 => k_is)
   (case h107 => k_is)
   (case h108 => k_is)
   (case h109 => k_is)
   (case h110 => k_is)
   (case h111 => k_is)
   (case h112 => k_is)
   (case h113 => k_is)
   (case h114 => k_is)
   (case h118 => walk_at "k_ck")
   (case h119 => k_is)
   (case h120 => k_is)
   (case h121 => k_is)
   (case h122 => k_is)
   (case h123 => k_is)
   (case h124 => k_is)
   (case h125 => k_is)
   (case h126 => k_is)
   (case h127 => k_is)
   (case h128 => k_is)
   (case h129 => k_is)
   (case h130 => k_is)
   (case h131 => k_is)
   (case h132 => k_is)
   (case h133 => k_is)
   (case h134 => k_is)
   (case h135 => k_is)
   (case h136 => k_is)
   (case h137 => k_is)
   (case h138 => k_is)
   (case h139 => k_is)
   (case h143 => walk_at "k_ck")
   (case h144 => k_is)
   (case h145 => k_is)
   (case h146 => k_is)
   (case h147 => k_is)
   (case h148 => k_is)
   (case h149 => k_is)
   (case h150 => k_is)
   (case h151 => walk_at "k_ck")
   (case h152 => k_is)
   (case h153 => k_is)
   (case h154 => k_is)
   (case h155 => k_is)
   (case h156 => k_is)
   (case h157 => k_is)
   (case h158 => k_is)
   (case h159 => k_is)
   (case h160 => k_is)
   (case h161 => k_is)
   (case h162 => decide)
   (case h163 => decide)
   (case h164 => decide)
   (case h165 => decide)
   (case h166 => decide)
   (case h167 => decide)
   (case h168 => decide)
   (case h169 => decide)
   (case h170 => decide)
   (case h174 => k_is)
   (case h175 => k_is)
   (case h176 => k_is)
   (case h177 => k_is)
   (case h178 => k_is)
   (case h179 => k_is)
   (case h180 => k_is)
   (case h181 => k_is)
   (case h182 => k_is)
   (case h183 => k_is)
   (case h184 => k_is)
   (case h185 => k_is)
   (case h186 => k_is)
   (case h187 => k_is)
   (case h188 => k_is)
   (case h189 => k_is)
   (case h190 => k_is)
   (case h191 => k_is)
   (case h192 => k_is)
   (case h193 => k_is)
  obtain ⟨a, _, T⟩ := T
  have e0 := hmg.symm.trans T.Ss
  cases e0
  exact ⟨a.K4, fun s u => My.P1 T s u, fun base kb nb => (My.abZ T).mono (by decide)⟩
 case S => exact fun K H l ns hl hO hS => ⟨l, ns, rfl, hS, hl, fun _ => rfl⟩
 case C => exact fun H s e s' h => h
