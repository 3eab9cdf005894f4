import PyProof.Rows.All
import Wide.All
import OpenK.AllK
import Wide.FinOn
import KE.KLam
import Open.Tops
import PyProof.EqAt
import PyProof.EqKinds
import PyProof.TupleCall
import OpenK.KRaise
import OpenK.KOwn
import KE.KDictSum
import PyProof.Rows.SortWalk
import PyProof.EnumFor
import PyProof.SliceStr2
import PyProof.StrWalks
import KE.KIntText
import KE.IntTextLaws
import PyProof.ExcInit
import PyProof.ExcClass3
import PyProof.InstStore
import PyProof.StationsW
import PyProof.InstStoreFacts
import OpenK.KCls
import KE.KDictList
import PyProof.CompMap
import KE.KMinKey
import KE.KRevIter
import PySem.Challenge.RW_ledgerdb_k12_deep
set_option Elab.async false
set_option linter.all false
set_option maxRecDepth 100000
set_option maxHeartbeats 0
set_option genInjectivity false in
set_option genSizeOf false in
structure PySem.W.Fast where
 (tw6171274032486034451 tw15183986126101165608 tw9204464540718944311 tw9642193775215515153 tw14762801326424355684 tw17157289870432219043 tw13060395316570067539 tw7176150005372695777 tw5076749433065851788 tw13304941316378550394 tw10955269718887645651 tw7903582620332231040 tw2873225887400171369 tw12620254446904977224 tw17365912057619863957 tw14242239357600953707 tw17406292621627348556 tw1196951080140854464 tw11156362282756979572 tw8918293323929935133 tw14878675131190629217 tw4726434634497573406 tw14457225492522120904 tw3622731569942522672 tw7321845267190055189 tw15015943055956530332 tw268110397450477256 tw4277547154669653132 tw13686923705025611942 tw945205705366380424 tw14104631760497451543 tw11905855886186106407 tw15251802420107706883 tw14830243057727675743 tw4312639351286888846 tw14486483006673307015 tw673884470906257978 tw11229916937921292793 tw7734422627928808143 tw10065950018599725043 tw16583606824121049002 tw13490132831469404483 tw7081730353317820206 tw11432604229647796042 tw16518508606180541272 tw7720085002712422364 tw7109304239230145601 tw2942478435028352163 tw15187150993176017391 tw6728739836249207956 tw5223904022802346035 tw10560801616175773117 tw1545619508786869765 tw13119203260773381272 tw4838617858846037700 tw7409114612264169471 tw4575036890316884379 tw6527540071745776956 tw6749626473292870899 tw14896758979015641709 tw2979528940652620203 tw4326354919867635488 tw9208073576621473092 tw1411452317486209819 tw2257920095099825806 tw2317333912197953883 tw7481771631850210793 tw10462574796729461857 tw9039931458450257420 tw11621066932142932794 tw10529759686020245921 tw16503192171719919292 tw749035275084918322 tw7873397500351608191 tw14252549709394840440 tw10537078200517205311 tw15457542375691334749 tw9280291222239330764 tw12757115863251936390 tw8252901170061034703 tw15249567409456821778 tw13787336902628698422 tw18100310958821844762 tw16766735479952875133 tw14795023462697004713 tw16652531183590891640 tw9312003498661420303 tw1736720290060822282 tw4423721912259364174 tw4838829972060475201 tw15870489351166582794 tw8059498498621050679 tw12486137454211957698 tw12131696128801299827 tw6165588048573023438 tw6641048294517815102 tw8351142316247347264 tw16674122491574068379 tw16844666119174130978 tw18332381590758071506 tw1664477348681359999 tw16138904229008526433 tw18189149439462618435 tw15530305143918945064 tw9747678822692929857 tw7399277524342366578 tw15881184307464600982 tw16273521733602762717 tw2330484560729807875 tw10083554281478862376 tw2655177269059849940 tw10075595162301797473 tw2459015782820803585 tw1445589549620710054 tw13777131436035157820 tw444342051653696570 tw1707683253430161325 tw12558805843768754675 tw8343656957835850811 tw4765458058345893607 tw10505327409342051979 tw17897388124493959745 tw4543082148242352303 tw7279449900145747005 tw449937662051907507 tw10320150697189511412 tw4989198652919025647 tw14493726353996769137 tw18000516828655718562 tw10221937908277888392 tw3359481111665946103 tw4424506568416730724 tw3238642789509248907 tw8388338011675824843 tw2979653345398099944 tw17922763149357963475 tw7907569842483423622 tw4904114952367382179 tw3109699978104880100 tw12199699862140309885 tw3137753051270010478 tw10807860417398378552 tw2294469990381636096 tw11381270995225779816 tw10348372090784970287 tw8898358284777474989 tw1246689454019204588 tw17178444329529394582 tw7597071252366569111 tw17420182316418540651 tw18162752143244965829 tw2468679356238992351 tw9768195853046923257 tw6278116982967366203 tw18365882097887902214 tw11450833054555410333 tw15372278877529871028 tw11291801303701453850 tw11612379488767335989 tw3079901649569337584 tw11202377663534461132 tw14136028414236016912 tw7436338150984777776 tw3594758999155490812 tw1515777023650614295 tw16708061273709829020 tw2704100438263427993 tw18039732843014921683 tw10963619366963813405 tw15980183373976382208 tw12702955991488023484 tw10963193541124621259 tw7070415844080900226 tw1341319977470051366 tw15286501943150131106 tw2543876694409912387 tw10778015902301797019 tw7433767932512676409 tw1917163052412548677 tw8023782915707405005 tw11926129974437839931 tw16899752148089463069 tw11772948571846354575 tw15578630264040530772 tw7717734045396180044 tw8926468819558202982 tw10214403990302544859 tw2576250528985357412 tw11704994070972126259 tw9274078031705685240 tw16759775564428044697 tw15107408159886394712 tw16845947018064828530 tw15457876789450790999 tw17298414485023727687 tw8926942173540055228 tw11014739165967504202 tw3776253508301723486 tw9234210806061961136 tw4467651464649024115 tw10118688463552517247 tw13698987791475771719 tw9609790106882346482 tw12556757001819397310 tw4016190176624592212 tw2028238548659073103 tw17199540331169027057 tw9897061972547419266 tw713928482436579023 tw16187433322888507671 tw1716669632860372050 tw13044255554712642038 tw16922434217141095716 tw10948789297564228400 tw14061640806520850667 tw4318214604244769759 tw14858443639927525420 tw2482945354370457913 tw17585058262964158642 tw453053781585201766 tw12649696390912381546 tw6886689863669287245 tw16585172226633719217 tw11843155213083808652 tw8788488030926244107 tw15442985429166400774 tw5624167573660310833 tw1219627661766498303 tw8719254843698859068 tw1285552646979718532 tw16504676072831933194 tw6815460606168965944 tw16713186740348581782 tw7480577062194552205 tw8108221502989455686 tw2789855173484675292 tw5840944384053213513 tw10394686866061551250 tw15887939767700708147 tw15715543488000907349 tw11654103490798182934 tw16267214120026772717 tw12732952451157898991 tw10578713994012734608 tw1793727469664823493 tw2478082286977481569 tw2113573086688465779 tw14134482299954087113 tw11093423119474798589 tw733860336446820369 tw4974514752832871501 tw6471324709186885757 tw13485079060649158252 tw5780230592649343285 tw4587078030420133191 tw11446019376995339946 tw6055703507384873823 tw1071625784276874003 tw10593855042719858268 tw2839800795574417007 tw12350295750534432285 tw17178210973987809868 tw4072937735902743256 tw9869591847655784624 tw11693168530624784102 tw11022015895527851938 tw1947652932357013727 tw955100951608333761 tw16452278636462658210 tw1829338873715217826 tw16708271161065000740 tw7950254454623164459 tw12951714261794341551 tw3985183487165661887 tw16746644228945821269 tw12813238599877703081 tw17800845866662248976 tw13778296149807516973 tw2246048742522149228 tw7545372366784679702 tw8779665648656296043 tw1457218583283883661 tw2351627428226021135 tw3862716097475023544 tw2019975349714716284 tw10001985329781855389 tw2336138622992380897 tw17738083450564302345 tw18172476939264214730 tw651598383070133993 tw7794796846812513330 tw17130311295069866501 tw5905577201975168622 tw3003457956078679557 tw2128413774279983169 tw7172757500641730133 tw8763726180704208820 tw266143579783338713 tw16026766121120834703 tw5762398326192692775 tw15814355231351490683 tw17527358709971698543 tw8358580950631776151 tw7409085332004217535 tw12758662672806760641 tw8738131235443172286 tw16976592257518520752 tw268550931370566524 tw11396158441324998714 tw11992824316810748382 tw1983762131506293281 tw14308846397223186904 tw10735805444858340995 tw10383624179891500952 tw17827553938760410661 tw5527798338528246163 tw4441678509940363723 tw7513590554500353916 tw7892324887343421068 tw16333027880605382135 tw11109482333357160417 tw4607957390647081746 tw5895512881298941744 tw3770117368242560078 tw1883752628641950118 tw11896192864791852098 tw10890561590795579492 tw14118327603294570839 tw33150070602278090 tw2363309816749749416 tw5719539762750429375 tw10112520243045061088 tw3269022065886404020 tw3278341831885945180 tw9085238708859591515 tw9407830264055544420 tw12485334417552831592 tw12004097450339678346 tw41444726355735287 tw17168138100024006645 tw1248741956504309139 tw4805588618164055473 tw14608033519636183500 tw4569797443891626432 tw7228595616099405682 tw13121499843608035136 tw7596916999656095830 tw12777741766945448523 tw9955216195745162563 tw8020152950197836117 tw13891296051760690016 tw10637453712792654881 tw17684804709717762703 tw703095512751642265 tw2452311427642810754 tw8208124389071059812 tw10288536894969951542 tw1051561838023179850 tw16330203919051232706 tw6498186281722668315 tw8524281031731006400 tw1809512866636065989 tw1174010879229724119 tw17650755612090092394 tw6006687377857498168 tw4065979917048192546 tw16391886824340325340 tw12540144468605481244 tw11409576284399440429 tw628085777187736000 tw16670475607651057665 tw18287251825122361909 tw17710190119627978361 tw13932673927372059751 tw10218757818583578697 tw1789976289065811048 tw18074287957067809915 tw16337185866493441099 tw17003131235883335762 tw4199589988640688650 tw11219875359261391485 tw5379317765992086882 tw5849352850781314725 tw14195892737666451913 tw13835225059066615509 tw8509426281151134086 tw5874107010028508645 tw17855805287211222099 tw11103489851726568839 tw15682122847769476808 tw3555260544279317180 tw10726780319779317175 tw3400499289558111460 tw4721751760252384449 tw8073477145869498385 tw12414625705383988021 tw6140049268227602329 tw11547884395822254613 tw10123365016626359621 tw15658656102567300884 tw17983884790543704707 tw10382523486466096645 tw15839017718981482876 tw1355219932607936541 tw16211954640008847954 tw11563397611371748244 tw8230630283103317237:Nat)
open_shared h for PySem.Challenge.pw_ledgerdb_k12_deep leaving 0
namespace HH
open PySem PySem.W PySem.Calls PyProof.Rows h
abbrev p:Program:=PySem.Challenge.pw_ledgerdb_k12_deep
noncomputable abbrev b:=behindTheImports p
noncomputable abbrev cd:Code:=.body b env_1
abbrev q0:Pos:=⟨0,0,0,0⟩
abbrev q1:Pos:=⟨932,0,950,49⟩
abbrev ann:Option Value:=some (.ref 6)
abbrev B:=[topFrame q0]
abbrev tb:=treeTable
noncomputable abbrev S0 (w:World) (os:OsState):Shared:=⟨boot_heap w.params,Array.mk [],boot_drawn,boot_toks,os⟩
noncomputable abbrev Sb (w:World) (os:OsState):Shared:=SharedT.abs ⟨tree_4 w.params,15,{},Array.mk [],{},187,os⟩
noncomputable abbrev H1 (P:Params):Heap:=absHeap (tree_1418 P) 1331 {}
noncomputable abbrev Sk (w:World) (os:OsState):Shared:=⟨H1 w.params,Array.mk [],{},2115,os⟩
variable (w:World) (os:OsState)
noncomputable def preL:Option (Shared×Thread)×Option (Shared×Thread):=(topGo tb p w 11 ann 12 (S0 w os) (topStub p),some (Sb w os,⟨denote tb cd,cd,q0,B⟩))
theorem preE:@preL=@preL:=rfl
name_quick preQ for HH.preL by HH.preE
theorem pre:(preL w os).1=(preL w os).2:=by rw [Fast.preQ_eq]; kernel_rfl
theorem blk:segRun tb p w 11 ann 1 1 (Sb w os) (blockOf b env_1 cd q0 B)=some (.next,Sb w os,cd,q0):=by kernel_rfl
noncomputable def finL:Option Shared:=topRun tb p w 11 ann 2 (Sk w os) (restOf [] env_1 cd q1 B)
theorem finE:@finL=@finL:=rfl
name_quick finQ for HH.finL by HH.finE
theorem fin:finL w os=some (Sk w os):=(congrFun (congrFun Fast.finQ_eq w) os).trans (by kernel_rfl)
theorem run:topRun tb p w 11 ann (12+(1+9432)) (S0 w os) (topStub p)=some (Sk w os):=by
 refine go_top (pre w os) (piece_block (blk w os) ?_)
 refine Eq.mp ?_ (h.chain p b w os [] 2 (Sk w os) (fin w os))
 kernel_rfl
theorem opn:∀ w:World,(fencedOpening tb p w 18928).map (fun s=>(s.heap,s.gens,s.drawn,s.toks))=some (boot_heap w.params,Array.mk [],boot_drawn,boot_toks):=boot_open (by kernel_rfl) (by decide) fun s=>by kernel_rfl
theorem siz:((boot_heap w.params).isNs mainGlobals&&(Array.mk []:Array GenState).size==0,(boot_heap w.params).objs.size,(boot_heap w.params).nsMap mainGlobals "__annotations__")=(true,11,ann):=by kernel_rfl
noncomputable def q:Program:={p with main:={p.main with body:=p.main.body.drop 214}}
noncomputable def loose:List Str:="_wall"::"LedgerError"::"Dead"::"NoPage"::"NoBase"::"WrongWord"::"Constraint"::"NoRoom"::"NAME"::"KEPT"::"NUMBER_words"::"TEXT_words"::"SIGN"::"WRONG"::"KEPT_WORDS"::"LONG_SIGNS"::"SHORT_SIGNS"::"BETWEEN_WORDS"::"QUOTE"::"MOST_FIGURES"::"split_words"::"skip_blanks"::"find_end"::"skip_name_signs"::"find_text_end"::"make_word"::"make_number"::"make_text"::"is_name_sign"::"is_letter"::"is_figure"::"CREATE"::"DROP"::"INSERT"::"UPDATE"::"DELETE"::"SELECT"::"BEGIN"::"COMMIT"::"ROLLBACK"::"ROLLBACK_TO"::"SAVEPOINT"::"VALUE"::"COLUMN"::"ONE"::"TWO"::"INT_COLUMN"::"TEXT_COLUMN"::"COMPARING_SIGNS"::"MOST_WITHIN"::"END"::"Statement"::"Reader"::"read_statement"::"read_create"::"read_column"::"read_column_reading"::"read_drop"::"read_insert"::"read_update"::"read_change"::"read_delete"::"read_select"::"read_begin"::"read_commit"::"read_rollback"::"read_savepoint"::"STATEMENT_READERS"::"read_list"::"read_where"::"read_expression"::"read_or"::"read_and"::"read_not"::"read_comparison"::"read_sum"::"read_product"::"read_minus"::"enter_all"::"leave_all"::"read_last"::"COMPARISONS"::"truth_of"::"number_of"::"join_and"::"join_or"::"turn_about"::"add"::"subtract"::"multiply"::"negate"::"are_numbers"::"keep_small"::"is_null"::"is_not_null"::"order_key"::"compare"::"find_side"::"OPERATORS_OF_ONE"::"OPERATORS_OF_TWO"::"apply_two"::"reckon"::"MOST_SIGNS"::"Column"::"Table"::"make_table"::"insert_row"::"update_rows"::"delete_rows"::"select_rows"::"name_values"::"judge_rows"::"order_rows"::"make_result"::"change_row"::"with_rows"::"check_row"::"column_takes"::"check_unique"::"MOST_TABLES"::"MOST_COLUMNS"::"MOST_EXPRESSIONS"::"MOST_ROWS"::"MOST_MARKS"::"Verdict"::"judge"::"find_refusal"::"fits_transaction"::"find_wrong_names"::"find_made_twice"::"tell_missing"::"tell_repeated"::"list_columns"::"list_expressions"::"lacks_room"::"find_mark"::"carry_out"::"change_table"::"with_table"::"without_table"::"BASE"::"SIGNS"::"NULL"::"NUMBER_codes"::"NUMBER_BELOW_0"::"TEXT_codes"::"Tape"::"write_digits"::"read_digits"::"write_state"::"read_state"::"write_table"::"read_table"::"write_column"::"read_column_codes"::"read_row"::"write_value"::"read_value"::"write_text"::"read_text"::"write_whole"::"read_whole"::"MOST_NUMBERS"::"LARGEST_NUMBER"::"page_takes"::"Disk"::"FEWEST_PAGES"::"HEADS"::"NO_PAGE"::"HEAD_BEGIN"::"TURN_WIDTH"::"PAGE_WIDTH"::"Head"::"Store"::"make_ready"::"find_store"::"keep_state"::"put_numbers"::"check_size"::"find_head"::"read_head"::"next_head"::"put_head"::"split_numbers"::"choose_pages"::"put_parts"::"DEAD_REPLY"::"Base"::"format_disk"::"open_base"::"run"::"settle"::"go_back"::"change"::"_law_cell"::"_law_mix"::"_law_whole"::"_law_wholes"::"_law_like"::"_law_answer"::"_law_reply"::"_law_new"::[]
noncomputable def lkL:=((staticsOk (importedModules p.main.body) (boot_heap w.params) (H1 w.params)&&namesBound p (H1 w.params)&&gensDone (Sk w os)&&laidKept (boot_heap w.params) (H1 w.params)),true)
theorem lkE:@lkL=@lkL:=rfl
name_quick lkQ for HH.lkL by HH.lkE
theorem lk:(lkL w os).1=(lkL w os).2:=by rw [Fast.lkQ_eq]; kernel_rfl
noncomputable def lmL:=(openSeen q loose (importedModules p.main.body) (fun _=>true) true (Sk w os),openGood q loose)
theorem lmE:@lmL=@lmL:=rfl
name_quick lmQ for HH.lmL by HH.lmE
theorem lm:(lmL w os).1=(lmL w os).2:=by rw [Fast.lmQ_eq]; kernel_rfl
noncomputable def K:Params→Frag:=fun P=>(nat_lit 2,boot_o_2 P)::(nat_lit 3,o_1351 P)::(nat_lit 20,o_12 P)::(nat_lit 21,o_13 P)::(nat_lit 30,o_22 P)::(nat_lit 31,o_117 P)::(nat_lit 32,o_24 P)::(nat_lit 43,o_39 P)::(nat_lit 44,o_40 P)::(nat_lit 55,o_55 P)::(nat_lit 56,o_56 P)::(nat_lit 67,o_71 P)::(nat_lit 68,o_72 P)::(nat_lit 83,o_91 P)::(nat_lit 84,o_92 P)::(nat_lit 86,o_94 P)::(nat_lit 87,o_95 P)::(nat_lit 98,o_110 P)::(nat_lit 99,o_111 P)::(nat_lit 110,o_126 P)::(nat_lit 111,o_127 P)::(nat_lit 114,o_130 P)::(nat_lit 115,o_131 P)::(nat_lit 116,o_132 P)::(nat_lit 117,o_133 P)::(nat_lit 123,o_142 P)::(nat_lit 124,o_143 P)::(nat_lit 130,o_149 P)::(nat_lit 131,o_150 P)::(nat_lit 137,o_156 P)::(nat_lit 138,o_157 P)::(nat_lit 144,o_163 P)::(nat_lit 145,o_164 P)::(nat_lit 151,o_170 P)::(nat_lit 152,o_171 P)::(nat_lit 158,o_177 P)::(nat_lit 159,o_178 P)::(nat_lit 163,o_182 P)::(nat_lit 164,o_183 P)::(nat_lit 170,o_189 P)::(nat_lit 171,o_190 P)::(nat_lit 177,o_196 P)::(nat_lit 178,o_197 P)::(nat_lit 184,o_203 P)::(nat_lit 185,o_204 P)::(nat_lit 191,o_210 P)::(nat_lit 192,o_211 P)::(nat_lit 193,o_215 P)::(nat_lit 206,o_228 P)::(nat_lit 207,o_229 P)::(nat_lit 209,o_231 P)::(nat_lit 210,o_232 P)::(nat_lit 211,o_233 P)::(nat_lit 212,o_234 P)::(nat_lit 227,o_252 P)::(nat_lit 228,o_253 P)::(nat_lit 234,o_259 P)::(nat_lit 235,o_260 P)::(nat_lit 241,o_266 P)::(nat_lit 242,o_267 P)::(nat_lit 248,o_273 P)::(nat_lit 249,o_274 P)::(nat_lit 255,o_280 P)::(nat_lit 256,o_281 P)::(nat_lit 262,o_287 P)::(nat_lit 263,o_288 P)::(nat_lit 269,o_294 P)::(nat_lit 270,o_295 P)::(nat_lit 276,o_301 P)::(nat_lit 277,o_302 P)::(nat_lit 283,o_308 P)::(nat_lit 284,o_309 P)::(nat_lit 290,o_315 P)::(nat_lit 291,o_316 P)::(nat_lit 297,o_322 P)::(nat_lit 298,o_323 P)::(nat_lit 300,o_325 P)::(nat_lit 301,o_326 P)::(nat_lit 302,o_327 P)::(nat_lit 303,o_328 P)::(nat_lit 311,o_339 P)::(nat_lit 312,o_340 P)::(nat_lit 318,o_346 P)::(nat_lit 319,o_347 P)::(nat_lit 325,o_353 P)::(nat_lit 326,o_354 P)::(nat_lit 332,o_360 P)::(nat_lit 333,o_361 P)::(nat_lit 339,o_367 P)::(nat_lit 340,o_368 P)::(nat_lit 346,o_374 P)::(nat_lit 347,o_375 P)::(nat_lit 353,o_381 P)::(nat_lit 354,o_382 P)::(nat_lit 360,o_388 P)::(nat_lit 361,o_389 P)::(nat_lit 367,o_395 P)::(nat_lit 368,o_396 P)::(nat_lit 374,o_402 P)::(nat_lit 375,o_403 P)::(nat_lit 381,o_409 P)::(nat_lit 382,o_410 P)::(nat_lit 388,o_416 P)::(nat_lit 389,o_417 P)::(nat_lit 395,o_423 P)::(nat_lit 396,o_424 P)::(nat_lit 397,o_428 P)::(nat_lit 403,o_434 P)::(nat_lit 404,o_435 P)::(nat_lit 410,o_441 P)::(nat_lit 411,o_442 P)::(nat_lit 417,o_448 P)::(nat_lit 418,o_449 P)::(nat_lit 424,o_455 P)::(nat_lit 425,o_456 P)::(nat_lit 431,o_462 P)::(nat_lit 432,o_463 P)::(nat_lit 438,o_469 P)::(nat_lit 439,o_470 P)::(nat_lit 445,o_476 P)::(nat_lit 446,o_477 P)::(nat_lit 452,o_488 P)::(nat_lit 453,o_489 P)::(nat_lit 459,o_495 P)::(nat_lit 460,o_496 P)::(nat_lit 466,o_502 P)::(nat_lit 467,o_503 P)::(nat_lit 473,o_509 P)::(nat_lit 474,o_510 P)::(nat_lit 480,o_516 P)::(nat_lit 481,o_517 P)::(nat_lit 487,o_523 P)::(nat_lit 488,o_524 P)::(nat_lit 489,o_525 P)::(nat_lit 501,o_537 P)::(nat_lit 502,o_538 P)::(nat_lit 508,o_544 P)::(nat_lit 509,o_545 P)::(nat_lit 515,o_556 P)::(nat_lit 516,o_557 P)::(nat_lit 522,o_563 P)::(nat_lit 523,o_564 P)::(nat_lit 529,o_570 P)::(nat_lit 530,o_571 P)::(nat_lit 536,o_577 P)::(nat_lit 537,o_578 P)::(nat_lit 543,o_584 P)::(nat_lit 544,o_585 P)::(nat_lit 550,o_591 P)::(nat_lit 551,o_592 P)::(nat_lit 557,o_598 P)::(nat_lit 558,o_599 P)::(nat_lit 564,o_605 P)::(nat_lit 565,o_606 P)::(nat_lit 571,o_612 P)::(nat_lit 572,o_613 P)::(nat_lit 578,o_619 P)::(nat_lit 579,o_620 P)::(nat_lit 585,o_626 P)::(nat_lit 586,o_627 P)::(nat_lit 592,o_633 P)::(nat_lit 593,o_634 P)::(nat_lit 599,o_640 P)::(nat_lit 600,o_641 P)::(nat_lit 606,o_650 P)::(nat_lit 607,o_651 P)::(nat_lit 608,o_652 P)::(nat_lit 609,o_653 P)::(nat_lit 615,o_659 P)::(nat_lit 616,o_660 P)::(nat_lit 622,o_666 P)::(nat_lit 623,o_667 P)::(nat_lit 636,o_685 P)::(nat_lit 637,o_686 P)::(nat_lit 639,o_688 P)::(nat_lit 640,o_689 P)::(nat_lit 641,o_690 P)::(nat_lit 642,o_691 P)::(nat_lit 657,o_709 P)::(nat_lit 658,o_710 P)::(nat_lit 660,o_712 P)::(nat_lit 661,o_713 P)::(nat_lit 662,o_714 P)::(nat_lit 663,o_715 P)::(nat_lit 669,o_721 P)::(nat_lit 670,o_722 P)::(nat_lit 674,o_726 P)::(nat_lit 675,o_727 P)::(nat_lit 679,o_731 P)::(nat_lit 680,o_732 P)::(nat_lit 684,o_736 P)::(nat_lit 685,o_737 P)::(nat_lit 689,o_741 P)::(nat_lit 690,o_742 P)::(nat_lit 694,o_746 P)::(nat_lit 695,o_747 P)::(nat_lit 699,o_754 P)::(nat_lit 700,o_755 P)::(nat_lit 706,o_761 P)::(nat_lit 707,o_762 P)::(nat_lit 711,o_766 P)::(nat_lit 712,o_767 P)::(nat_lit 718,o_773 P)::(nat_lit 719,o_774 P)::(nat_lit 723,o_778 P)::(nat_lit 724,o_779 P)::(nat_lit 730,o_785 P)::(nat_lit 731,o_786 P)::(nat_lit 737,o_792 P)::(nat_lit 738,o_793 P)::(nat_lit 744,o_799 P)::(nat_lit 745,o_800 P)::(nat_lit 758,o_816 P)::(nat_lit 759,o_817 P)::(nat_lit 761,o_819 P)::(nat_lit 762,o_820 P)::(nat_lit 763,o_821 P)::(nat_lit 764,o_822 P)::(nat_lit 772,o_830 P)::(nat_lit 773,o_831 P)::(nat_lit 779,o_837 P)::(nat_lit 780,o_838 P)::(nat_lit 786,o_844 P)::(nat_lit 787,o_845 P)::(nat_lit 791,o_849 P)::(nat_lit 792,o_850 P)::(nat_lit 796,o_854 P)::(nat_lit 797,o_855 P)::(nat_lit 801,o_862 P)::(nat_lit 802,o_863 P)::(nat_lit 808,o_869 P)::(nat_lit 809,o_870 P)::(nat_lit 813,o_874 P)::(nat_lit 814,o_875 P)::(nat_lit 818,o_879 P)::(nat_lit 819,o_880 P)::(nat_lit 825,o_886 P)::(nat_lit 826,o_887 P)::(nat_lit 830,o_891 P)::(nat_lit 831,o_892 P)::(nat_lit 837,o_898 P)::(nat_lit 838,o_899 P)::(nat_lit 844,o_905 P)::(nat_lit 845,o_906 P)::(nat_lit 851,o_912 P)::(nat_lit 852,o_913 P)::(nat_lit 858,o_919 P)::(nat_lit 859,o_920 P)::(nat_lit 872,o_936 P)::(nat_lit 873,o_937 P)::(nat_lit 879,o_943 P)::(nat_lit 880,o_944 P)::(nat_lit 886,o_950 P)::(nat_lit 887,o_951 P)::(nat_lit 893,o_957 P)::(nat_lit 894,o_958 P)::(nat_lit 896,o_960 P)::(nat_lit 897,o_961 P)::(nat_lit 898,o_962 P)::(nat_lit 899,o_963 P)::(nat_lit 907,o_971 P)::(nat_lit 908,o_972 P)::(nat_lit 914,o_978 P)::(nat_lit 915,o_979 P)::(nat_lit 921,o_988 P)::(nat_lit 922,o_989 P)::(nat_lit 928,o_995 P)::(nat_lit 929,o_996 P)::(nat_lit 935,o_1002 P)::(nat_lit 936,o_1003 P)::(nat_lit 940,o_1007 P)::(nat_lit 941,o_1008 P)::(nat_lit 947,o_1014 P)::(nat_lit 948,o_1015 P)::(nat_lit 954,o_1021 P)::(nat_lit 955,o_1022 P)::(nat_lit 959,o_1026 P)::(nat_lit 960,o_1027 P)::(nat_lit 966,o_1033 P)::(nat_lit 967,o_1034 P)::(nat_lit 973,o_1040 P)::(nat_lit 974,o_1041 P)::(nat_lit 978,o_1045 P)::(nat_lit 979,o_1046 P)::(nat_lit 983,o_1050 P)::(nat_lit 984,o_1051 P)::(nat_lit 990,o_1057 P)::(nat_lit 991,o_1058 P)::(nat_lit 997,o_1064 P)::(nat_lit 998,o_1065 P)::(nat_lit 1002,o_1072 P)::(nat_lit 1003,o_1073 P)::(nat_lit 1014,o_1087 P)::(nat_lit 1015,o_1088 P)::(nat_lit 1021,o_1094 P)::(nat_lit 1022,o_1095 P)::(nat_lit 1028,o_1101 P)::(nat_lit 1029,o_1102 P)::(nat_lit 1035,o_1108 P)::(nat_lit 1036,o_1109 P)::(nat_lit 1042,o_1115 P)::(nat_lit 1043,o_1116 P)::(nat_lit 1049,o_1122 P)::(nat_lit 1050,o_1123 P)::(nat_lit 1056,o_1129 P)::(nat_lit 1057,o_1130 P)::(nat_lit 1063,o_1136 P)::(nat_lit 1064,o_1137 P)::(nat_lit 1070,o_1143 P)::(nat_lit 1071,o_1144 P)::(nat_lit 1077,o_1150 P)::(nat_lit 1078,o_1151 P)::(nat_lit 1080,o_1153 P)::(nat_lit 1081,o_1154 P)::(nat_lit 1082,o_1155 P)::(nat_lit 1083,o_1156 P)::(nat_lit 1086,o_1162 P)::(nat_lit 1087,o_1163 P)::(nat_lit 1100,o_1176 P)::(nat_lit 1101,o_1177 P)::(nat_lit 1103,o_1179 P)::(nat_lit 1104,o_1180 P)::(nat_lit 1105,o_1181 P)::(nat_lit 1106,o_1182 P)::(nat_lit 1121,o_1200 P)::(nat_lit 1122,o_1201 P)::(nat_lit 1124,o_1203 P)::(nat_lit 1125,o_1204 P)::(nat_lit 1126,o_1205 P)::(nat_lit 1127,o_1206 P)::(nat_lit 1135,o_1214 P)::(nat_lit 1136,o_1215 P)::(nat_lit 1142,o_1221 P)::(nat_lit 1143,o_1222 P)::(nat_lit 1149,o_1228 P)::(nat_lit 1150,o_1229 P)::(nat_lit 1156,o_1235 P)::(nat_lit 1157,o_1236 P)::(nat_lit 1163,o_1242 P)::(nat_lit 1164,o_1243 P)::(nat_lit 1168,o_1250 P)::(nat_lit 1169,o_1251 P)::(nat_lit 1175,o_1257 P)::(nat_lit 1176,o_1258 P)::(nat_lit 1182,o_1264 P)::(nat_lit 1183,o_1265 P)::(nat_lit 1189,o_1271 P)::(nat_lit 1190,o_1272 P)::(nat_lit 1194,o_1276 P)::(nat_lit 1195,o_1277 P)::(nat_lit 1199,o_1281 P)::(nat_lit 1200,o_1282 P)::(nat_lit 1206,o_1288 P)::(nat_lit 1207,o_1289 P)::(nat_lit 1208,o_1290 P)::(nat_lit 1221,o_1306 P)::(nat_lit 1222,o_1307 P)::(nat_lit 1224,o_1309 P)::(nat_lit 1225,o_1310 P)::(nat_lit 1226,o_1311 P)::(nat_lit 1227,o_1312 P)::(nat_lit 1235,o_1320 P)::(nat_lit 1236,o_1321 P)::(nat_lit 1242,o_1327 P)::(nat_lit 1243,o_1328 P)::(nat_lit 1249,o_1334 P)::(nat_lit 1250,o_1335 P)::(nat_lit 1256,o_1341 P)::(nat_lit 1257,o_1342 P)::(nat_lit 1263,o_1348 P)::(nat_lit 1264,o_1349 P)::(nat_lit 1270,o_1358 P)::(nat_lit 1271,o_1359 P)::(nat_lit 1277,o_1365 P)::(nat_lit 1278,o_1366 P)::(nat_lit 1284,o_1372 P)::(nat_lit 1285,o_1373 P)::(nat_lit 1291,o_1379 P)::(nat_lit 1292,o_1380 P)::(nat_lit 1303,o_1391 P)::(nat_lit 1304,o_1392 P)::(nat_lit 1308,o_1396 P)::(nat_lit 1309,o_1397 P)::(nat_lit 1315,o_1403 P)::(nat_lit 1316,o_1404 P)::(nat_lit 1322,o_1410 P)::(nat_lit 1323,o_1411 P)::(nat_lit 1329,o_1417 P)::(nat_lit 1330,o_1418 P)::[]
noncomputable def as:List Addr:=[2,3,20,21,30,31,32,43,44,55,56,67,68,83,84,86,87,98,99,110,111,114,115,116,117,123,124,130,131,137,138,144,145,151,152,158,159,163,164,170,171,177,178,184,185,191,192,193,206,207,209,210,211,212,227,228,234,235,241,242,248,249,255,256,262,263,269,270,276,277,283,284,290,291,297,298,300,301,302,303,311,312,318,319,325,326,332,333,339,340,346,347,353,354,360,361,367,368,374,375,381,382,388,389,395,396,397,403,404,410,411,417,418,424,425,431,432,438,439,445,446,452,453,459,460,466,467,473,474,480,481,487,488,489,501,502,508,509,515,516,522,523,529,530,536,537,543,544,550,551,557,558,564,565,571,572,578,579,585,586,592,593,599,600,606,607,608,609,615,616,622,623,636,637,639,640,641,642,657,658,660,661,662,663,669,670,674,675,679,680,684,685,689,690,694,695,699,700,706,707,711,712,718,719,723,724,730,731,737,738,744,745,758,759,761,762,763,764,772,773,779,780,786,787,791,792,796,797,801,802,808,809,813,814,818,819,825,826,830,831,837,838,844,845,851,852,858,859,872,873,879,880,886,887,893,894,896,897,898,899,907,908,914,915,921,922,928,929,935,936,940,941,947,948,954,955,959,960,966,967,973,974,978,979,983,984,990,991,997,998,1002,1003,1014,1015,1021,1022,1028,1029,1035,1036,1042,1043,1049,1050,1056,1057,1063,1064,1070,1071,1077,1078,1080,1081,1082,1083,1086,1087,1100,1101,1103,1104,1105,1106,1121,1122,1124,1125,1126,1127,1135,1136,1142,1143,1149,1150,1156,1157,1163,1164,1168,1169,1175,1176,1182,1183,1189,1190,1194,1195,1199,1200,1206,1207,1208,1221,1222,1224,1225,1226,1227,1235,1236,1242,1243,1249,1250,1256,1257,1263,1264,1270,1271,1277,1278,1284,1285,1291,1292,1303,1304,1308,1309,1315,1316,1322,1323,1329,1330]
theorem ase (P:Params):as=(K P).map (·.1):=by kernel_rfl
noncomputable abbrev H:Hook:=kmHook K as ase [1166]
theorem get_at (t:BT) (n:Nat) (l:Life) (a:Nat) (h:a<n):(absHeap t n l).get? a=alive ((t.get a).getD default):=by
 unfold Heap.get?
 rw [absHeap_at,if_pos h]
 generalize (t.get a).getD default=o
 obtain ⟨c,d,dt,sl⟩:=o
 cases dt<;>rfl
theorem obs:H.obs (Sk w os)=H.val w:=by
 show (as.map (H1 w.params).get?,[1166].map (H1 w.params).get?)=((K w.params).map fun p=>some p.2,[1166].map fun _=>some (tabObj #[]))
 refine looks_pair ((List.map_congr_left (g:=fun a=>alive (((tree_1418 w.params).get a).getD default)) fun a h=>get_at _ _ _ a ?_).trans ?_) ((List.map_congr_left (g:=fun a=>alive (((tree_1418 w.params).get a).getD default)) fun a h=>get_at _ _ _ a ?_).trans ?_)
 · have:as.all (Nat.blt · 1331)=true:=by kernel_rfl
   exact Nat.le_of_ble_eq_true (List.all_eq_true.mp this a h)
 · kernel_rfl
 · cases h with | head=>decide | tail _ h=>cases h
 · kernel_rfl
theorem left:LeftO p q loose (fun _=>true) H.obs H.val 18928:=LeftO.of_pieces (H₁:=H1) opn siz run (by decide) fun w=>funext fun os=>looks_pair (lk w os) (looks_pair (lm w os) (obs w os))
noncomputable def d:DefRec:=((defOf q "law").get (by kernel_rfl)).1
theorem dn:d.name="law":=by kernel_rfl
theorem top (said:PySem.Challenge.rw_ledgerdb_k12_deep.row.wellSaid=true) (hc:WalkO q loose (fun _ _=>True) H.says PySem.Challenge.rw_ledgerdb_k12_deep.row.toRowW d [] fun f vs=>PySem.call f vs):PySem.Challenge.rw_ledgerdb_k12_deep.row.Holds:=by
 refine holds_open (q:=q) (loose:=loose) (Xt:=fun _=>true) (XP:=fun _ _=>True) (Yf:=H.obs) (Ya:=H.val) (YP:=H.says) (N:=18928) left (Hook.of H) (Hook.keeps H) (fun _ _=>trivial) (fun _ _ _ _ _=>trivial) (by kernel_rfl) (by kernel_rfl) (by kernel_rfl) (fun s _=>recFacts_of rfl) (by rfl) said (by decide +kernel) ⟨rfl,rfl,rfl,rfl,rfl,by decide +kernel⟩ ?hw hc
 w_witness2
theorem law (hc:WalkO q loose (fun _ _=>True) H.says PySem.Challenge.rw_ledgerdb_k12_deep.row.toRowW d [] fun f vs=>PySem.call f vs):PySem.Challenge.rw_ledgerdb_k12_deep.Holds:=by
 w_on; o_law
 exact top ‹_› hc
end HH
namespace L2
open PySem PySem.Spec PyProof.Rows
abbrev Key:=Sum Int Str
def keyIs:Key→Value→Bool
 | .inl k,v=>Value.isInt k v
 | .inr x,v=>Value.isStrOf x v
def keyH (w:World):Key→Int
 | .inl k=>hashInt k
 | .inr x=>hashStr w x
theorem keyIs_shape:∀ {k:Key} {v:Value},keyIs k v = true→(∃ i t,k = Sum.inl i∧v = Value.int i t)∨(∃ x t,k = Sum.inr x∧v = Value.str x t)
 | .inl i,v,h=>by
  obtain ⟨t,e⟩:=Value.isInt_shape (k:=i) (v:=v) h
  exact .inl ⟨i,t,rfl,e⟩
 | .inr x,v,h=>by
  obtain ⟨t,e⟩:=Value.isStrOf_shape (x:=x) (v:=v) h
  exact .inr ⟨x,t,rfl,e⟩
theorem keyIs_int (i:Int) (t:Tok):keyIs (.inl i) (.int i t) = true:=by simp [keyIs,Value.isInt]
theorem keyIs_str (x:Str) (t:Tok):keyIs (.inr x) (.str x t) = true:=by simp [keyIs,Value.isStrOf]
theorem key_ll (a b:Int):decide ((Sum.inl a:Key) = Sum.inl b) = (a == b):=by
 by_cases e:a = b
 ·subst e; simp
 ·have h:¬ (Sum.inl a:Key) = Sum.inl b:=fun q=>e (Sum.inl.inj q)
  rw [decide_eq_false h]
  exact (beq_eq_false_iff_ne.mpr e).symm
theorem key_rr (a b:Str):decide ((Sum.inr a:Key) = Sum.inr b) = decide (a = b):=by
 by_cases e:a = b
 ·subst e; simp
 ·have h:¬ (Sum.inr a:Key) = Sum.inr b:=fun q=>e (Sum.inr.inj q)
  rw [decide_eq_false h,decide_eq_false e]
theorem key_lr (a:Int) (b:Str):decide ((Sum.inl a:Key) = Sum.inr b) = false:=decide_eq_false (fun q=>nomatch q)
theorem key_rl (a:Str) (b:Int):decide ((Sum.inr a:Key) = Sum.inl b) = false:=decide_eq_false (fun q=>nomatch q)
def mixKind (prog:Program) (w:World):PySem.KeyKind prog w Key where
 is:=keyIs
 hash:=keyH w
 inj:=fun v a b ha hb=>by
  rcases keyIs_shape ha with ⟨i,t,rfl,rfl⟩ | ⟨x,t,rfl,rfl⟩
  ·rcases keyIs_shape hb with ⟨j,u,rfl,e⟩ | ⟨y,u,rfl,e⟩
   ·injection e with e1 _; rw [e1]
   ·exact nomatch e
  ·rcases keyIs_shape hb with ⟨j,u,rfl,e⟩ | ⟨y,u,rfl,e⟩
   ·exact nomatch e
   ·injection e with e1 _; rw [e1]
 byValue:=fun k v h=>by
  rcases keyIs_shape h with ⟨i,t,rfl,rfl⟩ | ⟨x,t,rfl,rfl⟩ <;> rfl
 pyHash:=fun hv h=>by
  rcases keyIs_shape hv with ⟨i,t,rfl,rfl⟩ | ⟨x,t,rfl,rfl⟩
  ·exact wpAny_pyHash_int h
  ·exact wpAny_pyHash_str h
 eqBool:=fun hu hv h=>by
  rcases keyIs_shape hu with ⟨i,t,rfl,rfl⟩ | ⟨x,t,rfl,rfl⟩
  ·rcases keyIs_shape hv with ⟨j,u,rfl,rfl⟩ | ⟨y,u,rfl,rfl⟩
   ·rw [key_ll] at h; exact wpAny_eqBool_int h
   ·rw [key_lr] at h; exact SeqAt.EqAt.int_str i t y u _ _ _ _ h
  ·rcases keyIs_shape hv with ⟨j,u,rfl,rfl⟩ | ⟨y,u,rfl,rfl⟩
   ·rw [key_rl] at h; exact SeqAt.EqAt.str_int x t j u _ _ _ _ h
   ·rw [key_rr] at h; exact wpAny_eqBool_str h
 «strs»:=fun k x t v h=>by
  rcases keyIs_shape h with ⟨i,u,rfl,e⟩ | ⟨y,u,rfl,e⟩
  ·exact nomatch e
  ·injection e with e1 _
   subst e1
   cases v <;> rfl
theorem mixKind_int (prog:Program) (w:World) (i:Int) (t:Tok):(mixKind prog w).is (.inl i) (.int i t) = true:=keyIs_int i t
theorem mixKind_str (prog:Program) (w:World) (x:Str) (t:Tok):(mixKind prog w).is (.inr x) (.str x t) = true:=keyIs_str x t
inductive V where
 | non | bl (b:Bool) | int (i:Int) | str (x:Str) | byt (b:Array UInt8) | flt (b:UInt64) | ref (a:Addr) | ty (n:String)
 deriving DecidableEq
def RelV:V→Value→Prop
 | .non,u=>u = Value.none
 | .bl b,u=>u = Value.bool b
 | .int i,u=>∃ t,u = Value.int i t
 | .str x,u=>∃ t,u = Value.str x t
 | .byt b,u=>∃ t,u = Value.bytes b t
 | .flt b,u=>∃ t,u = Value.float b t
 | .ref a,u=>u = Value.ref a
 | .ty n,u=>u = Value.type n
abbrev Vals:List V→List Value→Prop:=Paired RelV
theorem Vals.length {xs:List V} {us:List Value} (r:Vals xs us):xs.length = us.length:=Paired.length r
theorem Vals.get:∀ {xs:List V} {us:List Value} {i:Nat} {x:V},Vals xs us→xs[i]? = some x→∃ u,us[i]? = some u∧RelV x u
 | _,_,_,_,.nil,e=>by simp at e
 | _,_,0,_,.cons r _,e=>by simp at e; subst e; exact ⟨_,rfl,r⟩
 | _,_,i + 1,x,.cons _ t,e=>by
  obtain ⟨u,h1,h2⟩:=Vals.get (i:=i) (x:=x) t (by simpa using e)
  exact ⟨u,by simpa using h1,h2⟩
theorem Vals.set {x:V} {u:Value} (r:RelV x u):∀ {xs:List V} {us:List Value} (i:Nat),Vals xs us→Vals (xs.set i x) (us.set i u)
 | _,_,_,.nil=>.nil
 | _,_,0,.cons _ t=>.cons r t
 | _,_,i + 1,.cons q t=>.cons q (Vals.set r i t)
theorem Vals.append:∀ {xs ys:List V} {us ws:List Value},Vals xs us→Vals ys ws→Vals (xs ++ ys) (us ++ ws)
 | _,_,_,_,.nil,s=>s
 | _,_,_,_,.cons r t,s=>.cons r (Vals.append t s)
theorem Vals.take:∀ {xs:List V} {us:List Value} (n:Nat),Vals xs us→Vals (xs.take n) (us.take n)
 | _,_,0,_=>.nil
 | _,_,_ + 1,.nil=>.nil
 | _,_,n + 1,.cons r t=>.cons r (Vals.take n t)
theorem Vals.drop:∀ {xs:List V} {us:List Value} (n:Nat),Vals xs us→Vals (xs.drop n) (us.drop n)
 | _,_,0,r=>r
 | _,_,_ + 1,.nil=>.nil
 | _,_,n + 1,.cons _ t=>Vals.drop n t
def RelO:Option V→Option Value→Prop
 | some v,some u=>RelV v u
 | none,none=>True
 | _,_=>False
def KV {κ:Type}:List (κ × V)→List (κ × Value)→Prop:=Paired fun (p:κ × V) (q:κ × Value)=>p.1 = q.1∧RelV p.2 q.2
def kV:Key→V
 | .inl i=>.int i
 | .inr x=>.str x
inductive HO where
 /-- a list -/
 | lst (xs:List V)
 /-- a tuple (never changes) -/
 | tup (xs:List V)
 /-- a dict whose keys are ints and texts; one whose keys are tuples of ints and texts (the empty one is both) -/
 | dK (kvs:List (Key × V)) | dT (kvs:List (List Key × V))
 /-- a set of ints: its members,its size -/
 | set (S:Int→Bool) (n:Nat)
 /-- an instance of the class at C,its dict at dx,its attributes -/
 | ins (C dx:Addr) (fs:List (Str × V))
 /-- the dict of the instance at x -/
 | own (x:Addr)
 /-- the dict of an exception -/
 | xd (fs:List (Str × V))
 /-- a bound method,f of x -/
 | met (f x:Addr)
 /-- a range object lo,lo + 1,.. below hi -/
 | rng (lo hi:Int)
 /-- a thing that is known to the object (the script; a dict while a loop walks it): read,never written while it is so -/
 | frz (o:Obj) (u:HO)
 /-- a code object's table -/
 | tbl (ps:Array Value)
 /-- any other thing,by what is true of its one object (a def of one's own: SetO a S n:=HO.ext fun h=>..) -/
 | ext (φ:Heap→Prop)
abbrev Hp:=Addr→Option HO
def upd (H:Hp) (a:Addr) (o:HO):Hp:=fun b=>if b = a then some o else H b
theorem upd_same {H:Hp} {a:Addr} {o:HO}:upd H a o a = some o:=by unfold upd; rw [if_pos rfl]
theorem upd_ne {H:Hp} {a b:Addr} {o:HO} (h:b ≠ a):upd H a o b = H b:=by unfold upd; rw [if_neg h]
theorem upd_upd {H:Hp} {a:Addr} {o u:HO}:upd (upd H a o) a u = upd H a u:=by
 funext b; unfold upd; split <;> rfl
theorem ne_of {H:Hp} {a b:Addr} {o u:HO} (h:H a = some o) (h':H b = some u) (d:o ≠ u):a ≠ b:=by
 intro e; subst e; rw [h] at h'; exact d (Option.some.inj h')
theorem ne_of_none {H:Hp} {a b:Addr} {o:HO} (h:H a = some o) (h':H b = none):a ≠ b:=by
 intro e; subst e; rw [h] at h'; cases h'
section
variable (P:Program) (w:World)
def ObjOk (H:Hp) (h:Heap) (a:Addr):HO→Prop
 | .lst xs=>xs.length ≤ sizeLine∧∃ (its:List Value) (n:Nat),Vals xs its∧h.get? a = some { cls:=.type "list",data:=.seq its.toArray n }
 | .tup xs=>xs.length ≤ sizeLine∧∃ its:List Value,Vals xs its∧IsTup h a its.toArray
 | .dK kvs=>kvs.length ≤ sizeLine∧(a == sysModules) = false∧∃ vs,KV kvs vs∧h.DictOf (mixKind P w) a vs
 | .dT kvs=>kvs.length ≤ sizeLine∧(a == sysModules) = false∧∃ xs:List (List Key × Addr × Value),
   Paired (fun (p:List Key × V) (q:List Key × Addr × Value)=>p.1 = q.1∧H q.2.1 = some (.tup (p.1.map kV))∧RelV p.2 q.2.2) kvs xs ∧
   ∃ o es ep,h.get? a = some o∧o.ExactDict∧o.data = .dict es ep∧es.toList = xs.map (entryOfKey (tupleKind (mixKind P w)))∧(xs.map (·.1)).Nodup
 | .set S n=>h.SetOf (intKind P w) a S n
 | .ins C dx fs=>H dx = some (.own a)∧fs.length ≤ 1000∧dx ≠ a∧h.get? a = some (PySem.W.instObj C dx) ∧
   ∃ mA,h.Ns1 dx mA∧(∀ f,RelO (fs.lookup f) (mA f))∧PySem.Within mA (fs.map (·.1))
 | .own _=>∃ o,h.get? a = some o
 | .xd fs=>∃ mA,h.Ns1 a mA∧∀ f,RelO (fs.lookup f) (mA f)
 | .rng lo hi=>∃ t u v,h.get? a = some { cls:=.type "range",data:=.fields #[.int lo t,.int hi u,.int 1 v] }
 | .frz o u=>h.get? a = some o∧ObjOk H h a u
 | .tbl ps=>h.get? a = some { cls:=.none,data:=.fields ps }
 | .met f x=>h.get? a = some (PySem.W.methodObj (.ref f) (.ref x))
 | .ext φ=>φ h∧(∃ o,h.get? a = some o)∧∀ h1 h2:Heap,φ h1→(∀ o,h1.get? a = some o→h2.get? a = some o)→φ h2
def HOk (H:Hp) (h:Heap):Prop:=∀ a o,H a = some o→ObjOk P w H h a o
end
section
variable {P:Program} {w:World} {H H':Hp} {h h':Heap} {a:Addr} {o:HO}
theorem ObjOk.lt (x:ObjOk P w H h a o):a < h.objs.size:=by
 cases o with
 | lst xs=>obtain ⟨_,_,_,_,e⟩:=x; exact Heap.lt_size e
 | tup xs=>obtain ⟨_,_,_,p⟩:=x; exact p.lt
 | dK kvs=>obtain ⟨_,_,_,_,o,_,_,e,_⟩:=x; exact Heap.lt_size e
 | dT kvs=>obtain ⟨_,_,_,_,o,_,_,e,_⟩:=x; exact Heap.lt_size e
 | set S n=>obtain ⟨o,_,_,_,e,_⟩:=x; exact Heap.lt_size e
 | ins C dx fs=>obtain ⟨_,_,_,e,_⟩:=x; exact Heap.lt_size e
 | own y=>obtain ⟨_,e⟩:=x; exact Heap.lt_size e
 | xd fs=>obtain ⟨_,⟨_,_,_,e,_⟩,_⟩:=x; exact Heap.lt_size e
 | rng lo hi=>obtain ⟨_,_,_,e⟩:=x; exact Heap.lt_size e
 | frz ob u=>obtain ⟨e,_⟩:=x; exact Heap.lt_size e
 | tbl ps=>exact Heap.lt_size (show h.get? a = some _ from x)
 | met f y=>exact Heap.lt_size (show h.get? a = some _ from x)
 | ext φ=>obtain ⟨_,⟨_,e⟩,_⟩:=x; exact Heap.lt_size e
theorem Paired.mapP {α β:Type} {F G:α→β→Prop}:∀ {l₁:List α} {l₂:List β},Paired F l₁ l₂→(∀ a b,F a b→G a b)→Paired G l₁ l₂
 | _,_,.nil,_=>.nil
 | _,_,.cons r t,f=>.cons (f _ _ r) (Paired.mapP t f)
theorem Paired.imp' {α β:Type} {F G:α→β→Prop} (f:∀ a b,F a b→G a b) {l₁:List α} {l₂:List β} (r:Paired F l₁ l₂):Paired G l₁ l₂:=Paired.mapP r f
theorem ObjOk.stay (x:ObjOk P w H h a o) (k:∀ b u,(b = a∨H b = some (.own a))→h.get? b = some u→h'.get? b = some u)
  (ho:∀ b,H b = some (.own a)→H' b = some (.own a)) (ht:∀ b xs,H b = some (.tup xs)→H' b = some (.tup xs)):ObjOk P w H' h' a o:=by
 induction o with
 | lst xs=>obtain ⟨z,its,n,r,e⟩:=x; exact ⟨z,its,n,r,k _ _ (.inl rfl) e⟩
 | tup xs=>obtain ⟨z,its,r,ob,e,c⟩:=x; exact ⟨z,its,r,ob,k _ _ (.inl rfl) e,c⟩
 | dK kvs=>obtain ⟨z,y,vs,r,ob,es,ep,e,c⟩:=x; exact ⟨z,y,vs,r,ob,es,ep,k _ _ (.inl rfl) e,c⟩
 | dT kvs =>
  obtain ⟨z,y,xs,r,ob,es,ep,e,c⟩:=x
  exact ⟨z,y,xs,Paired.mapP r fun p q z=>⟨z.1,ht _ _ z.2.1,z.2.2⟩,ob,es,ep,k _ _ (.inl rfl) e,c⟩
 | set S n=>obtain ⟨ob,es,ep,t,e,c⟩:=x; exact ⟨ob,es,ep,t,k _ _ (.inl rfl) e,c⟩
 | ins C dx fs =>
  obtain ⟨d,z,ne,e,mA,⟨od,es,ep,e2,c⟩,r⟩:=x
  exact ⟨ho _ d,z,ne,k _ _ (.inl rfl) e,mA,⟨od,es,ep,k _ _ (.inr d) e2,c⟩,r⟩
 | own y=>obtain ⟨ob,e⟩:=x; exact ⟨ob,k _ _ (.inl rfl) e⟩
 | xd fs=>obtain ⟨mA,⟨od,es,ep,e,c⟩,r⟩:=x; exact ⟨mA,⟨od,es,ep,k _ _ (.inl rfl) e,c⟩,r⟩
 | rng lo hi=>obtain ⟨t,u,v,e⟩:=x; exact ⟨t,u,v,k _ _ (.inl rfl) e⟩
 | frz ob u ih=>obtain ⟨e,q⟩:=x; exact ⟨k _ _ (.inl rfl) e,ih q⟩
 | tbl ps =>
  have e:h.get? a = some { cls:=.none,data:=.fields ps }:=x
  show h'.get? a = some { cls:=.none,data:=.fields ps }
  exact k a _ (.inl rfl) e
 | met f y =>
  have e:h.get? a = some (PySem.W.methodObj (.ref f) (.ref y)):=x
  show h'.get? a = some (PySem.W.methodObj (.ref f) (.ref y))
  exact k a _ (.inl rfl) e
 | ext φ=>obtain ⟨p,⟨o,e⟩,st⟩:=x; exact ⟨st _ _ p fun o q=>k _ _ (.inl rfl) q,⟨o,k _ _ (.inl rfl) e⟩,st⟩
theorem HOk.lt (x:HOk P w H h) (e:H a = some o):a < h.objs.size:=(x a o e).lt
theorem HOk.fresh (x:HOk P w H h) (e:h.objs.size ≤ a):H a = none:=by
 cases q:H a with
 | none=>rfl
 | some u=>exact absurd (Nat.lt_of_lt_of_le (x.lt q) e) (Nat.lt_irrefl _)
theorem HOk.kept (x:HOk P w H h) (k:∀ b u,h.get? b = some u→h'.get? b = some u):HOk P w H h':=fun a o e =>
 (x a o e).stay (fun b u _ q=>k b u q) (fun _ q=>q) fun _ _ q=>q
theorem HOk.laid (x:HOk P w H h) (k:∀ b u,h.get? b = some u→h'.get? b = some u) (hp:h.objs.size ≤ a) (new:ObjOk P w (upd H a o) h' a o):HOk P w (upd H a o) h':=fun b u e=>by
 have hn:=x.fresh hp
 by_cases hb:b = a
 ·subst hb; rw [upd_same] at e; cases e; exact new
 ·rw [upd_ne hb] at e
  exact (x b u e).stay (fun c v _ q=>k c v q) (fun c q=>by rw [upd_ne (ne_of_none q hn)]; exact q) fun c xs q=>by rw [upd_ne (ne_of_none q hn)]; exact q
end
def Rd (H:Hp) (a:Addr) (u:HO):Prop:=H a = some u∨∃ o,H a = some (.frz o u)
theorem Rd.ok {P:Program} {w:World} {H:Hp} {h:Heap} {a:Addr} {u:HO} (r:Rd H a u) (x:HOk P w H h):ObjOk P w H h a u:=by
 rcases r with r | ⟨o,r⟩
 ·exact x a u r
 ·obtain ⟨_,q⟩:=x a _ r
  exact q
def Mut:Option HO→Prop
 | some (.lst _)=>True
 | some (.dK _)=>True
 | some (.dT _)=>True
 | some (.set _ _)=>True
 | some (.ins _ _ _)=>True
 | some (.ext _)=>True
 | _=>False
section
variable {P:Program} {w:World} {H:Hp} {h h':Heap} {x e:Addr} {o':HO}
theorem HOk.write (ok:HOk P w H h) (mu:Mut (H x)) (he:e = x∨H e = some (.own x)) (k:∀ b u,b ≠ e→h.get? b = some u→h'.get? b = some u) (heo:∃ u,h'.get? e = some u)
  (new:ObjOk P w (upd H x o') h' x o'):HOk P w (upd H x o') h':=fun b u q=>by
 have nown:∀ c y,H c = some (.own y)→c ≠ x:=fun c y r z=>by subst z; rw [r] at mu; exact mu
 have ntup:∀ c xs,H c = some (.tup xs)→c ≠ x:=fun c xs r z=>by subst z; rw [r] at mu; exact mu
 by_cases hb:b = x
 ·subst hb; rw [upd_same] at q; cases q; exact new
 ·rw [upd_ne hb] at q
  by_cases hbe:b = e
  ·have q':H b = some (.own x):=by
    rcases he with z | z
    ·exact absurd (hbe.trans z) hb
    ·rw [hbe]; exact z
   rw [q] at q'; cases q'
   obtain ⟨v,hv⟩:=heo
   exact ⟨v,by rw [hbe]; exact hv⟩
  ·refine (ok b u q).stay (fun c v hc r=>k c v ?_ r) (fun c r=>by rw [upd_ne (nown c b r)]; exact r) fun c xs r=>by rw [upd_ne (ntup c xs r)]; exact r
   rcases hc with rfl | hc
   ·exact hbe
   ·rintro rfl
    rcases he with z | z
    ·exact nown c b hc z
    ·rw [hc] at z; cases z; exact hb rfl
end
structure Un (fs ex:List Addr) (H H':Hp) (h h':Heap):Prop where
 keep:∀ b o,h.get? b = some o→H b = none→b ∉ fs→b ∉ ex→h'.get? b = some o
 slot:∀ b o,h.get? b = some o→H b = none→b ∈ fs→b ∉ ex→∃ sl,h'.get? b = some { o with slots:=sl }
 free:∀ b o,h.get? b = some o→H b = none→b ∉ ex→H' b = none
 there:∀ b o,h.get? b = some o→b ∉ ex→∃ o',h'.get? b = some o'
 tups:∀ b xs,H b = some (.tup xs)→H' b = some (.tup xs)
 frzs:∀ b o u,H b = some (.frz o u)→H' b = some (.frz o u)
 tbls:∀ b ps,H b = some (.tbl ps)→∃ more,H' b = some (.tbl (ps ++ more))
section
variable {fs fs' ex ex':List Addr} {H H1 H2:Hp} {h h1 h2 h':Heap} {a x e:Addr} {o:HO}
theorem Un.any (u:Un fs ex H H1 h h1) {b:Addr} {ob:Obj} (q:h.get? b = some ob) (n:H b = none) (hx:b ∉ ex):∃ sl,h1.get? b = some { ob with slots:=sl }:=by
 by_cases hb:b ∈ fs
 ·exact u.slot b ob q n hb hx
 ·exact ⟨ob.slots,u.keep b ob q n hb hx⟩
theorem Un.kept (k:∀ b u,h.get? b = some u→h'.get? b = some u):Un fs ex H H h h' :=
 ⟨fun b ob q _ _ _=>k b ob q,fun b ob q _ _ _=>⟨ob.slots,k b ob q⟩,fun _ _ _ n _=>n,fun b ob q _=>⟨ob,k b ob q⟩,fun _ _ q=>q,fun _ _ _ q=>q,fun _ ps q=>⟨#[],by rw [q]; simp⟩⟩
theorem Un.refl:Un fs ex H H h h:=Un.kept fun _ _ q=>q
theorem Un.laid (k:∀ b u,h.get? b = some u→h'.get? b = some u) (hp:h.objs.size ≤ a) (hn:H a = none):Un fs ex H (upd H a o) h h' where
 keep:=fun b u q _ _ _=>k b u q
 slot:=fun b u q _ _ _=>⟨u.slots,k b u q⟩
 free:=fun b u q n _=>by rw [upd_ne (Nat.ne_of_lt (Nat.lt_of_lt_of_le (Heap.lt_size q) hp))]; exact n
 there:=fun b u q _=>⟨u,k b u q⟩
 tups:=fun b xs q=>by rw [upd_ne (ne_of_none q hn)]; exact q
 frzs:=fun b u xs q=>by rw [upd_ne (ne_of_none q hn)]; exact q
 tbls:=fun b ps q=>⟨#[],by rw [upd_ne (ne_of_none q hn),q]; simp⟩
theorem Un.write (mu:Mut (H x)) (he:e = x∨H e = some (.own x)) (k:∀ b u,b ≠ e→h.get? b = some u→h'.get? b = some u) (heo:∃ u,h'.get? e = some u):Un fs ex H (upd H x o) h h':=by
 have hx:∀ b,H b = none→b ≠ x:=fun b n z=>by subst z; rw [n] at mu; exact mu
 have hb:∀ b,H b = none→b ≠ e:=fun b n z=>by
  subst z
  rcases he with r | r
  ·exact hx b n r
  ·rw [n] at r; cases r
 have hm:∀ b u,H b = some u→¬ Mut (some u)→b ≠ x:=fun b u q nm z=>by subst z; rw [q] at mu; exact nm mu
 refine ⟨fun b u q n _ _=>k b u (hb b n) q,fun b u q n _ _=>⟨u.slots,k b u (hb b n) q⟩,fun b u q n _=>by rw [upd_ne (hx b n)]; exact n,fun b u q _=>?_,
  fun b xs q=>by rw [upd_ne (hm b _ q fun z=>z)]; exact q,fun b u xs q=>by rw [upd_ne (hm b _ q fun z=>z)]; exact q,fun b ps q=>⟨#[],by rw [upd_ne (hm b _ q fun z=>z),q]; simp⟩⟩
 by_cases hbe:b = e
 ·subst hbe; exact heo
 ·exact ⟨u,k b u hbe q⟩
end
def trk (h:Heap) (H:Hp):List Addr:=(List.range h.objs.size).filter fun a=>(H a).isSome
def hidT (h:Heap) (H:Hp):Heap:=PySem.W.hideAll h (trk h H)
theorem hidT_size (h:Heap) (H:Hp):(hidT h H).objs.size = h.objs.size:=PySem.W.hideAll_size _ _
theorem hidT_get {h:Heap} {H:Hp} {b:Addr} {o:Obj} (e:h.get? b = some o) (n:H b = none):(hidT h H).get? b = some o :=
 PySem.W.hideAll_get _ e fun hm=>by
  have q:(H b).isSome = true:=(List.mem_filter.mp hm).2
  rw [n] at q; simp at q
theorem of_hidT {h:Heap} {H:Hp} {b:Addr} {o:Obj} (e:(hidT h H).get? b = some o):h.get? b = some o∧H b = none:=by
 have e':h.get? b = some o:=PySem.W.of_hideAll (trk h H) e
 refine ⟨e',?_⟩
 cases q:H b with
 | none=>rfl
 | some x =>
  have hm:b ∈ trk h H:=List.mem_filter.mpr ⟨List.mem_range.mpr (Heap.lt_size e'),by simp [q]⟩
  have z:(hidT h H).get? b = none:=PySem.W.hideAll_none (trk h H) hm
  rw [z] at e; cases e
def allNews (g h:Heap) (L:Addr):List (Addr × Obj):=(List.range h.objs.size).filterMap fun a=>if a = L∨(g.get? a).isSome = true then none else (h.get? a).map fun o=>(a,o)
def rest (g h:Heap) (L d:Addr):List (Addr × Obj):=(allNews g h L).filter fun p=>decide (p.1 ≠ d)
structure Mod (K:PySem.W.Frag) (mg:Str→Option Value) (base:Heap):Prop where
 kin:K.In base
 glob:base.Ns mainGlobals mg
 blt:∃ mb,base.Ns builtinsNs mb∧∀ x:Str,x ≠ "__name__"→mb x = bootBuiltins x
 nolimit:base.NoLimit
structure Cx where
 prog:Program
 w:World
 K:PySem.W.Frag
 mg:Str→Option Value
 base:Heap
 A:Around
 N:List Str
 s₀:Shared
 H₀:Hp
 env:Env
 outer:List Env
 stack:List Env
 ex:List Addr
 fn:Str→Bool
 calm:Bool
 pn:List (Addr × Obj)
 xe:Value→Shared→Prop
def frs (l:List Env):List Addr:=l.filterMap (·.frame)
abbrev Cx.fs (X:Cx):List Addr:=frs X.outer
def Vis (sc:Scope) (x:Str):Prop:=sc.names.lookup x = some .local∨sc.names.lookup x = some .cell∨sc.names.lookup x = some .free
def Loc (sc:Scope) (x:Str):Prop:=sc.names.lookup x = some .local∨sc.names.lookup x = some .cell
def Look (env:Env) (h:Heap) (m:Str→Option Value) (x:Str) (u:Value):Prop :=
 (env.kindOf x = some .local∧m x = some u)∨((env.kindOf x = some .cell∨env.kindOf x = some .free)∧∃ c,env.cells.lookup x = some c∧h.IsCell c (some u))
structure Cx.Ok (X:Cx):Prop where
 mod:Mod X.K X.mg X.base
 kind:X.env.scope.kind = .function
 glob:X.env.globals = mainGlobals
 blt:X.env.builtins = builtinsNs
 above:X.s₀.heap.objs.size ≤ X.env.locals
 inj:∀ x y c,X.env.cells.lookup x = some c→X.env.cells.lookup y = some c→x = y
 has:∀ x,(X.env.kindOf x = some .cell∨X.env.kindOf x = some .free)→∃ c,X.env.cells.lookup x = some c
 cab:∀ x c,X.fn x = true→X.env.cells.lookup x = some c→X.s₀.heap.objs.size ≤ c
 hd:X.calm = true→X.A.handled = none
 frames:X.A.frames = some X.stack
 stk:X.stack = X.outer∨(X.stack = X.env :: X.outer∧X.env.frame = some X.env.locals)
 exf:∀ b ∈ X.ex,b ≠ X.env.locals∧∀ x c,X.env.cells.lookup x = some c→c ≠ b
 bs:∀ b o,X.base.get? b = some o→X.s₀.heap.get? b = some o∧X.H₀ b = none
 bsz:X.base.objs.size ≤ X.s₀.heap.objs.size
 noex:∀ b o,X.base.get? b = some o→b ∉ X.ex
 exfs:∀ b ∈ X.ex,b ∉ X.fs
 funs:X.s₀.heap.FunFrames X.base X.outer
 frf:∀ b ∈ X.fs,X.H₀ b = none
structure Inv (X:Cx) (pins:List (Addr × Obj)) (σ:List (Option V)) (H:Hp) (s:Shared):Prop where
 ok:X.Ok
 os:s.os = X.s₀.os
 bare:AllBare s.gens
 base:Un X.fs X.ex X.H₀ H X.s₀.heap s.heap
 loc:∃ m,s.heap.Ns X.env.locals m∧∀ (i:Nat) (x:Str) (v:V),X.N[i]? = some x→σ[i]? = some (some v)→Vis X.env.scope x→∃ u,RelV v u∧Look X.env s.heap m x u
 cell:∀ x c,X.env.cells.lookup x = some c→∃ v,s.heap.IsCell c v
 free:H X.env.locals = none
 freeC:∀ x c,X.env.cells.lookup x = some c→H c = none
 pin:∀ p ∈ X.pn ++ pins,s.heap.get? p.1 = some p.2∧H p.1 = none∧p.1 ≠ X.env.locals∧p.1 ∉ X.fs∧∀ v,p.2.data ≠ .cell v
 hok:HOk X.prog X.w H s.heap
 len:σ.length = X.N.length
section
variable {X:Cx} {pins:List (Addr × Obj)} {σ:List (Option V)} {H H':Hp} {s:Shared} {h':Heap}
theorem Cx.Ok.nofr (ok:X.Ok) {b:Addr} {o:Obj} (e:X.base.get? b = some o):b ∉ X.fs:=fun hb=>by
 have:=(ok.funs.mem hb).1
 rw [e] at this; cases this
theorem Inv.bs (I:Inv X pins σ H s):∀ b o,X.base.get? b = some o→s.heap.get? b = some o∧H b = none:=fun b o e =>
 ⟨I.base.keep b o (I.ok.bs b o e).1 (I.ok.bs b o e).2 (I.ok.nofr e) (I.ok.noex b o e),I.base.free b o (I.ok.bs b o e).1 (I.ok.bs b o e).2 (I.ok.noex b o e)⟩
theorem Inv.bk (I:Inv X pins σ H s):∀ b o,X.base.get? b = some o→s.heap.get? b = some o:=fun b o e=>(I.bs b o e).1
theorem Inv.mod (I:Inv X pins σ H s):Mod X.K X.mg X.base:=I.ok.mod
theorem Inv.kIn (I:Inv X pins σ H s):X.K.In s.heap:=I.ok.mod.kin.keeps I.bk
theorem Inv.nolimit (I:Inv X pins σ H s):s.heap.NoLimit:=I.ok.mod.nolimit.keeps I.bk
theorem Inv.fr (I:Inv X pins σ H s):∃ m,Fr X.base X.env.locals s.heap m :=
 let ⟨m,hn,_⟩:=I.loc
 ⟨m,hn,I.bk,Nat.le_trans I.ok.bsz I.ok.above⟩
theorem Inv.lt (I:Inv X pins σ H s):X.env.locals < s.heap.objs.size:=let ⟨_,hn,_⟩:=I.loc; hn.lt
theorem Inv.sz (I:Inv X pins σ H s):X.s₀.heap.objs.size ≤ s.heap.objs.size:=Nat.le_trans I.ok.above (Nat.le_of_lt I.lt)
theorem Inv.nofs (I:Inv X pins σ H s) {a:Addr} (h:s.heap.objs.size ≤ a):a ∉ X.fs:=fun hb=>by
 obtain ⟨_,o,ho,_⟩:=I.ok.funs.mem hb
 exact absurd (Nat.lt_of_lt_of_le (Heap.lt_size ho) (Nat.le_trans I.sz h)) (Nat.lt_irrefl _)
theorem Inv.cne (I:Inv X pins σ H s):∀ x c,X.env.cells.lookup x = some c→c ≠ X.env.locals:=fun x c e z=>by
 obtain ⟨v,o,ho,hd⟩:=I.cell x c e
 obtain ⟨m,⟨o',es,ep,ho',hd',_⟩,_⟩:=I.loc
 rw [z,ho'] at ho; cases ho; rw [hd'] at hd; cases hd
theorem Inv.funs (I:Inv X pins σ H s):s.heap.FunFrames X.base X.outer:=by
 have all:∀ (l:List Env),(∀ b ∈ frs l,b ∈ X.fs)→X.s₀.heap.FunFrames X.base l→s.heap.FunFrames X.base l:=by
  intro l
  induction l with
  | nil=>intro _ _; trivial
  | cons env r ih =>
   intro hs hl
   obtain ⟨hk,⟨L,o,hf,hn,ho,hd⟩,hr⟩:=hl
   have hL:L ∈ X.fs:=hs L (by unfold frs; rw [List.filterMap_cons,hf]; exact List.mem_cons_self)
   obtain ⟨sl,e⟩:=I.base.slot L o ho (I.ok.frf L hL) hL fun z=>I.ok.exfs L z hL
   exact ⟨hk,⟨L,_,hf,hn,e,hd⟩,ih (fun b hb=>hs b (by unfold frs; rw [List.filterMap_cons,hf]; exact List.mem_cons_of_mem _ hb)) hr⟩
 exact all X.outer (fun _ hb=>hb) I.ok.funs
theorem Inv.stack (I:Inv X pins σ H s):s.heap.FunFrames X.base X.stack:=by
 rcases I.ok.stk with e | ⟨e,hf⟩
 ·rw [e]; exact I.funs
 ·rw [e]
  obtain ⟨m,hn,_⟩:=I.loc
  refine .cons (by rw [I.ok.kind]; decide) hf hn ?_ I.funs
  exact Heap.get?_none_of_le (Nat.le_trans I.ok.bsz I.ok.above)
theorem Inv.stkSub (I:Inv X pins σ H s):∀ b ∈ frs X.stack,b ∈ X.env.locals :: X.fs:=fun b hb=>by
 rcases I.ok.stk with e | ⟨e,hf⟩
 ·rw [e] at hb; exact List.mem_cons_of_mem _ hb
 ·rw [e] at hb
  unfold frs at hb
  rw [List.filterMap_cons,hf] at hb
  exact hb
theorem Inv.stkFree (I:Inv X pins σ H s):∀ b ∈ frs X.stack,H b = none:=fun b hb=>by
 rcases List.mem_cons.mp (I.stkSub b hb) with e | hb
 ·rw [e]; exact I.free
 ·obtain ⟨_,o,ho,_⟩:=I.ok.funs.mem hb
  exact I.base.free b o ho (I.ok.frf b hb) fun z=>I.ok.exfs b z hb
theorem Inv.step {g':Array GenState} {t':Nat} {d':Drawn} {ch:List Addr} (I:Inv X pins σ H s)
  (hch:∀ b ∈ ch,(b ∈ X.ex∨X.s₀.heap.objs.size ≤ b)∧b ≠ X.env.locals∧(∀ x c,X.env.cells.lookup x = some c→c ≠ b)∧∀ p ∈ X.pn ++ pins,p.1 ≠ b)
  (keep:∀ b o,b ≠ X.env.locals→b ∉ X.fs→b ∉ ch→s.heap.get? b = some o→H b = none→h'.get? b = some o)
  (slot:∀ b o,b ≠ X.env.locals→b ∈ X.fs→b ∉ ch→s.heap.get? b = some o→H b = none→∃ sl,h'.get? b = some { o with slots:=sl }) (free:∀ b o,b ∉ ch→s.heap.get? b = some o→H b = none→H' b = none)
  (there:∀ b o,b ∉ ch→s.heap.get? b = some o→∃ o',h'.get? b = some o')
  (tups:∀ b xs,H b = some (.tup xs)→H' b = some (.tup xs)) (frzs:∀ b o u,H b = some (.frz o u)→H' b = some (.frz o u)) (tbls:∀ b ps,H b = some (.tbl ps)→∃ more,H' b = some (.tbl (ps ++ more)))
  (ns:∀ m,s.heap.Ns X.env.locals m→h'.Ns X.env.locals m) (hok:HOk X.prog X.w H' h') (hg:AllBare g') :
  Inv X pins σ H' { s with heap:=h',gens:=g',drawn:=d',toks:=t' }:=by
 have neL:∀ b o,X.s₀.heap.get? b = some o→b ≠ X.env.locals:=fun b o e=>Nat.ne_of_lt (Nat.lt_of_lt_of_le (Heap.lt_size e) I.ok.above)
 have neC:∀ b o,X.s₀.heap.get? b = some o→b ∉ X.ex→b ∉ ch:=fun b o e hx hb=>by
  rcases (hch b hb).1 with z | z
  ·exact hx z
  ·exact absurd (Nat.lt_of_lt_of_le (Heap.lt_size e) z) (Nat.lt_irrefl _)
 have cellK:∀ x c,X.env.cells.lookup x = some c→∀ v,s.heap.IsCell c v→h'.IsCell c v:=fun x c e v ⟨o,ho,hd⟩=>by
  have nch:c ∉ ch:=fun z=>(hch c z).2.2.1 x c e rfl
  by_cases hc:c ∈ X.fs
  ·obtain ⟨sl,q⟩:=slot c o (I.cne x c e) hc nch ho (I.freeC x c e)
   exact ⟨_,q,hd⟩
  ·exact ⟨o,keep c o (I.cne x c e) hc nch ho (I.freeC x c e),hd⟩
 refine ⟨I.ok,I.os,hg,⟨fun b o e n hb hx=>?_,fun b o e n hb hx=>?_,fun b o e n hx=>?_,fun b o e hx=>?_,fun b xs e=>tups b xs (I.base.tups b xs e),fun b o xs e=>frzs b o xs (I.base.frzs b o xs e),fun b ps e=>?_⟩,?_,fun x c e=>?_,?_,fun x c e=>?_,fun p hp=>?_,hok,I.len⟩
 ·exact keep b o (neL b o e) hb (neC b o e hx) (I.base.keep b o e n hb hx) (I.base.free b o e n hx)
 ·obtain ⟨sl,e1⟩:=I.base.slot b o e n hb hx
  obtain ⟨sl',e2⟩:=slot b _ (neL b o e) hb (neC b o e hx) e1 (I.base.free b o e n hx)
  exact ⟨sl',e2⟩
 ·obtain ⟨o',e1⟩:=I.base.there b o e hx
  exact free b o' (neC b o e hx) e1 (I.base.free b o e n hx)
 ·obtain ⟨o',e1⟩:=I.base.there b o e hx
  exact there b o' (neC b o e hx) e1
 ·obtain ⟨m1,e1⟩:=I.base.tbls b ps e
  obtain ⟨m2,e2⟩:=tbls b _ e1
  exact ⟨m1 ++ m2,by rw [e2,Array.append_assoc]⟩
 ·obtain ⟨m,hn,hl⟩:=I.loc
  refine ⟨m,ns m hn,fun i x v e1 e2 e3=>?_⟩
  obtain ⟨u,r,l⟩:=hl i x v e1 e2 e3
  refine ⟨u,r,?_⟩
  rcases l with l | ⟨k,c,e,z⟩
  ·exact .inl l
  ·exact .inr ⟨k,c,e,cellK x c e _ z⟩
 ·obtain ⟨v,z⟩:=I.cell x c e
  exact ⟨v,cellK x c e v z⟩
 ·obtain ⟨m,⟨o,_,_,ho,_⟩,_⟩:=I.loc
  exact free _ o (fun z=>(hch _ z).2.1 rfl) ho I.free
 ·obtain ⟨v,o,ho,hd⟩:=I.cell x c e
  exact free c o (fun z=>(hch c z).2.2.1 x c e rfl) ho (I.freeC x c e)
 ·obtain ⟨e,n,ne,nf,d⟩:=I.pin p hp
  have nch:p.1 ∉ ch:=fun z=>(hch p.1 z).2.2.2 p hp rfl
  exact ⟨keep p.1 p.2 ne nf nch e n,free p.1 p.2 nch e n,ne,nf,d⟩
theorem Inv.un {t':Nat} (I:Inv X pins σ H s) (u:Un X.fs [] H H' s.heap h') (hok:HOk X.prog X.w H' h'):Inv X pins σ H' { s with heap:=h',toks:=t' }:=by
 obtain ⟨m,⟨o,es,ep,ho,r⟩,_⟩:=id I.loc
 obtain ⟨sl,hL⟩:=u.any ho I.free (by simp)
 exact I.step (g':=s.gens) (d':=s.drawn) (ch:=[]) (fun _ z=>nomatch z) (fun b o _ hb _ e n=>u.keep b o e n hb (by simp)) (fun b o _ hb _ e n=>u.slot b o e n hb (by simp)) (fun b o _ e n=>u.free b o e n (by simp)) (fun b o _ e=>u.there b o e (by simp)) u.tups u.frzs u.tbls (fun m' hm=>by
  obtain ⟨o',es',ep',ho',r'⟩:=hm
  rw [ho] at ho'; cases ho'
  exact ⟨_,es',ep',hL,r'⟩) hok I.bare
theorem Inv.call {g':Array GenState} {t':Nat} {d':Drawn} {ch:List Addr} (I:Inv X pins σ H s) (u:Un (frs X.stack) ch H H' s.heap h') (hok:HOk X.prog X.w H' h') (hg:AllBare g')
  (hch:∀ b ∈ ch,(b ∈ X.ex∨X.s₀.heap.objs.size ≤ b)∧b ≠ X.env.locals∧(∀ x c,X.env.cells.lookup x = some c→c ≠ b)∧∀ p ∈ X.pn ++ pins,p.1 ≠ b) :
  Inv X pins σ H' { s with heap:=h',gens:=g',drawn:=d',toks:=t' }:=by
 obtain ⟨m,⟨o,es,ep,ho,r⟩,_⟩:=id I.loc
 obtain ⟨sl,hL⟩:=u.any ho I.free fun z=>(hch _ z).2.1 rfl
 exact I.step (ch:=ch) hch (fun b o hL hb hc e n=>u.keep b o e n (fun z=>(List.mem_cons.mp (I.stkSub b z)).elim hL hb) hc) (fun b o _ _ hc e n=>u.any e n hc) (fun b o hc e n=>u.free b o e n hc) (fun b o hc e=>u.there b o e hc) u.tups u.frzs u.tbls (fun m' hm=>by
  obtain ⟨o',es',ep',ho',r'⟩:=hm
  rw [ho] at ho'; cases ho'
  exact ⟨_,es',ep',hL,r'⟩) hok hg
theorem Inv.turned {t':Nat} {it:Addr} (I:Inv X pins σ H s) (k:∀ b o,b ≠ it→s.heap.get? b = some o→h'.get? b = some o) (hn:H it = none) (hL:it ≠ X.env.locals)
  (h1:it ∈ X.ex∨X.s₀.heap.objs.size ≤ it) (h2:∀ x c,X.env.cells.lookup x = some c→c ≠ it) (h3:∀ p ∈ X.pn ++ pins,p.1 ≠ it):Inv X pins σ H { s with heap:=h',toks:=t' }:=by
 have nit:∀ b u,H b = some u→b ≠ it:=fun b u e z=>by rw [z,hn] at e; cases e
 refine I.step (g':=s.gens) (d':=s.drawn) (ch:=[it]) (fun b hb=>?_) (fun b o _ _ hc e _=>k b o (fun z=>hc (by simp [z])) e) (fun b o _ _ hc e _=>⟨o.slots,k b o (fun z=>hc (by simp [z])) e⟩) (fun _ _ _ _ n=>n)
  (fun b o hc e=>⟨o,k b o (fun z=>hc (by simp [z])) e⟩) (fun _ _ e=>e) (fun _ _ _ e=>e) (fun b ps e=>⟨#[],by rw [e]; simp⟩) (fun m hm=>?_) (fun b u e=>?_) I.bare
 ·have e:b = it:=by simpa using hb
  subst e
  exact ⟨h1,hL,h2,h3⟩
 ·obtain ⟨o,es,ep,ho,r⟩:=hm
  exact ⟨o,es,ep,k _ o (Ne.symm hL) ho,r⟩
 ·refine (I.hok b u e).stay (fun c v hc q=>k c v ?_ q) (fun _ q=>q) fun _ _ q=>q
  rcases hc with z | z
  ·rw [z]; exact nit b u e
  ·exact nit c _ z
theorem Inv.tok (I:Inv X pins σ H s) (t:Nat):Inv X pins σ H { s with toks:=t }:=I.un (h':=s.heap) (t':=t) Un.refl I.hok
theorem Inv.kept {t':Nat} (I:Inv X pins σ H s) (k:∀ b u,s.heap.get? b = some u→h'.get? b = some u):Inv X pins σ H { s with heap:=h',toks:=t' }:=I.un (Un.kept k) (I.hok.kept k)
theorem Inv.laid {a:Addr} {o:HO} {t':Nat} (I:Inv X pins σ H s) (k:∀ b u,s.heap.get? b = some u→h'.get? b = some u) (hp:s.heap.objs.size ≤ a) (new:ObjOk X.prog X.w (upd H a o) h' a o) :
  Inv X pins σ (upd H a o) { s with heap:=h',toks:=t' }:=I.un (Un.laid k hp (I.hok.fresh hp)) (I.hok.laid k hp new)
theorem Inv.write {x e:Addr} {o:HO} {t':Nat} (I:Inv X pins σ H s) (mu:Mut (H x)) (he:e = x∨H e = some (.own x)) (k:∀ b u,b ≠ e→s.heap.get? b = some u→h'.get? b = some u) (heo:∃ u,h'.get? e = some u)
  (new:ObjOk X.prog X.w (upd H x o) h' x o):Inv X pins σ (upd H x o) { s with heap:=h',toks:=t' }:=I.un (Un.write mu he k heo) (I.hok.write mu he k heo new)
theorem Inv.weak {σ':List (Option V)} (I:Inv X pins σ H s) (hl:σ'.length = σ.length) (w:∀ (i:Nat) v,σ'[i]? = some (some v)→σ[i]? = some (some v)):Inv X pins σ' H s :=
 ⟨I.ok,I.os,I.bare,I.base,let ⟨m,hn,hl'⟩:=I.loc; ⟨m,hn,fun i x v e1 e2 e3=>hl' i x v e1 (w i v e2) e3⟩,I.cell,I.free,I.freeC,I.pin,I.hok,hl.trans I.len⟩
theorem Inv.pins_of {pins':List (Addr × Obj)} (I:Inv X pins σ H s) (h:∀ p ∈ pins',s.heap.get? p.1 = some p.2∧H p.1 = none∧p.1 ≠ X.env.locals∧p.1 ∉ X.fs∧∀ v,p.2.data ≠ .cell v):Inv X pins' σ H s :=
 ⟨I.ok,I.os,I.bare,I.base,I.loc,I.cell,I.free,I.freeC,fun p hp=>(List.mem_append.mp hp).elim (fun z=>I.pin p (List.mem_append_left _ z)) (h p),I.hok,I.len⟩
theorem nodup_ix {N:List Str} (hN:N.Nodup) {i j:Nat} {x:Str} (a:N[i]? = some x) (b:N[j]? = some x):i = j:=by
 obtain ⟨h1,e1⟩:=List.getElem?_eq_some_iff.mp a
 obtain ⟨h2,e2⟩:=List.getElem?_eq_some_iff.mp b
 exact (List.getElem_inj hN).mp (e1.trans e2.symm)
theorem store_ok2 {M:Model} {A:Around} {E:Value→Shared→Prop} {i:Nat} {x:Str} {v:V} {u:Value} {Q:Unit→Shared→Prop} (I:Inv X pins σ H s) (hN:X.N.Nodup) (hi:X.N[i]? = some x) (hx:Loc X.env.scope x) (r:RelV v u)
  (h:∀ s',Inv X pins (σ.set i (some v)) H s'→(∃ a,Heap.SameBut a s.heap s'.heap∧(a = X.env.locals∨X.env.cells.lookup x = some a))→Q () s') (hf:X.fn x = true∨X.env.scope.names.lookup x = some .local:=by first | exact .inl rfl | exact .inr rfl | assumption):wpAny M A (storeName X.env x u) Q E s:=by
 obtain ⟨m,hn,hl⟩:=id I.loc
 have hcls:(X.env.scope.kind == .class || (X.env.scope.kind == .module && X.env.locals != X.env.globals)) = false:=by rw [I.ok.kind]; rfl
 have hiσ:i < σ.length:=by rw [I.len]; exact (List.getElem?_eq_some_iff.mp hi).1
 have cne:=I.cne
 have tracked:∀ {a:Addr} {h':Heap},(∃ o,s.heap.get? a = some o∧H a = none)→Heap.SameBut a s.heap h'→HOk X.prog X.w H h':=fun {a h'} ha hs b ob e=>by
  obtain ⟨_,_,hfree⟩:=ha
  refine (I.hok b ob e).stay (fun c w' hc q=>(hs.2 c ?_).trans q) (fun _ q=>q) fun _ _ q=>q
  rintro rfl
  rcases hc with rfl | hc
  ·rw [hfree] at e; cases e
  ·rw [hfree] at hc; cases hc
 rcases hx with hk | hk
 ·refine wpAny_storeName_local hk hn (fun h' hn' hs=>?_) hcls
  obtain ⟨oL,_,_,hoL,_⟩:=id hn
  refine h _ ⟨I.ok,I.os,I.bare,⟨fun b o e n hb hx=>?_,fun b o e n hb hx=>?_,I.base.free,fun b o e hx=>?_,I.base.tups,I.base.frzs,I.base.tbls⟩,⟨_,hn',fun j y v' e1 e2 e3=>?_⟩,fun y c e=>?_,I.free,I.freeC,fun p hp=>?_,tracked ⟨oL,hoL,I.free⟩ hs,by simpa using I.len⟩ ⟨_,hs,.inl rfl⟩
  ·exact (hs.2 b (Nat.ne_of_lt (Nat.lt_of_lt_of_le (Heap.lt_size e) I.ok.above))).trans (I.base.keep b o e n hb hx)
  ·obtain ⟨sl,e1⟩:=I.base.slot b o e n hb hx
   exact ⟨sl,(hs.2 b (Nat.ne_of_lt (Nat.lt_of_lt_of_le (Heap.lt_size e) I.ok.above))).trans e1⟩
  ·obtain ⟨o',e1⟩:=I.base.there b o e hx
   exact ⟨o',(hs.2 b (Nat.ne_of_lt (Nat.lt_of_lt_of_le (Heap.lt_size e) I.ok.above))).trans e1⟩
  ·by_cases hj:j = i
   ·subst hj
    rw [hi] at e1; cases e1
    rw [List.getElem?_set_self hiσ] at e2
    cases e2
    exact ⟨u,r,.inl ⟨hk,by simp⟩⟩
   ·rw [List.getElem?_set_ne (Ne.symm hj)] at e2
    obtain ⟨u',r',q⟩:=hl j y v' e1 e2 e3
    refine ⟨u',r',?_⟩
    rcases q with ⟨k,e⟩ | ⟨k,c,e,z⟩
    ·refine .inl ⟨k,?_⟩
     have:y ≠ x:=fun e=>hj (nodup_ix hN e1 (e ▸ hi))
     simp [this,e]
    ·exact .inr ⟨k,c,e,z.sameBut hs (cne y c e)⟩
  ·obtain ⟨w',z⟩:=I.cell y c e
   exact ⟨w',z.sameBut hs (cne y c e)⟩
  ·obtain ⟨e,n,ne,nf,d⟩:=I.pin p hp
   exact ⟨(hs.2 p.1 ne).trans e,n,ne,nf,d⟩
 ·have hfn:X.fn x = true:=by
   rcases hf with z | z
   ·exact z
   ·rw [z] at hk; cases hk
  obtain ⟨c,hc⟩:=I.ok.has x (.inl hk)
  obtain ⟨w',z⟩:=I.cell x c hc
  refine wpAny_storeName_cell I.ok.kind hk hc z (fun h' hc' hs=>?_)
  obtain ⟨oc,hoc,hocd⟩:=id z
  refine h { s with heap:=h' } ⟨I.ok,I.os,I.bare,⟨fun b o e n hb hx=>?_,fun b o e n hb hx=>?_,I.base.free,fun b o e hx=>?_,I.base.tups,I.base.frzs,I.base.tbls⟩,⟨m,hn.sameBut hs (Ne.symm (cne x c hc)),fun j y v' e1 e2 e3=>?_⟩,fun y c' e=>?_,I.free,I.freeC,fun p hp=>?_,tracked ⟨oc,hoc,I.freeC x c hc⟩ hs,by simpa using I.len⟩ ⟨c,hs,.inr hc⟩
  ·exact (hs.2 b (Nat.ne_of_lt (Nat.lt_of_lt_of_le (Heap.lt_size e) (I.ok.cab x c hfn hc)))).trans (I.base.keep b o e n hb hx)
  ·obtain ⟨sl,e1⟩:=I.base.slot b o e n hb hx
   exact ⟨sl,(hs.2 b (Nat.ne_of_lt (Nat.lt_of_lt_of_le (Heap.lt_size e) (I.ok.cab x c hfn hc)))).trans e1⟩
  ·obtain ⟨o',e1⟩:=I.base.there b o e hx
   exact ⟨o',(hs.2 b (Nat.ne_of_lt (Nat.lt_of_lt_of_le (Heap.lt_size e) (I.ok.cab x c hfn hc)))).trans e1⟩
  ·by_cases hj:j = i
   ·subst hj
    rw [hi] at e1; cases e1
    rw [List.getElem?_set_self hiσ] at e2
    cases e2
    exact ⟨u,r,.inr ⟨.inl hk,c,hc,hc'⟩⟩
   ·rw [List.getElem?_set_ne (Ne.symm hj)] at e2
    obtain ⟨u',r',q⟩:=hl j y v' e1 e2 e3
    refine ⟨u',r',?_⟩
    rcases q with q | ⟨k,c',e,z'⟩
    ·exact .inl q
    ·refine .inr ⟨k,c',e,z'.sameBut hs ?_⟩
     rintro rfl
     exact hj (nodup_ix hN e1 (I.ok.inj _ _ _ e hc ▸ hi))
  ·by_cases hcc:c' = c
   ·subst hcc; exact ⟨_,hc'⟩
   ·obtain ⟨w2,z2⟩:=I.cell y c' e
    exact ⟨w2,z2.sameBut hs hcc⟩
  ·obtain ⟨e,n,ne,nf,d⟩:=I.pin p hp
   refine ⟨(hs.2 p.1 ?_).trans e,n,ne,nf,d⟩
   intro q
   rw [q,hoc] at e
   have q':oc = p.2:=Option.some.inj e
   exact d w' (by rw [← q']; exact hocd)
theorem store_ok {M:Model} {A:Around} {E:Value→Shared→Prop} {i:Nat} {x:Str} {v:V} {u:Value} {Q:Unit→Shared→Prop} (I:Inv X pins σ H s) (hN:X.N.Nodup) (hi:X.N[i]? = some x) (hx:Loc X.env.scope x) (r:RelV v u)
  (h:∀ s',Inv X pins (σ.set i (some v)) H s'→Q () s') (hf:X.fn x = true∨X.env.scope.names.lookup x = some .local:=by first | exact .inl rfl | exact .inr rfl | assumption):wpAny M A (storeName X.env x u) Q E s :=
 store_ok2 I hN hi hx r (fun s' I' _=>h s' I') hf
theorem Inv.call' {s':Shared} {ch:List Addr} (I:Inv X pins σ H s) (ho:s'.os = s.os) (u:Un (frs X.stack) ch H H' s.heap s'.heap) (hok:HOk X.prog X.w H' s'.heap) (hg:AllBare s'.gens)
  (hch:∀ b ∈ ch,(b ∈ X.ex∨X.s₀.heap.objs.size ≤ b)∧b ≠ X.env.locals∧(∀ x c,X.env.cells.lookup x = some c→c ≠ b)∧∀ p ∈ X.pn ++ pins,p.1 ≠ b):Inv X pins σ H' s':=by
 obtain ⟨h',g',d',t',o'⟩:=s'
 have e:o' = s.os:=ho
 subst e
 exact I.call (g':=g') (t':=t') (d':=d') u hok hg hch
end
abbrev XK:=Value→Option Addr→Hp→Prop
abbrev St:=List (Option V)
abbrev VK:=V→Hp→Prop
abbrev TE:=St→Hp→VK→Prop
abbrev TT:=St→Hp→(Bool→Hp→Prop)→Prop
abbrev TA:=St→Hp→(List V→Hp→Prop)→Prop
structure Ends where
 nx:St→Hp→Prop
 rt:VK
 bk:St→Hp→Prop:=fun _ _=>False
 ct:St→Hp→Prop:=fun _ _=>False
abbrev TS:=Ends→St→Hp→Prop
def EP (X:Cx) (pins:List (Addr × Obj)) (σ:St) (Q:VK) (u:Value) (s':Shared):Prop:=∃ v H',Inv X pins σ H' s'∧RelV v u∧Q v H'
def TP (X:Cx) (pins:List (Addr × Obj)) (σ:St) (Q:Bool→Hp→Prop) (b:Bool) (s':Shared):Prop:=∃ H',Inv X pins σ H' s'∧Q b H'
def AP (X:Cx) (pins:List (Addr × Obj)) (σ:St) (Q:List V→Hp→Prop) (us:List Value) (s':Shared):Prop:=∃ vs H',Inv X pins σ H' s'∧Vals vs us∧Q vs H'
def SP (X:Cx) (pins:List (Addr × Obj)) (D:Ends) (f:Flow) (s':Shared):Prop :=
 match f with
 | .next=>∃ σ' H',Inv X pins σ' H' s'∧D.nx σ' H'
 | .brk=>∃ σ' H',Inv X pins σ' H' s'∧D.bk σ' H'
 | .cont=>∃ σ' H',Inv X pins σ' H' s'∧D.ct σ' H'
 | .ret u=>∃ v σ' H',Inv X pins σ' H' s'∧RelV v u∧D.rt v H'
def PE (X:Cx) (e:Expr) (t:TE):Prop :=
 ∀ (pins:List (Addr × Obj)) (s:Shared) (σ:St) (H:Hp) (Q:VK),Inv X pins σ H s→t σ H Q→wpAny (model X.prog X.w) X.A (eval e X.env) (EP X pins σ Q) X.xe s
def PT (X:Cx) (e:Expr) (t:TT):Prop :=
 ∀ (pins:List (Addr × Obj)) (s:Shared) (σ:St) (H:Hp) (Q:Bool→Hp→Prop),Inv X pins σ H s→t σ H Q→wpAny (model X.prog X.w) X.A (isTrue e X.env (eval e X.env)) (TP X pins σ Q) X.xe s
def PW (X:Cx) (e:Expr) (t:TT):Prop :=
 ∀ (whole:Sem Value) (pins:List (Addr × Obj)) (s:Shared) (σ:St) (H:Hp) (Q:Bool→Hp→Prop),Inv X pins σ H s→t σ H Q→wpAny (model X.prog X.w) X.A (isTrue e X.env whole) (TP X pins σ Q) X.xe s
theorem PW.pt {X:Cx} {e:Expr} {t:TT} (h:PW X e t):PT X e t:=h _
def PA (X:Cx) (es:List Expr) (t:TA):Prop :=
 ∀ (pos:Pos) (pins:List (Addr × Obj)) (s:Shared) (σ:St) (H:Hp) (Q:List V→Hp→Prop),Inv X pins σ H s→t σ H Q→wpAny (model X.prog X.w) X.A (spliced (backTo pos (starEach es X.env))) (AP X pins σ Q) X.xe s
def PS (X:Cx) (st:Stmt) (t:TS):Prop :=
 ∀ (pins:List (Addr × Obj)) (s:Shared) (σ:St) (H:Hp) (D:Ends),Inv X pins σ H s→t D σ H→wpAny (model X.prog X.w) X.A (exec st X.env) (SP X pins D) X.xe s
def PSs (X:Cx) (st:List Stmt) (t:TS):Prop :=
 ∀ (pins:List (Addr × Obj)) (s:Shared) (σ:St) (H:Hp) (D:Ends),Inv X pins σ H s→t D σ H→wpAny (model X.prog X.w) X.A (execs st X.env) (SP X pins D) X.xe s
theorem thn {α:Type} {t:Sem α} {Q Q':α→Shared→Prop} {M:Model} {A:Around} {E:Value→Shared→Prop} {s:Shared} (h:wpAny M A t Q E s) (hQ:∀ a s,Q a s→Q' a s):wpAny M A t Q' E s:=wpAny_mono h hQ fun _ _ x=>x
section
variable {X:Cx}
theorem bin {a b:Expr} {ta tb:TE} (ha:PE X a ta) (hb:PE X b tb) {pins:List (Addr × Obj)} {s:Shared} {σ:St} {H:Hp} {R:V→V→Hp→Prop} (I:Inv X pins σ H s) (h:ta σ H fun x H1=>tb σ H1 fun y H2=>R x y H2)
  {α:Type} {Q:α→Shared→Prop} {f:Value→Value→Sem α}
  (hf:∀ v u s2 x y H2,Inv X pins σ H2 s2→RelV x v→RelV y u→R x y H2→wpAny (model X.prog X.w) X.A (f v u) Q X.xe s2) :
  wpAny (model X.prog X.w) X.A (eval a X.env) (fun v s₁=>wpAny (model X.prog X.w) X.A (eval b X.env) (fun u s₂=>wpAny (model X.prog X.w) X.A (f v u) Q X.xe s₂) X.xe s₁) X.xe s:=by
 refine thn (ha pins s σ H _ I h) fun v s1 ⟨x,H1,I1,r1,q1⟩=>?_
 refine thn (hb pins s1 σ H1 _ I1 q1) fun u s2 ⟨y,H2,I2,r2,q2⟩=>?_
 exact hf v u s2 x y H2 I2 r1 r2 q2
def tVar (i:Nat):TE:=fun σ H Q=>∃ v,σ[i]? = some (some v)∧Q v H
def tC (v:V):TE:=fun _ H Q=>Q v H
theorem pe_var {i:Nat} {x:Str} {pos:Pos} (hN:X.N[i]? = some x) (hv:Vis X.env.scope x) (hd:(x == ("__debug__":Str)) = false:=by decide) (hcd:(x == ("__classdict__":Str)) = false:=by decide):PE X (.Name x pos) (tVar i):=by
 intro pins s σ H Q I h
 obtain ⟨v,e,h⟩:=h
 obtain ⟨m,hn,hl⟩:=I.loc
 obtain ⟨u,r,l⟩:=hl i x v hN e hv
 have fin:EP X pins σ Q u s:=⟨v,H,I,r,h⟩
 rcases l with ⟨hk,hm⟩ | ⟨hk,c,hc,hcell⟩
 ·exact wpAny_Name (wpAny_loadName_local I.ok.kind hk hn hm fin) hd
 ·rcases hk with hk | hk
  ·exact wpAny_Name (wpAny_loadName_cell I.ok.kind hk hc hcell fin) hd
  ·exact wpAny_Name (wpAny_loadName_free I.ok.kind hk hc hcell fin hcd) hd
theorem pe_int {i j pos}:PE X (.Constant (.int i) j pos) (tC (.int i)):=fun _ _ _ H _ I h=>wpAny_Constant_int ⟨.int i,H,I.tok _,⟨_,rfl⟩,h⟩
theorem pe_bl {b j pos}:PE X (.Constant (.bool b) j pos) (tC (.bl b)):=fun _ _ _ H _ I h=>Constant_bool ⟨.bl b,H,I,rfl,h⟩
theorem pe_non {j pos}:PE X (.Constant .none j pos) (tC .non):=fun _ _ _ H _ I h=>Constant_none ⟨.non,H,I,rfl,h⟩
theorem pe_str {x j pos}:PE X (.Constant (.str x) j pos) (tC (.str x)):=fun _ _ _ H _ I h=>Calls.Constant_str ⟨.str x,H,I.tok _,⟨_,rfl⟩,h⟩
def Gl (X:Cx) (x:Str):Prop:=X.env.kindOf x = some .globalImplicit
theorem ld_glob {E:Value→Shared→Prop} {pins:List (Addr × Obj)} {s:Shared} {σ:St} {H:Hp} {x:Str} {u:Value} {pos:Pos} {Q:Value→Shared→Prop} (I:Inv X pins σ H s) (hg:Gl X x) (hm:X.mg x = some u) (h:Q u s)
  (hd:(x == ("__debug__":Str)) = false:=by decide):wpAny (model X.prog X.w) X.A (eval (.Name x pos) X.env) Q E s :=
 Calls.Name_function_global I.ok.kind hg (Calls.loadGlobal_global (by rw [I.ok.glob]; exact I.mod.glob.keeps I.bk) hm h) hd
theorem ld_blt {E:Value→Shared→Prop} {pins:List (Addr × Obj)} {s:Shared} {σ:St} {H:Hp} {x:Str} {u:Value} {pos:Pos} {Q:Value→Shared→Prop} (I:Inv X pins σ H s) (hg:Gl X x) (hm:X.mg x = none) (hv:bootBuiltins x = some u) (h:Q u s)
  (hn:x ≠ "__name__":=by decide) (hd:(x == ("__debug__":Str)) = false:=by decide):wpAny (model X.prog X.w) X.A (eval (.Name x pos) X.env) Q E s:=by
 obtain ⟨mb,h1,h2⟩:=I.mod.blt
 exact Calls.Name_function_global I.ok.kind hg (Calls.loadGlobal_builtin (by rw [I.ok.glob]; exact I.mod.glob.keeps I.bk) hm (by rw [I.ok.blt]; exact h1.keeps I.bk) ((h2 x hn).trans hv) h) hd
theorem pe_glob {x:Str} {v:V} {u:Value} {pos:Pos} (hg:Gl X x) (hm:X.mg x = some u) (r:RelV v u) (hd:(x == ("__debug__":Str)) = false:=by decide):PE X (.Name x pos) (tC v) :=
 fun _ _ _ H _ I h=>ld_glob I hg hm ⟨v,H,I,r,h⟩ hd
theorem pe_bltn {x:Str} {v:V} {u:Value} {pos:Pos} (hg:Gl X x) (hm:X.mg x = none) (hv:bootBuiltins x = some u) (r:RelV v u) (hn:x ≠ "__name__":=by decide) (hd:(x == ("__debug__":Str)) = false:=by decide):PE X (.Name x pos) (tC v) :=
 fun _ _ _ H _ I h=>ld_blt I hg hm hv ⟨v,H,I,r,h⟩ hn hd
variable {a b:Expr} {ta tb:TE} {pos:Pos}
def PC (X:Cx) (op:CmpOp) (a b:Expr) (t:TE):Prop :=
 ∀ (pins:List (Addr × Obj)) (s:Shared) (σ:St) (H:Hp) (Q:VK),Inv X pins σ H s→t σ H Q →
  wpAny (model X.prog X.w) X.A (eval a X.env) (fun v s₁=>wpAny (model X.prog X.w) X.A (eval b X.env) (fun u s₂=>wpAny (model X.prog X.w) X.A (compareOp op v u) (EP X pins σ Q) X.xe s₂) X.xe s₁) X.xe s
theorem nobehind (b:Expr) {op:CmpOp} (h:op ≠ .In) (h2:op ≠ .NotIn):behindInMarks op b = false:=by
 have e1:(op == CmpOp.In) = false:=by cases op <;> first | rfl | exact absurd rfl h
 have e2:(op == CmpOp.NotIn) = false:=by cases op <;> first | rfl | exact absurd rfl h2
 cases b <;> simp [behindInMarks,e1,e2]
def tIsN (ta:TE):TE:=fun σ H Q=>ta σ H fun x H1=>Q (.bl (decide (x = .non))) H1
def tNotN (ta:TE):TE:=fun σ H Q=>ta σ H fun x H1=>Q (.bl (!decide (x = .non))) H1
theorem RelV.none_iff {x:V} {v:Value} (r:RelV x v):(v == Value.none) = decide (x = .non):=by
 cases x with
 | non=>cases r; rfl
 | bl _=>cases r; rfl
 | int _=>obtain ⟨t,rfl⟩:=r; rfl
 | str _=>obtain ⟨t,rfl⟩:=r; rfl
 | byt _=>obtain ⟨t,rfl⟩:=r; rfl
 | flt _=>obtain ⟨t,rfl⟩:=r; rfl
 | ref _=>cases r; rfl
 | ty _=>cases r; rfl
theorem pc_isN {j pos'} (ha:PE X a ta):PC X .Is a (.Constant .none j pos') (tIsN ta):=by
 intro pins s σ H Q I h
 refine thn (ha pins s σ H _ I h) fun v s1 ⟨x,H1,I1,r1,q1⟩=>?_
 exact Constant_none (is_none_gen ⟨.bl _,H1,I1,by rw [r1.none_iff]; rfl,q1⟩)
theorem pc_notN {j pos'} (ha:PE X a ta):PC X .IsNot a (.Constant .none j pos') (tNotN ta):=by
 intro pins s σ H Q I h
 refine thn (ha pins s σ H _ I h) fun v s1 ⟨x,H1,I1,r1,q1⟩=>?_
 exact Constant_none (isnot_none_gen ⟨.bl _,H1,I1,by rw [r1.none_iff]; rfl,q1⟩)
def tB (t:TE):TT:=fun σ H Q=>t σ H fun x H1=>∃ c,x = .bl c∧Q c H1
theorem pe_cmp {op:CmpOp} {t:TE} (h:PC X op a b t) (h1:behindInMarks op b = false:=by first | exact nobehind _ (by decide) (by decide) | rfl):PE X (.Compare a [op] [b] pos) t:=fun pins s σ H Q I hw=>wpAny_Compare1 (h pins s σ H Q I hw) h1
theorem pt_cmp {op:CmpOp} {t:TE} (h:PC X op a b t) (h1:behindInMarks op b = false:=by first | exact nobehind _ (by decide) (by decide) | rfl):PT X (.Compare a [op] [b] pos) (tB t):=by
 intro pins s σ H Q I hw
 refine wpAny_isTrue_Compare1 (thn (h pins s σ H _ I hw) fun v s1 h1=>thn h1 fun u s2 h2=>thn h2 fun c s3 ⟨x,H1,I1,r1,q1⟩=>?_) h1
 obtain ⟨d,rfl,q⟩:=q1
 cases r1
 exact wpAny_truthy_bool ⟨H1,I1,q⟩
theorem pt_val {e:Expr} {t:TE} (h:PE X e t) (he:∀ whole,isTrue e X.env whole = (do let v ← whole; standAt e.pos; holding [v] (truthy v)):=by intro _; rfl):PT X e (tB t):=by
 intro pins s σ H Q I hw
 refine isTrue_plain (thn (h pins s σ H _ I hw) fun v s1 ⟨x,H1,I1,r1,q1⟩=>?_) (he _)
 obtain ⟨d,rfl,q⟩:=q1
 cases r1
 exact wpAny_truthy_bool ⟨H1,I1,q⟩
variable {tA tB':TT} {rest:List Expr}
def tAnd (t u:TT):TT:=fun σ H Q=>t σ H fun c H1=>if c = true then u σ H1 Q else Q false H1
def tOr (t u:TT):TT:=fun σ H Q=>t σ H fun c H1=>if c = true then Q true H1 else u σ H1 Q
def tNot (t:TT):TT:=fun σ H Q=>t σ H fun c H1=>Q (!c) H1
theorem pw_and1 (ha:PT X a tA):PW X (.BoolOp .And [a] pos) tA:=by
 intro wh pins s σ H Q I h
 refine isTrue_and (thn (ha pins s σ H Q I h) fun c s1 e=>?_)
 cases c with
 | true=>exact isTrue_and_nil e
 | false=>exact e
theorem pw_or1 (ha:PT X a tA):PW X (.BoolOp .Or [a] pos) tA:=by
 intro wh pins s σ H Q I h
 refine isTrue_or (thn (ha pins s σ H Q I h) fun c s1 e=>?_)
 cases c with
 | false=>exact isTrue_or_nil e
 | true=>exact e
theorem pw_and (ha:PT X a tA) (hb:PW X (.BoolOp .And (b :: rest) pos) tB'):PW X (.BoolOp .And (a :: b :: rest) pos) (tAnd tA tB'):=by
 intro wh pins s σ H Q I h
 refine isTrue_and (thn (ha pins s σ H _ I h) fun c s1 ⟨H1,I1,q1⟩=>?_)
 cases c with
 | true=>exact hb wh pins s1 σ H1 Q I1 q1
 | false=>exact ⟨H1,I1,q1⟩
theorem pw_or (ha:PT X a tA) (hb:PW X (.BoolOp .Or (b :: rest) pos) tB'):PW X (.BoolOp .Or (a :: b :: rest) pos) (tOr tA tB'):=by
 intro wh pins s σ H Q I h
 refine isTrue_or (thn (ha pins s σ H _ I h) fun c s1 ⟨H1,I1,q1⟩=>?_)
 cases c with
 | true=>exact ⟨H1,I1,q1⟩
 | false=>exact hb wh pins s1 σ H1 Q I1 q1
theorem pt_not (ha:PT X a tA):PT X (.UnaryOp .Not a pos) (tNot tA):=by
 intro pins s σ H Q I h
 exact isTrue_not (ha pins s σ H (fun c H1=>Q (!c) H1) I h)
def tAndV (ta tb:TE):TE:=fun σ H Q=>ta σ H fun x H1=>∃ c,x = .bl c∧if c = true then tb σ H1 Q else Q (.bl false) H1
def tOrV (ta tb:TE):TE:=fun σ H Q=>ta σ H fun x H1=>∃ c,x = .bl c∧if c = true then Q (.bl true) H1 else tb σ H1 Q
def tNotV (ta:TE):TE:=fun σ H Q=>ta σ H fun x H1=>∃ c,x = .bl c∧Q (.bl (!c)) H1
theorem pe_one {op} {t:TE} (h:PE X a t):PE X (.BoolOp op [a] pos) t:=fun pins s σ H Q I hw=>BoolOp_one (h pins s σ H Q I hw)
theorem pe_and (ha:PE X a ta) (hb:PE X (.BoolOp .And (b :: rest) pos) tb):PE X (.BoolOp .And (a :: b :: rest) pos) (tAndV ta tb):=by
 intro pins s σ H Q I h
 refine BoolOp_and (thn (ha pins s σ H _ I h) fun v s1 ⟨x,H1,I1,r1,q1⟩=>?_)
 obtain ⟨c,rfl,q1⟩:=q1
 cases r1
 refine wpAny_truthy_bool ?_
 cases c with
 | true=>exact hb pins s1 σ H1 Q I1 q1
 | false=>exact ⟨.bl false,H1,I1,rfl,q1⟩
theorem pe_or (ha:PE X a ta) (hb:PE X (.BoolOp .Or (b :: rest) pos) tb):PE X (.BoolOp .Or (a :: b :: rest) pos) (tOrV ta tb):=by
 intro pins s σ H Q I h
 refine BoolOp_or (thn (ha pins s σ H _ I h) fun v s1 ⟨x,H1,I1,r1,q1⟩=>?_)
 obtain ⟨c,rfl,q1⟩:=q1
 cases r1
 refine wpAny_truthy_bool ?_
 cases c with
 | false=>exact hb pins s1 σ H1 Q I1 q1
 | true=>exact ⟨.bl true,H1,I1,rfl,q1⟩
theorem pe_not (ha:PE X a ta):PE X (.UnaryOp .Not a pos) (tNotV ta):=by
 intro pins s σ H Q I h
 refine UnaryOp_ (thn (ha pins s σ H _ I h) fun v s1 ⟨x,H1,I1,r1,q1⟩=>?_)
 obtain ⟨c,rfl,q1⟩:=q1
 cases r1
 exact not_of (wpAny_truthy_bool ⟨.bl (!c),H1,I1,rfl,q1⟩)
def tIf (t:TT) (ta tb:TE):TE:=fun σ H Q=>t σ H fun c H1=>if c = true then ta σ H1 Q else tb σ H1 Q
theorem pe_ifExp {c:Expr} (hc:PT X c tA) (ha:PE X a ta) (hb:PE X b tb):PE X (.IfExp c a b pos) (tIf tA ta tb):=by
 intro pins s σ H Q I h
 refine wpAny_IfExp (thn (hc pins s σ H _ I h) fun d s1 ⟨H1,I1,q1⟩=>?_)
 cases d with
 | true=>exact ha pins s1 σ H1 Q I1 q1
 | false=>exact hb pins s1 σ H1 Q I1 q1
end
def SqL (K:PySem.W.Frag) (H:Hp) (a:Addr) (xs:List V):Prop :=
 Rd H a (.lst xs) ∨
  ∃ (o:Obj) (its:Array Value) (n:Nat),K.lookup a = some o∧o.cls = .type "list"∧o.dict = none∧o.data = .seq its n∧its.size ≤ sizeLine∧Vals xs its.toList
def SqT (K:PySem.W.Frag) (H:Hp) (a:Addr) (xs:List V):Prop :=
 Rd H a (.tup xs) ∨
  ∃ (o:Obj) (its:Array Value) (n:Nat),K.lookup a = some o∧o.cls = .type "tuple"∧o.data = .seq its n∧its.size ≤ sizeLine∧Vals xs its.toList
def absV:Value→Option V
 | .none=>some .non
 | .bool b=>some (.bl b)
 | .int i _=>some (.int i)
 | .str x _=>some (.str x)
 | .bytes b _=>some (.byt b)
 | .float b _=>some (.flt b)
 | .ref a=>some (.ref a)
 | .type n=>some (.ty n)
 | _=>none
theorem RelV.abs {x:V} {u:Value} (r:RelV x u):absV u = some x:=by
 cases x with
 | non=>cases r; rfl
 | bl _=>cases r; rfl
 | int _=>obtain ⟨t,rfl⟩:=r; rfl
 | str _=>obtain ⟨t,rfl⟩:=r; rfl
 | byt _=>obtain ⟨t,rfl⟩:=r; rfl
 | flt _=>obtain ⟨t,rfl⟩:=r; rfl
 | ref _=>cases r; rfl
 | ty _=>cases r; rfl
theorem RelV.inj {x y:V} {u:Value} (r:RelV x u) (q:RelV y u):x = y:=Option.some.inj (r.abs.symm.trans q.abs)
theorem Vals.inj:∀ {xs ys:List V} {us:List Value},Vals xs us→Vals ys us→xs = ys
 | _,_,_,.nil,.nil=>rfl
 | _,_,_,.cons r t,.cons r' t'=>by rw [r.inj r',Vals.inj t t']
section
variable {X:Cx} {pins:List (Addr × Obj)} {σ:St} {H:Hp} {s:Shared} {a:Addr} {xs ys:List V}
theorem SqL.of {K:PySem.W.Frag} (h:H a = some (.lst xs)):SqL K H a xs:=.inl (.inl h)
theorem SqT.of {K:PySem.W.Frag} (h:H a = some (.tup xs)):SqT K H a xs:=.inl (.inl h)
theorem Inv.list (I:Inv X pins σ H s) (h:SqL X.K H a xs):∃ its:List Value,Vals xs its∧PlainL s.heap a its.toArray∧xs.length ≤ sizeLine:=by
 rcases h with h | ⟨o,its,n,hk,hc,hd,hs,hz,r⟩
 ·obtain ⟨z,its,n,r,e⟩:=h.ok I.hok
  exact ⟨its,r,⟨_,n,e,rfl,rfl,rfl⟩,z⟩
 ·refine ⟨its.toList,r,⟨o,n,I.kIn a o hk,hc,hd,by simpa using hs⟩,?_⟩
  have e:=r.length
  simp only [Array.length_toList] at e
  omega
theorem Inv.tuple (I:Inv X pins σ H s) (h:SqT X.K H a xs):∃ its:List Value,Vals xs its∧IsTup s.heap a its.toArray∧xs.length ≤ sizeLine:=by
 rcases h with h | ⟨o,its,n,hk,hc,hs,hz,r⟩
 ·obtain ⟨z,its,r,p⟩:=h.ok I.hok
  exact ⟨its,r,p,z⟩
 ·refine ⟨its.toList,r,⟨o,I.kIn a o hk,hc,n,by simpa using hs⟩,?_⟩
  have e:=r.length
  simp only [Array.length_toList] at e
  omega
theorem Inv.list_inj (I:Inv X pins σ H s) (h:SqL X.K H a xs) (h':SqL X.K H a ys):xs = ys:=by
 obtain ⟨its,r,⟨o,n,e,_,_,d⟩,_⟩:=I.list h
 obtain ⟨its',r',⟨o',n',e',_,_,d'⟩,_⟩:=I.list h'
 rw [e] at e'; cases e'
 rw [d] at d'
 injection d' with d1 _
 have:its = its':=by simpa using congrArg Array.toList d1
 subst this
 exact r.inj r'
theorem Inv.tuple_inj (I:Inv X pins σ H s) (h:SqT X.K H a xs) (h':SqT X.K H a ys):xs = ys:=by
 obtain ⟨its,r,⟨o,e,_,n,d⟩,_⟩:=I.tuple h
 obtain ⟨its',r',⟨o',e',_,n',d'⟩,_⟩:=I.tuple h'
 rw [e] at e'; cases e'
 rw [d] at d'
 injection d' with d1 _
 have:its = its':=by simpa using congrArg Array.toList d1
 subst this
 exact r.inj r'
end
abbrev Cx.wish (X:Cx) (E:Value→Shared→Prop):Cx:={ X with xe:=E }
abbrev Cx.nox (X:Cx):Cx:=X.wish fun _ _=>False
theorem Cx.Ok.wish {X:Cx} (ok:X.Ok) (E:Value→Shared→Prop):(X.wish E).Ok :=
 ⟨ok.mod,ok.kind,ok.glob,ok.blt,ok.above,ok.inj,ok.has,ok.cab,ok.hd,ok.frames,ok.stk,ok.exf,ok.bs,ok.bsz,ok.noex,ok.exfs,ok.funs,ok.frf⟩
theorem Cx.Ok.unwish {X:Cx} {E:Value→Shared→Prop} (ok:(X.wish E).Ok):X.Ok :=
 ⟨ok.mod,ok.kind,ok.glob,ok.blt,ok.above,ok.inj,ok.has,ok.cab,ok.hd,ok.frames,ok.stk,ok.exf,ok.bs,ok.bsz,ok.noex,ok.exfs,ok.funs,ok.frf⟩
section
variable {X:Cx} {pins:List (Addr × Obj)} {σ:St} {H:Hp} {s:Shared} {E:Value→Shared→Prop}
theorem Inv.wish (I:Inv X pins σ H s) (E:Value→Shared→Prop):Inv (X.wish E) pins σ H s:=⟨I.ok.wish E,I.os,I.bare,I.base,I.loc,I.cell,I.free,I.freeC,I.pin,I.hok,I.len⟩
theorem Inv.unwish (I:Inv (X.wish E) pins σ H s):Inv X pins σ H s:=⟨I.ok.unwish,I.os,I.bare,I.base,I.loc,I.cell,I.free,I.freeC,I.pin,I.hok,I.len⟩
theorem SP.unwish {D:Ends} {f:Flow} {s':Shared} (h:SP (X.wish E) pins D f s'):SP X pins D f s':=by
 cases f with
 | next=>obtain ⟨σ',H',I,q⟩:=h; exact ⟨σ',H',I.unwish,q⟩
 | brk=>obtain ⟨σ',H',I,q⟩:=h; exact ⟨σ',H',I.unwish,q⟩
 | cont=>obtain ⟨σ',H',I,q⟩:=h; exact ⟨σ',H',I.unwish,q⟩
 | ret u=>obtain ⟨v,σ',H',I,r,q⟩:=h; exact ⟨v,σ',H',I.unwish,r,q⟩
theorem PSs.nox {st:List Stmt} {t:TS} (h:PSs X.nox st t):PSs X st t:=fun pins s σ H D I hw =>
 wpAny_mono (h pins s σ H D (I.wish _) hw) (fun _ _ q=>q.unwish) fun _ _ z=>False.elim z
end
section
variable {X:Cx} {st:Stmt} {rest:List Stmt} {t u:TS} {e:Expr} {te:TE} {pos:Pos}
def tNext:TS:=fun D σ H=>D.nx σ H
def tSeq (t u:TS):TS:=fun D σ H=>t { D with nx:=u D } σ H
theorem pss_nil:PSs X [] tNext:=fun _ _ σ H _ I h=>wpAny_execs_nil ⟨σ,H,I,h⟩
theorem pss_cons (h1:PS X st t) (h2:PSs X rest u):PSs X (st :: rest) (tSeq t u):=by
 intro pins s σ H D I h
 refine wpAny_execs_cons (thn (h1 pins s σ H { D with nx:=u D } I h) fun f s1 q=>?_)
 cases f with
 | next =>
  obtain ⟨σ',H',I',q⟩:=q
  exact h2 pins s1 σ' H' D I' q
 | ret v=>exact q
 | brk=>exact q
 | cont=>exact q
theorem pss_one (h1:PS X st t):PSs X [st] t:=by
 intro pins s σ H D I h
 refine wpAny_execs_cons (thn (h1 pins s σ H D I h) fun f s1 q=>?_)
 cases f with
 | next=>exact wpAny_execs_nil q
 | ret v=>exact q
 | brk=>exact q
 | cont=>exact q
theorem Inv.quiet {pins:List (Addr × Obj)} {σ:St} {H:Hp} {s:Shared} (I:Inv X pins σ H s):interactive X.env = false:=by simp [interactive,I.ok.kind]
def tDrop (te:TE):TS:=fun D σ H=>te σ H fun _ H1=>D.nx σ H1
theorem ps_expr (he:PE X e te) (hs:swapsWith e none pos.line X.env = pure false:=by rfl):PS X (.Expr e pos) (tDrop te):=by
 intro pins s σ H D I h
 exact wpAny_Expr_any (thn (he pins s σ H _ I h) fun v s1 ⟨x,H1,I1,r1,q1⟩=>⟨σ,H1,I1,q1⟩) I.quiet hs
def tRet (te:TE):TS:=fun D σ H=>te σ H D.rt
theorem ps_ret (he:PE X e te):PS X (.Return (some e) pos) (tRet te):=by
 intro pins s σ H D I h
 exact wpAny_Return_some (thn (he pins s σ H _ I h) fun v s1 ⟨x,H1,I1,r1,q1⟩=>⟨x,σ,H1,I1,r1,q1⟩)
def tIfS (c:TT) (t u:TS):TS:=fun D σ H=>c σ H fun b H1=>if b = true then t D σ H1 else u D σ H1
theorem ps_if {c:Expr} {a b:List Stmt} {tc:TT} (hc:PT X c tc) (ha:PSs X a t) (hb:PSs X b u):PS X (.If c a b pos) (tIfS tc t u):=by
 intro pins s σ H D I h
 refine wpAny_If (thn (hc pins s σ H _ I h) fun d s1 ⟨H1,I1,q1⟩=>?_)
 cases d with
 | true=>exact ha pins s1 σ H1 D I1 q1
 | false=>exact hb pins s1 σ H1 D I1 q1
def tNever:TS:=fun _ _ _=>False
theorem pss_never {sts:List Stmt}:PSs X sts tNever:=fun _ _ _ _ _ _ h=>h.elim
end
abbrev TG:=V→St→Hp→(St→Hp→Prop)→Prop
abbrev TGs:=List V→St→Hp→(St→Hp→Prop)→Prop
def PG (X:Cx) (target:Expr) (t:TG):Prop :=
 ∀ (pins:List (Addr × Obj)) (s:Shared) (σ:St) (H:Hp) (v:V) (u:Value) (Q:St→Hp→Prop),Inv X pins σ H s→RelV v u→t v σ H Q →
  wpAny (model X.prog X.w) X.A (assign target X.env u) (fun _ s'=>∃ σ' H',Inv X pins σ' H' s'∧Q σ' H') X.xe s
def PGs (X:Cx) (ts:List Expr) (t:TGs):Prop :=
 ∀ (pins:List (Addr × Obj)) (s:Shared) (σ:St) (H:Hp) (vs:List V) (us:List Value) (Q:St→Hp→Prop),Inv X pins σ H s→Vals vs us→t vs σ H Q →
  wpAny (model X.prog X.w) X.A (assignInOrder ((assignEach ts X.env).map (·.2)) us) (fun _ s'=>∃ σ' H',Inv X pins σ' H' s'∧Q σ' H') X.xe s
abbrev TSet:=V→V→V→Hp→(Hp→Prop)→Prop
def PSet (X:Cx) (t:TSet):Prop :=
 ∀ (pins:List (Addr × Obj)) (s:Shared) (σ:St) (H:Hp) (o i v:V) (ov iv u:Value) (Q:Hp→Prop),Inv X pins σ H s→RelV o ov→RelV i iv→RelV v u→t o i v H Q →
  wpAny (model X.prog X.w) X.A (setItem ov iv u) (fun _ s'=>∃ H',Inv X pins σ H' s'∧Q H') X.xe s
abbrev TIp:=V→V→Hp→VK→Prop
def PIp (X:Cx) (op:Operator) (t:TIp):Prop :=
 ∀ (pins:List (Addr × Obj)) (s:Shared) (σ:St) (H:Hp) (x y:V) (v u:Value) (Q:VK),Inv X pins σ H s→RelV x v→RelV y u→t x y H Q →
  wpAny (model X.prog X.w) X.A (inplaceOp op v u) (EP X pins σ Q) X.xe s
section
variable {X:Cx} {pos:Pos}
def gName (i:Nat):TG:=fun v σ H Q=>Q (σ.set i (some v)) H
theorem pg_name {i:Nat} {x:Str} (hN:X.N.Nodup) (hi:X.N[i]? = some x) (hx:Loc X.env.scope x) (hf:X.fn x = true∨X.env.scope.names.lookup x = some .local:=by first | exact .inl rfl | exact .inr rfl | assumption):PG X (.Name x pos) (gName i):=by
 intro pins s σ H v u Q I r h
 exact wpAny_assign_Name (store_ok I hN hi hx r (fun s' I'=>⟨_,H,I',h⟩) hf)
def gNil:TGs:=fun vs σ H Q=>vs = []∧Q σ H
def gCons (t:TG) (u:TGs):TGs:=fun vs σ H Q=>∃ v r,vs = v :: r∧t v σ H fun σ' H'=>u r σ' H' Q
theorem pgs_nil:PGs X [] gNil:=by
 intro pins s σ H vs us Q I r h
 obtain ⟨e,h⟩:=h
 subst e
 cases r
 exact assignInOrder_nil ⟨σ,H,I,h⟩
theorem pgs_cons {e:Expr} {es:List Expr} {t:TG} {u:TGs} (h1:PG X e t) (h2:PGs X es u)
  (hs:(assignEach (e :: es) X.env).map (·.2) = assign e X.env :: (assignEach es X.env).map (·.2):=by rfl):PGs X (e :: es) (gCons t u):=by
 intro pins s σ H vs us Q I r h
 obtain ⟨v,vr,e1,h⟩:=h
 subst e1
 cases r with
 | cons r rr =>
  rw [hs]
  refine assignInOrder_cons (thn (h1 pins s σ H _ _ _ I r h) fun _ s1 ⟨σ1,H1,I1,q1⟩=>?_)
  exact h2 pins s1 σ1 H1 _ _ Q I1 rr q1
def gTup (K:PySem.W.Frag) (n:Nat) (t:TGs):TG:=fun v σ H Q=>∃ a xs,v = .ref a∧SqT K H a xs∧xs.length = n∧t xs σ H Q
theorem pg_tup {es:List Expr} {k:Nat} {t:TGs} {n:Nat} (hc:X.calm = true) (h:PGs X es t)
  (hn:(assignEach es X.env).length = n:=by rfl) (hst:(assignEach es X.env).findIdx? (·.1) = none:=by rfl):PG X (.Tuple es k pos) (gTup X.K n t):=by
 intro pins s σ H v u Q I r hw
 obtain ⟨a,xs,e1,hq,hl,hw⟩:=hw
 subst e1
 cases r
 obtain ⟨its,rv,ht,hz⟩:=I.tuple hq
 refine assign_Tuple_tuple (I.ok.hd hc) ht (by simp [hn,← hl,rv.length]) hst fun h' hx=>?_
 have I1:Inv X pins σ H { s with heap:=h' }:=I.kept (t':=s.toks) fun b o e=>hx b o (Nat.ne_of_lt (Heap.lt_size e)) e
 exact h pins _ σ H xs _ Q I1 (by simpa using rv) hw
def gSub (to ti:TE) (t:TSet):TG:=fun v σ H Q=>to σ H fun o H1=>ti σ H1 fun i H2=>t o i v H2 fun H3=>Q σ H3
theorem pg_sub {o i:Expr} {to ti:TE} {t:TSet} (ho:PE X o to) (hi:PE X i ti) (hs:PSet X t)
  (ha:∀ v,assign (.Subscript o i pos) X.env v = (do
   let ov ← holding [v] (eval o X.env)
   let iv ← holding [v,ov] (eval i X.env)
   standAt pos
   holding [v,ov,iv] (setItem ov iv v)
   release [v,ov,iv] []):=by intro _; rfl):PG X (.Subscript o i pos) (gSub to ti t):=by
 intro pins s σ H v u Q I r h
 rw [ha]
 refine wpAny_bind (wpAny_holding (thn (ho pins s σ H _ I h) fun ov s1 ⟨x,H1,I1,r1,q1⟩=>?_))
 refine wpAny_bind (wpAny_holding (thn (hi pins s1 σ H1 _ I1 q1) fun iv s2 ⟨y,H2,I2,r2,q2⟩=>?_))
 refine wpAny_bind (wpAny_standAt (wpAny_bind (wpAny_holding (thn (hs pins s2 σ H2 x y v ov iv u _ I2 r1 r2 r q2) fun _ s3 ⟨H3,I3,q3⟩=>?_))))
 exact wpAny_release ⟨σ,H3,I3,q3⟩
def tAsg (te:TE) (g:TG):TS:=fun D σ H=>te σ H fun x H1=>g x σ H1 D.nx
theorem ps_asg {tg e:Expr} {te:TE} {g:TG} (he:PE X e te) (hg:PG X tg g) (hs:swapsWithSole [tg] e pos.line X.env = pure false:=by rfl) (hw:swappedStores [tg] e X.env = pure none:=by rfl)
  (h1:(assignEach [tg] X.env).map (·.2) = [assign tg X.env]:=by rfl):PS X (.Assign [tg] e pos) (tAsg te g):=by
 intro pins s σ H D I h
 refine wpAny_Assign_stores (thn (he pins s σ H _ I h) fun v s1 ⟨x,H1,I1,r1,q1⟩=>?_) hs hw
 rw [h1]
 exact thn (hg pins s1 σ H1 x v _ I1 r1 q1) fun _ s2 q=>q
theorem ps_set {i:Nat} {x:Str} {e:Expr} {te:TE} {pos':Pos} (hN:X.N.Nodup) (hi:X.N[i]? = some x) (hx:Loc X.env.scope x) (he:PE X e te) (hs:swapsWith e (some (.Name x pos')) pos.line X.env = pure false:=by rfl) (hf:X.fn x = true∨X.env.scope.names.lookup x = some .local:=by first | exact .inl rfl | exact .inr rfl | assumption) :
  PS X (.Assign [.Name x pos'] e pos) (tAsg te (gName i)):=by
 intro pins s σ H D I h
 refine wpAny_Assign_Name (thn (he pins s σ H _ I h) fun v s1 ⟨y,H1,I1,r1,q1⟩=>?_) hs
 exact store_ok I1 hN hi hx r1 (fun s2 I2=>⟨_,H1,I2,q1⟩) hf
def tAug (i:Nat) (te:TE) (ti:TIp):TS:=fun D σ H=>∃ x,σ[i]? = some (some x)∧te σ H fun y H1=>ti x y H1 fun z H2=>D.nx (σ.set i (some z)) H2
theorem ps_aug {i:Nat} {x:Str} {e:Expr} {te:TE} {op:Operator} {ti:TIp} {pos':Pos} (hN:X.N.Nodup) (hi:X.N[i]? = some x) (hx:Loc X.env.scope x) (he:PE X e te) (ho:PIp X op ti) (hf:X.fn x = true∨X.env.scope.names.lookup x = some .local:=by first | exact .inl rfl | exact .inr rfl | assumption) :
  PS X (.AugAssign (.Name x pos') op e pos) (tAug i te ti):=by
 intro pins s σ H D I h
 obtain ⟨v,e1,h⟩:=h
 obtain ⟨m,hn,hl⟩:=I.loc
 have vis:Vis X.env.scope x:=by rcases hx with k | k; exact .inl k; exact .inr (.inl k)
 obtain ⟨u,r,l⟩:=hl i x v hi e1 vis
 refine wpAny_AugAssign_Name ?_
 have go:wpAny (model X.prog X.w) X.A (eval e X.env) (fun w s₂=>wpAny (model X.prog X.w) X.A (inplaceOp op u w) (fun r s₃=>wpAny (model X.prog X.w) X.A (storeName X.env x r) (fun _=>SP X pins D .next) X.xe s₃) X.xe s₂) X.xe s:=by
  refine thn (he pins s σ H _ I h) fun w s1 ⟨y,H1,I1,r1,q1⟩=>?_
  refine thn (ho pins s1 σ H1 v y u w _ I1 r r1 q1) fun z s2 ⟨zv,H2,I2,r2,q2⟩=>?_
  exact store_ok I2 hN hi hx r2 (fun s3 I3=>⟨_,H2,I3,q2⟩) hf
 rcases l with ⟨hk,hm⟩ | ⟨hk,c,hc,hcell⟩
 ·exact wpAny_loadName_local I.ok.kind hk hn hm go
 ·rcases hk with hk | hk
  ·exact wpAny_loadName_cell I.ok.kind hk hc hcell go
  ·rcases hx with k | k
   ·have:X.env.scope.names.lookup x = some .free:=hk
    rw [k] at this; cases this
   ·have:X.env.scope.names.lookup x = some .free:=hk
    rw [k] at this; cases this
def ipI (f:Int→Int→Int):TIp:=fun x y H Q=>∃ i j,x = .int i∧y = .int j∧Q (.int (f i j)) H
theorem ip_add:PIp X .Add (ipI fun i j=>i + j):=by
 intro pins s σ H x y v u Q I r1 r2 h
 obtain ⟨i,j,e1,e2,q⟩:=h
 subst e1; subst e2
 obtain ⟨t,rfl⟩:=r1
 obtain ⟨t',rfl⟩:=r2
 exact iadd_int ⟨.int _,H,I.tok _,⟨_,rfl⟩,q⟩
end
section
variable {X:Cx} {pos:Pos}
def tWhile (c:TT) (tb:TS):TS:=fun D σ H=>∃ W:Nat→St→Hp→Prop,(∃ m,W m σ H)∧∀ m σ H,W m σ H →
 c σ H fun b H1=>if b = true then ∃ N:St→Hp→Prop,(∀ σ' H',N σ' H'→∃ m',m' < m∧W m' σ' H')∧tb { D with nx:=N,ct:=N,bk:=D.nx } σ H1 else D.nx σ H1
theorem ps_while {c:Expr} {body:List Stmt} {tc:TT} {tb:TS} (hp:PassesOwn (model X.prog X.w) X.A X.env X.xe) (hc:PT X c tc) (hb:PSs X body tb):PS X (.While c body [] pos) (tWhile tc tb):=by
 intro pins s σ H D I h
 obtain ⟨W,⟨m0,w0⟩,turn⟩:=h
 refine wpAny_While (codeAny_whileLoop (fun n s'=>∃ σ' H',Inv X pins σ' H' s'∧W n σ' H') ?_ m0 ⟨σ,H,I,w0⟩)
 rintro n s1 ⟨σ1,H1,I1,w1⟩
 refine wpAny_passesOwn hp (thn (hc pins s1 σ1 H1 _ I1 (turn n σ1 H1 w1)) fun b s2 ⟨H2,I2,q2⟩=>?_)
 cases b with
 | true =>
  obtain ⟨N,hN,q2⟩:=q2
  rw [if_pos rfl]
  refine wpAny_passesOwn hp (thn (hb pins s2 σ1 H2 _ I2 q2) fun f s3 q3=>?_)
  cases f with
  | next =>
   obtain ⟨σ3,H3,I3,n3⟩:=q3
   obtain ⟨m',hm,w3⟩:=hN σ3 H3 n3
   exact ⟨m',hm,σ3,H3,I3,w3⟩
  | cont =>
   obtain ⟨σ3,H3,I3,n3⟩:=q3
   obtain ⟨m',hm,w3⟩:=hN σ3 H3 n3
   exact ⟨m',hm,σ3,H3,I3,w3⟩
  | brk=>exact q3
  | ret v=>exact q3
 | false =>
  rw [if_neg Bool.false_ne_true]
  exact wpAny_execs_nil ⟨σ1,H2,I2,q2⟩
end
structure It where
 go:Nat→Hp→Prop
 yld:Nat→Hp→V→Hp→Prop
 stop:Nat→Hp→Prop
def FpOk (X:Cx) (pins:List (Addr × Obj)) (H:Hp) (b:Addr):Prop :=
 H b = none∧b ≠ X.env.locals∧b ∉ X.fs∧(b ∈ X.ex∨X.s₀.heap.objs.size ≤ b)∧(∀ x c,X.env.cells.lookup x = some c→c ≠ b)∧∀ p ∈ X.pn ++ pins,p.1 ≠ b
theorem Inv.fpOk {X:Cx} {pins:List (Addr × Obj)} {σ:St} {H H':Hp} {s:Shared} {b:Addr} (I:Inv X pins σ H s) (hb:s.heap.objs.size ≤ b) (hn:H' b = none):FpOk X pins H' b:=by
 refine ⟨hn,Nat.ne_of_gt (Nat.lt_of_lt_of_le I.lt hb),I.nofs hb,.inr (Nat.le_trans I.sz hb),fun x c e z=>?_,fun p hp z=>?_⟩
 ·obtain ⟨v,q⟩:=I.cell x c e
  exact absurd (Nat.lt_of_lt_of_le q.lt (by rw [z]; exact hb)) (Nat.lt_irrefl _)
 ·exact absurd (Nat.lt_of_lt_of_le (Heap.lt_size (I.pin p hp).1) (by rw [z]; exact hb)) (Nat.lt_irrefl _)
structure Turn (P:Program) (w:World) (K:PySem.W.Frag) (tg:Expr) (J:It) (fp:List Addr) (it:Addr) (tn:Nat→Heap→Prop):Prop where
 mem:it ∈ fp
 obj:∀ i h,tn i h→∀ b ∈ fp,∃ o,h.get? b = some o∧∀ v,o.data ≠ .cell v
 keep:∀ i h h',tn i h→(∀ b ∈ fp,∀ o,h.get? b = some o→h'.get? b = some o)→tn i h'
 item:∀ (X:Cx),X.prog = P→X.w = w→X.K = K→X.calm = true→∀ (i:Nat) (pins:List (Addr × Obj)) (s:Shared) (σ:St) (H:Hp) (E:Value→Shared→Prop),Inv X pins σ H s→(∀ b ∈ fp,FpOk X pins H b)→tn i s.heap→J.go i H →
  wpAny (model P w) X.A (pyNext (.ref it)) (fun r s1=>∃ u,r = some u ∧
   wpAny (model P w) X.A (letOwnedTupleGo tg (.ref it) u) (fun _ s2=>∃ x H',Inv X pins σ H' s2∧RelV x u∧J.yld i H x H'∧tn (i + 1) s2.heap∧∀ b ∈ fp,H' b = none) E s1) E s
 done:∀ (X:Cx),X.prog = P→X.w = w→X.K = K→X.calm = true→∀ (i:Nat) (pins:List (Addr × Obj)) (s:Shared) (σ:St) (H:Hp) (E:Value→Shared→Prop),Inv X pins σ H s→(∀ b ∈ fp,FpOk X pins H b)→tn i s.heap→J.stop i H →
  wpAny (model P w) X.A (pyNext (.ref it)) (fun r s1=>r = none∧Inv X pins σ H s1) E s
 self:∀ (A:Around) (i:Nat) (s:Shared) (Q:Value→Shared→Prop) (E:Value→Shared→Prop),tn i s.heap→Q (.ref it) s→wpAny (model P w) A (pyIter (.ref it)) Q E s
abbrev TI:=St→Hp→(It→Hp→Prop)→Prop
def PIE (X:Cx) (pins:List (Addr × Obj)) (σ:St) (tg:Expr) (R:It→Hp→Prop) (itv:Value) (s2:Shared):Prop :=
 ∃ (it:Addr) (fp:List Addr) (tn:Nat→Heap→Prop) (J:It) (H':Hp),itv = .ref it∧Inv X pins σ H' s2∧Turn X.prog X.w X.K tg J fp it tn∧tn 0 s2.heap∧(∀ b ∈ fp,FpOk X pins H' b)∧R J H'
def PI (X:Cx) (tg iter:Expr) (wi:TI):Prop :=
 ∀ (pins:List (Addr × Obj)) (s:Shared) (σ:St) (H:Hp) (R:It→Hp→Prop),Inv X pins σ H s→wi σ H R →
  wpAny (model X.prog X.w) X.A (eval iter X.env) (fun v s1=>wpAny (model X.prog X.w) X.A (pyIter v) (PIE X pins σ tg R) X.xe s1) X.xe s
theorem go_of {M:Model} {A:Around} {E:Value→Shared→Prop} {s:Shared} {tg:Expr} {it:Addr} {u:Value} {o:Obj} {n:String} {vs:Array Value} {Q:Unit→Shared→Prop} (ho:s.heap.get? it = some o) (hc:o.cls = .type n) (hd:o.data = .fields vs)
    (hn:["enumerate","zip","dict_itemiterator","dict_reverseitemiterator","odict_iterator","itertools.zip_longest","itertools.pairwise"].contains n = false) (hQ:Q () s):wpAny M A (letOwnedTupleGo tg (.ref it) u) Q E s:=by
  unfold letOwnedTupleGo
  cases tg <;> first
    | exact wpAny_pure hQ
    | (cases u <;> first
        | exact wpAny_pure hQ
        | (refine wpAny_bind (wpAny_load ho ?_)
           rw [hc,hd]
           show wpAny M A (if (["enumerate","zip","dict_itemiterator","dict_reverseitemiterator","odict_iterator","itertools.zip_longest","itertools.pairwise"].contains n && vs[0]? == some (rawInt _)) = true then _ else _) Q E s
           rw [if_neg (by intro h; rw [hn,Bool.false_and] at h; cases h)]
           exact wpAny_pure hQ))
def Itl (K:PySem.W.Frag) (a:Addr):It :=
 ⟨fun i H=>∃ xs x,SqL K H a xs∧xs[i]? = some x,fun i H x H'=>H' = H∧∀ xs,SqL K H a xs→xs[i]? = some x,fun i H=>∃ xs,SqL K H a xs∧xs.length ≤ i⟩
def Itt (K:PySem.W.Frag) (a:Addr):It :=
 ⟨fun i H=>∃ xs x,SqT K H a xs∧xs[i]? = some x,fun i H x H'=>H' = H∧∀ xs,SqT K H a xs→xs[i]? = some x,fun i H=>∃ xs,SqT K H a xs∧xs.length ≤ i⟩
def Itr (lo:Int) (n:Nat):It:=⟨fun i _=>i < n,fun i H x H'=>H' = H∧x = .int (lo + i),fun i _=>n ≤ i⟩
theorem turn_list {P:Program} {w:World} {K:PySem.W.Frag} {tg:Expr} (a it:Addr):Turn P w K tg (Itl K a) [it] it (fun i h=>h.IsListIter it a i) where
 mem:=by simp
 obj:=fun i h st b hb=>by
  have e:b = it:=by simpa using hb
  subst e
  obtain ⟨o,e,c,d⟩:=st
  exact ⟨o,e,fun v z=>by rw [d] at z; cases z⟩
 keep:=fun i h h' st k=>st.at fun o e=>k it (by simp) o e
 item:=by
  intro X hP hw hK hc i pins s σ H E I hf st hg
  subst hP hw hK
  obtain ⟨xs,x,hq,hx⟩:=hg
  obtain ⟨its,rv,p,hz⟩:=I.list hq
  obtain ⟨u,hu,ru⟩:=rv.get hx
  obtain ⟨f0,f1,f2,f3,f4,f5⟩:=hf it (by simp)
  refine wpAny_pyNext_list_item st p.isList (x:=u) (by simpa using hu) fun h' st' sb=>?_
  have I1:Inv X pins σ H { s with heap:=h' }:=I.turned (t':=s.toks) (fun b o hb e=>(sb.2 b hb).trans e) f0 f1 f3 f4 f5
  obtain ⟨o,e,c,d⟩:=id st'
  exact ⟨u,rfl,go_of (s:={ s with heap:=h' }) e c d (by decide) ⟨x,H,I1,ru,⟨rfl,fun ys hy=>by rw [I.list_inj hy hq]; exact hx⟩,st',fun b hb=>(hf b hb).1⟩⟩
 done:=by
  intro X hP hw hK hc i pins s σ H E I hf st hg
  subst hP hw hK
  obtain ⟨xs,hq,hx⟩:=hg
  obtain ⟨its,rv,p,hz⟩:=I.list hq
  obtain ⟨f0,f1,f2,f3,f4,f5⟩:=hf it (by simp)
  have hl:=rv.length
  exact wpAny_pyNext_list_end (I.ok.hd hc) st p.isList (by simp; omega) fun h' eb=>⟨rfl,I.turned (t':=s.toks) (fun b o hb e=>eb b o hb e) f0 f1 f3 f4 f5⟩
 self:=fun _ _ _ _ _ st h=>wpAny_pyIter_listiter st h
theorem turn_tuple {P:Program} {w:World} {K:PySem.W.Frag} {tg:Expr} (a it:Addr):Turn P w K tg (Itt K a) [it] it (fun i h=>h.IsTupleIter it a i) where
 mem:=by simp
 obj:=fun i h st b hb=>by
  have e:b = it:=by simpa using hb
  subst e
  obtain ⟨o,e,c,d⟩:=st
  exact ⟨o,e,fun v z=>by rw [d] at z; cases z⟩
 keep:=fun i h h' st k=>st.at fun o e=>k it (by simp) o e
 item:=by
  intro X hP hw hK hc i pins s σ H E I hf st hg
  subst hP hw hK
  obtain ⟨xs,x,hq,hx⟩:=hg
  obtain ⟨its,rv,p,hz⟩:=I.tuple hq
  obtain ⟨u,hu,ru⟩:=rv.get hx
  obtain ⟨f0,f1,f2,f3,f4,f5⟩:=hf it (by simp)
  refine wpAny_pyNext_tuple_item st (show s.heap.IsTuple a its.toArray from p) (x:=u) (by simpa using hu) fun h' st' sb=>?_
  have I1:Inv X pins σ H { s with heap:=h' }:=I.turned (t':=s.toks) (fun b o hb e=>(sb.2 b hb).trans e) f0 f1 f3 f4 f5
  obtain ⟨o,e,c,d⟩:=id st'
  exact ⟨u,rfl,go_of (s:={ s with heap:=h' }) e c d (by decide) ⟨x,H,I1,ru,⟨rfl,fun ys hy=>by rw [I.tuple_inj hy hq]; exact hx⟩,st',fun b hb=>(hf b hb).1⟩⟩
 done:=by
  intro X hP hw hK hc i pins s σ H E I hf st hg
  subst hP hw hK
  obtain ⟨xs,hq,hx⟩:=hg
  obtain ⟨its,rv,p,hz⟩:=I.tuple hq
  obtain ⟨f0,f1,f2,f3,f4,f5⟩:=hf it (by simp)
  have hl:=rv.length
  exact wpAny_pyNext_tuple_end (I.ok.hd hc) st (show s.heap.IsTuple a its.toArray from p) (by simp; omega) fun h' eb=>⟨rfl,I.turned (t':=s.toks) (fun b o hb e=>eb b o hb e) f0 f1 f3 f4 f5⟩
 self:=fun _ _ _ _ _ st h=>wpAny_pyIter_tupleiter st h
theorem turn_range {P:Program} {w:World} {K:PySem.W.Frag} {tg:Expr} (it:Addr) (lo:Int) (n:Nat):Turn P w K tg (Itr lo n) [it] it (fun i h=>IsRangeIter h it (lo + (i:Nat) * 1) ((n:Int) - (i:Nat)) 1) where
 mem:=by simp
 obj:=fun i h st b hb=>by
  have e:b = it:=by simpa using hb
  subst e
  exact ⟨_,st,fun v z=>by
   have z':Data.fields _ = Data.cell v:=z
   cases z'⟩
 keep:=fun i h h' st k=>k it (by simp) _ st
 item:=by
  intro X hP hw hK hc i pins s σ H E I hf st hg
  subst hP hw hK
  obtain ⟨f0,f1,f2,f3,f4,f5⟩:=hf it (by simp)
  have W:=Walks.range (prog:=X.prog) (w:=X.w) (I.ok.hd hc) it lo 1 n
  refine W.item i s _ _ hg st fun v h' tk hv st' kk=>?_
  obtain ⟨t,rfl⟩:=hv
  have I1:Inv X pins σ H { s with heap:=h',toks:=tk }:=I.turned (fun b o hb e=>kk b o (by simpa using hb) e) f0 f1 f3 f4 f5
  refine ⟨_,rfl,go_of (s:={ s with heap:=h',toks:=tk }) (n := "range_iterator") st' rfl rfl (by decide) ⟨.int (lo + i),H,I1,⟨t,?_⟩,⟨rfl,rfl⟩,st',fun b hb=>(hf b hb).1⟩⟩
  rw [Int.mul_one]
 done:=by
  intro X hP hw hK hc i pins s σ H E I hf st hg
  subst hP hw hK
  obtain ⟨f0,f1,f2,f3,f4,f5⟩:=hf it (by simp)
  exact wpAny_pyNext_range_end (I.ok.hd hc) st (by have:n ≤ i:=hg; omega) fun h' eb=>⟨rfl,I.turned (t':=s.toks) (fun b o hb e=>eb b o hb e) f0 f1 f3 f4 f5⟩
 self:=fun _ _ _ _ _ st h=>wpAny_pyIter_rangeiter st h
section
variable {X:Cx} {tg:Expr}
def iList (K:PySem.W.Frag) (tl:TE):TI:=fun σ H R=>tl σ H fun x H1=>∃ a,x = .ref a∧(∃ xs,SqL K H1 a xs)∧R (Itl K a) H1
def iTup (K:PySem.W.Frag) (tl:TE):TI:=fun σ H R=>tl σ H fun x H1=>∃ a,x = .ref a∧(∃ xs,SqT K H1 a xs)∧R (Itt K a) H1
theorem pi_list {l:Expr} {tl:TE} (hl:PE X l tl):PI X tg l (iList X.K tl):=by
 intro pins s σ H R I h
 refine thn (hl pins s σ H _ I h) fun v s1 ⟨x,H1,I1,r1,q1⟩=>?_
 obtain ⟨a,e,⟨xs,hq⟩,q⟩:=q1
 subst e
 cases r1
 obtain ⟨its,rv,p,hz⟩:=I1.list hq
 refine wpAny_pyIter_list p.isList ?_
 refine ⟨s1.heap.objs.size,[s1.heap.objs.size],_,_,H1,rfl,I1.kept (t':=s1.toks) fun b o e=>Heap.get?_push_of_some _ e,turn_list a _,⟨_,Heap.get?_push_size _ rfl,rfl,rfl⟩,fun b hb=>?_,q⟩
 have e:b = s1.heap.objs.size:=by simpa using hb
 subst e
 exact I1.fpOk (Nat.le_refl _) (I1.hok.fresh (Nat.le_refl _))
theorem pi_tup {l:Expr} {tl:TE} (hl:PE X l tl):PI X tg l (iTup X.K tl):=by
 intro pins s σ H R I h
 refine thn (hl pins s σ H _ I h) fun v s1 ⟨x,H1,I1,r1,q1⟩=>?_
 obtain ⟨a,e,⟨xs,hq⟩,q⟩:=q1
 subst e
 cases r1
 obtain ⟨its,rv,p,hz⟩:=I1.tuple hq
 refine wpAny_pyIter_tuple (show s1.heap.IsTuple a its.toArray from p) ?_
 refine ⟨s1.heap.objs.size,[s1.heap.objs.size],_,_,H1,rfl,I1.kept (t':=s1.toks) fun b o e=>Heap.get?_push_of_some _ e,turn_tuple a _,⟨_,Heap.get?_push_size _ rfl,rfl,rfl⟩,fun b hb=>?_,q⟩
 have e:b = s1.heap.objs.size:=by simpa using hb
 subst e
 exact I1.fpOk (Nat.le_refl _) (I1.hok.fresh (Nat.le_refl _))
theorem range_it {pins:List (Addr × Obj)} {σ:St} {H:Hp} {s:Shared} {R:It→Hp→Prop} {E:Value→Shared→Prop} {lo hi:Int} {t u v:Tok} {tk:Nat} (I:Inv X pins σ H s) (h1:-(2 ^ 62) ≤ lo) (h2:lo < 2 ^ 62) (h3:-(2 ^ 62) ≤ hi) (h4:hi < 2 ^ 62)
  (q:R (Itr lo (hi - lo).toNat) H):wpAny (model X.prog X.w) X.A (pyIter (.ref s.heap.objs.size)) (PIE X pins σ tg R) E { s with heap:=s.heap.push { cls:=.type "range",data:=.fields #[.int lo t,.int hi u,.int 1 v] },toks:=tk }:=by
 refine wpAny_pyIter_range (IsRange.new ..) (small_one h1 h2 h3 h4) ?_
 have I1:Inv X pins σ H { s with heap:=s.heap.push { cls:=.type "range",data:=.fields #[.int lo t,.int hi u,.int 1 v] },toks:=tk }:=I.kept fun b o e=>Heap.get?_push_of_some _ e
 refine ⟨(s.heap.push { cls:=.type "range",data:=.fields #[.int lo t,.int hi u,.int 1 v] }).objs.size,[(s.heap.push { cls:=.type "range",data:=.fields #[.int lo t,.int hi u,.int 1 v] }).objs.size],_,_,H,rfl,
  I1.kept (t':=tk) fun b o e=>Heap.get?_push_of_some _ e,turn_range _ lo (hi - lo).toNat,?_,fun b hb=>?_,q⟩
 ·have e1:lo + ((0:Nat):Int) * 1 = lo:=by simp
  have e2:(((hi - lo).toNat:Nat):Int) - ((0:Nat):Int) = Builtin.Range.rangeSize lo hi 1:=by rw [rangeSize_one]; split <;> omega
  show IsRangeIter _ _ (lo + ((0:Nat):Int) * 1) ((((hi - lo).toNat:Nat):Int) - ((0:Nat):Int)) 1
  rw [e1,e2]
  exact Heap.get?_push_size _ rfl
 ·have e:b = (s.heap.push { cls:=.type "range",data:=.fields #[.int lo t,.int hi u,.int 1 v] }).objs.size:=by simpa using hb
  subst e
  exact I1.fpOk (Nat.le_refl _) (I1.hok.fresh (Nat.le_refl _))
def iRng1 (ta:TA):TI:=fun σ H R=>ta σ H fun vs H1=>∃ j:Int,vs = [.int j]∧-(2 ^ 62) ≤ j∧j < 2 ^ 62∧R (Itr 0 j.toNat) H1
theorem pi_range1 {a:Expr} {ta:TA} {p pos:Pos} (hg:Gl X "range") (hm:X.mg "range" = none) (ha:PA X [a] ta) (hs:starEach [a] X.env = [(false,eval a X.env)]:=by rfl):PI X tg (.Call (.Name "range" p) [a] [] pos) (iRng1 ta):=by
 intro pins s σ H R I h
 refine Call_ (ld_blt I hg hm boot_range (PyProof.Rows.callWith_type1 (thn (ha pos pins s σ H _ I h) fun us s1 ⟨vs,H1,I1,r1,q1⟩=>?_) hs rfl))
 obtain ⟨j,e,q1,q2,q⟩:=q1
 subst e
 cases r1 with
 | cons r rr =>
  cases rr
  obtain ⟨t,rfl⟩:=r
  exact call_range_1 (range_it I1 (by omega) (by omega) q1 q2 (by simpa using q))
def tFor (wi:TI) (g:TG) (tb:TS):TS:=fun D σ H=>wi σ H fun J H1=>∃ W:Nat→Nat→St→Hp→Prop,(∃ m,W 0 m σ H1)∧∀ i m σ H,W i m σ H →
 (J.stop i H∧D.nx σ H)∨(J.go i H∧∃ N:St→Hp→Prop,(∀ σ' H',N σ' H'→∃ m',m' < m∧W (i + 1) m' σ' H')∧∀ x H',J.yld i H x H'→g x σ H' fun σ2 H2=>tb { D with nx:=N,ct:=N,bk:=D.nx } σ2 H2)
def pinsAt (fp:List Addr) (h:Heap):List (Addr × Obj):=fp.filterMap fun b=>(h.get? b).map fun o=>(b,o)
theorem mem_pinsAt {fp:List Addr} {h:Heap} {b:Addr} {o:Obj} (hb:b ∈ fp) (e:h.get? b = some o):(b,o) ∈ pinsAt fp h:=List.mem_filterMap.mpr ⟨b,hb,by rw [e]; rfl⟩
theorem of_pinsAt {fp:List Addr} {h:Heap} {p:Addr × Obj} (hp:p ∈ pinsAt fp h):p.1 ∈ fp∧h.get? p.1 = some p.2:=by
 obtain ⟨b,hb,e⟩:=List.mem_filterMap.mp hp
 cases q:h.get? b with
 | none=>rw [q] at e; cases e
 | some o =>
  rw [q] at e
  have e':(b,o) = p:=Option.some.inj e
  subst e'
  exact ⟨hb,q⟩
theorem Inv.pinned {pins:List (Addr × Obj)} {σ:St} {H:Hp} {s:Shared} {fp:List Addr} (I:Inv X pins σ H s) (hf:∀ b ∈ fp,FpOk X pins H b) (ho:∀ b ∈ fp,∃ o,s.heap.get? b = some o∧∀ v,o.data ≠ .cell v):Inv X (pins ++ pinsAt fp s.heap) σ H s :=
 I.pins_of fun p hp=>(List.mem_append.mp hp).elim (fun z=>I.pin p (List.mem_append_right _ z)) fun z=>by
  obtain ⟨hb,e⟩:=of_pinsAt z
  obtain ⟨f0,f1,f2,_⟩:=hf p.1 hb
  obtain ⟨o,e',d⟩:=ho p.1 hb
  rw [e] at e'; cases e'
  exact ⟨e,f0,f1,f2,d⟩
theorem Inv.unpinned {pins pl:List (Addr × Obj)} {σ:St} {H:Hp} {s:Shared} (I:Inv X (pins ++ pl) σ H s):Inv X pins σ H s:=I.pins_of fun p hp=>I.pin p (List.mem_append_right _ (List.mem_append_left _ hp))
theorem ps_for {iter:Expr} {body:List Stmt} {wi:TI} {g:TG} {tb:TS} {pos:Pos} (hp:PassesOwn (model X.prog X.w) X.A X.env X.xe) (hc:X.calm = true) (hi:PI X tg iter wi) (hg:PG X tg g) (hb:PSs X body tb)
  (hs:∀ x,foldedSetIterable iter X.env x = pure x:=by intro _; rfl):PS X (.For tg iter body [] pos) (tFor wi g tb):=by
 intro pins s σ H D I h
 refine wpAny_For (thn (hi pins s σ H _ I h) fun v s1 h1=>thn h1 fun itv s2 h2=>?_) hs
 obtain ⟨it,fp,tn,J,H2,e,I2,T,st2,f2,W,⟨m0,w0⟩,turn⟩:=h2
 subst e
 -- what stays true of the iterator's objects through the loop
 have stat:∀ {H':Hp},(∀ b ∈ fp,H' b = none)→∀ b ∈ fp,FpOk X pins H' b:=fun hn b hb=>⟨hn b hb,(f2 b hb).2⟩
 refine codeAny_forLoop_any (fun n s'=>∃ i σ' H',Inv X pins σ' H' s'∧tn i s'.heap∧(∀ b ∈ fp,H' b = none)∧W i n σ' H') ?_ m0 ⟨0,σ,H2,I2,st2,fun b hb=>(f2 b hb).1,w0⟩
 rintro n s3 ⟨i,σ3,H3,I3,st3,fr3,w3⟩
 rcases turn i n σ3 H3 w3 with ⟨stop,qn⟩ | ⟨go,N,hN,step⟩
 ·refine wpAny_passesOwn hp (thn (T.done X rfl rfl rfl hc i pins s3 σ3 H3 X.xe I3 (stat fr3) st3 stop) fun r s4 ⟨hr,I4⟩=>?_)
  subst hr
  exact wpAny_execs_nil ⟨σ3,H3,I4,qn⟩
 ·refine wpAny_passesOwn hp (thn (T.item X rfl rfl rfl hc i pins s3 σ3 H3 X.xe I3 (stat fr3) st3 go) fun r s4 ⟨u,hr,h4⟩=>?_)
  subst hr
  refine wpAny_passesOwn hp (thn h4 fun _ s5 ⟨x,H5,I5,r5,y5,st5,fr5⟩=>?_)
  have I5':=I5.pinned (stat fr5) (T.obj _ _ st5)
  refine wpAny_passesOwn hp (thn (hg _ s5 σ3 H5 x u _ I5' r5 (step x H5 y5)) fun _ s6 ⟨σ6,H6,I6,q6⟩=>?_)
  refine wpAny_passesOwn hp (thn (hb _ s6 σ6 H6 _ I6 q6) fun f s7 q7=>?_)
  have again:∀ {σ7:St} {H7:Hp},Inv X (pins ++ pinsAt fp s5.heap) σ7 H7 s7→N σ7 H7→∃ m,m < n∧∃ i σ' H',Inv X pins σ' H' s7∧tn i s7.heap∧(∀ b ∈ fp,H' b = none)∧W i m σ' H':=fun {σ7 H7} I7 n7=>by
   obtain ⟨m',hm,w7⟩:=hN σ7 H7 n7
   refine ⟨m',hm,i + 1,σ7,H7,I7.unpinned,T.keep _ _ _ st5 fun b hb o e=>(I7.pin (b,o) (List.mem_append_right _ (List.mem_append_right _ (mem_pinsAt hb e)))).1,fun b hb=>?_,w7⟩
   obtain ⟨o,e,d⟩:=T.obj _ _ st5 b hb
   exact (I7.pin (b,o) (List.mem_append_right _ (List.mem_append_right _ (mem_pinsAt hb e)))).2.1
  cases f with
  | next=>obtain ⟨σ7,H7,I7,n7⟩:=q7; exact again I7 n7
  | cont=>obtain ⟨σ7,H7,I7,n7⟩:=q7; exact again I7 n7
  | brk=>obtain ⟨σ7,H7,I7,q7⟩:=q7; exact ⟨σ7,H7,I7.unpinned,q7⟩
  | ret v=>obtain ⟨x7,σ7,H7,I7,r7,q7⟩:=q7; exact ⟨x7,σ7,H7,I7.unpinned,r7,q7⟩
end
theorem for_list {K:PySem.W.Frag} {a:Addr} {xs:List V} {g:TG} {tb:TS} {D:Ends} {σ:St} {H:Hp} (Pv:Nat→St→Hp→Prop) (h0:Pv 0 σ H) (hl:∀ i σ H,i ≤ xs.length→Pv i σ H→SqL K H a xs)
  (hs:∀ i x σ H,xs[i]? = some x→Pv i σ H→g x σ H fun σ2 H2=>tb { D with nx:=Pv (i + 1),ct:=Pv (i + 1),bk:=D.nx } σ2 H2) (hd:∀ σ H,Pv xs.length σ H→D.nx σ H) :
  ∃ W:Nat→Nat→St→Hp→Prop,(∃ m,W 0 m σ H)∧∀ i m σ H,W i m σ H →
   ((Itl K a).stop i H∧D.nx σ H)∨((Itl K a).go i H∧∃ N:St→Hp→Prop,(∀ σ' H',N σ' H'→∃ m',m' < m∧W (i + 1) m' σ' H')∧∀ x H',(Itl K a).yld i H x H'→g x σ H' fun σ2 H2=>tb { D with nx:=N,ct:=N,bk:=D.nx } σ2 H2):=by
 refine ⟨fun i m σ H=>m = xs.length - i∧i ≤ xs.length∧Pv i σ H,⟨xs.length,by simp,Nat.zero_le _,h0⟩,?_⟩
 rintro i m σ H ⟨rfl,hi,p⟩
 have q:=hl i σ H hi p
 by_cases hlt:i < xs.length
 ·refine .inr ⟨⟨xs,xs[i],q,by simp [hlt]⟩,Pv (i + 1),fun σ' H' p'=>⟨xs.length - (i + 1),by omega,rfl,hlt,p'⟩,fun x H' y=>?_⟩
  obtain ⟨e,y⟩:=y
  subst e
  exact hs i x σ _ (y xs q) p
 ·have e:i = xs.length:=by omega
  subst e
  exact .inl ⟨⟨xs,q,Nat.le_refl _⟩,hd σ H p⟩
theorem for_tup {K:PySem.W.Frag} {a:Addr} {xs:List V} {g:TG} {tb:TS} {D:Ends} {σ:St} {H:Hp} (Pv:Nat→St→Hp→Prop) (h0:Pv 0 σ H) (hl:∀ i σ H,i ≤ xs.length→Pv i σ H→SqT K H a xs)
  (hs:∀ i x σ H,xs[i]? = some x→Pv i σ H→g x σ H fun σ2 H2=>tb { D with nx:=Pv (i + 1),ct:=Pv (i + 1),bk:=D.nx } σ2 H2) (hd:∀ σ H,Pv xs.length σ H→D.nx σ H) :
  ∃ W:Nat→Nat→St→Hp→Prop,(∃ m,W 0 m σ H)∧∀ i m σ H,W i m σ H →
   ((Itt K a).stop i H∧D.nx σ H)∨((Itt K a).go i H∧∃ N:St→Hp→Prop,(∀ σ' H',N σ' H'→∃ m',m' < m∧W (i + 1) m' σ' H')∧∀ x H',(Itt K a).yld i H x H'→g x σ H' fun σ2 H2=>tb { D with nx:=N,ct:=N,bk:=D.nx } σ2 H2):=by
 refine ⟨fun i m σ H=>m = xs.length - i∧i ≤ xs.length∧Pv i σ H,⟨xs.length,by simp,Nat.zero_le _,h0⟩,?_⟩
 rintro i m σ H ⟨rfl,hi,p⟩
 have q:=hl i σ H hi p
 by_cases hlt:i < xs.length
 ·refine .inr ⟨⟨xs,xs[i],q,by simp [hlt]⟩,Pv (i + 1),fun σ' H' p'=>⟨xs.length - (i + 1),by omega,rfl,hlt,p'⟩,fun x H' y=>?_⟩
  obtain ⟨e,y⟩:=y
  subst e
  exact hs i x σ _ (y xs q) p
 ·have e:i = xs.length:=by omega
  subst e
  exact .inl ⟨⟨xs,q,Nat.le_refl _⟩,hd σ H p⟩
theorem for_range {lo:Int} {n:Nat} {g:TG} {tb:TS} {D:Ends} {σ:St} {H:Hp} (Pv:Nat→St→Hp→Prop) (h0:Pv 0 σ H)
  (hs:∀ i σ H,i < n→Pv i σ H→g (.int (lo + i)) σ H fun σ2 H2=>tb { D with nx:=Pv (i + 1),ct:=Pv (i + 1),bk:=D.nx } σ2 H2) (hd:∀ σ H,Pv n σ H→D.nx σ H) :
  ∃ W:Nat→Nat→St→Hp→Prop,(∃ m,W 0 m σ H)∧∀ i m σ H,W i m σ H →
   ((Itr lo n).stop i H∧D.nx σ H)∨((Itr lo n).go i H∧∃ N:St→Hp→Prop,(∀ σ' H',N σ' H'→∃ m',m' < m∧W (i + 1) m' σ' H')∧∀ x H',(Itr lo n).yld i H x H'→g x σ H' fun σ2 H2=>tb { D with nx:=N,ct:=N,bk:=D.nx } σ2 H2):=by
 refine ⟨fun i m σ H=>m = n - i∧i ≤ n∧Pv i σ H,⟨n,by simp,Nat.zero_le _,h0⟩,?_⟩
 rintro i m σ H ⟨rfl,hi,p⟩
 by_cases hlt:i < n
 ·refine .inr ⟨hlt,Pv (i + 1),fun σ' H' p'=>⟨n - (i + 1),by omega,rfl,hlt,p'⟩,fun x H' y=>?_⟩
  obtain ⟨e,y⟩:=y
  subst e y
  exact hs i σ _ hlt p
 ·have e:i = n:=by omega
  subst e
  exact .inl ⟨Nat.le_refl _,hd σ H p⟩
abbrev R2:=V→V→Hp→VK→Prop
def OpR (X:Cx) (f:Value→Value→Sem Value) (r:R2):Prop :=
 ∀ (pins:List (Addr × Obj)) (s:Shared) (σ:St) (H:Hp) (x y:V) (v u:Value) (Q:VK),Inv X pins σ H s→RelV x v→RelV y u→r x y H Q →
  wpAny (model X.prog X.w) X.A (f v u) (EP X pins σ Q) X.xe s
def UnR (X:Cx) (f:Value→Sem Value) (r:V→Hp→VK→Prop):Prop :=
 ∀ (pins:List (Addr × Obj)) (s:Shared) (σ:St) (H:Hp) (x:V) (v:Value) (Q:VK),Inv X pins σ H s→RelV x v→r x H Q →
  wpAny (model X.prog X.w) X.A (f v) (EP X pins σ Q) X.xe s
def CallR (X:Cx) (f:Value) (r:List V→Hp→VK→Prop):Prop :=
 ∀ (pins:List (Addr × Obj)) (s:Shared) (σ:St) (H:Hp) (xs:List V) (us:List Value) (Q:VK),Inv X pins σ H s→Vals xs us→r xs H Q →
  wpAny (model X.prog X.w) X.A (call f us) (EP X pins σ Q) X.xe s
def TruR (X:Cx) (r:V→Hp→(Bool→Hp→Prop)→Prop):Prop :=
 ∀ (pins:List (Addr × Obj)) (s:Shared) (σ:St) (H:Hp) (x:V) (v:Value) (Q:Bool→Hp→Prop),Inv X pins σ H s→RelV x v→r x H Q →
  wpAny (model X.prog X.w) X.A (truthy v) (TP X pins σ Q) X.xe s
def tOp (r:R2) (ta tb:TE):TE:=fun σ H Q=>ta σ H fun x H1=>tb σ H1 fun y H2=>r x y H2 Q
def tUn (r:V→Hp→VK→Prop) (ta:TE):TE:=fun σ H Q=>ta σ H fun x H1=>r x H1 Q
def rI (C:Int→Int→Prop) (g:Int→Int→V):R2:=fun x y H Q=>∃ i j,x = .int i∧y = .int j∧C i j∧Q (g i j) H
def rI0 (g:Int→Int→V):R2:=fun x y H Q=>∃ i j,x = .int i∧y = .int j∧Q (g i j) H
def rU (g:Int→V):V→Hp→VK→Prop:=fun x H Q=>∃ i,x = .int i∧Q (g i) H
section
variable {X:Cx} {a b c:Expr} {ta tb tc:TE} {pos:Pos}
theorem binT (ha:PE X a ta) (hb:PE X b tb) {pins:List (Addr × Obj)} {s:Shared} {σ:St} {H:Hp} {R:V→V→Hp→Prop} (I:Inv X pins σ H s)
  (h:ta σ H fun x H1=>tb σ H1 fun y H2=>R x y H2) {Q:Value→Shared→Prop} {f:Value→Value→Sem Value}
  (hf:∀ v u s2 x y H2,Inv X pins σ H2 s2→RelV x v→RelV y u→R x y H2→wpAny (model X.prog X.w) X.A (f v u) Q X.xe s2) :
  wpAny (model X.prog X.w) X.A (eval a X.env) (fun v s₁=>wpAny (model X.prog X.w) X.A (eval b X.env) (fun u s₂=>wpAny (model X.prog X.w) X.A (f v u) Q X.xe s₂) X.xe s₁) X.xe s:=by
 refine thn (ha pins s σ H _ I h) fun v s1 ⟨x,H1,I1,r1,q1⟩=>?_
 refine thn (hb pins s1 σ H1 _ I1 q1) fun u s2 ⟨y,H2,I2,r2,q2⟩=>?_
 exact hf v u s2 x y H2 I2 r1 r2 q2
theorem pe_op {op:Operator} {r:R2} (ho:OpR X (binaryOp op) r) (ha:PE X a ta) (hb:PE X b tb):PE X (.BinOp a op b pos) (tOp r ta tb):=by
 intro pins s σ H Q I h
 exact wpAny_BinOp (binT ha hb I h fun v u s2 x y H2 I2 rx ry q=>ho pins s2 σ H2 x y v u Q I2 rx ry q)
theorem pe_un {op:UnaryOp} {r:V→Hp→VK→Prop} (ho:UnR X (unaryOp op) r) (ha:PE X a ta):PE X (.UnaryOp op a pos) (tUn r ta):=by
 intro pins s σ H Q I h
 exact UnaryOp_ (thn (ha pins s σ H _ I h) fun v s1 ⟨x,H1,I1,r1,q1⟩=>ho pins s1 σ H1 x v Q I1 r1 q1)
theorem opI {f:Value→Value→Sem Value} {C:Int→Int→Prop} {g:Int→Int→Int}
  (rule:∀ (i j:Int) (t u:Tok) (s:Shared) (Q:Value→Shared→Prop) (E:Value→Shared→Prop),C i j→Q (.int (g i j) s.toks) { s with toks:=s.toks + 1 }→wpAny (model X.prog X.w) X.A (f (.int i t) (.int j u)) Q E s) :
  OpR X f (rI C fun i j=>.int (g i j)):=by
 intro pins s σ H x y v u Q I rx ry h
 obtain ⟨i,j,rfl,rfl,hc,q⟩:=h
 obtain ⟨t,rfl⟩:=rx
 obtain ⟨t',rfl⟩:=ry
 exact rule i j t t' s _ _ hc ⟨.int (g i j),H,I.tok _,⟨_,rfl⟩,q⟩
theorem opI0 {f:Value→Value→Sem Value} {g:Int→Int→Int}
  (rule:∀ (i j:Int) (t u:Tok) (s:Shared) (Q:Value→Shared→Prop) (E:Value→Shared→Prop),Q (.int (g i j) s.toks) { s with toks:=s.toks + 1 }→wpAny (model X.prog X.w) X.A (f (.int i t) (.int j u)) Q E s) :
  OpR X f (rI0 fun i j=>.int (g i j)):=by
 intro pins s σ H x y v u Q I rx ry h
 obtain ⟨i,j,rfl,rfl,q⟩:=h
 obtain ⟨t,rfl⟩:=rx
 obtain ⟨t',rfl⟩:=ry
 exact rule i j t t' s _ _ ⟨.int (g i j),H,I.tok _,⟨_,rfl⟩,q⟩
theorem opB0 {f:Value→Value→Sem Value} {g:Int→Int→Bool}
  (rule:∀ (i j:Int) (t u:Tok) (s:Shared) (Q:Value→Shared→Prop) (E:Value→Shared→Prop),Q (.bool (g i j)) s→wpAny (model X.prog X.w) X.A (f (.int i t) (.int j u)) Q E s) :
  OpR X f (rI0 fun i j=>.bl (g i j)):=by
 intro pins s σ H x y v u Q I rx ry h
 obtain ⟨i,j,rfl,rfl,q⟩:=h
 obtain ⟨t,rfl⟩:=rx
 obtain ⟨t',rfl⟩:=ry
 exact rule i j t t' s _ _ ⟨.bl (g i j),H,I,rfl,q⟩
def CDiv (i j:Int):Prop:=0 < j∧j < 1073741824
def CMul (i j:Int):Prop:=(-(2 ^ 64) < i∧i < 2 ^ 64)∨(-(2 ^ 64) < j∧j < 2 ^ 64)
theorem CMul.ok {i j:Int} (h:CMul i j):IntMulOk i j:=by
 rcases h with ⟨h1,h2⟩ | ⟨h1,h2⟩
 ·exact .of_left (intBits_le_64 h1 h2)
 ·exact .of_right (intBits_le_64 h1 h2)
theorem op_add:OpR X (binaryOp .Add) (rI0 fun i j=>.int (i + j)):=opI0 fun _ _ _ _ _ _ _ q=>add_int q
theorem op_sub:OpR X (binaryOp .Sub) (rI0 fun i j=>.int (i - j)):=opI0 fun _ _ _ _ _ _ _ q=>sub_int q
theorem op_mul:OpR X (binaryOp .Mult) (rI CMul fun i j=>.int (i * j)):=opI fun _ _ _ _ _ _ _ hc q=>mul_int q hc.ok
theorem op_fdiv:OpR X (binaryOp .FloorDiv) (rI CDiv fun i j=>.int (i / j)):=opI fun i j _ _ _ _ _ hc q=>by
 have h1:(0:Int) < j:=hc.1
 have h2:j < 1073741824:=hc.2
 exact floordiv_int (by omega) (by rw [Int.fdiv_eq_ediv_of_nonneg i (by omega)]; exact q) (.inl (PyProof.noPylong_small (by omega)))
theorem op_mod:OpR X (binaryOp .Mod) (rI (fun _ j=>0 < j) fun i j=>.int (i % j)):=opI fun i j _ _ _ _ _ hc q=>by
 have h1:(0:Int) < j:=hc
 exact mod_int' (by omega) (by rw [Int.fmod_eq_emod_of_nonneg i (by omega)]; exact q)
theorem unI {f:Value→Sem Value} {g:Int→Int}
  (rule:∀ (i:Int) (t:Tok) (s:Shared) (Q:Value→Shared→Prop) (E:Value→Shared→Prop),Q (.int (g i) s.toks) { s with toks:=s.toks + 1 }→wpAny (model X.prog X.w) X.A (f (.int i t)) Q E s) :
  UnR X f (rU fun i=>.int (g i)):=by
 intro pins s σ H x v Q I rx h
 obtain ⟨i,rfl,q⟩:=h
 obtain ⟨t,rfl⟩:=rx
 exact rule i t s _ _ ⟨.int (g i),H,I.tok _,⟨_,rfl⟩,q⟩
theorem un_neg:UnR X (unaryOp .USub) (rU fun i=>.int (-i)):=unI fun _ _ _ _ _ q=>neg_int q
end
def scal:V→V→Bool
 | .non,.non=>true | .non,.int _=>true | .int _,.non=>true | .non,.bl _=>true | .bl _,.non=>true | .non,.str _=>true | .str _,.non=>true
 | .int _,.int _=>true | .bl _,.bl _=>true | .str _,.str _=>true | .byt _,.byt _=>true
 | .int _,.str _=>true | .str _,.int _=>true | .bl _,.str _=>true | .str _,.bl _=>true
 | _,_=>false
def rEq:R2:=fun x y H Q=>scal x y = true∧Q (.bl (decide (x = y))) H
def rNe:R2:=fun x y H Q=>scal x y = true∧Q (.bl (!decide (x = y))) H
theorem dec_int {i j:Int}:decide (V.int i = V.int j) = (i == j):=by
 rw [Bool.eq_iff_iff]
 simp
theorem dec_bl {i j:Bool}:decide (V.bl i = V.bl j) = (i == j):=by
 rw [Bool.eq_iff_iff]
 simp
theorem dec_str {i j:Str}:decide (V.str i = V.str j) = (i == j):=by
 rw [Bool.eq_iff_iff]
 simp
theorem dec_byt {i j:Array UInt8}:decide (V.byt i = V.byt j) = (i.toList == j.toList):=by
 rw [Bool.eq_iff_iff]
 cases i
 cases j
 simp
section
variable {X:Cx} {a b c:Expr} {ta tb tc:TE} {pos:Pos}
theorem fin_bl {pins:List (Addr × Obj)} {σ:St} {H:Hp} {s:Shared} {Q:VK} {k k':Bool} (I:Inv X pins σ H s) (q:Q (.bl k) H) (e:k = k'):EP X pins σ Q (.bool k') s:=by
 subst e
 exact ⟨.bl k,H,I,rfl,q⟩
theorem op_eq:OpR X (compareOp .Eq) rEq:=by
 intro pins s σ H x y v u Q I rx ry h
 obtain ⟨hs,q⟩:=h
 cases x with
 | non =>
  cases rx
  cases y with
  | non=>cases ry; exact PySem.EqNone.eq_none_none (fin_bl I q (by simp))
  | bl j=>cases ry; exact PySem.EqNone.eq_none_bool (fin_bl I q (by simp))
  | int j=>obtain ⟨t',rfl⟩:=ry; exact PySem.EqNone.eq_none_int (fin_bl I q (by simp))
  | str j=>obtain ⟨t',rfl⟩:=ry; exact PySem.EqNone.eq_none_str (fin_bl I q (by simp))
  | _=>exact absurd (show false = true from hs) Bool.false_ne_true
 | bl i =>
  cases rx
  cases y with
  | non=>cases ry; exact PySem.EqNone.eq_bool_none (fin_bl I q (by simp))
  | bl j=>cases ry; exact eq_bool (fin_bl I q dec_bl)
  | str j=>obtain ⟨t',rfl⟩:=ry; exact PySem.EqMixed.eq_bool_str (fin_bl I q (by simp))
  | _=>exact absurd (show false = true from hs) Bool.false_ne_true
 | int i =>
  obtain ⟨t,rfl⟩:=rx
  cases y with
  | non=>cases ry; exact PySem.EqNone.eq_int_none (fin_bl I q (by simp))
  | int j=>obtain ⟨t',rfl⟩:=ry; exact eq_int (fin_bl I q dec_int)
  | str j=>obtain ⟨t',rfl⟩:=ry; exact PySem.EqMixed.eq_int_str (fin_bl I q (by simp))
  | _=>exact absurd (show false = true from hs) Bool.false_ne_true
 | str i =>
  obtain ⟨t,rfl⟩:=rx
  cases y with
  | non=>cases ry; exact PySem.EqNone.eq_str_none (fin_bl I q (by simp))
  | bl j=>cases ry; exact PySem.EqMixed.eq_str_bool (fin_bl I q (by simp))
  | int j=>obtain ⟨t',rfl⟩:=ry; exact PySem.EqMixed.eq_str_int (fin_bl I q (by simp))
  | str j=>obtain ⟨t',rfl⟩:=ry; exact eq_str (fin_bl I q dec_str)
  | _=>exact absurd (show false = true from hs) Bool.false_ne_true
 | byt i =>
  obtain ⟨t,rfl⟩:=rx
  cases y with
  | byt j=>obtain ⟨t',rfl⟩:=ry; exact PySem.W.eq_bytes (fin_bl I q dec_byt)
  | _=>exact absurd (show false = true from hs) Bool.false_ne_true
 | _=>cases y <;> exact absurd (show false = true from hs) Bool.false_ne_true
theorem op_ne:OpR X (compareOp .NotEq) rNe:=by
 intro pins s σ H x y v u Q I rx ry h
 obtain ⟨hs,q⟩:=h
 cases x with
 | non =>
  cases rx
  cases y with
  | non=>cases ry; exact PySem.EqNone.ne_none_none (fin_bl I q (by simp))
  | bl j=>cases ry; exact PySem.EqNone.ne_none_bool (fin_bl I q (by simp))
  | int j=>obtain ⟨t',rfl⟩:=ry; exact PySem.EqNone.ne_none_int (fin_bl I q (by simp))
  | str j=>obtain ⟨t',rfl⟩:=ry; exact PySem.EqNone.ne_none_str (fin_bl I q (by simp))
  | _=>exact absurd (show false = true from hs) Bool.false_ne_true
 | bl i =>
  cases rx
  cases y with
  | non=>cases ry; exact PySem.EqNone.ne_bool_none (fin_bl I q (by simp))
  | bl j=>cases ry; exact ne_bool (fin_bl I q (congrArg not dec_bl))
  | str j=>obtain ⟨t',rfl⟩:=ry; exact PySem.EqMixed.ne_bool_str (fin_bl I q (by simp))
  | _=>exact absurd (show false = true from hs) Bool.false_ne_true
 | int i =>
  obtain ⟨t,rfl⟩:=rx
  cases y with
  | non=>cases ry; exact PySem.EqNone.ne_int_none (fin_bl I q (by simp))
  | int j=>obtain ⟨t',rfl⟩:=ry; exact ne_int (fin_bl I q (congrArg not dec_int))
  | str j=>obtain ⟨t',rfl⟩:=ry; exact PySem.EqMixed.ne_int_str (fin_bl I q (by simp))
  | _=>exact absurd (show false = true from hs) Bool.false_ne_true
 | str i =>
  obtain ⟨t,rfl⟩:=rx
  cases y with
  | non=>cases ry; exact PySem.EqNone.ne_str_none (fin_bl I q (by simp))
  | bl j=>cases ry; exact PySem.EqMixed.ne_str_bool (fin_bl I q (by simp))
  | int j=>obtain ⟨t',rfl⟩:=ry; exact PySem.EqMixed.ne_str_int (fin_bl I q (by simp))
  | str j=>obtain ⟨t',rfl⟩:=ry; exact ne_str (fin_bl I q (congrArg not dec_str))
  | _=>exact absurd (show false = true from hs) Bool.false_ne_true
 | byt i =>
  obtain ⟨t,rfl⟩:=rx
  cases y with
  | byt j=>obtain ⟨t',rfl⟩:=ry; exact PySem.W.ne_bytes (fin_bl I q (congrArg not dec_byt))
  | _=>exact absurd (show false = true from hs) Bool.false_ne_true
 | _=>cases y <;> exact absurd (show false = true from hs) Bool.false_ne_true
theorem op_lt:OpR X (compareOp .Lt) (rI0 fun i j=>.bl (decide (i < j))):=opB0 fun _ _ _ _ _ _ _ q=>lt_int q
theorem op_le:OpR X (compareOp .LtE) (rI0 fun i j=>.bl (decide (i ≤ j))):=opB0 fun _ _ _ _ _ _ _ q=>le_int q
theorem op_gt:OpR X (compareOp .Gt) (rI0 fun i j=>.bl (decide (j < i))):=opB0 fun _ _ _ _ _ _ _ q=>gt_int q
theorem op_ge:OpR X (compareOp .GtE) (rI0 fun i j=>.bl (decide (j ≤ i))):=opB0 fun _ _ _ _ _ _ _ q=>ge_int q
theorem op_isN:OpR X (compareOp .Is) (fun x y H Q=>y = .non∧Q (.bl (decide (x = .non))) H):=by
 intro pins s σ H x y v u Q I rx ry h
 obtain ⟨rfl,q⟩:=h
 cases ry
 refine is_none_gen (fin_bl I q ?_)
 cases x <;> first
  | (cases rx; rfl)
  | (obtain ⟨t,rfl⟩:=rx; rfl)
theorem nomark (b:Expr) {op:CmpOp} (h:op ≠ .In:=by decide) (h2:op ≠ .NotIn:=by decide):behindInMarks op b = false:=by
 have e1:(op == CmpOp.In) = false:=by cases op <;> first | rfl | exact absurd rfl h
 have e2:(op == CmpOp.NotIn) = false:=by cases op <;> first | rfl | exact absurd rfl h2
 cases b <;> simp [behindInMarks,e1,e2]
theorem pe_cmpR {op:CmpOp} {r:R2} (ho:OpR X (compareOp op) r) (ha:PE X a ta) (hb:PE X b tb) (hm:behindInMarks op b = false):PE X (.Compare a [op] [b] pos) (tOp r ta tb):=by
 intro pins s σ H Q I h
 exact wpAny_Compare1 (binT ha hb I h fun v u s2 x y H2 I2 rx ry q=>ho pins s2 σ H2 x y v u Q I2 rx ry q) hm
def tTest (t:TE):TT:=fun σ H Q=>t σ H fun x H'=>∃ k,x = .bl k∧Q k H'
theorem pt_cmpR {op:CmpOp} {r:R2} (ho:OpR X (compareOp op) r) (ha:PE X a ta) (hb:PE X b tb) (hm:behindInMarks op b = false):PT X (.Compare a [op] [b] pos) (tTest (tOp r ta tb)):=by
 intro pins s σ H Q I h
 refine wpAny_isTrue_Compare1 (thn (ha pins s σ H _ I h) fun v s1 ⟨x,H1,I1,r1,q1⟩=>thn (hb pins s1 σ H1 _ I1 q1) fun u s2 ⟨y,H2,I2,r2,q2⟩ =>
  thn (ho pins s2 σ H2 x y v u _ I2 r1 r2 q2) fun c s3 ⟨z,H3,I3,r3,k,e,q3⟩=>?_) hm
 subst e
 cases r3
 exact wpAny_truthy_bool ⟨H3,I3,q3⟩
def tChain (r r':R2) (ta tb tc:TE):TE:=fun σ H Q=>ta σ H fun x H1=>tb σ H1 fun y H2=>r x y H2 fun z H3=>∃ k,z = .bl k ∧
 (if k = true then tc σ H3 fun w' H4=>r' y w' H4 Q else Q (.bl false) H3)
theorem pe_chain {op op':CmpOp} {r r':R2} (ho:OpR X (compareOp op) r) (ho':OpR X (compareOp op') r') (ha:PE X a ta) (hb:PE X b tb) (hc:PE X c tc)
  (hm:lastMarks [op,op'] [b,c] = false:=by with_unfolding_all rfl):PE X (.Compare a [op,op'] [b,c] pos) (tChain r r' ta tb tc):=by
 intro pins s σ H Q I h
 refine Compare_chain (thn (ha pins s σ H _ I h) fun v s1 ⟨x,H1,I1,r1,q1⟩=>chain_link (thn (hb pins s1 σ H1 _ I1 q1) fun u s2 ⟨y,H2,I2,r2,q2⟩ =>
  thn (ho pins s2 σ H2 x y v u _ I2 r1 r2 q2) fun d s3 ⟨z,H3,I3,r3,k,e,q3⟩=>?_)) hm
 subst e
 cases r3
 refine wpAny_truthy_bool ?_
 cases k with
 | false=>exact ite_ff ⟨.bl false,H3,I3,rfl,q3⟩
 | true=>exact ite_tt (chain_last (thn (hc pins s3 σ H3 _ I3 q3) fun w' s4 ⟨z',H4,I4,r4,q4⟩=>ho' pins s4 σ H4 y z' u w' Q I4 r2 r4 q4))
theorem pt_chain {op op':CmpOp} {r r':R2} (ho:OpR X (compareOp op) r) (ho':OpR X (compareOp op') r') (ha:PE X a ta) (hb:PE X b tb) (hc:PE X c tc)
  (hm:lastMarks [op,op'] [b,c] = false:=by with_unfolding_all rfl):PT X (.Compare a [op,op'] [b,c] pos) (tTest (tChain r r' ta tb tc)):=by
 intro pins s σ H Q I h
 refine isTrue_chain (thn (ha pins s σ H _ I h) fun v s1 ⟨x,H1,I1,r1,q1⟩=>test_link (thn (hb pins s1 σ H1 _ I1 q1) fun u s2 ⟨y,H2,I2,r2,q2⟩ =>
  thn (ho pins s2 σ H2 x y v u _ I2 r1 r2 q2) fun d s3 ⟨z,H3,I3,r3,k,e,q3⟩=>?_)) hm
 subst e
 cases r3
 refine wpAny_truthy_bool ?_
 cases k with
 | false =>
  obtain ⟨k',e',q'⟩:=q3
  cases e'
  exact ite_ff ⟨H3,I3,q'⟩
 | true =>
  refine ite_tt (test_last (thn (hc pins s3 σ H3 _ I3 q3) fun w' s4 ⟨z',H4,I4,r4,q4⟩=>thn (ho' pins s4 σ H4 y z' u w' _ I4 r2 r4 q4) fun d' s5 ⟨z2,H5,I5,r5,k2,e2,q5⟩=>?_))
  subst e2
  cases r5
  exact wpAny_truthy_bool ⟨H5,I5,q5⟩
def TruV (K:PySem.W.Frag) (x:V) (H:Hp) (k:Bool):Prop :=
 match x with
 | .non=>k = false
 | .bl b=>k = b
 | .int i=>k = (i != 0)
 | .str y=>y.length ≤ sizeLine∧k = ((y.length:Int) != 0)
 | .byt y=>y.size ≤ sizeLine∧k = ((y.size:Int) != 0)
 | .ref p=>(∃ xs,SqL K H p xs∧k = !xs.isEmpty)∨(∃ xs,SqT K H p xs∧k = !xs.isEmpty)∨∃ kvs,H p = some (.dK kvs)∧k = !kvs.isEmpty
 | _=>False
theorem isEmpty_kv {κ:Type} {kvs:List (κ × V)} {vs:List (κ × Value)} (r:KV kvs vs):(!vs.isEmpty) = !kvs.isEmpty:=by
 cases r <;> rfl
theorem isEmpty_of {xs:List V} {its:List Value} (r:Vals xs its):(!its.toArray.isEmpty) = !xs.isEmpty:=by
 cases r <;> simp
theorem line63:(sizeLine:Nat) < 2 ^ 63:=by rw [sizeLine_eq]; decide
theorem tru_ok:TruR X (fun x H Q=>∃ k,TruV X.K x H k∧Q k H):=by
 intro pins s σ H x v Q I rx h
 obtain ⟨k,e,q⟩:=h
 have hl:=line63
 have hs:sizeLine = 16777216:=sizeLine_eq
 cases x with
 | non =>
  cases rx
  have e':k = false:=e
  subst e'
  exact truthy_none ⟨H,I,q⟩
 | bl b =>
  cases rx
  have e':k = b:=e
  subst e'
  exact wpAny_truthy_bool ⟨H,I,q⟩
 | int i =>
  obtain ⟨t,rfl⟩:=rx
  have e':k = (i != 0):=e
  subst e'
  exact PySem.P.truthy_int ⟨H,I,q⟩
 | str y =>
  obtain ⟨t,rfl⟩:=rx
  obtain ⟨hy,e'⟩:y.length ≤ sizeLine∧k = ((y.length:Int) != 0):=e
  subst e'
  exact PySem.P.truthy_str (by omega) ⟨H,I.tok _,q⟩
 | byt y =>
  obtain ⟨t,rfl⟩:=rx
  obtain ⟨hy,e'⟩:y.size ≤ sizeLine∧k = ((y.size:Int) != 0):=e
  subst e'
  exact PySem.W.truthy_bytes (by omega) ⟨H,I.tok _,q⟩
 | ref p =>
  cases rx
  have e':(∃ xs,SqL X.K H p xs∧k = !xs.isEmpty)∨(∃ xs,SqT X.K H p xs∧k = !xs.isEmpty)∨∃ kvs,H p = some (.dK kvs)∧k = !kvs.isEmpty:=e
  rcases e' with ⟨xs,hx,e'⟩ | ⟨xs,hx,e'⟩ | ⟨kvs,hx,e'⟩
  ·subst e'
   obtain ⟨its,r,pl,hz⟩:=I.list hx
   have hlen:=r.length
   exact wpAny_truthy_list pl.isList (by simp only [List.size_toArray]; omega) ⟨H,I.tok _,by rw [isEmpty_of r]; exact q⟩
  ·subst e'
   obtain ⟨its,r,pl,hz⟩:=I.tuple hx
   have hlen:=r.length
   exact truthy_tuple pl (by simp only [List.size_toArray]; omega) ⟨H,I.tok _,by rw [isEmpty_of r]; exact q⟩
  ·subst e'
   obtain ⟨hz,hS,vs,r,m⟩:kvs.length ≤ sizeLine∧(p == sysModules) = false∧∃ vs,KV kvs vs∧s.heap.DictOf (mixKind X.prog X.w) p vs:=I.hok p _ hx
   have hlen:kvs.length = vs.length:=Paired.length r
   exact wpAny_truthy_dict hS m (by omega) ⟨H,I.tok _,by rw [isEmpty_kv r]; exact q⟩
 | _=>exact (show False from e).elim
theorem pt_truth (ha:PE X a ta) (he:∀ whole,isTrue a X.env whole = (do let v ← whole; standAt a.pos; holding [v] (truthy v))) :
  PT X a (fun σ H Q=>ta σ H fun x H'=>∃ k,TruV X.K x H' k∧Q k H'):=by
 intro pins s σ H Q I h
 exact isTrue_plain (thn (ha pins s σ H _ I h) fun v s1 ⟨x,H1,I1,r1,q1⟩=>tru_ok pins s1 σ H1 x v Q I1 r1 q1) (he _)
def PlainIxT (b:Expr):Prop:=∀ o i,subscripted b false o i = operate [o,i] (getItem o i)
theorem pe_item_str (ha:PE X a ta) (hb:PE X b tb) (hs:PlainIxT b) :
  PE X (.Subscript a b pos) (tOp (fun x y H Q=>∃ z i c,x = .str z∧y = .int i∧0 ≤ i∧i < 2 ^ 63∧i < z.length∧z.cps[i.toNat]? = some c∧Q (.str ⟨#[c]⟩) H) ta tb):=by
 intro pins s σ H Q I h
 refine Subscript_ (binT ha hb I h fun v u s2 x y H2 I2 rx ry q=>?_)
 obtain ⟨z,i,c,rfl,rfl,h0,h63,h1,hc,q⟩:=q
 obtain ⟨t,rfl⟩:=rx
 obtain ⟨t',rfl⟩:=ry
 have e:seqIndex? i z.length = some i.toNat:=PySem.StrLaws.seqIndex_nonneg h0 h1
 exact tail_any (typeIs_str s2 z t) slot_str_getitem.lookup (getItem_str (c:=c) (by
  have e1:decide (i < -(2 ^ 63:Int)) = false:=decide_eq_false (by omega)
  have e2:decide (i ≥ 2 ^ 63) = false:=decide_eq_false (by omega)
  rw [e1,e2] <;> rfl) (by rw [e]; exact hc) ⟨.str ⟨#[c]⟩,H2,I2.tok _,⟨_,rfl⟩,q⟩) (hs _ _)
theorem vals1 {x:V} {us:List Value} (r:Vals [x] us):∃ u,us = [u]∧RelV x u:=by
 cases r with
 | cons r1 r2=>cases r2; exact ⟨_,rfl,r1⟩
theorem vals2 {x y:V} {us:List Value} (r:Vals [x,y] us):∃ u w',us = [u,w']∧RelV x u∧RelV y w':=by
 cases r with
 | cons r1 r2 =>
  cases r2 with
  | cons r3 r4=>cases r4; exact ⟨_,_,rfl,r1,r3⟩
theorem call_int1:CallR X (.type "int") (fun xs H Q=>(∃ i,xs = [.int i]∧Q (.int i) H)∨∃ k,xs = [.bl k]∧Q (.int (if k then 1 else 0)) H):=by
 intro pins s σ H xs us Q I r h
 rcases h with ⟨i,rfl,q⟩ | ⟨k,rfl,q⟩
 ·obtain ⟨u,rfl,t,rfl⟩:=vals1 r
  exact call_int_int ⟨.int i,H,I,⟨_,rfl⟩,q⟩
 ·obtain ⟨u,rfl,r1⟩:=vals1 r
  cases r1
  exact call_int_bool ⟨.int (if k then 1 else 0),H,I.tok _,⟨_,rfl⟩,q⟩
def LenV (K:PySem.W.Frag) (x:V) (H:Hp) (n:Nat):Prop :=
 match x with
 | .str y=>y.length ≤ sizeLine∧n = y.length
 | .byt y=>y.size ≤ sizeLine∧n = y.size
 | .ref p=>(∃ xs,SqL K H p xs∧n = xs.length)∨∃ xs,SqT K H p xs∧n = xs.length
 | _=>False
theorem call_len:CallR X (.builtin "len") (fun xs H Q=>∃ x n,xs = [x]∧LenV X.K x H n∧Q (.int n) H):=by
 intro pins s σ H xs us Q I r h
 obtain ⟨x,n,rfl,e,q⟩:=h
 obtain ⟨u,rfl,rx⟩:=vals1 r
 have hl:=line63
 have hs:sizeLine = 16777216:=sizeLine_eq
 cases x with
 | str y =>
  obtain ⟨t,rfl⟩:=rx
  obtain ⟨hy,e'⟩:y.length ≤ sizeLine∧n = y.length:=e
  subst e'
  exact len_str (by omega) ⟨.int _,H,I.tok _,⟨_,rfl⟩,q⟩
 | byt y =>
  obtain ⟨t,rfl⟩:=rx
  obtain ⟨hy,e'⟩:y.size ≤ sizeLine∧n = y.size:=e
  subst e'
  exact PySem.W.len_bytes (by omega) ⟨.int _,H,I.tok _,⟨_,rfl⟩,q⟩
 | ref p =>
  cases rx
  have e':(∃ xs,SqL X.K H p xs∧n = xs.length)∨∃ xs,SqT X.K H p xs∧n = xs.length:=e
  rcases e' with ⟨xs,hx,e'⟩ | ⟨xs,hx,e'⟩
  ·subst e'
   obtain ⟨its,r',pl,hz⟩:=I.list hx
   have hlen:=r'.length
   exact Calls.call_len_list pl.isList (by simp only [List.size_toArray]; omega) ⟨.int xs.length,H,I.tok _,⟨_,by simp only [List.size_toArray]; rw [hlen]⟩,q⟩
  ·subst e'
   obtain ⟨its,r',pl,hz⟩:=I.tuple hx
   have hlen:=r'.length
   exact len_tuple pl (by simp only [List.size_toArray]; omega) ⟨.int xs.length,H,I.tok _,⟨_,by simp only [List.size_toArray]; rw [hlen]⟩,q⟩
 | _=>exact (show False from e).elim
end
structure ObjM (h:Heap) (x dx C:Addr) (mA:Str→Option Value):Prop where
 obj:h.get? x = some (PySem.W.instObj C dx)
 ns:h.Ns1 dx mA
 ne:dx ≠ x
theorem lookIn_ns {h:Heap} {dx:Addr} {mA:Str→Option Value} (n:h.Ns1 dx mA):∃ od,h.get? dx = some od∧∀ name,PySem.W.lookIn name od = some (mA name):=by
 obtain ⟨o,es,ep,ho,hd,hk,_,hm⟩:=n
 refine ⟨o,ho,fun name=>?_⟩
 have e:=hm name
 unfold nsFind findBy at e
 rw [← Array.find?_toList] at e
 unfold PySem.W.lookIn
 rw [hd]
 dsimp only
 split
 ·rename_i y q
  rw [q] at e
  exact congrArg some e
 ·rename_i q
  rw [q] at e
  have a:es.toList.any (·.refKey) = false:=by
   rw [List.any_eq_false]
   intro y hy
   obtain ⟨z,t,hkey⟩:=hk y (Array.mem_toList_iff.mp hy)
   simp [DictEntry.refKey,hkey]
  have a':¬ es.toList.any (·.refKey) = true:=by rw [a]; exact Bool.false_ne_true
  rw [if_neg a']
  exact congrArg some e
theorem ObjM.look {h:Heap} {x dx C:Addr} {mA:Str→Option Value} (I:ObjM h x dx C mA):∃ od,PySem.W.InstAt h x (PySem.W.instObj C dx) C (some od)∧∀ name,PySem.W.lookIn name od = some (mA name) :=
 let ⟨od,ho,hl⟩:=lookIn_ns I.ns
 ⟨od,⟨I.obj,rfl,rfl,ho⟩,hl⟩
section
variable {prog:Program} {w:World} {A:Around} {E:Value→Shared→Prop} {s:Shared} {K:PySem.W.Frag} {x dx C f:Addr} {mA:Str→Option Value} {name:Str} {v:Value}
theorem get_map {expr:Bool} {Q:Value→Shared→Prop} (X:K.In s.heap) (I:ObjM s.heap x dx C mA) (hg:PySem.W.plainGet K C name = true) (hh:PySem.W.hasDictIn K C = true)
  (ha:PySem.W.findIn K (.ref C) name = some none) (hv:mA name = some v) (hv':PySem.W.handedIn v = true) (h:Q v { s with toks:=s.toks + 1 }) :
  wpAny (model prog w) A (getAttr (.ref x) name expr) Q E s:=by
 obtain ⟨od,J,hl⟩:=I.look
 exact PySem.W.get_value X J (PySem.W.plainGet_of hg).1 (PySem.W.findObj_own hh ha rfl (by rw [hl,hv])) hv' h
theorem get_meth {pl:Sem Bool} {Q:Value × List Value→Shared→Prop} (X:K.In s.heap) (I:ObjM s.heap x dx C mA) (hg:PySem.W.plainGet K C name = true)
  (hf:PySem.W.findIn K (.ref C) name = some (some (.ref f))) (ht:PySem.W.isFn K (.ref f) = true) (hv:mA name = none) (h:Q (.ref f,[.ref x]) s) :
  wpAny (model prog w) A (getMethod (.ref x) name pl) Q E s:=by
 obtain ⟨od,J,hl⟩:=I.look
 exact PySem.W.method_fn X J (PySem.W.plainGet_of hg).1 (PySem.W.plainGet_of hg).2 hf (beq_iff_eq.mp ht) (by show (PySem.W.lookIn name od).map (·.isSome) = some false; rw [hl,hv]; rfl) h
theorem set_map {ns:List Str} {Q:Unit→Shared→Prop} (X:K.In s.heap) (I:ObjM s.heap x dx C mA)
  (hs:PySem.W.findIn K (.ref C) "__setattr__" = some (some (.builtin "object.__setattr__"))) (hp:PySem.W.plainOver K C = true) (ht:PySem.W.takerIn K C name = some none) (hh:PySem.W.hasDictIn K C = true)
  (hw:PySem.Within mA ns) (hsz:ns.length ≤ sizeLine)
  (h:∀ h',ObjM h' x dx C (fun y=>if y = name then some v else mA y)→Heap.SameBut dx s.heap h'→Q () { s with heap:=h',toks:=s.toks + 2 }) :
  wpAny (model prog w) A (setAttr (.ref x) name v) Q E s:=by
 obtain ⟨od,J,hl⟩:=I.look
 refine PySem.W.set_plain X J hs (PySem.W.osa_open (s:={ s with toks:=s.toks + 1 }) (r:=none) X J hp ht fun b=>?_)
 obtain ⟨cd,hc,hd'⟩:=PySem.W.any_some hh
 have hx:s.heap.get? x = some ⟨.ref C,some dx,.plain,#[]⟩:=I.obj
 refine wpAny_bind (wpAny_pure (wpAny_bind (wpAny_bind (wpAny_loadPart hx (wpAny_bind (PySem.W.Looks.here (s:={ s with toks:=s.toks + 1 }) (PySem.W.looks_clsIn X hc) ?_))))))
 rw [hd']
 refine wpAny_pure (a:=some dx) (wpAny_bind (wpAny_pure (wpAny_bind ?_)))
 refine wpAny_nsSet1 (s:={ s with toks:=s.toks + 1 }) I.ns fun h' hn2 hs2=>?_
 obtain ⟨oD,esD,epD,hoD,hdD,hcD⟩:=hn2.count (PySem.Within.cons name v hw)
 refine wpAny_bind (wpAny_lookBehind hoD (by rw [hdD]; exact pastItsLine_dict (Nat.le_trans hcD (by rw [List.length_cons]; omega))) ?_)
 exact wpAny_pure (h _ ⟨(hs2.2 _ (Ne.symm I.ne)).trans I.obj,hn2,I.ne⟩ hs2)
theorem make_map {R:Result→Shared→Prop} {vs:List Value} {kw:List (Str × Value)} (X:K.In s.heap) (hm:PySem.W.makesIn K C = true)
  (hi:PySem.W.findIn K (.ref C) "__init__" = some (some (.ref f))) (hf:PySem.W.typeIn K (.ref f) = some (.type "function"))
  (h:codeAny (model prog w) (A.under (.builtin "type.__call__" ⟨.ref C :: vs,kw⟩)) (.call (.ref f) ⟨.ref (s.heap.objs.size + 1) :: vs,kw⟩) (PySem.W.InitBack (s.heap.objs.size + 1) R)
   { s with heap:=(s.heap.push PySem.W.emptyDict).push (PySem.W.instObj C s.heap.objs.size) }) :
  codeAny (model prog w) A (.call (.ref C) ⟨vs,kw⟩) R s:=by
 obtain ⟨hh,g,d,t,os⟩:=s
 exact PySem.W.make_core (PySem.W.makes_of X hm) (PySem.W.looks_findIn X hi) (fun self=>PySem.W.bind_fn X self hf) (.inl rfl) h
end
def putF (f:Str) (v:V):List (Str × V)→List (Str × V)
 | []=>[(f,v)]
 | (g,x) :: r=>if g = f then (g,v) :: r else (g,x) :: putF f v r
theorem lookup_putF (f g:Str) (v:V):∀ fs:List (Str × V),(putF f v fs).lookup g = if g = f then some v else fs.lookup g
 | []=>by
  show List.lookup g [(f,v)] = _
  by_cases h:g = f
  ·have hb:(g == f) = true:=beq_iff_eq.mpr h
   simp only [List.lookup,hb,if_pos h]
  ·have hb:(g == f) = false:=beq_eq_false_iff_ne.mpr h
   simp only [List.lookup,hb,if_neg h]
 | (k,x) :: r=>by
  have ih:=lookup_putF f g v r
  rw [show putF f v ((k,x) :: r) = (if k = f then (k,v) :: r else (k,x) :: putF f v r) from rfl]
  by_cases hk:k = f
  ·rw [if_pos hk]
   by_cases h:g = k
   ·have hb:(g == k) = true:=beq_iff_eq.mpr h
    simp only [List.lookup,hb,if_pos (h.trans hk)]
   ·have hb:(g == k) = false:=beq_eq_false_iff_ne.mpr h
    simp only [List.lookup,hb,if_neg (fun e:g = f=>h (e.trans hk.symm))]
  ·rw [if_neg hk]
   by_cases h:g = k
   ·have hb:(g == k) = true:=beq_iff_eq.mpr h
    simp only [List.lookup,hb,if_neg (fun e:g = f=>hk (h.symm.trans e))]
   ·have hb:(g == k) = false:=beq_eq_false_iff_ne.mpr h
    simp only [List.lookup,hb]
    exact ih
theorem keys_putF (f:Str) (v:V):∀ fs:List (Str × V),f ∈ (putF f v fs).map (·.1)∧∀ g,g ∈ fs.map (·.1)→g ∈ (putF f v fs).map (·.1)
 | []=>⟨by simp [putF],fun g h=>by simp at h⟩
 | (k,x) :: r=>by
  obtain ⟨i1,i2⟩:=keys_putF f v r
  rw [show putF f v ((k,x) :: r) = (if k = f then (k,v) :: r else (k,x) :: putF f v r) from rfl]
  by_cases hk:k = f
  ·rw [if_pos hk]
   subst hk
   exact ⟨by simp,fun g h=>by simpa using h⟩
  ·rw [if_neg hk]
   refine ⟨?_,fun g h=>?_⟩
   ·rw [List.map_cons]
    exact List.mem_cons_of_mem _ i1
   ·rw [List.map_cons] at h ⊢
    rcases List.mem_cons.mp h with e | e
    ·exact List.mem_cons.mpr (.inl e)
    ·exact List.mem_cons_of_mem _ (i2 g e)
theorem length_putF (f:Str) (v:V):∀ fs:List (Str × V),(putF f v fs).length ≤ fs.length + 1
 | []=>by simp [putF]
 | (k,x) :: r=>by
  have ih:=length_putF f v r
  rw [show putF f v ((k,x) :: r) = (if k = f then (k,v) :: r else (k,x) :: putF f v r) from rfl]
  by_cases hk:k = f
  ·rw [if_pos hk,List.length_cons,List.length_cons]; omega
  ·rw [if_neg hk,List.length_cons,List.length_cons]; omega
theorem RelO.some_of {v:V} {o:Option Value} (r:RelO (some v) o):∃ u,o = some u∧RelV v u:=by
 cases o with
 | none=>exact (show False from r).elim
 | some u=>exact ⟨u,rfl,r⟩
theorem RelO.none_of {o:Option Value} (r:RelO none o):o = none:=by
 cases o with
 | none=>rfl
 | some u=>exact (show False from r).elim
theorem handed_of {v:V} {u:Value} (r:RelV v u):PySem.W.handedIn u = true:=by
 cases v with
 | non=>cases (show u = Value.none from r); rfl
 | bl b=>cases (show u = Value.bool b from r); rfl
 | int i=>obtain ⟨t,e⟩:=(show ∃ t,u = Value.int i t from r); cases e; rfl
 | str x=>obtain ⟨t,e⟩:=(show ∃ t,u = Value.str x t from r); cases e; rfl
 | byt b=>obtain ⟨t,e⟩:=(show ∃ t,u = Value.bytes b t from r); cases e; rfl
 | flt b=>obtain ⟨t,e⟩:=(show ∃ t,u = Value.float b t from r); cases e; rfl
 | ref a=>cases (show u = Value.ref a from r); rfl
 | ty n=>cases (show u = Value.type n from r); rfl
section
variable {P:Program} {w:World} {H H':Hp} {h h':Heap} {a C dx:Addr} {fs fs':List (Str × V)}
theorem ins_get (hok:HOk P w H h) (e:H a = some (.ins C dx fs)):∃ mA,ObjM h a dx C mA∧(∀ f,RelO (fs.lookup f) (mA f))∧PySem.Within mA (fs.map (·.1))∧fs.length ≤ 1000∧H dx = some (.own a):=by
 obtain ⟨d,z,ne,ob,mA,n,r,q⟩:=(show ObjOk P w H h a (.ins C dx fs) from hok a _ e)
 exact ⟨mA,⟨ob,n,ne⟩,r,q,z,d⟩
end
structure Cls (K:PySem.W.Frag) (C:Addr):Prop where
 pg:PySem.W.plainGet K C Str.empty = true
 hd:PySem.W.hasDictIn K C = true
 po:PySem.W.plainOver K C = true
 sa:PySem.W.findIn K (.ref C) "__setattr__" = some (some (.builtin "object.__setattr__"))
theorem Cls.get {K:PySem.W.Frag} {C:Addr} (c:Cls K C) (f:Str):PySem.W.plainGet K C f = true:=c.pg
def NoAttr (K:PySem.W.Frag) (C:Addr) (f:Str):Prop:=PySem.W.findIn K (.ref C) f = some none
theorem NoAttr.taker {K:PySem.W.Frag} {C:Addr} {f:Str} (n:NoAttr K C f):PySem.W.takerIn K C f = some none:=by
 unfold PySem.W.takerIn
 rw [show PySem.W.findIn K (.ref C) f = some none from n]
 rfl
structure Meth (K:PySem.W.Frag) (C:Addr) (m:Str) (f:Addr):Prop where
 at_:PySem.W.findIn K (.ref C) m = some (some (.ref f))
 fn:PySem.W.isFn K (.ref f) = true
 kp:PySem.W.keepIn K (.ref f) = true
section
variable {X:Cx} {pins:List (Addr × Obj)} {σ:St} {H:Hp} {s:Shared} {a C dx:Addr} {fs:List (Str × V)} {f:Str} {v:V} {A:Around} {E:Value→Shared→Prop}
theorem getattr_ok {b:Bool} {Q:Value→Shared→Prop} (I:Inv X pins σ H s) (e:H a = some (.ins C dx fs)) (c:Cls X.K C) (n:NoAttr X.K C f) (l:fs.lookup f = some v)
  (h:∀ u s',Inv X pins σ H s'→RelV v u→Q u s'):wpAny (model X.prog X.w) A (getAttr (.ref a) f b) Q E s:=by
 obtain ⟨mA,O,r,_,_,_⟩:=ins_get I.hok e
 obtain ⟨u,hu,ru⟩:=RelO.some_of (v:=v) (o:=mA f) (by rw [← l]; exact r f)
 exact get_map I.kIn O (c.get f) c.hd n hu (handed_of ru) (h u _ (I.tok _) ru)
theorem getmeth_ok {m:Str} {g:Addr} {pl:Sem Bool} {Q:Value × List Value→Shared→Prop} (I:Inv X pins σ H s) (e:H a = some (.ins C dx fs)) (c:Cls X.K C) (k:Meth X.K C m g) (l:fs.lookup m = none)
  (h:Q (.ref g,[.ref a]) s):wpAny (model X.prog X.w) A (getMethod (.ref a) m pl) Q E s:=by
 obtain ⟨mA,O,r,_,_,_⟩:=ins_get I.hok e
 have hn:mA m = none:=RelO.none_of (by rw [← l]; exact r m)
 exact get_meth I.kIn O (c.get m) k.at_ k.fn hn h
theorem setattr_ok {y:V} {u:Value} {Q:Unit→Shared→Prop} (I:Inv X pins σ H s) (e:H a = some (.ins C dx fs)) (c:Cls X.K C) (n:NoAttr X.K C f) (hl:fs.length < 1000) (ry:RelV y u)
  (h:∀ s',Inv X pins σ (upd H a (.ins C dx (putF f y fs))) s'→Q () s'):wpAny (model X.prog X.w) A (setAttr (.ref a) f u) Q E s:=by
 obtain ⟨mA,O,r,wi,_,ho⟩:=ins_get I.hok e
 have hz:(fs.map (·.1)).length ≤ sizeLine:=by rw [List.length_map,sizeLine_eq]; omega
 refine set_map I.kIn O c.sa c.po n.taker c.hd wi hz fun h' O' sb=>h _ ?_
 have hd:∃ o,h'.get? dx = some o:=let ⟨o,_,_,e',_⟩:=O'.ns; ⟨o,e'⟩
 refine I.write (x:=a) (e:=dx) (by rw [e]; exact True.intro) (.inr ho) (fun b q hb z=>(sb.2 b hb).trans z) hd ?_
 refine ⟨by rw [upd_ne O.ne]; exact ho,?_,O.ne,O'.obj,_,O'.ns,fun g=>?_,fun g hg=>?_⟩
 ·have:=length_putF f y fs; omega
 ·show RelO ((putF f y fs).lookup g) (if g = f then some u else mA g)
  rw [lookup_putF]
  by_cases q:g = f
  ·rw [if_pos q,if_pos q]; exact ry
  ·rw [if_neg q,if_neg q]; exact r g
 ·by_cases q:g = f
  ·rw [q]; exact (keys_putF f y fs).1
  ·refine (keys_putF f y fs).2 g (wi g fun z=>hg ?_)
   show (if g = f then some u else mA g) = none
   rw [if_neg q]; exact z
theorem Inv.made (I:Inv X pins σ H s):Inv X pins σ (upd (upd H s.heap.objs.size (.own (s.heap.objs.size + 1))) (s.heap.objs.size + 1) (.ins C s.heap.objs.size []))
  { s with heap:=(s.heap.push PySem.W.emptyDict).push (PySem.W.instObj C s.heap.objs.size) }:=by
 have e1:(s.heap.push PySem.W.emptyDict).get? s.heap.objs.size = some PySem.W.emptyDict:=Heap.get?_push_size s.heap rfl
 have e2:((s.heap.push PySem.W.emptyDict).push (PySem.W.instObj C s.heap.objs.size)).get? (s.heap.objs.size + 1) = some (PySem.W.instObj C s.heap.objs.size):=by
  have:=Heap.get?_push_size (s.heap.push PySem.W.emptyDict) (o:=PySem.W.instObj C s.heap.objs.size) rfl
  rwa [Heap.size_push] at this
 have e3:(s.heap.push PySem.W.emptyDict).Ns s.heap.objs.size (fun _=>none):=⟨PySem.W.emptyDict,#[],_,e1,rfl,(fun e he=>absurd he (by simp)),fun _=>rfl⟩
 have I1:=I.laid (a:=s.heap.objs.size) (o:=.own (s.heap.objs.size + 1)) (h':=s.heap.push PySem.W.emptyDict) (t':=s.toks) (fun b u q=>Heap.get?_push_of_some _ q) (Nat.le_refl _) ⟨_,e1⟩
 refine I1.laid (a:=s.heap.objs.size + 1) (o:=.ins C s.heap.objs.size []) (t':=s.toks) (fun b u q=>Heap.get?_push_of_some _ q) (Nat.le_of_eq (Heap.size_push _ _)) ?_
 have ne:s.heap.objs.size ≠ s.heap.objs.size + 1:=Nat.ne_of_lt (Nat.lt_succ_self _)
 refine ⟨by rw [upd_ne ne,upd_same],Nat.zero_le _,ne,e2,fun _=>none,(Heap.Ns1.of_empty e3).at fun o q=>Heap.get?_push_of_some _ q,fun _=>True.intro,fun y hy=>absurd rfl hy⟩
theorem attr_of {prog:Program} {w:World} {env:Env} {e:Expr} {f:Str} {pos:Pos} {s:Shared} {Q:Value→Shared→Prop} (hb:attributeBase e f env (eval e env) = eval e env)
  (h:wpAny (model prog w) A (eval e env) (fun o s₁=>wpAny (model prog w) A (getAttr o f true) Q E s₁) E s):wpAny (model prog w) A (eval (.Attribute e f pos) env) Q E s :=
 Attribute_any_ h (by rw [arm_eval_Attribute,hb])
end
def tFld (K:PySem.W.Frag) (ta:TE) (f:Str):TE:=fun σ H Q=>ta σ H fun x H1=>∃ a C dx fs v,x = .ref a∧H1 a = some (.ins C dx fs)∧Cls K C∧NoAttr K C f∧fs.lookup f = some v∧Q v H1
def sFld (K:PySem.W.Frag) (ta tv:TE) (f:Str):TS:=fun D σ H=>tv σ H fun y H1=>ta σ H1 fun x H2=>∃ a C dx fs,x = .ref a∧H2 a = some (.ins C dx fs)∧Cls K C∧NoAttr K C f∧fs.length < 1000 ∧
 D.nx σ (upd H2 a (.ins C dx (putF f y fs)))
def InOp (X:Cx) (op:Operator) (rd:V→V→Hp→VK→Prop):Prop :=
 ∀ (pins:List (Addr × Obj)) (s:Shared) (σ:St) (H:Hp) (x y:V) (u v:Value) (Q:VK),Inv X pins σ H s→RelV x u→RelV y v→rd x y H Q→wpAny (model X.prog X.w) X.A (inplaceOp op u v) (EP X pins σ Q) X.xe s
def sFldAug (K:PySem.W.Frag) (ta tv:TE) (rd:V→V→Hp→VK→Prop) (f:Str):TS:=fun D σ H=>ta σ H fun x H1=>∃ a C dx fs v,x = .ref a∧H1 a = some (.ins C dx fs)∧Cls K C∧NoAttr K C f∧fs.lookup f = some v ∧
 tv σ H1 fun y H2=>rd v y H2 fun z H3=>∃ dx' fs',H3 a = some (.ins C dx' fs')∧fs'.length < 1000∧D.nx σ (upd H3 a (.ins C dx' (putF f z fs')))
section
variable {X:Cx} {o e value:Expr} {f:Str} {pos pos' tpos:Pos} {ta tv:TE}
theorem pe_fld (he:PE X e ta) (hb:attributeBase e f X.env (eval e X.env) = eval e X.env):PE X (.Attribute e f pos) (tFld X.K ta f):=by
 intro pins s σ H Q I h
 refine attr_of hb (thn (he pins s σ H _ I h) fun u s1 ⟨x,H1,I1,rx,a,C,dx,fs,v,ex,ea,c,n,l,q⟩=>?_)
 subst ex
 obtain rfl:u = Value.ref a:=rx
 exact getattr_ok I1 ea c n l fun u' s2 I2 ru=>⟨v,H1,I2,ru,q⟩
theorem ps_fld (ha:PE X o ta) (hv:PE X value tv) (hs:swapsWith value (some (.Attribute o f pos')) pos.line X.env = pure false):PS X (.Assign [.Attribute o f pos'] value pos) (sFld X.K ta tv f):=by
 intro pins s σ H D I h
 refine plainObj_wpAny_Assign_Attribute (thn (hv pins s σ H _ I h) fun u s1 ⟨y,H1,I1,ry,q⟩=>thn (ha pins s1 σ H1 _ I1 q) fun ov s2 ⟨x,H2,I2,rx,a,C,dx,fs,ex,ea,c,n,l,q2⟩=>?_) hs
 subst ex
 obtain rfl:ov = Value.ref a:=rx
 exact setattr_ok I2 ea c n l ry fun s3 I3=>⟨σ,_,I3,q2⟩
theorem ps_fldaug {op:Operator} {rd:V→V→Hp→VK→Prop} (ha:PE X o ta) (hv:PE X value tv) (hop:InOp X op rd):PS X (.AugAssign (.Attribute o f tpos) op value pos) (sFldAug X.K ta tv rd f):=by
 intro pins s σ H D I h
 refine wpAny_AugAssign_AttributeAny (thn (ha pins s σ H _ I h) fun ov s1 ⟨x,H1,I1,rx,a,C,dx,fs,v,ex,ea,c,n,l,q⟩=>?_)
 subst ex
 obtain rfl:ov = Value.ref a:=rx
 refine getattr_ok I1 ea c n l fun u s2 I2 ru=>thn (hv pins s2 σ H1 _ I2 q) fun w3 s3 ⟨y,H2,I3,ry,q3⟩=>thn (hop pins s3 σ H2 v y u w3 _ I3 ru ry q3) fun w4 s4 ⟨z,H3,I4,rz,dx',fs',ea',l',q4⟩=>?_
 exact setattr_ok I4 ea' c n l' rz fun s5 I5=>⟨σ,_,I5,q4⟩
def rAdd:V→V→Hp→VK→Prop:=fun x y H Q=>∃ i j,x = .int i∧y = .int j∧Q (.int (i + j)) H
def rSub:V→V→Hp→VK→Prop:=fun x y H Q=>∃ i j,x = .int i∧y = .int j∧Q (.int (i - j)) H
theorem in_add:InOp X .Add rAdd:=by
 rintro pins s σ H x y u v Q I rx ry ⟨i,j,rfl,rfl,q⟩
 obtain ⟨t,rfl⟩:=(show ∃ t,u = Value.int i t from rx)
 obtain ⟨t',rfl⟩:=(show ∃ t',v = Value.int j t' from ry)
 exact PyProof.Rows.iadd_int ⟨.int (i + j),H,I.tok _,⟨_,rfl⟩,q⟩
theorem in_sub:InOp X .Sub rSub:=by
 rintro pins s σ H x y u v Q I rx ry ⟨i,j,rfl,rfl,q⟩
 obtain ⟨t,rfl⟩:=(show ∃ t,u = Value.int i t from rx)
 obtain ⟨t',rfl⟩:=(show ∃ t',v = Value.int j t' from ry)
 exact PyProof.Rows.isub_int ⟨.int (i - j),H,I.tok _,⟨_,rfl⟩,q⟩
theorem methcall_of {pl:Sem Bool} {m:Str} {apos:Pos} {args:List Expr} {pins:List (Addr × Obj)} {s:Shared} {σ:St} {H:Hp} {Q:Value→Shared→Prop} {te:TE} (he:PE X e te) (I:Inv X pins σ H s)
  (h:te σ H fun x H1=>∃ a C dx fs g,x = .ref a∧H1 a = some (.ins C dx fs)∧Cls X.K C∧Meth X.K C m g∧fs.lookup m = none ∧
   ∀ s1,Inv X pins σ H1 s1→wpAny (model X.prog X.w) X.A (callWith pos (.ref g) [.ref a] (backTo pos (starEach args X.env)) (backToKw pos (keywordEach [] X.env))) Q X.xe s1)
  (ht:eval (.Call (.Attribute e m apos) args [] pos) X.env = (do
   let ov ← eval e X.env
   standAt apos.atName
   let (f,first) ← holding [ov] (getMethod ov m pl)
   callWith pos f first (backTo pos (starEach args X.env)) (backToKw pos (keywordEach [] X.env)))) :
  wpAny (model X.prog X.w) X.A (eval (.Call (.Attribute e m apos) args [] pos) X.env) Q X.xe s:=by
 refine PySem.W.methodCall_KW (pl:=pl) (thn (he pins s σ H _ I h) fun u s1 ⟨x,H1,I1,rx,a,C,dx,fs,g,ex,ea,c,k,l,q⟩=>?_) ht
 subst ex
 obtain rfl:u = Value.ref a:=rx
 exact getmeth_ok I1 ea c k l (q s1 I1)
end
section
variable {X:Cx} {pins:List (Addr × Obj)} {σ:St} {H:Hp} {s:Shared} {A:Around} {E:Value→Shared→Prop} {Q:Value→Shared→Prop} {c:Value} {b:Bool}
inductive TyOf (K:PySem.W.Frag) (H:Hp):V→Value→Prop where
 | non:TyOf K H .non (.type "NoneType")
 | bl (x:Bool):TyOf K H (.bl x) (.type "bool")
 | int (i:Int):TyOf K H (.int i) (.type "int")
 | str (x:Str):TyOf K H (.str x) (.type "str")
 | flt (x:UInt64):TyOf K H (.flt x) (.type "float")
 | lst {a:Addr} {xs:List V} (e:H a = some (.lst xs)):TyOf K H (.ref a) (.type "list")
 | frz {a:Addr} {o:Obj} {xs:List V} (e:H a = some (.frz o (.lst xs))):TyOf K H (.ref a) (.type "list")
 | tup {a:Addr} {xs:List V} (e:H a = some (.tup xs)):TyOf K H (.ref a) (.type "tuple")
 | dK {a:Addr} {kvs:List (Key × V)} (e:H a = some (.dK kvs)):TyOf K H (.ref a) (.type "dict")
 | dT {a:Addr} {kvs:List (List Key × V)} (e:H a = some (.dT kvs)):TyOf K H (.ref a) (.type "dict")
 | ins {a C dx:Addr} {fs:List (Str × V)} (e:H a = some (.ins C dx fs)) (cl:Cls K C) (ha:PySem.W.findIn K (.ref C) "__class__" = some (some (.builtin "object.__class__")))
   (hn:PySem.W.specialIn K (.builtin "object.__class__") "__get__" = some (some (.builtin "getset_descriptor.__get__"))) (htk:PySem.W.takesIn K (.builtin "object.__class__") = some true)
   (hm:PySem.W.mroIn K C (.type "object") = some true):TyOf K H (.ref a) (.ref C)
theorem isinst_ok {x:V} {u t:Value} (I:Inv X pins σ H s) (rx:RelV x u) (ty:TyOf X.K H x t) (e:PySem.W.kitOne X.K t c = some b) (h:∀ tk,Q (.bool b) { s with toks:=tk }) :
  wpAny (model X.prog X.w) A (call (.builtin "isinstance") [u,c]) Q E s:=by
 cases ty with
 | non=>cases (show u = Value.none from rx); exact PySem.W.kia_one PySem.W.kitx_none I.kIn True.intro e (fun z=>nomatch z) h
 | bl y=>cases (show u = Value.bool y from rx); exact PySem.W.kia_one PySem.W.kitx_bool I.kIn True.intro e (fun z=>nomatch z) h
 | int i=>obtain ⟨t,q⟩:=(show ∃ t,u = Value.int i t from rx); cases q; exact PySem.W.kia_one PySem.W.kitx_int I.kIn True.intro e (fun z=>nomatch z) h
 | str y=>obtain ⟨t,q⟩:=(show ∃ t,u = Value.str y t from rx); cases q; exact PySem.W.kia_one PySem.W.kitx_str I.kIn True.intro e (fun z=>nomatch z) h
 | flt y=>obtain ⟨t,q⟩:=(show ∃ t,u = Value.float y t from rx); cases q; exact PySem.W.kia_one PySem.W.kitx_float I.kIn True.intro e (fun z=>nomatch z) h
 | @lst a xs ea =>
  cases (show u = Value.ref a from rx)
  obtain ⟨_,_,n,_,h1⟩:=(show ObjOk X.prog X.w H s.heap a (.lst xs) from I.hok a _ ea)
  exact PySem.W.kia_one PySem.W.kitx_list I.kIn ⟨_,h1,rfl⟩ e (fun z=>nomatch z) h
 | @frz a ob xs ea =>
  cases (show u = Value.ref a from rx)
  obtain ⟨_,_,_,n,_,h1⟩:=(show ObjOk X.prog X.w H s.heap a (.frz ob (.lst xs)) from I.hok a _ ea)
  exact PySem.W.kia_one PySem.W.kitx_list I.kIn ⟨_,h1,rfl⟩ e (fun z=>nomatch z) h
 | @tup a xs ea =>
  cases (show u = Value.ref a from rx)
  obtain ⟨_,_,_,p⟩:=(show ObjOk X.prog X.w H s.heap a (.tup xs) from I.hok a _ ea)
  obtain ⟨o,h1,h2,_⟩:=p
  exact PySem.W.kia_one PySem.W.kitx_tuple I.kIn ⟨o,h1,h2⟩ e (fun z=>nomatch z) h
 | @dK a kvs ea =>
  cases (show u = Value.ref a from rx)
  obtain ⟨_,_,vs,_,p⟩:=(show ObjOk X.prog X.w H s.heap a (.dK kvs) from I.hok a _ ea)
  obtain ⟨o,es,ep,h1,h2,_⟩:=p
  exact PySem.W.kia_one PySem.W.kitx_dict I.kIn ⟨o,h1,h2.1⟩ e (fun z=>nomatch z) h
 | @dT a kvs ea =>
  cases (show u = Value.ref a from rx)
  obtain ⟨_,_,xs,_,o,es,ep,h1,h2,_⟩:=(show ObjOk X.prog X.w H s.heap a (.dT kvs) from I.hok a _ ea)
  exact PySem.W.kia_one PySem.W.kitx_dict I.kIn ⟨o,h1,h2.1⟩ e (fun z=>nomatch z) h
 | @ins a C dx fs ea cl ha hn htk hm =>
  cases (show u = Value.ref a from rx)
  obtain ⟨mA,O,_⟩:=ins_get I.hok ea
  obtain ⟨od,J,_⟩:=O.look
  exact PySem.W.kia_one (PySem.W.kitx_own (cl.get _) cl.hd ha hn htk hm) I.kIn J e (fun z=>nomatch z) h
end
structure Room (k:Nat) (A:Around):Prop where
 hd:A.handled = none
 dp:A.depth + 3 * k + 5 < recursionLimit
 un:A.units + 16 * k + 200 < cLine
theorem Room.mono {j k:Nat} {A:Around} (r:Room k A) (h:j ≤ k):Room j A:=⟨r.hd,by have:=r.dp; omega,by have:=r.un; omega⟩
theorem Room.deeper {k:Nat} {A:Around} (r:Room (k + 1) A) (env:Env):Room k (A.deeper env) :=
 ⟨r.hd,by have:=r.dp; show A.depth + 1 + 3 * k + 5 < _; omega,by have:=r.un; show A.units + 3 + 16 * k + 200 < _; omega⟩
theorem Room.in1 {k:Nat} {A:Around} (r:Room (k + 1) A):Room k A.in1 :=
 ⟨r.hd,by have:=r.dp; show A.depth + 3 * k + 5 < _; omega,by have:=r.un; show A.units + 1 + 16 * k + 200 < _; omega⟩
theorem make_depth {A:Around} {C:Addr} {us:List Value} {kw:List (Str × Value)}:(A.under (.builtin "type.__call__" ⟨.ref C :: us,kw⟩)).depth = A.depth + 1:=by
 first | rfl | simp [Around.under,Code.weight,Code.isCreation,Code.isGuard,Code.isCaller,Code.frames,Code.isFrame,guardIds]
theorem make_units {A:Around} {C:Addr} {us:List Value} {kw:List (Str × Value)}:(A.under (.builtin "type.__call__" ⟨.ref C :: us,kw⟩)).units = A.units + 1:=by
 first | rfl | simp [Around.under,Code.cUnits,Code.frames,Code.isFrame]
theorem Room.make {k:Nat} {A:Around} (r:Room (k + 1) A) (C:Addr) (us:List Value) (kw:List (Str × Value)):Room k (A.under (.builtin "type.__call__" ⟨.ref C :: us,kw⟩)) :=
 ⟨r.hd,by have:=r.dp; rw [make_depth]; omega,by have:=r.un; rw [make_units]; omega⟩
theorem Room.depth {k:Nat} {A:Around} (r:Room k A):A.depth < recursionLimit:=by have:=r.dp; omega
theorem Room.units {k:Nat} {A:Around} (r:Room k A):A.units + 64 < cLine:=by have:=r.un; omega
def tNil:TA:=fun _ H Q=>Q [] H
def tCons (ta:TE) (tr:TA):TA:=fun σ H Q=>ta σ H fun x H1=>tr σ H1 fun xs H2=>Q (x :: xs) H2
section
variable {X:Cx} {e:Expr} {es:List Expr} {te:TE} {t:TA} {pos:Pos}
theorem pa_nil:PA X [] tNil:=fun _ _ _ _ H Q I h=>Calls.spliced_nil ⟨[],H,I,.nil,h⟩
theorem pa_cons (ha:PE X e te) (hr:PA X es t) (hs:starEach (e :: es) X.env = (false,eval e X.env) :: starEach es X.env:=by rfl):PA X (e :: es) (tCons te t):=by
 intro pos pins s σ H Q I h
 rw [hs]
 show wpAny _ _ (spliced ((false,eval e X.env) :: backTo pos (starEach es X.env))) _ _ s
 refine Calls.spliced_cons (thn (ha pins s σ H _ I h) fun u s1 ⟨x,H1,I1,r1,q1⟩=>?_)
 exact thn (hr pos pins s1 σ H1 _ I1 q1) fun us s2 ⟨xs,H2,I2,r2,q2⟩=>⟨x :: xs,H2,I2,.cons r1 r2,q2⟩
def tTup (t:TA):TE:=fun σ H Q=>t σ H fun xs H1=>xs.length ≤ sizeLine∧∀ p,H1 p = none→Q (.ref p) (upd H1 p (.tup xs))
def tLst (t:TA):TE:=fun σ H Q=>t σ H fun xs H1=>xs.length ≤ sizeLine∧∀ p,H1 p = none→Q (.ref p) (upd H1 p (.lst xs))
theorem pe_tup {x1} (h:PA X es t):PE X (.Tuple es x1 pos) (tTup t):=by
 intro pins s σ H Q I hq
 refine wpAny_Tuple_spliced (thn (h pos pins s σ H _ I hq) fun us s1 ⟨xs,H1,I1,r,z,q⟩=>⟨by rw [← r.length]; exact z,?_⟩)
 have hf:H1 s1.heap.objs.size = none:=I1.hok.fresh (Nat.le_refl _)
 refine ⟨.ref s1.heap.objs.size,upd H1 s1.heap.objs.size (.tup xs),I1.laid (t':=s1.toks) (fun b u e=>Heap.get?_push_of_some _ e) (Nat.le_refl _) ?_,rfl,q _ hf⟩
 exact ⟨z,us,r,⟨_,Heap.get?_push_size _ rfl,rfl,_,rfl⟩⟩
theorem pe_lst (h:PA X es t):PE X (.List es pos) (tLst t):=by
 intro pins s σ H Q I hq
 refine wpAny_List_spliced (thn (h pos pins s σ H _ I hq) fun us s1 ⟨xs,H1,I1,r,z,q⟩=>⟨by rw [← r.length]; exact z,?_⟩)
 have hf:H1 s1.heap.objs.size = none:=I1.hok.fresh (Nat.le_refl _)
 refine ⟨.ref s1.heap.objs.size,upd H1 s1.heap.objs.size (.lst xs),I1.laid (t':=s1.toks) (fun b u e=>Heap.get?_push_of_some _ e) (Nat.le_refl _) ?_,rfl,q _ hf⟩
 exact ⟨z,us,0,r,Heap.get?_push_size _ rfl⟩
end
abbrev Sp:=List V→Hp→VK→XK→Prop
abbrev CXT:=List Env→Hp→Shared→XK→Value→Shared→Prop
structure Env0 (P:Program) (w:World) (K:PySem.W.Frag) (mg:Str→Option Value) (base:Heap) (A:Around) (outer:List Env) (s:Shared) (H:Hp):Prop where
 frames:A.frames = some outer
 mod:Mod K mg base
 bs:∀ b o,base.get? b = some o→s.heap.get? b = some o∧H b = none
 bsz:base.objs.size ≤ s.heap.objs.size
 funs:s.heap.FunFrames base outer
 frf:∀ b ∈ frs outer,H b = none
 hok:HOk P w H s.heap
 bare:AllBare s.gens
def CE (outer:List Env) (P:Program) (w:World) (H:Hp) (s:Shared) (Q:VK) (u:Value) (s':Shared):Prop :=
 ∃ v H',s'.os = s.os∧AllBare s'.gens∧Un (frs outer) [] H H' s.heap s'.heap∧HOk P w H' s'.heap∧RelV v u∧Q v H'
def CR (CX:CXT) (outer:List Env) (P:Program) (w:World) (H:Hp) (s:Shared) (Q:VK) (E:XK) (r:Result) (s':Shared):Prop :=
 match r with
 | .ok (.ret u)=>CE outer P w H s Q u s'
 | .ok _=>False
 | .error e=>CX outer H s E e s'
structure FnOk (P:Program) (w:World) (K:PySem.W.Frag) (mg:Str→Option Value) (base:Heap) (CX:CXT) (k:Nat) (f:Addr) (fd:FuncData) (ps:List Str) (sp:Sp):Prop where
 len:∀ vs H Q E,sp vs H Q E→vs.length = ps.length
 run:∀ (A:Around) (outer:List Env) (s:Shared) (H:Hp) (args:Args) (us:List Value) (vs:List V) (Q:VK) (E:XK),Room k A→Env0 P w K mg base A outer s H→BindsTo s fd args (ps.zip us)→Vals vs us→sp vs H Q E →
  codeAny (model P w) A (.call (.ref f) args) (CR CX outer P w H s Q E) s
theorem FnOk.mono {P:Program} {w:World} {K:PySem.W.Frag} {mg:Str→Option Value} {base:Heap} {CX:CXT} {j k:Nat} {f:Addr} {fd:FuncData} {ps:List Str} {sp:Sp} (F:FnOk P w K mg base CX j f fd ps sp) (h:j ≤ k) :
  FnOk P w K mg base CX k f fd ps sp:=⟨F.len,fun A outer s H args us vs Q E hr=>F.run A outer s H args us vs Q E (hr.mono h)⟩
theorem FnOk.imp {P:Program} {w:World} {K:PySem.W.Frag} {mg:Str→Option Value} {base:Heap} {CX:CXT} {k:Nat} {f:Addr} {fd:FuncData} {ps:List Str} {sp sp':Sp} (F:FnOk P w K mg base CX k f fd ps sp)
  (h:∀ vs H Q E,sp' vs H Q E→sp vs H Q E):FnOk P w K mg base CX k f fd ps sp' :=
 ⟨fun vs H Q E q=>F.len vs H Q E (h _ _ _ _ q),fun A outer s H args us vs Q E hr he hb hv hs=>F.run A outer s H args us vs Q E hr he hb hv (h _ _ _ _ hs)⟩
theorem Env0.make {P:Program} {w:World} {K:PySem.W.Frag} {mg:Str→Option Value} {base:Heap} {A:Around} {outer:List Env} {s:Shared} {H:Hp} (e:Env0 P w K mg base A outer s H) (C:Addr) (us:List Value) (kw:List (Str × Value)) :
  Env0 P w K mg base (A.under (.builtin "type.__call__" ⟨.ref C :: us,kw⟩)) outer s H:=⟨by first | exact e.frames | (simpa [Around.under,Code.envs,Code.isFrame,pushEnvs] using e.frames),e.mod,e.bs,e.bsz,e.funs,e.frf,e.hok,e.bare⟩
section
variable {X:Cx} {pins:List (Addr × Obj)} {σ:St} {H:Hp} {s s':Shared}
theorem Inv.env0 (I:Inv X pins σ H s):Env0 X.prog X.w X.K X.mg X.base X.A X.stack s H :=
 ⟨I.ok.frames,I.ok.mod,I.bs,Nat.le_trans I.ok.bsz I.sz,I.stack,I.stkFree,I.hok,I.bare⟩
theorem Inv.after {Q:VK} {u:Value} (I:Inv X pins σ H s) (h:CE X.stack X.prog X.w H s Q u s'):EP X pins σ Q u s':=by
 obtain ⟨v,H',os,bare,un,hok,r,q⟩:=h
 obtain ⟨hh,g,d,t,os'⟩:=s'
 obtain rfl:os' = s.os:=os
 exact ⟨v,H',I.call (h':=hh) (g':=g) (d':=d) (t':=t) (ch:=[]) un hok bare (fun b z=>absurd z (by simp)),r,q⟩
end
def tCall (sp:Sp) (dvs:List V) (E:St→XK) (t:TA):TE:=fun σ H Q=>t σ H fun vs H1=>sp (vs ++ dvs) H1 Q (E σ)
def tMeth (C:Addr) (m:Str) (sp:Sp) (dvs:List V) (E:St→XK) (ta:TE) (t:TA):TE:=fun σ H Q=>ta σ H fun x H1=>∃ a dx fs,x = .ref a∧H1 a = some (.ins C dx fs)∧fs.lookup m = none ∧
 t σ H1 fun vs H2=>sp (x :: (vs ++ dvs)) H2 Q (E σ)
def tMake (C:Addr) (sp:Sp) (dvs:List V) (E:St→XK) (t:TA):TE:=fun σ H Q=>t σ H fun vs H1=>∀ x dx,H1 x = none→H1 dx = none→dx ≠ x →
 sp (.ref x :: (vs ++ dvs)) (upd (upd H1 dx (.own x)) x (.ins C dx [])) (fun v H2=>v = .non∧Q (.ref x) H2) (E σ)
def Binds (K:PySem.W.Frag) (fd:FuncData) (ps:List Str) (ds:List Value):Prop :=
 ∀ (s:Shared) (us:List Value),K.In s.heap→(us ++ ds).length = ps.length→BindsTo s fd ⟨us,[]⟩ (ps.zip (us ++ ds))
theorem Binds.all {K:PySem.W.Frag} {fd:FuncData} {ps:List Str} (h:∀ us:List Value,us.length = ps.length→bindArgs fd ⟨us,[]⟩ = pure (ps.zip us)):Binds K fd ps []:=fun s us _ hl=>by
 rw [List.append_nil] at hl ⊢
 exact .of_eq (h us hl)
def Passes (CX:CXT) (X:Cx) (E:St→XK):Prop:=∀ (pins:List (Addr × Obj)) (σ:St) (H:Hp) (s:Shared) (e:Value) (s':Shared),Inv X pins σ H s→CX X.stack H s (E σ) e s'→X.xe e s'
section
variable {X:Cx} {CX:CXT} {k:Nat} {f C:Addr} {fd:FuncData} {ps:List Str} {sp:Sp} {dvs:List V} {ds:List Value} {E:St→XK} {x m:Str} {p pos apos:Pos} {e o:Expr} {es:List Expr} {ta:TE} {t:TA}
theorem run_fn {pins:List (Addr × Obj)} {σ:St} {H:Hp} {s:Shared} {Q:VK} {us:List Value} {vs:List V} (F:FnOk X.prog X.w X.K X.mg X.base CX k f fd ps sp) (hr:Room k X.A) (hb:Binds X.K fd ps ds) (hd:Vals dvs ds) (hx:Passes CX X E)
  (I:Inv X pins σ H s) (r:Vals vs us) (h:sp (vs ++ dvs) H Q (E σ)):wpAny (model X.prog X.w) X.A (call (.ref f) us) (EP X pins σ Q) X.xe s:=by
 have r2:Vals (vs ++ dvs) (us ++ ds):=r.append hd
 have hl:(us ++ ds).length = ps.length:=by rw [← r2.length]; exact F.len _ _ _ _ h
 refine wpAny_call (codeAny_mono (F.run X.A X.stack s H ⟨us,[]⟩ (us ++ ds) (vs ++ dvs) Q (E σ) hr I.env0 (hb s us I.kIn hl) r2 h) fun r s' hq=>?_)
 cases r with
 | error e=>exact hx pins σ H s e s' I hq
 | ok fl =>
  cases fl with
  | ret u=>exact I.after hq
  | next=>exact False.elim hq
  | brk=>exact False.elim hq
  | cont=>exact False.elim hq
theorem pe_call (F:FnOk X.prog X.w X.K X.mg X.base CX k f fd ps sp) (hr:Room k X.A) (hg:Gl X x) (hm:X.mg x = some (.ref f)) (hk:PySem.W.keepIn X.K (.ref f) = true) (hb:Binds X.K fd ps ds) (hd:Vals dvs ds) (hx:Passes CX X E)
  (ha:PA X (e :: es) t) (hdb:(x == ("__debug__":Str)) = false:=by decide) (he:starEach (e :: es) X.env = (false,eval e X.env) :: starEach es X.env:=by rfl) (hpl:(backTo pos (starEach es X.env)).any (·.1) = false:=by rfl) :
  PE X (.Call (.Name x p) (e :: es) [] pos) (tCall sp dvs E t):=by
 intro pins s σ H Q I h
 refine wpAny_Call_Name_kw (ld_glob I hg hm ?_ hdb)
 refine PySem.W.callWith_K (h₀:=X.base) I.ok.mod.kin hk (thn (ha pos pins s σ H _ I h) fun us s1 ⟨vs,H1,I1,r,q⟩=>⟨I1.kIn,?_⟩) he hpl
 exact run_fn F hr hb hd hx I1 r q
theorem pe_meth {pl:Sem Bool} (he:PE X o ta) (c:Cls X.K C) (hm:Meth X.K C m f) (F:FnOk X.prog X.w X.K X.mg X.base CX k f fd ps sp) (hr:Room k X.A) (hb:Binds X.K fd ps ds) (hd:Vals dvs ds) (hx:Passes CX X E) (ha:PA X (e :: es) t)
  (hst:starEach (e :: es) X.env = (false,eval e X.env) :: starEach es X.env:=by rfl) (hpl:(backTo pos (starEach es X.env)).any (·.1) = false:=by rfl)
  (ht:eval (.Call (.Attribute o m apos) (e :: es) [] pos) X.env = (do
   let ov ← eval o X.env
   standAt apos.atName
   let (f,first) ← holding [ov] (getMethod ov m pl)
   callWith pos f first (backTo pos (starEach (e :: es) X.env)) (backToKw pos (keywordEach [] X.env))):=by rfl) :
  PE X (.Call (.Attribute o m apos) (e :: es) [] pos) (tMeth C m sp dvs E ta t):=by
 intro pins s σ H Q I h
 refine PySem.W.methodCall_KW (pl:=pl) (thn (he pins s σ H _ I h) fun u s1 ⟨x,H1,I1,rx,a,dx,fs,ex,ea,l,q⟩=>?_) ht
 subst ex
 obtain rfl:u = Value.ref a:=rx
 refine getmeth_ok I1 ea c hm l ?_
 refine PySem.W.callWith_K (first:=[.ref a]) (h₀:=X.base) I.ok.mod.kin hm.kp (thn (ha pos pins s1 σ H1 _ I1 q) fun us s2 ⟨vs,H2,I2,r,q2⟩=>⟨I2.kIn,?_⟩) hst hpl
 exact run_fn (us:=.ref a :: us) (vs:=.ref a :: vs) F hr hb hd hx I2 (.cons rfl r) q2
theorem pe_meth0 {pl:Sem Bool} (he:PE X o ta) (c:Cls X.K C) (hm:Meth X.K C m f) (F:FnOk X.prog X.w X.K X.mg X.base CX k f fd ps sp) (hr:Room k X.A) (hb:Binds X.K fd ps ds) (hd:Vals dvs ds) (hx:Passes CX X E)
  (ht:eval (.Call (.Attribute o m apos) [] [] pos) X.env = (do
   let ov ← eval o X.env
   standAt apos.atName
   let (f,first) ← holding [ov] (getMethod ov m pl)
   callWith pos f first (backTo pos (starEach [] X.env)) (backToKw pos (keywordEach [] X.env))):=by rfl) :
  PE X (.Call (.Attribute o m apos) [] [] pos) (tMeth C m sp dvs E ta tNil):=by
 intro pins s σ H Q I h
 refine PySem.W.methodCall_KW (pl:=pl) (thn (he pins s σ H _ I h) fun u s1 ⟨x,H1,I1,rx,a,dx,fs,ex,ea,l,q⟩=>?_) ht
 subst ex
 obtain rfl:u = Value.ref a:=rx
 refine getmeth_ok I1 ea c hm l ?_
 exact PySem.W.callWith_K0 (first:=[.ref a]) I1.kIn hm.kp (run_fn (us:=[.ref a]) (vs:=[.ref a]) F hr hb hd hx I1 (.cons rfl .nil) q)
structure Mk (K:PySem.W.Frag) (C f:Addr):Prop where
 makes:PySem.W.makesIn K C = true
 init:PySem.W.findIn K (.ref C) "__init__" = some (some (.ref f))
 fn:PySem.W.isFn K (.ref f) = true
 kp:PySem.W.keepIn K (.ref C) = true
theorem run_make {pins:List (Addr × Obj)} {σ:St} {H:Hp} {s:Shared} {Q:VK} {us:List Value} {vs:List V} (M:Mk X.K C f) (F:FnOk X.prog X.w X.K X.mg X.base CX k f fd ps sp) (hr:Room (k + 1) X.A) (hb:Binds X.K fd ps ds) (hd:Vals dvs ds)
  (hx:Passes CX X E) (I:Inv X pins σ H s) (r:Vals vs us)
  (h:∀ x dx,H x = none→H dx = none→dx ≠ x→sp (.ref x :: (vs ++ dvs)) (upd (upd H dx (.own x)) x (.ins C dx [])) (fun v H2=>v = .non∧Q (.ref x) H2) (E σ)) :
  wpAny (model X.prog X.w) X.A (call (.ref C) us) (EP X pins σ Q) X.xe s:=by
 have hq:=h (s.heap.objs.size + 1) s.heap.objs.size (I.hok.fresh (Nat.le_succ _)) (I.hok.fresh (Nat.le_refl _)) (Nat.ne_of_lt (Nat.lt_succ_self _))
 have I2:=Inv.made (C:=C) I
 have r2:Vals (V.ref (s.heap.objs.size + 1) :: (vs ++ dvs)) (Value.ref (s.heap.objs.size + 1) :: (us ++ ds)):=.cons rfl (r.append hd)
 have hl:(Value.ref (s.heap.objs.size + 1) :: us ++ ds).length = ps.length:=by
  have e:=r2.length
  rw [F.len _ _ _ _ hq] at e
  exact e.symm
 refine wpAny_call (make_map (f:=f) I.kIn M.makes M.init (beq_iff_eq.mp M.fn) (codeAny_mono (F.run _ X.stack _ _ ⟨Value.ref (s.heap.objs.size + 1) :: us,[]⟩ (Value.ref (s.heap.objs.size + 1) :: (us ++ ds)) _ _ (E σ) (hr.make C us [])
  (I2.env0.make C us []) (hb _ (Value.ref (s.heap.objs.size + 1) :: us) I2.kIn hl) r2 hq) fun r s' hq'=>?_))
 cases r with
 | error e=>exact hx pins σ _ _ e s' I2 hq'
 | ok fl =>
  cases fl with
  | ret u =>
   obtain ⟨v,H',I3,rv,ev,q3⟩:=I2.after hq'
   subst ev
   exact ⟨rv,⟨V.ref (s.heap.objs.size + 1),H',I3,rfl,q3⟩⟩
  | next=>exact False.elim hq'
  | brk=>exact False.elim hq'
  | cont=>exact False.elim hq'
theorem pe_make (M:Mk X.K C f) (F:FnOk X.prog X.w X.K X.mg X.base CX k f fd ps sp) (hr:Room (k + 1) X.A) (hg:Gl X x) (hm:X.mg x = some (.ref C)) (hb:Binds X.K fd ps ds) (hd:Vals dvs ds) (hx:Passes CX X E)
  (ha:PA X (e :: es) t) (hdb:(x == ("__debug__":Str)) = false:=by decide) (he:starEach (e :: es) X.env = (false,eval e X.env) :: starEach es X.env:=by rfl) (hpl:(backTo pos (starEach es X.env)).any (·.1) = false:=by rfl) :
  PE X (.Call (.Name x p) (e :: es) [] pos) (tMake C sp dvs E t):=by
 intro pins s σ H Q I h
 refine wpAny_Call_Name_kw (ld_glob I hg hm ?_ hdb)
 refine PySem.W.callWith_K (h₀:=X.base) I.ok.mod.kin M.kp (thn (ha pos pins s σ H _ I h) fun us s1 ⟨vs,H1,I1,r,q⟩=>⟨I1.kIn,?_⟩) he hpl
 exact run_make M F hr hb hd hx I1 r q
end
section
variable {X:Cx} {CX:CXT} {k:Nat} {f C:Addr} {fd:FuncData} {ps ks:List Str} {sp:Sp} {E:St→XK} {x m:Str} {p pos apos kpos:Pos} {e o:Expr} {es:List Expr} {kws:List Keyword} {te ta:TE} {t tk:TA} {nm:Option Str}
variable {g:List Value→List Value→List Value} {gV:List V→List V→List V}
end
structure FnScope (N P:List Str) (sc:Scope):Prop where
 kind:sc.kind = .function
 co:sc.isCoroutine = false
 gen:sc.isGenerator = false
 nd:N.Nodup
 pre:N.take P.length = P
 par:∀ x ∈ P,sc.names.lookup x = some .local∨sc.names.lookup x = some .cell
 nofree:∀ y ∈ sc.names,y.2 ≠ .free
theorem bindL_out {kindOf:Str→Option NameKind} {x:Str}:∀ {binds:List (Str × Value)} {m:Str→Option Value},(∀ v,(x,v) ∉ binds)→bindL kindOf binds m x = m x
 | [],_,_=>rfl
 | (n,v) :: r,m,h=>by
  unfold bindL
  rw [bindL_out fun w hw=>h w (List.mem_cons_of_mem _ hw)]
  split
  ·have:x ≠ n:=by rintro rfl; exact h v List.mem_cons_self
   simp [this]
  ·rfl
theorem bindC_out {kindOf:Str→Option NameKind} {x:Str}:∀ {binds:List (Str × Value)} {m:Str→Option Value},(∀ v,(x,v) ∉ binds)→bindC kindOf binds m x = m x
 | [],_,_=>rfl
 | (n,v) :: r,m,h=>by
  unfold bindC
  rw [bindC_out fun w hw=>h w (List.mem_cons_of_mem _ hw)]
  split
  ·rfl
  ·have:x ≠ n:=by rintro rfl; exact h v List.mem_cons_self
   simp [this]
theorem bindL_get {kindOf:Str→Option NameKind} {x:Str} {v:Value}:∀ {P:List Str} {vs:List Value} {i:Nat} {m:Str→Option Value},P.Nodup→P[i]? = some x→vs[i]? = some v→kindOf x = some .local →
  bindL kindOf (P.zip vs) m x = some v
 | [],_,_,_,_,h,_,_=>by simp at h
 | _ :: _,[],_,_,_,_,h,_=>by simp at h
 | p :: P,w :: vs,0,m,nd,h1,h2,hk=>by
  simp at h1 h2; subst h1; subst h2
  show bindL kindOf ((p,w) :: P.zip vs) m p = _
  unfold bindL
  rw [bindL_out fun v hv=>(List.nodup_cons.mp nd).1 (List.of_mem_zip hv).1,if_pos hk]
  simp
 | p :: P,w :: vs,i + 1,m,nd,h1,h2,hk=>by
  show bindL kindOf ((p,w) :: P.zip vs) m x = _
  unfold bindL
  exact bindL_get (i:=i) (List.nodup_cons.mp nd).2 (by simpa using h1) (by simpa using h2) hk
theorem bindC_get {kindOf:Str→Option NameKind} {x:Str} {v:Value}:∀ {P:List Str} {vs:List Value} {i:Nat} {m:Str→Option Value},P.Nodup→P[i]? = some x→vs[i]? = some v→kindOf x ≠ some .local →
  bindC kindOf (P.zip vs) m x = some v
 | [],_,_,_,_,h,_,_=>by simp at h
 | _ :: _,[],_,_,_,_,h,_=>by simp at h
 | p :: P,w :: vs,0,m,nd,h1,h2,hk=>by
  simp at h1 h2; subst h1; subst h2
  show bindC kindOf ((p,w) :: P.zip vs) m p = _
  unfold bindC
  rw [bindC_out fun v hv=>(List.nodup_cons.mp nd).1 (List.of_mem_zip hv).1,if_neg hk]
  simp
 | p :: P,w :: vs,i + 1,m,nd,h1,h2,hk=>by
  show bindC kindOf ((p,w) :: P.zip vs) m x = _
  unfold bindC
  exact bindC_get (i:=i) (List.nodup_cons.mp nd).2 (by simpa using h1) (by simpa using h2) hk
def start (N:List Str) (vs:List V):St:=vs.map some ++ List.replicate (N.length - vs.length) none
def cxOf (CX:CXT) (P:Program) (w:World) (K:PySem.W.Frag) (mg:Str→Option Value) (base:Heap) (N:List Str) (qual:Str) (scope:Scope) (f:Addr) (cd:Value) (A:Around) (outer:List Env) (s:Shared) (H:Hp) (E:XK):Cx where
 prog:=P
 w:=w
 K:=K
 mg:=mg
 base:=base
 A:=A.deeper (envOfC qual scope s.heap.objs.size f cd)
 N:=N
 s₀:=s
 H₀:=H
 env:=envOfC qual scope s.heap.objs.size f cd
 outer:=outer
 stack:=envOfC qual scope s.heap.objs.size f cd :: outer
 ex:=[]
 calm:=true
 fn:=fun _=>true
 pn:=[]
 xe:=fun e s'=>wpAny (model P w) (A.deeper (envOfC qual scope s.heap.objs.size f cd)) («leaving» (envOfC qual scope s.heap.objs.size f cd) e) (fun _ s''=>CX outer H s E e s'') (fun e' s''=>CX outer H s E e' s'') s'
theorem cell_has {sc:Scope} {n:Nat} {x:Str} (h:sc.names.lookup x = some .cell):∃ c,(cellsFrom n sc.names []).lookup x = some c:=by
 have q:=PySem.W.cellsFrom_some sc.names n [] (.inl h)
 exact Option.isSome_iff_exists.mp q
theorem inv_start {CX:CXT} {P:Program} {w:World} {K:PySem.W.Frag} {mg:Str→Option Value} {base:Heap} {N ps:List Str} {qual:Str} {scope:Scope} {f:Addr} {cd:Value} {A:Around} {outer:List Env} {s s1:Shared} {H:Hp} {E:XK} {us:List Value} {vs:List V}
  (S:FnScope N ps scope) (hd:A.handled = none) (e0:Env0 P w K mg base A outer s H) (hl:vs.length = ps.length) (r:Vals vs us)
  (x:InCallC s s.heap.objs.size (bindL (envOfC qual scope s.heap.objs.size f cd).kindOf (ps.zip us) fun _=>none) (cellsFrom (s.heap.objs.size + 1) scope.names []) (bindC (envOfC qual scope s.heap.objs.size f cd).kindOf (ps.zip us) fun _=>none) s1) :
  Inv (cxOf CX P w K mg base N qual scope f cd A outer s H E) [] (start N vs) H s1:=by
 have hpl:ps.length ≤ N.length:=by have:=congrArg List.length S.pre; rw [List.length_take] at this; omega
 obtain ⟨h1,tk,rfl,hk⟩:=x.done
 have noA:∀ b:Addr,b ∉ (cxOf CX P w K mg base N qual scope f cd A outer s H E).ex:=fun b z=>absurd (show b ∈ ([]:List Addr) from z) (by simp)
 refine ⟨⟨e0.mod,S.kind,rfl,rfl,Nat.le_refl _,fun y z c h1 h2=>?_,fun y hy=>?_,fun y c _ h=>?_,fun _=>hd,Around.frames_deeper e0.frames,.inr ⟨rfl,rfl⟩,fun b z=>absurd z (noA b),e0.bs,e0.bsz,fun b _ _=>noA b,fun b z=>absurd z (noA b),e0.funs,e0.frf⟩,
  rfl,e0.bare,Un.kept hk,⟨_,x.toInCall.ns,fun i y v h1 h2 h3=>?_⟩,fun y c h=>⟨_,x.cell y c h⟩,e0.hok.fresh (Nat.le_refl _),fun y c h=>?_,fun p hp=>absurd (show p ∈ ([]:List (Addr × Obj)) from hp) (by simp),e0.hok.kept hk,?_⟩
 ·exact name_of_addr x.apart (PySem.mem_of_lookup h1) (PySem.mem_of_lookup h2)
 ·have hy:scope.names.lookup y = some .cell∨scope.names.lookup y = some .free:=hy
  rcases hy with hy | hy
  ·exact cell_has hy
  ·exact absurd rfl (S.nofree _ (PySem.mem_of_lookup hy))
 ·exact Nat.le_of_lt (x.above y c (PySem.mem_of_lookup h))
 ·have hi:i < vs.length:=by
   unfold start at h2
   by_cases hi:i < vs.length
   ·exact hi
   ·rw [List.getElem?_append_right (by simpa using hi)] at h2
    rw [List.getElem?_replicate] at h2
    split at h2 <;> cases h2
  have ha:vs[i]? = some v:=by
   unfold start at h2
   rw [List.getElem?_append_left (by simpa using hi),List.getElem?_map] at h2
   cases e:vs[i]? with
   | none=>rw [e] at h2; cases h2
   | some a=>rw [e] at h2; cases h2; rfl
  obtain ⟨u,hu,rv⟩:=r.get ha
  have hp:ps[i]? = some y:=by
   rw [← S.pre,List.getElem?_take_of_lt (by omega)]; exact h1
  have ndP:ps.Nodup:=by rw [← S.pre]; exact S.nd.sublist (List.take_sublist _ _)
  refine ⟨u,rv,?_⟩
  rcases S.par y (List.mem_of_getElem? hp) with k | k
  ·exact .inl ⟨k,bindL_get ndP hp hu k⟩
  ·obtain ⟨c,e⟩:=cell_has (n:=s.heap.objs.size + 1) k
   refine .inr ⟨.inl k,c,e,?_⟩
   have q:=x.cell y c e
   rw [bindC_get ndP hp hu (by show scope.names.lookup y ≠ _; rw [k]; decide)] at q
   exact q
 ·exact e0.hok.fresh (Nat.le_of_lt (x.above y c (PySem.mem_of_lookup h)))
 ·unfold start
  show _ = N.length
  rw [List.length_append,List.length_map,List.length_replicate]
  omega
theorem fn_of {CX:CXT} {P:Program} {w:World} {K:PySem.W.Frag} {mg:Str→Option Value} {base:Heap} {k:Nat} {f:Addr} {name qual:Str} {params:Arguments} {body:List Stmt} {scope:Scope} {dV kV doc pm cdv ct oc:Value} {an od:Option Addr}
  {osl:Array (Option Value)} {N ps:List Str} {sp:Sp} (lk:K.lookup f = some ⟨oc,od,.func (PySem.W.fnOf name qual params body scope dV kV doc pm an cdv ct),osl⟩) (hcd:PySem.W.codeIn K cdv qual = true) (S:FnScope N ps scope)
  (len:∀ vs H Q E,sp vs H Q E→vs.length = ps.length)
  (hbody:∀ (A:Around) (outer:List Env) (s:Shared) (H:Hp) (vs:List V) (Q:VK) (E:XK),Room k (A.deeper (envOfC qual scope s.heap.objs.size f cdv))→sp vs H Q E →
   ∃ t,PSs (cxOf CX P w K mg base N qual scope f cdv A outer s H E) body t∧t { nx:=fun _ H'=>Q .non H',rt:=Q } (start N vs) H) :
  FnOk P w K mg base CX (k + 1) f (PySem.W.fnOf name qual params body scope dV kV doc pm an cdv ct) ps sp:=by
 refine ⟨len,fun A outer s H args us vs Q E hr e0 hb r hsp=>?_⟩
 have hl:=len _ _ _ _ hsp
 have KX:K.In s.heap:=e0.mod.kin.keeps fun b o e=>(e0.bs b o e).1
 have lim:s.heap.NoLimit:=e0.mod.nolimit.keeps fun b o e=>(e0.bs b o e).1
 have hkind:∀ y ∈ ps.zip us,scope.names.lookup y.1 = some .local∨(scope.names.lookup y.1 = some .cell∧((cellsFrom (s.heap.objs.size + 1) scope.names []).lookup y.1).isSome = true):=fun ⟨n,v⟩ hy=>by
  rcases S.par n (List.of_mem_zip hy).1 with q | q
  ·exact .inl q
  ·exact .inr ⟨q,PySem.W.cellsFrom_some _ _ _ (.inl q)⟩
 refine codeAny_call_function hr.depth (KX _ _ lk) rfl S.co S.gen rfl (PySem.W.codeRec_of KX hcd) (hb _ _ _ _ ?_)
 refine wpAny_newFunctionEnv_cells S.kind hkind fun env he s1 x=>?_
 subst he
 refine ⟨lim.keeps x.toInCall.keep,codeAny_func ?_⟩
 obtain ⟨t,ht,hq⟩:=hbody A outer s H vs Q E (hr.deeper _) hsp
 have I:Inv (cxOf CX P w K mg base N qual scope f cdv A outer s H E) [] (start N vs) H s1:=inv_start S hr.hd e0 hl r x
 refine wpAny_mono (ht [] s1 (start N vs) H _ I hq) (fun fl s' hs=>?_) fun e s' hs=>hs
 have fin:∀ {σ':St} {H':Hp} {v:V} {u:Value},Inv (cxOf CX P w K mg base N qual scope f cdv A outer s H E) [] σ' H' s'→RelV v u→Q v H'→CE outer P w H s Q u s' :=
  fun {σ' H' v u} J rv q=>⟨v,H',J.os,J.bare,J.base,J.hok,rv,q⟩
 cases fl with
 | ret u =>
  obtain ⟨v,σ',H',J,rv,q⟩:=hs
  exact fin J rv q
 | next =>
  obtain ⟨σ',H',J,q⟩:=hs
  exact fin (v:=V.non) (u:=Value.none) J rfl q
 | brk =>
  obtain ⟨_,_,_,q⟩:=hs
  exact False.elim q
 | cont =>
  obtain ⟨_,_,_,q⟩:=hs
  exact False.elim q
section
variable {X:Cx} {x:Str} {p pos:Pos} {e:Expr} {es:List Expr} {t:TA} {id T:String} {r:List V→Hp→VK→Prop}
def tCB (r:List V→Hp→VK→Prop) (t:TA):TE:=fun σ H Q=>t σ H fun vs H1=>r vs H1 Q
theorem pe_callB (hc:CallR X (.builtin id) r) (hg:Gl X x) (hm:X.mg x = none) (hv:bootBuiltins x = some (.builtin id)) (ha:PA X (e :: es) t) (hn:x ≠ "__name__":=by decide) (hdb:(x == ("__debug__":Str)) = false:=by decide)
  (he:starEach (e :: es) X.env = (false,eval e X.env) :: starEach es X.env:=by rfl) (hpl:(backTo pos (starEach es X.env)).any (·.1) = false:=by rfl):PE X (.Call (.Name x p) (e :: es) [] pos) (tCB r t):=by
 intro pins s σ H Q I h
 refine wpAny_Call_Name_kw (ld_blt I hg hm hv ?_ hn hdb)
 exact PyProof.Rows.callWith_builtin1 (thn (ha pos pins s σ H _ I h) fun us s1 ⟨vs,H1,I1,r1,q1⟩=>hc pins s1 σ H1 vs us Q I1 r1 q1) he hpl
theorem pe_callTy (hc:CallR X (.type T) r) (hg:Gl X x) (hm:X.mg x = none) (hv:bootBuiltins x = some (.type T)) (ha:PA X (e :: es) t) (hn:x ≠ "__name__":=by decide) (hdb:(x == ("__debug__":Str)) = false:=by decide)
  (he:starEach (e :: es) X.env = (false,eval e X.env) :: starEach es X.env:=by rfl) (hpl:(backTo pos (starEach es X.env)).any (·.1) = false:=by rfl):PE X (.Call (.Name x p) (e :: es) [] pos) (tCB r t):=by
 intro pins s σ H Q I h
 refine wpAny_Call_Name_kw (ld_blt I hg hm hv ?_ hn hdb)
 exact PyProof.Rows.callWith_type1 (thn (ha pos pins s σ H _ I h) fun us s1 ⟨vs,H1,I1,r1,q1⟩=>hc pins s1 σ H1 vs us Q I1 r1 q1) he hpl
end
end L2
namespace HT
open PySem PyProof.Rows
section
open PySem.SeqAt
open PySem.AutoSeq1 (wpAny_loadPart')
open PySem.MeetsSeq PySem.MeetsSeq2 PySem.MeetsSeq3
end
section
variable {prog:Program} {w:World} {A:Around} {E:Value→Shared→Prop} {s:Shared}
def sIx (n d:Nat):Option Int→Nat
 | none=>d
 | some v=>if v < 0 then (v + (n:Int)).toNat else min v.toNat n
theorem sIx_none (n d:Nat):sIx n d none = d:=rfl
theorem sIx_nat (n d k:Nat):sIx n d (some (k:Int)) = min k n:=by
 show (if (k:Int) < 0 then ((k:Int) + (n:Int)).toNat else min (k:Int).toNat n) = min k n
 rw [if_neg (by omega),Int.toNat_natCast]
theorem sIx_le (n d:Nat) (hd:d ≤ n) (o:Option Int):sIx n d o ≤ n:=by
 cases o with
 | none=>exact hd
 | some v =>
  show (if v < 0 then (v + (n:Int)).toNat else min v.toNat n) ≤ n
  by_cases hv:v < 0
  ·rw [if_pos hv]; omega
  ·rw [if_neg hv]; exact Nat.min_le_right _ _
end
end HT
namespace L2
open PySem PySem.Spec PyProof.Rows
abbrev TO:=St→Hp→(Option Int→Hp→Prop)→Prop
def PO (X:Cx) (e:Option Expr) (t:TO):Prop :=
 ∀ (pins:List (Addr × Obj)) (s:Shared) (σ:St) (H:Hp) (Q:Option Int→Hp→Prop),Inv X pins σ H s→t σ H Q →
  wpAny (model X.prog X.w) X.A (evalPart e X.env) (fun u s'=>∃ o H',Inv X pins σ H' s'∧IsPart u o∧Q o H') X.xe s
def tNoPart:TO:=fun _ H Q=>Q none H
def tPart (t:TE):TO:=fun σ H Q=>t σ H fun x H1=>∃ i,x = .int i∧Q (some i) H1
section
variable {X:Cx} {e:Expr} {te:TE} {lo hi:Option Expr} {tl th:TO} {pos p2:Pos}
theorem po_none:PO X none tNoPart:=by
 intro pins s σ H Q I h
 rw [evalPart_none]
 exact wpAny_pure ⟨none,H,I,.none,h⟩
theorem po_some (h:PE X e te):PO X (some e) (tPart te):=by
 intro pins s σ H Q I hw
 rw [evalPart_some]
 refine thn (h pins s σ H _ I hw) fun u s1 ⟨x,H1,I1,r1,q1⟩=>?_
 obtain ⟨i,rfl,q⟩:=q1
 obtain ⟨t,rfl⟩:=r1
 exact ⟨some i,H1,I1,.int i t,q⟩
def SlR (X:Cx) (r:V→Option Int→Option Int→Hp→VK→Prop):Prop :=
 ∀ (pins:List (Addr × Obj)) (s:Shared) (σ:St) (H:Hp) (x:V) (v vl vu:Value) (lo hi:Option Int) (sl:Addr) (Q:VK),Inv X pins σ H s→RelV x v→s.heap.IsSliceOf sl vl vu .none→IsPart vl lo→IsPart vu hi→r x lo hi H Q →
  ∃ T id,typeLookup (.type T) "__getitem__" = pure (some (.builtin id))∧s.TypeIs v T∧wpAny (model X.prog X.w) X.A (getItem v (.ref sl)) (EP X pins σ Q) X.xe s
def tSl (r:V→Option Int→Option Int→Hp→VK→Prop) (te:TE) (tl th:TO):TE:=fun σ H Q=>te σ H fun x H1=>tl σ H1 fun l H2=>th σ H2 fun u H3=>r x l u H3 Q
theorem pe_slice {r:V→Option Int→Option Int→Hp→VK→Prop} (hr:SlR X r) (he:PE X e te) (hl:PO X lo tl) (hu:PO X hi th):PE X (.Subscript e (.Slice lo hi none p2) pos) (tSl r te tl th):=by
 intro pins s σ H Q I h
 refine Subscript_ (thn (he pins s σ H _ I h) fun v s1 ⟨x,H1,I1,r1,q1⟩=>?_)
 refine wpAny_Slice (thn (hl pins s1 σ H1 _ I1 q1) fun vl s2 ⟨l,H2,I2,pl,q2⟩=>thn (hu pins s2 σ H2 _ I2 q2) fun vu s3 ⟨u,H3,I3,pu,q3⟩=>?_)
 rw [evalPart_none]
 refine wpAny_pure ?_
 have I4:Inv X pins σ H3 { s3 with heap:=s3.heap.push { cls:=.type "slice",data:=.fields #[vl,vu,.none] } }:=I3.kept (t':=s3.toks) fun b ob q=>Heap.get?_push_of_some _ q
 obtain ⟨T,id,hT,ht,hg⟩:=hr pins { s3 with heap:=s3.heap.push { cls:=.type "slice",data:=.fields #[vl,vu,.none] } } σ H3 x v vl vu l u s3.heap.objs.size Q I4 r1 (Heap.IsSliceOf.new ..) pl pu q3
 show wpAny (model X.prog X.w) X.A (subscriptTail e (.Slice lo hi none p2) v (.ref s3.heap.objs.size)) (EP X pins σ Q) X.xe { s3 with heap:=s3.heap.push { cls:=.type "slice",data:=.fields #[vl,vu,.none] } }
 exact tail_any (ops:=[.ref s3.heap.objs.size,v]) ht hT hg (by with_unfolding_all rfl)
def cutV (xs:List V) (lo hi:Option Int):List V:=(xs.drop (HT.sIx xs.length 0 lo)).take (HT.sIx xs.length xs.length hi - HT.sIx xs.length 0 lo)
theorem cutV_length (xs:List V) (lo hi:Option Int):(cutV xs lo hi).length ≤ xs.length:=by
 unfold cutV
 rw [List.length_take,List.length_drop]
 omega
end
def ixN (n:Nat) (i:Int):Option Nat:=if 0 ≤ i then (if i < n then some i.toNat else none) else if -(n:Int) ≤ i then some (i + n).toNat else none
def atI {α:Type} (xs:List α) (i:Int):Option α:=(ixN xs.length i).bind fun j=>xs[j]?
theorem ixN_seq {n:Nat} {i:Int} {j:Nat} (h:ixN n i = some j):seqIndex? i n = some j∧j < n∧-(n:Int) ≤ i∧i < n:=by
 unfold ixN at h
 by_cases h0:0 ≤ i
 ·rw [if_pos h0] at h
  by_cases h1:i < n
  ·rw [if_pos h1] at h
   have e:i.toNat = j:=Option.some.inj h
   exact ⟨by rw [seqIndex_of h0 h1,e],by omega,by omega,h1⟩
  ·rw [if_neg h1] at h; cases h
 ·rw [if_neg h0] at h
  by_cases h1:-(n:Int) ≤ i
  ·rw [if_pos h1] at h
   have e:(i + n).toNat = j:=Option.some.inj h
   exact ⟨by rw [seqIndex_neg (by omega) h1,e],by omega,h1,by omega⟩
  ·rw [if_neg h1] at h; cases h
theorem atI_get {α:Type} {xs:List α} {i:Int} {v:α} (h:atI xs i = some v):∃ j,seqIndex? i xs.length = some j∧xs[j]? = some v∧j < xs.length∧-(xs.length:Int) ≤ i∧i < xs.length:=by
 unfold atI at h
 cases e:ixN xs.length i with
 | none=>rw [e] at h; cases h
 | some j =>
  rw [e] at h
  obtain ⟨h1,h2,h3,h4⟩:=ixN_seq e
  exact ⟨j,h1,h,h2,h3,h4⟩
theorem atI_nat {α:Type} {xs:List α} {j:Nat} {v:α} (h:xs[j]? = some v):atI xs (j:Int) = some v:=by
 have hj:j < xs.length:=(List.getElem?_eq_some_iff.mp h).1
 have e:ixN xs.length (j:Int) = some j:=by
  unfold ixN
  rw [if_pos (by omega),if_pos (by omega)]; simp
 unfold atI; rw [e]; exact h
def PlainIx (b:Expr):Prop:=∀ o i,subscripted b false o i = operate [o,i] (getItem o i)
def IxR (X:Cx) (r:R2):Prop :=
 ∀ (value slice:Expr) (pins:List (Addr × Obj)) (s:Shared) (σ:St) (H:Hp) (x y:V) (v u:Value) (Q:VK),Inv X pins σ H s→RelV x v→RelV y u→r x y H Q →
  subscripted slice false v u = operate [v,u] (getItem v u)→wpAny (model X.prog X.w) X.A (subscriptTail value slice v u) (EP X pins σ Q) X.xe s
def MtR (X:Cx) (id:String) (r:V→List V→Hp→VK→Prop):Prop :=
 ∀ (pins:List (Addr × Obj)) (s:Shared) (σ:St) (H:Hp) (x:V) (xs:List V) (v:Value) (us:List Value) (Q:VK),Inv X pins σ H s→RelV x v→Vals xs us→r x xs H Q →
  wpAny (model X.prog X.w) X.A (call (.builtin id) (v :: us)) (EP X pins σ Q) X.xe s
section
variable {X:Cx} {a b:Expr} {ta tb:TE} {pos:Pos}
theorem pe_ix {r:R2} (hr:IxR X r) (ha:PE X a ta) (hb:PE X b tb) (hs:PlainIx b):PE X (.Subscript a b pos) (tOp r ta tb):=by
 intro pins s σ H Q I h
 exact Subscript_ (binT ha hb I h fun v u s2 x y H2 I2 rx ry q=>hr a b pins s2 σ H2 x y v u Q I2 rx ry q (hs _ _))
def rIxL (K:PySem.W.Frag):R2:=fun x y H Q=>∃ p xs i v,x = .ref p∧y = .int i∧SqL K H p xs∧atI xs i = some v∧Q v H
def rIxT (K:PySem.W.Frag):R2:=fun x y H Q=>∃ p xs i v,x = .ref p∧y = .int i∧SqT K H p xs∧atI xs i = some v∧Q v H
theorem ix_list:IxR X (rIxL X.K):=by
 intro value slice pins s σ H x y v u Q I rx ry h hs
 obtain ⟨p,xs,i,z,rfl,rfl,hq,he,q⟩:=h
 cases rx
 obtain ⟨t,rfl⟩:=ry
 obtain ⟨its,r,pl,hz⟩:=I.list hq
 obtain ⟨j,h1,h2,h3,h4,h5⟩:=atI_get he
 obtain ⟨w,ew,rw'⟩:=r.get h2
 have hl:=r.length
 have hn:=line63
 have fin:EP X pins σ Q w s:=⟨z,H,I,rw',q⟩
 by_cases h0:0 ≤ i
 ·have hj:i.toNat = j:=by
   rw [seqIndex_of h0 h5] at h1
   exact Option.some.inj h1
  exact item_listR pl.isList h0 (by omega) (by rw [hj]; simpa using ew) fin hs
 ·have hj:(i + (its.toArray.size:Int)).toNat = j:=by
   rw [seqIndex_neg (by omega) h4] at h1
   rw [List.size_toArray,← hl]
   exact Option.some.inj h1
  exact subscriptTail_builtinR (x:=w) pl.isList.typeIs slot_list_getitem.lookup
   (wpAny_getItem_list_neg (Q:=fun r s'=>r = w∧EP X pins σ Q r s') pl.isList (by omega) (by rw [List.size_toArray] <;> omega) (by omega) (by rw [hj]; simpa using ew) ⟨rfl,fin⟩) hs
theorem ix_tup:IxR X (rIxT X.K):=by
 intro value slice pins s σ H x y v u Q I rx ry h hs
 obtain ⟨p,xs,i,z,rfl,rfl,hq,he,q⟩:=h
 cases rx
 obtain ⟨t,rfl⟩:=ry
 obtain ⟨its,r,pl,hz⟩:=I.tuple hq
 obtain ⟨j,h1,h2,h3,h4,h5⟩:=atI_get he
 obtain ⟨w,ew,rw'⟩:=r.get h2
 have hl:=r.length
 have hn:=line63
 have fin:EP X pins σ Q w s:=⟨z,H,I,rw',q⟩
 exact subscriptTail_builtinR (x:=w) pl.typeIs slot_tuple_getitem.lookup
  (getItem_tuple (j:=j) (Q:=fun r s'=>r = w∧EP X pins σ Q r s') pl (by omega) (by omega) (by rw [List.size_toArray,← hl]; exact h1) (by simpa using ew) ⟨rfl,fin⟩) hs
theorem mapSeq_set (its:List Value) (n j:Nat) (u:Value):Obj.mapSeq (·.setIfInBounds j u) { cls:=.type "list",data:=.seq its.toArray n } = { cls:=.type "list",data:=.seq (its.set j u).toArray n }:=by
 simp [Obj.mapSeq]
theorem Inv.lst {pins:List (Addr × Obj)} {σ:St} {H:Hp} {s:Shared} {p:Addr} {xs:List V} (I:Inv X pins σ H s) (h:H p = some (.lst xs)) :
  ∃ (its:List Value) (n:Nat),Vals xs its∧s.heap.get? p = some { cls:=.type "list",data:=.seq its.toArray n }∧xs.length ≤ sizeLine:=by
 obtain ⟨z,its,n,r,e⟩:=I.hok p _ h
 exact ⟨its,n,r,e,z⟩
theorem Inv.lstUpd {pins:List (Addr × Obj)} {σ:St} {H:Hp} {s:Shared} {p:Addr} {xs ys:List V} {its its':List Value} {n n':Nat} {f:Obj→Obj} (I:Inv X pins σ H s) (h:H p = some (.lst xs))
  (ho:s.heap.get? p = some { cls:=.type "list",data:=.seq its.toArray n }) (hf:f { cls:=.type "list",data:=.seq its.toArray n } = { cls:=.type "list",data:=.seq its'.toArray n' }) (r:Vals ys its') (hz:ys.length ≤ sizeLine) (t:Nat) :
  Inv X pins σ (upd H p (.lst ys)) { s with heap:=s.heap.update p f,toks:=t }:=by
 have e:(s.heap.update p f).get? p = some { cls:=.type "list",data:=.seq its'.toArray n' }:=by
  rw [Heap.get?_update_self f ho (by rw [hf] <;> rfl),hf]
 refine I.write (x:=p) (e:=p) (by rw [h]; trivial) (.inl rfl) (fun b u hb q=>(Heap.get?_update_other _ _ (Ne.symm hb)).trans q) ⟨_,e⟩ ?_
 exact ⟨hz,its',n',r,e⟩
def rSetL:V→V→V→Hp→(Hp→Prop)→Prop:=fun o i v H Q=>∃ p xs k j,o = .ref p∧i = .int k∧H p = some (.lst xs)∧ixN xs.length k = some j∧Q (upd H p (.lst (xs.set j v)))
theorem set_list:PSet X rSetL:=by
 intro pins s σ H o i v ov iv u Q I ro ri rv h
 obtain ⟨p,xs,k,j,rfl,rfl,hp,hj,q⟩:=h
 cases ro
 obtain ⟨t,rfl⟩:=ri
 obtain ⟨its,n,r,ho,hz⟩:=I.lst hp
 obtain ⟨h1,h2,h3,h4⟩:=ixN_seq hj
 have hl:=r.length
 have hn:=line63
 have I':Inv X pins σ (upd H p (.lst (xs.set j v))) { s with heap:=s.heap.update p (Obj.mapSeq (·.setIfInBounds j u)) } :=
  I.lstUpd hp ho (mapSeq_set its n j u) (r.set rv j) (by rw [List.length_set]; exact hz) s.toks
 by_cases h0:0 ≤ k
 ·have hk:k.toNat = j:=by
   rw [seqIndex_of h0 h4] at h1
   exact Option.some.inj h1
  exact PySem.W.ki_setAt ho h0 (by omega) (by rw [List.size_toArray,← hl]; exact h4) (by rw [hk]; exact ⟨_,I',q⟩)
 ·have hk:(k + (its.toArray.size:Int)).toNat = j:=by
   rw [seqIndex_neg (by omega) h3] at h1
   rw [List.size_toArray,← hl]
   exact Option.some.inj h1
  exact PySem.W.ki_setBack ho (by omega) (by rw [List.size_toArray,← hl]; exact h3) (by omega) (by rw [hk]; exact ⟨_,I',q⟩)
theorem slice_bounds (lo hi:Option Int) (n:Nat):(sliceBounds lo hi none n).1 = ((HT.sIx n 0 lo:Nat):Int)∧(sliceBounds lo hi none n).2.1 = ((HT.sIx n n hi:Nat):Int)∧(sliceBounds lo hi none n).2.2 = 1:=by
 refine ⟨?_,?_,rfl⟩
 ·cases lo with
  | none=>simp [sliceBounds,HT.sIx]
  | some i =>
   simp only [sliceBounds,HT.sIx,Option.getD_none,show (1:Int) > 0 by decide,if_true]
   by_cases h:i < 0
   ·simp only [h,if_true] <;> omega
   ·simp only [h,if_false] <;> omega
 ·cases hi with
  | none=>simp [sliceBounds,HT.sIx]
  | some i =>
   simp only [sliceBounds,HT.sIx,Option.getD_none,show (1:Int) > 0 by decide,if_true]
   by_cases h:i < 0
   ·simp only [h,if_true] <;> omega
   ·simp only [h,if_false] <;> omega
theorem slicePick_cut (its:List Value) (lo hi:Option Int):slicePick its.toArray lo hi none = ((its.drop (HT.sIx its.length 0 lo)).take (HT.sIx its.length its.length hi - HT.sIx its.length 0 lo)).toArray:=by
 obtain ⟨h1,h2,h3⟩:=slice_bounds lo hi its.toArray.size
 unfold slicePick
 rw [h1,h2,h3]
 simp only [sliceRange_one,pick_run,List.size_toArray] <;> rfl
def rSlL (K:PySem.W.Frag):V→Option Int→Option Int→Hp→VK→Prop:=fun x lo hi H Q=>∃ a xs,x = .ref a∧SqL K H a xs∧∀ p,H p = none→Q (.ref p) (upd H p (.lst (cutV xs lo hi)))
theorem sl_list:SlR X (rSlL X.K):=by
 intro pins s σ H x v vl vu lo hi sl Q I rx hs pl pu h
 obtain ⟨a,xs,rfl,hx,q⟩:=h
 cases rx
 obtain ⟨its,r,ht,hz⟩:=I.list hx
 have hlen:=r.length
 refine ⟨"list",_,slot_list_getitem.lookup,ht.isList.typeIs,?_⟩
 refine wpAny_getItem_list_slice ht.isList hs pl pu .none (by simp) ?_ (by rw [List.size_toArray] <;> omega)
 rw [slicePick_cut,← hlen]
 refine ⟨.ref s.heap.objs.size,_,I.laid (t':=s.toks) (o:=.lst (cutV xs lo hi)) (fun b ob q=>Heap.get?_push_of_some _ q) (Nat.le_refl _) ?_,rfl,q _ (I.hok.fresh (Nat.le_refl _))⟩
 exact ⟨Nat.le_trans (cutV_length xs lo hi) hz,_,0,(r.drop (HT.sIx xs.length 0 lo)).take (HT.sIx xs.length xs.length hi - HT.sIx xs.length 0 lo),Heap.get?_push_size _ rfl⟩
def flatV:V→Bool
 | .non=>true
 | .bl _=>true
 | .int _=>true
 | .str _=>true
 | _=>false
def eqV:V→V→Bool
 | .non,.non=>true
 | .bl a,.bl b=>a == b
 | .bl a,.int b=>(if a then 1 else 0) == b
 | .int a,.bl b=>a == (if b then 1 else 0)
 | .int a,.int b=>a == b
 | .str a,.str b=>a == b
 | _,_=>false
theorem eqAt_V {A:Around} {s:Shared} {y x:V} {u v:Value} (ry:RelV y u) (rx:RelV x v) (fy:flatV y = true) (fx:flatV x = true):SeqAt.EqAt A s u v (eqV y x):=by
 cases y with
 | non =>
  cases ry
  cases x with
  | non=>cases rx; exact SeqAt.EqAt.same _
  | bl b=>cases rx; exact SeqAt.EqAt.none_bool b
  | int b=>obtain ⟨t,rfl⟩:=rx; exact SeqAt.EqAt.none_int b t
  | str b=>obtain ⟨t,rfl⟩:=rx; exact SeqAt.EqAt.none_str b t
  | _=>exact absurd (show false = true from fx) Bool.false_ne_true
 | bl a =>
  cases ry
  cases x with
  | non=>cases rx; exact SeqAt.EqAt.bool_none a
  | bl b=>cases rx; exact SeqAt.EqAt.bool_bool a b
  | int b=>obtain ⟨t,rfl⟩:=rx; exact SeqAt.EqAt.bool_int a b t
  | str b=>obtain ⟨t,rfl⟩:=rx; exact SeqAt.EqAt.bool_str a b t
  | _=>exact absurd (show false = true from fx) Bool.false_ne_true
 | int a =>
  obtain ⟨t',rfl⟩:=ry
  cases x with
  | non=>cases rx; exact SeqAt.EqAt.int_none a t'
  | bl b=>cases rx; exact SeqAt.EqAt.int_bool a t' b
  | int b=>obtain ⟨t,rfl⟩:=rx; exact SeqAt.EqAt.int_int a t' b t
  | str b=>obtain ⟨t,rfl⟩:=rx; exact SeqAt.EqAt.int_str a t' b t
  | _=>exact absurd (show false = true from fx) Bool.false_ne_true
 | str a =>
  obtain ⟨t',rfl⟩:=ry
  cases x with
  | non=>cases rx; exact SeqAt.EqAt.str_none a t'
  | bl b=>cases rx; exact SeqAt.EqAt.str_bool a t' b
  | int b=>obtain ⟨t,rfl⟩:=rx; exact SeqAt.EqAt.str_int a t' b t
  | str b=>obtain ⟨t,rfl⟩:=rx; exact SeqAt.EqAt.str_str a t' b t
  | _=>exact absurd (show false = true from fx) Bool.false_ne_true
 | _=>exact absurd (show false = true from fy) Bool.false_ne_true
def eqU (x:V) (u:Value):Bool:=match u with
 | .none=>eqV .non x
 | .bool b=>eqV (.bl b) x
 | .int i _=>eqV (.int i) x
 | .str z _=>eqV (.str z) x
 | _=>false
theorem eqU_of {x y:V} {u:Value} (r:RelV y u) (f:flatV y = true):eqU x u = eqV y x:=by
 cases y with
 | non=>cases r; rfl
 | bl b=>cases r; rfl
 | int i=>obtain ⟨t,rfl⟩:=r; rfl
 | str z=>obtain ⟨t,rfl⟩:=r; rfl
 | _=>exact absurd (show false = true from f) Bool.false_ne_true
theorem any_eqU {x:V}:∀ {xs:List V} {us:List Value},Vals xs us→xs.all flatV = true→us.any (eqU x) = xs.any fun y=>eqV y x
 | _,_,.nil,_=>rfl
 | y :: xs,u :: us,.cons r t,f=>by
  rw [List.all_cons,Bool.and_eq_true] at f
  rw [List.any_cons,List.any_cons,eqU_of r f.1,any_eqU t f.2]
theorem mem_eqAt {A:Around} {s:Shared} {x:V} {v:Value} (rx:RelV x v) (fx:flatV x = true):∀ {xs:List V} {us:List Value},Vals xs us→xs.all flatV = true→∀ u ∈ us,SeqAt.EqAt A s u v (eqU x u)
 | _,_,.nil,_=>fun u hu=>by cases hu
 | y :: xs,u :: us,.cons r t,f=>fun u' hu=>by
  rw [List.all_cons,Bool.and_eq_true] at f
  rcases List.mem_cons.mp hu with rfl | hu
  ·rw [eqU_of r f.1]; exact eqAt_V r rx f.1 fx
  ·exact mem_eqAt rx fx t f.2 u' hu
def inV (x:V) (xs:List V):Bool:=xs.any fun y=>eqV y x
def rIn (K:PySem.W.Frag) (neg:Bool):R2:=fun x y H Q=>∃ p xs,y = .ref p∧(SqL K H p xs∨SqT K H p xs)∧flatV x = true∧xs.all flatV = true∧Q (.bl (if neg then !inV x xs else inV x xs)) H
theorem op_in_seq:OpR X (compareOp .In) (rIn X.K false):=by
 intro pins s σ H x y v u Q I rx ry h
 obtain ⟨p,xs,rfl,hq,fx,fs,q⟩:=h
 cases ry
 rcases hq with hq | hq
 ·obtain ⟨its,r,pl,hz⟩:=I.list hq
  refine SeqAt.in_listAt (eqU x) pl.isList (fun w hw=>mem_eqAt rx fx r fs w (by simpa using hw)) ⟨.bl _,H,I,rfl,?_⟩
  rw [show its.toArray.any (eqU x) = its.any (eqU x) by simp,any_eqU r fs]
  exact q
 ·obtain ⟨its,r,pl,hz⟩:=I.tuple hq
  refine SeqAt.in_tupleAt (eqU x) pl (fun w hw=>mem_eqAt rx fx r fs w (by simpa using hw)) ⟨.bl _,H,I,rfl,?_⟩
  rw [show its.toArray.any (eqU x) = its.any (eqU x) by simp,any_eqU r fs]
  exact q
theorem op_notIn_seq:OpR X (compareOp .NotIn) (rIn X.K true):=by
 intro pins s σ H x y v u Q I rx ry h
 obtain ⟨p,xs,rfl,hq,fx,fs,q⟩:=h
 cases ry
 rcases hq with hq | hq
 ·obtain ⟨its,r,pl,hz⟩:=I.list hq
  refine SeqAt.notIn_listAt (eqU x) pl.isList (fun w hw=>mem_eqAt rx fx r fs w (by simpa using hw)) ⟨.bl _,H,I,rfl,?_⟩
  rw [show its.toArray.any (eqU x) = its.any (eqU x) by simp,any_eqU r fs]
  exact q
 ·obtain ⟨its,r,pl,hz⟩:=I.tuple hq
  refine SeqAt.notIn_tupleAt (eqU x) pl (fun w hw=>mem_eqAt rx fx r fs w (by simpa using hw)) ⟨.bl _,H,I,rfl,?_⟩
  rw [show its.toArray.any (eqU x) = its.any (eqU x) by simp,any_eqU r fs]
  exact q
theorem call_len_seq:CallR X (.builtin "len") (fun xs H Q=>∃ p ys,xs = [.ref p]∧(SqL X.K H p ys∨SqT X.K H p ys)∧Q (.int ys.length) H):=by
 intro pins s σ H xs us Q I r h
 obtain ⟨p,ys,rfl,hq,q⟩:=h
 obtain ⟨u,rfl,rx⟩:=vals1 r
 cases rx
 have hn:=line63
 rcases hq with hq | hq
 ·obtain ⟨its,r',pl,hz⟩:=I.list hq
  have hlen:=r'.length
  exact Calls.call_len_list pl.isList (by simp only [List.size_toArray] <;> omega) ⟨.int ys.length,H,I.tok _,⟨s.toks + 1,by rw [List.size_toArray,hlen]⟩,q⟩
 ·obtain ⟨its,r',pl,hz⟩:=I.tuple hq
  have hlen:=r'.length
  exact len_tuple pl (by simp only [List.size_toArray] <;> omega) ⟨.int ys.length,H,I.tok _,⟨s.toks + 1,by rw [List.size_toArray,hlen]⟩,q⟩
theorem call_list_of:CallR X (.type "list") (fun xs H Q=>∃ p ys,xs = [.ref p]∧(SqL X.K H p ys∨SqT X.K H p ys)∧∀ l,H l = none→Q (.ref l) (upd H l (.lst ys))):=by
 intro pins s σ H xs us Q I r h
 obtain ⟨p,ys,rfl,hq,q⟩:=h
 obtain ⟨u,rfl,rx⟩:=vals1 r
 cases rx
 have fin:∀ (its:List Value),Vals ys its→ys.length ≤ sizeLine→∀ (h':Heap) (c':Nat),(∀ b o',s.heap.get? b = some o'→h'.get? b = some o') →
   h'.get? s.heap.objs.size = some { cls:=.type "list",dict:=none,data:=.seq its.toArray c',slots:=#[] }→EP X pins σ Q (.ref s.heap.objs.size) { s with heap:=h' }:=fun its r' hz h' c' kp e =>
  ⟨.ref s.heap.objs.size,_,I.laid (t':=s.toks) kp (Nat.le_refl _) (show ObjOk X.prog X.w _ h' _ (.lst ys) from ⟨hz,its,c',r',e⟩),rfl,q _ (I.hok.fresh (Nat.le_refl _))⟩
 rcases hq with hq | hq
 ·obtain ⟨its,r',pl,hz⟩:=I.list hq
  have hlen:=r'.length
  obtain ⟨o,ho,hc,n,hd⟩:=pl.isList
  exact call_list_seq p (.inl rfl) ho hc hd (fun h' c' kp e=>fin its r' hz h' c' kp e) (by simp only [List.size_toArray] <;> omega)
 ·obtain ⟨its,r',pl,hz⟩:=I.tuple hq
  have hlen:=r'.length
  obtain ⟨o,ho,hc,n,hd⟩:=pl
  exact call_list_seq p (.inr rfl) ho hc hd (fun h' c' kp e=>fin its r' hz h' c' kp e) (by simp only [List.size_toArray] <;> omega)
theorem call_tuple_of:CallR X (.type "tuple") (fun xs H Q=>∃ p ys,xs = [.ref p]∧((SqL X.K H p ys∧∀ l,H l = none→Q (.ref l) (upd H l (.tup ys)))∨(SqT X.K H p ys∧Q (.ref p) H))):=by
 intro pins s σ H xs us Q I r h
 obtain ⟨p,ys,rfl,h⟩:=h
 obtain ⟨u,rfl,rx⟩:=vals1 r
 cases rx
 rcases h with ⟨hq,q⟩ | ⟨hq,q⟩
 ·obtain ⟨its,r',pl,hz⟩:=I.list hq
  have hlen:=r'.length
  refine call_tuple_list pl.isList (fun h' kp=>?_) (by simp only [List.size_toArray] <;> omega)
  have I1:Inv X pins σ H { s with heap:=h' }:=I.kept (t':=s.toks) kp
  have I2:Inv X pins σ (upd H h'.objs.size (.tup ys)) { s with heap:=h'.push { cls:=.type "tuple",data:=.seq its.toArray } } :=
   I1.laid (t':=s.toks) (fun b o e=>Heap.get?_push_of_some _ e) (Nat.le_refl _) (show ObjOk X.prog X.w _ _ _ (.tup ys) from ⟨hz,its,r',IsTup.new _ _⟩)
  exact ⟨.ref h'.objs.size,_,I2,rfl,q _ (I1.hok.fresh (Nat.le_refl _))⟩
 ·obtain ⟨its,r',pl,hz⟩:=I.tuple hq
  exact call_tuple_same pl ⟨.ref p,H,I,rfl,q⟩
def tyV (K:PySem.W.Frag) (T:String) (x:V) (H:Hp):Prop:=match x with
 | .str _=>T = "str"
 | .int _=>T = "int"
 | .ref p=>(T = "list"∧∃ xs,SqL K H p xs)∨(T = "tuple"∧∃ o,K.lookup p = some o∧o.cls = .type "tuple"∧o.dict = none) ∨
   (T = "dict"∧((∃ kvs,H p = some (.dK kvs))∨∃ kvs,H p = some (.dT kvs)))∨(T = "set"∧∃ S n,H p = some (.set S n))
 | _=>False
theorem tyV_is {pins:List (Addr × Obj)} {σ:St} {H:Hp} {s:Shared} {T:String} {x:V} {v:Value} (I:Inv X pins σ H s) (r:RelV x v) (ty:tyV X.K T x H) :
  s.TypeIs v T∧∀ a,v = .ref a→∃ ob,s.heap.get? a = some ob∧ob.dict = none:=by
 cases x with
 | str z =>
  obtain ⟨t,rfl⟩:=r
  cases (show T = "str" from ty)
  exact ⟨typeIs_str s z t,fun _ e=>nomatch e⟩
 | int i =>
  obtain ⟨t,rfl⟩:=r
  cases (show T = "int" from ty)
  exact ⟨typeIs_int s i t,fun _ e=>nomatch e⟩
 | ref p =>
  cases r
  rcases ty with ⟨rfl,xs,hq⟩ | ⟨rfl,o,hk,hc,hd⟩ | ⟨rfl,hk⟩ | ⟨rfl,S,n,hk⟩
  ·obtain ⟨its,_,pl,_⟩:=I.list hq
   refine ⟨pl.isList.typeIs,fun a e=>?_⟩
   cases e
   obtain ⟨o,n,e,c,hd,_⟩:=pl
   exact ⟨o,e,hd⟩
  ·refine ⟨⟨o,I.kIn p o hk,hc⟩,fun a e=>?_⟩
   cases e
   exact ⟨o,I.kIn _ o hk,hd⟩
  ·have z:∃ o,s.heap.get? p = some o∧o.ExactDict:=by
    rcases hk with ⟨kvs,hk⟩ | ⟨kvs,hk⟩
    ·obtain ⟨_,_,_,_,o,_,_,e,ex,_⟩:=I.hok p _ hk
     exact ⟨o,e,ex⟩
    ·obtain ⟨_,_,_,_,o,_,_,e,ex,_⟩:=I.hok p _ hk
     exact ⟨o,e,ex⟩
   obtain ⟨o,e,ex⟩:=z
   refine ⟨⟨o,e,ex.1⟩,fun a e2=>?_⟩
   cases e2
   exact ⟨o,e,ex.2.1⟩
  ·obtain ⟨o,_,_,_,e,ex,_⟩:=I.hok p _ hk
   refine ⟨⟨o,e,ex.1⟩,fun a e2=>?_⟩
   cases e2
   exact ⟨o,e,ex.2.1⟩
 | _=>exact False.elim ty
def tBM (K:PySem.W.Frag) (T:String) (r:V→List V→Hp→VK→Prop) (to:TE) (t:TA):TE:=fun σ H Q=>to σ H fun x H1=>tyV K T x H1∧t σ H1 fun xs H2=>r x xs H2 Q
variable {o e:Expr} {es:List Expr} {to:TE} {t:TA} {name:Str} {apos cpos:Pos} {T id:String} {r:V→List V→Hp→VK→Prop}
theorem pe_bm (pa:PlainAttrs T) (slot:Slot T name id) (hty:typeOf (.builtin id) = pure (.type "method_descriptor")) (hm:MtR X id r) (ho:PE X o to) (ha:PA X (e :: es) t)
  (hbase:attributeBase o name X.env (eval o X.env) = eval o X.env:=by rfl)
  (hfew:((backTo cpos (starEach (e :: es) X.env)).all (fun x=>!x.1) && (backToKw cpos (keywordEach [] X.env)).all (fun x=>x.1.isSome)
   && decide ((e :: es).length + ([]:List Keyword).length + (if ([]:List Keyword).isEmpty then 0 else 1) < 30)) = true:=by rfl)
  (hline:(apos.endLine == cpos.line) = true:=by rfl) (hs:starEach (e :: es) X.env = (false,eval e X.env) :: starEach es X.env:=by rfl) (hplain:(backTo cpos (starEach es X.env)).any (·.1) = false:=by rfl) :
  PE X (.Call (.Attribute o name apos) (e :: es) [] cpos) (tBM X.K T r to t):=by
 intro pins s σ H Q I h
 refine wpAny_Call_method_late hbase hfew hline rfl (thn (ho pins s σ H _ I h) fun v s1 ⟨x,H1,I1,r1,ty,q1⟩=>?_)
 obtain ⟨h1,h2⟩:=tyV_is I1 r1 ty
 refine ⟨T,id,pa,slot,hty,h1,h2,?_⟩
 have hA:=ha cpos pins s1 σ H1 _ I1 q1
 rw [hs] at hA ⊢
 refine Calls.callWith_builtin (by show (false || (backTo cpos (starEach es X.env)).any (·.1)) = false; rw [hplain] <;> rfl) (Calls.evalArgs_plain ?_)
 exact thn hA fun us s2 ⟨vs,H2,I2,r2,q2⟩=>hm pins s2 σ H2 x vs v us Q I2 r1 r2 q2
end
def MtM (X:Cx) (id:String) (r:V→List V→Hp→VK→Prop):Prop :=
 ∀ (pins:List (Addr × Obj)) (s:Shared) (σ:St) (H:Hp) (x:V) (xs:List V) (v:Value) (us:List Value) (Q:VK),Inv X pins σ H s→RelV x v→Vals xs us→r x xs H Q →
  wpAny (model X.prog X.w) X.A (call (.builtin id) (v :: us)) (EP X pins σ Q) X.xe s
theorem Vals.one:∀ {x:V} {us:List Value},Vals [x] us→∃ u,us = [u]∧RelV x u
 | _,_,.cons r .nil=>⟨_,rfl,r⟩
theorem Vals.rep {xs:List V} {us:List Value} (h:Vals xs us):∀ k:Nat,Vals (List.replicate k xs).flatten (List.replicate k us).flatten
 | 0=>.nil
 | k + 1=>by
  rw [List.replicate_succ,List.replicate_succ,List.flatten_cons,List.flatten_cons]
  exact Vals.append h (Vals.rep h k)
theorem foldl_rep (its:List Value):∀ (k:Nat) (acc:List Value),
  List.foldl (fun x1 x2=>x1 ++ x2) acc.toArray (List.replicate k its.toArray) = (acc ++ (List.replicate k its).flatten).toArray
 | 0,acc=>by simp
 | k + 1,acc=>by
  have e:acc.toArray ++ its.toArray = (acc ++ its).toArray:=by simp
  have e2:(acc ++ its) ++ (List.replicate k its).flatten = acc ++ (List.replicate (k + 1) its).flatten:=by
   rw [List.replicate_succ,List.flatten_cons,List.append_assoc]
  rw [← e2,← foldl_rep its k (acc ++ its),← e,List.replicate_succ,List.foldl_cons]
section
variable {X:Cx} {pins:List (Addr × Obj)} {σ:St} {H:Hp} {s:Shared} {l b:Addr} {xs ys zs:List V}
theorem Inv.lset {its its':List Value} {n:Nat} {f:Array Value→Array Value} {t':Nat} (I:Inv X pins σ H s) (hH:H l = some (.lst xs))
  (e:s.heap.get? l = some { cls:=.type "list",data:=.seq its.toArray n }) (hf:f its.toArray = its'.toArray) (hv:Vals ys its') (hz:ys.length ≤ sizeLine) :
  Inv X pins σ (upd H l (.lst ys)) { s with heap:=s.heap.update l (Obj.mapSeq f),toks:=t' }:=by
 have q:=PySem.IsL.update e f
 rw [hf] at q
 refine I.write (x:=l) (e:=l) (by rw [hH]; exact trivial) (.inl rfl) (fun b' u hb hu=>(Heap.get?_update_other s.heap (Obj.mapSeq f) (Ne.symm hb)).trans hu) ⟨_,q⟩ ?_
 exact ⟨hz,its',_,hv,q⟩
theorem Inv.lnew {its:List Value} {t':Nat} (I:Inv X pins σ H s) (hv:Vals ys its) (hz:ys.length ≤ sizeLine) :
  Inv X pins σ (upd H s.heap.objs.size (.lst ys)) { s with heap:=s.heap.push { cls:=.type "list",data:=.seq its.toArray },toks:=t' } :=
 I.laid (fun _ _ q=>Heap.get?_push_of_some _ q) (Nat.le_refl _) ⟨hz,its,0,hv,Heap.get?_push_size _ rfl⟩
theorem Inv.fresh (I:Inv X pins σ H s):H s.heap.objs.size = none:=I.hok.fresh (Nat.le_refl _)
theorem Inv.lstM (I:Inv X pins σ H s) (hH:H l = some (.lst xs)):xs.length ≤ sizeLine∧∃ (its:List Value) (n:Nat),Vals xs its∧xs.length = its.length∧s.heap.get? l = some { cls:=.type "list",data:=.seq its.toArray n }:=by
 obtain ⟨z,its,n,r,e⟩:=I.hok l _ hH
 exact ⟨z,its,n,r,r.length,e⟩
theorem notLongL {n:Nat} (h:n ≤ sizeLine):Builtin.List.listTooLong n = false:=by
 unfold Builtin.List.listTooLong
 exact decide_eq_false (by omega)
end
section
variable {X:Cx}
def rAppend:V→List V→Hp→VK→Prop:=fun x vs H Q=>∃ l xs y,x = .ref l∧vs = [y]∧H l = some (.lst xs)∧xs.length < sizeLine∧Q .non (upd H l (.lst (xs ++ [y])))
theorem mt_append:MtM X "list.append" rAppend:=by
 intro pins s σ H x vs v us Q I rx rv h
 obtain ⟨l,xs,y,rfl,rfl,hH,hz,q⟩:=h
 cases rx
 obtain ⟨u,rfl,ru⟩:=rv.one
 obtain ⟨z,its,n,r,hl,e⟩:=I.lstM hH
 refine call_meets F.slot_list_append ⟨_,e,rfl⟩ F.entry_list_append (F.args_list_append_2 _ _) (PySem.list_append l its.toArray n u (by rw [List.size_toArray]; omega)) ⟨e,?_⟩
 refine ⟨.non,_,I.lset (its':=its ++ [u]) hH e (by simp) (r.append (.cons ru .nil)) ?_,rfl,q⟩
 rw [List.length_append,List.length_singleton]
 omega
def rExtend:V→List V→Hp→VK→Prop:=fun x vs H Q=>∃ l b xs zs,x = .ref l∧vs = [.ref b]∧H l = some (.lst xs)∧H b = some (.lst zs)∧xs.length + zs.length ≤ sizeLine∧Q .non (upd H l (.lst (xs ++ zs)))
theorem mt_extend:MtM X "list.extend" rExtend:=by
 intro pins s σ H x vs v us Q I rx rv h
 obtain ⟨l,b,xs,zs,rfl,rfl,hH,hB,hz,q⟩:=h
 cases rx
 obtain ⟨u,rfl,ru⟩:=rv.one
 cases ru
 obtain ⟨z,its,n,r,hl,e⟩:=I.lstM hH
 obtain ⟨z2,its2,n2,r2,hl2,e2⟩:=I.lstM hB
 have hsz:its.toArray.size + its2.toArray.size ≤ sizeLine:=by rw [List.size_toArray,List.size_toArray]; omega
 have hlong:¬ (!its.toArray.isEmpty && Builtin.List.listTooLong (its.toArray.size + its2.toArray.size)) = true:=by
  rw [notLongL hsz,Bool.and_false]
  exact Bool.false_ne_true
 refine call_meets F.slot_list_extend ⟨_,e,rfl⟩ F.entry_list_extend (F.args_list_extend_2 _ _)
  (AutoSeq1.list_extend_list_list_0 l its.toArray n b its2.toArray n2 hlong (by rw [List.size_toArray]; omega) (by omega)) ⟨e,e2,?_⟩
 refine ⟨.non,_,I.lset (its':=its ++ its2) hH e (by simp) (r.append r2) ?_,rfl,q⟩
 rw [List.length_append]
 omega
def rCat:R2:=fun x y H Q=>∃ l b xs zs,x = .ref l∧y = .ref b∧H l = some (.lst xs)∧H b = some (.lst zs)∧xs.length + zs.length ≤ sizeLine∧∀ p,H p = none→Q (.ref p) (upd H p (.lst (xs ++ zs)))
theorem op_cat:OpR X (binaryOp .Add) rCat:=by
 intro pins s σ H x y v u Q I rx ry h
 obtain ⟨l,b,xs,zs,rfl,rfl,hH,hB,hz,q⟩:=h
 cases rx
 cases ry
 obtain ⟨z,its,n,r,hl,e⟩:=I.lstM hH
 obtain ⟨z2,its2,n2,r2,hl2,e2⟩:=I.lstM hB
 refine PySem.P.add_list e e2 ?_ (by rw [List.size_toArray,List.size_toArray]; omega)
 have ea:its.toArray ++ its2.toArray = (its ++ its2).toArray:=by simp
 rw [ea]
 exact ⟨.ref _,_,I.lnew (t':=s.toks) (r.append r2) (by rw [List.length_append]; omega),rfl,q _ I.fresh⟩
def rRep:R2:=fun x y H Q=>∃ l k xs,x = .ref l∧y = .int k∧H l = some (.lst xs)∧-(2 ^ 63) ≤ k∧k < 2 ^ 63∧xs.length * k.toNat ≤ sizeLine ∧
 ∀ p,H p = none→Q (.ref p) (upd H p (.lst (List.replicate k.toNat xs).flatten))
theorem len_rep {α:Type} (xs:List α) (k:Nat):(List.replicate k xs).flatten.length = k * xs.length:=by
 induction k with
 | zero=>simp
 | succ k ih=>rw [List.replicate_succ,List.flatten_cons,List.length_append,ih,Nat.succ_mul,Nat.add_comm]
theorem op_rep:OpR X (binaryOp .Mult) rRep:=by
 intro pins s σ H x y v u Q I rx ry h
 obtain ⟨l,k,xs,rfl,rfl,hH,h1,h2,hz,q⟩:=h
 cases rx
 obtain ⟨t,rfl⟩:=ry
 obtain ⟨z,its,n,r,hl,e⟩:=I.lstM hH
 have hlen:its.toArray.size * k.toNat ≤ sizeLine:=by rw [List.size_toArray,← hl]; exact hz
 have hcap:¬ its.toArray.size * k.toNat > (2 ^ 63 - 1) / 8:=by
  have:(sizeLine:Nat) ≤ (2 ^ 63 - 1) / 8:=by decide
  omega
 have hfit:¬ (!Builtin.List.listFitsIndex k) = true:=by
  rw [fitsIndex_both h1 h2]
  exact Bool.false_ne_true
 have hlong:¬ Builtin.List.listTooLong (its.toArray.size * k.toNat) = true:=by
  rw [notLongL hlen]
  exact Bool.false_ne_true
 have hnew:List.foldl (fun x1 x2=>x1 ++ x2) #[] (List.replicate (if its.toArray.isEmpty = true then 0 else k.toNat) its.toArray) = (List.replicate k.toNat its).flatten.toArray:=by
  have f0:∀ m:Nat,List.foldl (fun x1 x2=>x1 ++ x2) #[] (List.replicate m its.toArray) = (List.replicate m its).flatten.toArray:=fun m=>by
   have:=foldl_rep its m []
   rw [List.nil_append] at this
   exact this
  rw [f0]
  cases its with
  | nil=>simp
  | cons a r'=>rw [if_neg (by simp)]
 refine wpAny_binaryOp_repeat_ref (T := "list") (U := "int") (by decide) ⟨_,e,rfl⟩ (fun s'=>typeIs_int s' k t) noFill_list_mul F.fills_int_mul F.slot_int_rmul repeat_list F.slot_int_index.lookup
  (call_meets F.slot_int_rmul (typeIs_int s k t) F.entry_int_rmul (F.args_int_rmul_2 _ _) (int___rmul___int_list k t l its.toArray n)
   ⟨e,rfl,⟨_,e,rfl⟩,call_meets F.slot_list_mul ⟨_,e,rfl⟩ F.entry_list_mul (F.args_list_mul_2 _ _) (AutoListH.list___mul___list_int_3 l its.toArray n k t hfit hcap hlong) ⟨e,?_⟩⟩)
 rw [hnew]
 exact ⟨.ref _,_,I.lnew (t':=s.toks) (r.rep k.toNat) (by rw [len_rep,Nat.mul_comm]; exact hz),rfl,q _ I.fresh⟩
end
section
variable {prog:Program} {w:World} {A:Around} {E:Value→Shared→Prop} {s:Shared}
end
section
variable {X:Cx}
end
section
variable {κ:Type} [DecidableEq κ]
def valV (kvs:List (κ × V)) (k:κ):Option V:=(kvs.find? fun kv=>decide (kv.1 = k)).map (·.2)
def putK (kvs:List (κ × V)) (k:κ) (v:V):List (κ × V) :=
 if (kvs.any fun kv=>decide (kv.1 = k)) = true then kvs.map (fun kv=>if kv.1 = k then (kv.1,v) else kv) else kvs ++ [(k,v)]
theorem valV_pos {p:κ × V} {r:List (κ × V)} {k:κ} (e:p.1 = k):valV (p :: r) k = some p.2:=by simp [valV,List.find?_cons,e]
theorem valV_neg {p:κ × V} {r:List (κ × V)} {k:κ} (e:¬ p.1 = k):valV (p :: r) k = valV r k:=by simp [valV,List.find?_cons,e]
theorem valV_any (k:κ):∀ kvs:List (κ × V),(kvs.any fun kv=>decide (kv.1 = k)) = (valV kvs k).isSome
 | []=>rfl
 | p :: r=>by
  rw [List.any_cons]
  by_cases e:p.1 = k
  ·simp only [valV_pos e,decide_eq_true e,Bool.true_or,Option.isSome_some]
  ·rw [valV_neg e,decide_eq_false e,Bool.false_or]; exact valV_any k r
theorem length_putK (kvs:List (κ × V)) (k:κ) (v:V):(putK kvs k v).length ≤ kvs.length + 1:=by
 unfold putK
 split
 ·rw [List.length_map]; omega
 ·rw [List.length_append,List.length_cons,List.length_nil]; omega
theorem RelO.isSome_eq {o:Option V} {u:Option Value} (r:RelO o u):o.isSome = u.isSome:=by
 cases o with
 | none=>cases u with
  | none=>rfl
  | some _=>exact (show False from r).elim
 | some _=>cases u with
  | none=>exact (show False from r).elim
  | some _=>rfl
theorem RelO.getD {o:Option V} {u:Option Value} {d:V} {d':Value} (r:RelO o u) (rd:RelV d d'):RelV (o.getD d) (u.getD d'):=by
 cases o with
 | none=>cases u with
  | none=>exact rd
  | some _=>exact (show False from r).elim
 | some _=>cases u with
  | none=>exact (show False from r).elim
  | some _=>exact r
theorem KV.val {kvs:List (κ × V)} {vs:List (κ × Value)} (r:KV kvs vs) (k:κ):RelO (valV kvs k) (valueAt vs k):=by
 unfold KV at r
 induction r with
 | nil=>exact True.intro
 | @cons p q ps qs h t ih =>
  obtain ⟨h1,h2⟩:=h
  by_cases e:p.1 = k
  ·have e':q.1 = k:=h1.symm.trans e
   have b:valueAt (q :: qs) k = some q.2:=by simp [valueAt,List.find?_cons,e']
   rw [valV_pos e,b]; exact h2
  ·have e':¬ q.1 = k:=fun z=>e (h1.trans z)
   have b:valueAt (q :: qs) k = valueAt qs k:=by simp [valueAt,List.find?_cons,e']
   rw [valV_neg e,b]; exact ih
theorem KV.any {kvs:List (κ × V)} {vs:List (κ × Value)} (r:KV kvs vs) (k:κ):(kvs.any fun kv=>decide (kv.1 = k)) = vs.any fun kv=>decide (kv.1 = k):=by
 unfold KV at r
 induction r with
 | nil=>rfl
 | cons h t ih=>rw [List.any_cons,List.any_cons,ih,h.1]
theorem KV.repl {kvs:List (κ × V)} {vs:List (κ × Value)} (r:KV kvs vs) (k:κ) {y:V} {u:Value} (ry:RelV y u) :
  KV (kvs.map fun kv=>if kv.1 = k then (kv.1,y) else kv) (vs.map fun kv=>if kv.1 = k then (kv.1,u) else kv):=by
 unfold KV at r ⊢
 induction r with
 | nil=>exact .nil
 | @cons p q ps qs h t ih =>
  rw [List.map_cons,List.map_cons]
  refine .cons ?_ ih
  obtain ⟨h1,h2⟩:=h
  by_cases e:p.1 = k
  ·rw [if_pos e,if_pos (h1.symm.trans e)]; exact ⟨h1,ry⟩
  ·rw [if_neg e,if_neg (fun z=>e (h1.trans z))]; exact ⟨h1,h2⟩
theorem KV.put {kvs:List (κ × V)} {vs:List (κ × Value)} (r:KV kvs vs) (k:κ) {y:V} {u:Value} (ry:RelV y u):KV (putK kvs k y) (stored vs k u):=by
 unfold putK stored
 rw [r.any k]
 by_cases e:(vs.any fun kv=>decide (kv.1 = k)) = true
 ·rw [if_pos e,if_pos e]; exact r.repl k ry
 ·rw [if_neg e,if_neg e]; exact Paired.snoc r ⟨rfl,ry⟩
theorem KV.keys {kvs:List (κ × V)} {vs:List (κ × Value)} (r:KV kvs vs):kvs.map (·.1) = vs.map (·.1):=by
 unfold KV at r
 induction r with
 | nil=>rfl
 | cons h t ih=>rw [List.map_cons,List.map_cons,ih,h.1]
theorem KV.length {kvs:List (κ × V)} {vs:List (κ × Value)} (r:KV kvs vs):kvs.length = vs.length:=Paired.length r
end
theorem kV_is {P:Program} {w:World} {k:Key} {u:Value} (r:RelV (kV k) u):(mixKind P w).is k u = true:=by
 cases k with
 | inl i=>obtain ⟨t,e⟩:=(show ∃ t,u = Value.int i t from r); subst e; exact mixKind_int P w i t
 | inr x=>obtain ⟨t,e⟩:=(show ∃ t,u = Value.str x t from r); subst e; exact mixKind_str P w x t
theorem items_are {P:Program} {w:World}:∀ {ks:List Key} {us:List Value},Vals (ks.map kV) us→ItemsAre (mixKind P w) ks us
 | [],_,r=>by rw [List.map_nil] at r; cases r; exact .nil
 | k :: ks,_,r=>by
  rw [List.map_cons] at r
  cases r with
  | cons h t=>exact .cons (kV_is h) (items_are t)
abbrev KT (H:Hp):List (List Key × V)→List (List Key × Addr × Value)→Prop:=Paired fun p q=>p.1 = q.1∧H q.2.1 = some (.tup (p.1.map kV))∧RelV p.2 q.2.2
theorem KT.val {H:Hp} {kvs:List (List Key × V)} {xs:List (List Key × Addr × Value)} (r:KT H kvs xs) (k:List Key):RelO (valV kvs k) ((atKey xs k).map (·.2)):=by
 induction r with
 | nil=>exact True.intro
 | @cons p q ps qs h t ih =>
  obtain ⟨h1,_,h2⟩:=h
  by_cases e:p.1 = k
  ·have e':q.1 = k:=h1.symm.trans e
   have b:atKey (q :: qs) k = some q.2:=by simp [atKey,List.find?_cons,e']
   rw [valV_pos e,b]; exact h2
  ·have e':¬ q.1 = k:=fun z=>e (h1.trans z)
   have b:atKey (q :: qs) k = atKey qs k:=by simp [atKey,List.find?_cons,e']
   rw [valV_neg e,b]; exact ih
theorem KT.repl {H:Hp} {kvs:List (List Key × V)} {xs:List (List Key × Addr × Value)} (r:KT H kvs xs) (k:List Key) {y:V} {u:Value} (ry:RelV y u) :
  KT H (kvs.map fun kv=>if kv.1 = k then (kv.1,y) else kv) (xs.map (putAt k u)):=by
 induction r with
 | nil=>exact .nil
 | @cons p q ps qs h t ih =>
  rw [List.map_cons,List.map_cons]
  refine .cons ?_ ih
  obtain ⟨h1,h2,h3⟩:=h
  unfold putAt
  by_cases e:p.1 = k
  ·rw [if_pos e,if_pos (h1.symm.trans e)]; exact ⟨h1,h2,ry⟩
  ·rw [if_neg e,if_neg (fun z=>e (h1.trans z))]; exact ⟨h1,h2,h3⟩
theorem KT.put {H:Hp} {kvs:List (List Key × V)} {xs:List (List Key × Addr × Value)} (r:KT H kvs xs) (k:List Key) {b:Addr} {y:V} {u:Value} (hb:H b = some (.tup (k.map kV))) (ry:RelV y u) :
  KT H (putK kvs k y) (storedH xs k b u):=by
 have e:(kvs.any fun kv=>decide (kv.1 = k)) = (atKey xs k).isSome:=by
  rw [valV_any,(r.val k).isSome_eq,Option.isSome_map]
 unfold putK storedH
 rw [e]
 by_cases q:(atKey xs k).isSome = true
 ·rw [if_pos q,if_pos q]; exact r.repl k ry
 ·rw [if_neg q,if_neg q]; exact Paired.snoc r ⟨rfl,hb,ry⟩
theorem KT.keeps {H H':Hp} {kvs:List (List Key × V)} {xs:List (List Key × Addr × Value)} (r:KT H kvs xs) (ht:∀ b ys,H b = some (.tup ys)→H' b = some (.tup ys)):KT H' kvs xs :=
 Paired.mapP r fun _ _ z=>⟨z.1,ht _ _ z.2.1,z.2.2⟩
section
variable {P:Program} {w:World} {H:Hp} {h:Heap} {a:Addr}
theorem rd_of {u:HO} (ok:HOk P w H h) (e:Rd H a u):ObjOk P w H h a u:=e.ok ok
theorem dk_rd {kvs:List (Key × V)} (ok:HOk P w H h) (e:Rd H a (.dK kvs)):kvs.length ≤ sizeLine∧(a == sysModules) = false∧∃ vs,KV kvs vs∧h.DictOf (mixKind P w) a vs :=
 show ObjOk P w H h a (.dK kvs) from rd_of ok e
theorem dk_of {kvs:List (Key × V)} (ok:HOk P w H h) (e:H a = some (.dK kvs)):kvs.length ≤ sizeLine∧(a == sysModules) = false∧∃ vs,KV kvs vs∧h.DictOf (mixKind P w) a vs:=dk_rd ok (.inl e)
theorem key_of {ks:List Key} (ok:HOk P w H h) (e:H a = some (.tup (ks.map kV))):(tupleKind (mixKind P w)).is h ks a:=by
 obtain ⟨_,its,r,o,h1,h2,n,h3⟩:=(show ObjOk P w H h a (.tup (ks.map kV)) from ok a _ e)
 exact ⟨o,its.toArray,n,h1,h2,h3,by simpa using items_are r⟩
theorem dt_rd {kvs:List (List Key × V)} (ok:HOk P w H h) (e:Rd H a (.dT kvs)):kvs.length ≤ sizeLine∧(a == sysModules) = false ∧
  ∃ xs,KT H kvs xs∧h.DictOfH (tupleKind (mixKind P w)) a xs:=by
 obtain ⟨z,y,xs,r,o,es,ep,h1,h2,h3,h4,h5⟩:=(show ObjOk P w H h a (.dT kvs) from rd_of ok e)
 refine ⟨z,y,xs,r,o,es,ep,h1,h2,h3,h4,fun x hx=>?_,h5⟩
 have all:∀ {l:List (List Key × V)} {m:List (List Key × Addr × Value)},KT H l m→∀ x ∈ m,(tupleKind (mixKind P w)).is h x.1 x.2.1:=by
  intro l m q
  induction q with
  | nil=>intro x hx; exact nomatch hx
  | @cons p q ps qs hq t ih =>
   intro x hx
   rcases List.mem_cons.mp hx with e | hx
   ·subst e
    exact key_of ok (by rw [← hq.1]; exact hq.2.1)
   ·exact ih x hx
 exact all r x hx
theorem dt_of {kvs:List (List Key × V)} (ok:HOk P w H h) (e:H a = some (.dT kvs)):kvs.length ≤ sizeLine∧(a == sysModules) = false ∧
  ∃ xs,KT H kvs xs∧h.DictOfH (tupleKind (mixKind P w)) a xs:=dt_rd ok (.inl e)
end
def DGet (H:Hp) (a:Addr) (y:V) (r:Option V):Prop :=
 (∃ kvs k,Rd H a (.dK kvs)∧y = kV k∧r = valV kvs k)∨∃ kvs k b,Rd H a (.dT kvs)∧y = .ref b∧H b = some (.tup (k.map kV))∧r = valV kvs k
def DPut (H:Hp) (a:Addr) (y v:V) (H':Hp):Prop :=
 (∃ kvs k,H a = some (.dK kvs)∧y = kV k∧kvs.length < sizeLine∧H' = upd H a (.dK (putK kvs k v))) ∨
 ∃ kvs k b,H a = some (.dT kvs)∧y = .ref b∧H b = some (.tup (k.map kV))∧kvs.length < sizeLine∧H' = upd H a (.dT (putK kvs k v))
theorem DGet.k {H:Hp} {a:Addr} {kvs:List (Key × V)} {k:Key} (e:H a = some (.dK kvs)):DGet H a (kV k) (valV kvs k):=.inl ⟨kvs,k,.inl e,rfl,rfl⟩
theorem DPut.k {H:Hp} {a:Addr} {kvs:List (Key × V)} {k:Key} {v:V} (e:H a = some (.dK kvs)) (hl:kvs.length < sizeLine):DPut H a (kV k) v (upd H a (.dK (putK kvs k v))):=.inl ⟨kvs,k,e,rfl,hl,rfl⟩
section
variable {X:Cx} {pins:List (Addr × Obj)} {σ:St} {H:Hp} {s:Shared} {a:Addr} {y v:V} {u r:Value} {o:Option V} {A:Around} {E:Value→Shared→Prop}
theorem Inv.big (I:Inv X pins σ H s):sysModules < s.heap.objs.size:=by
 have h:mainGlobals < s.heap.objs.size:=(I.mod.glob.keeps I.bk).lt
 exact Nat.lt_trans (by decide) h
theorem d_getItem {Q:Value→Shared→Prop} (hu:A.units + 1 < cLine) (I:Inv X pins σ H s) (g:DGet H a y (some v)) (ry:RelV y u) (h:∀ w' s',Inv X pins σ H s'→RelV v w'→Q w' s') :
  wpAny (model X.prog X.w) A (getItem (.ref a) u) Q E s:=by
 rcases g with ⟨kvs,k,e,ey,l⟩ | ⟨kvs,k,b,e,ey,eb,l⟩
 ·subst ey
  obtain ⟨z,hd,vs,rel,dd⟩:=dk_rd I.hok e
  obtain ⟨w',hw,rw'⟩:=RelO.some_of (v:=v) (o:=valueAt vs k) (by rw [l]; exact rel.val k)
  exact wpAny_getItem_of (kV_is ry) dd.mapOf hw (h w' _ (I.tok _) rw')
 ·subst ey
  cases (show u = Value.ref b from ry)
  obtain ⟨z,hd,xs,rel,dd⟩:=dt_rd I.hok e
  obtain ⟨w',hw,rw'⟩:=RelO.some_of (v:=v) (o:=(atKey xs k).map (·.2)) (by rw [l]; exact rel.val k)
  obtain ⟨p,hp,hp2⟩:=Option.map_eq_some_iff.mp hw
  refine wpAny_getItem_heap (tupleKind_room_in1 hu) (key_of I.hok eb) dd hp ?_
  rw [hp2]
  exact h w' _ (I.tok _) rw'
theorem d_notIn {Q:Value→Shared→Prop} (hu:A.units + 1 < cLine) (I:Inv X pins σ H s) (g:DGet H a y o) (ry:RelV y u) (h:∀ s',Inv X pins σ H s'→Q (.bool (!o.isSome)) s') :
  wpAny (model X.prog X.w) A (compareOp .NotIn u (.ref a)) Q E s:=by
 rcases g with ⟨kvs,k,e,ey,l⟩ | ⟨kvs,k,b,e,ey,eb,l⟩
 ·subst ey
  obtain ⟨z,hd,vs,rel,dd⟩:=dk_rd I.hok e
  refine wpAny_notIn_of (kV_is ry) hd dd.mapOf ?_
  rw [← (rel.val k).isSome_eq,← l]
  exact h _ (I.tok _)
 ·subst ey
  cases (show u = Value.ref b from ry)
  obtain ⟨z,hd,xs,rel,dd⟩:=dt_rd I.hok e
  refine wpAny_notIn_heap (tupleKind_room_in1 hu) (key_of I.hok eb) hd dd ?_
  have q:=(rel.val k).isSome_eq
  rw [Option.isSome_map] at q
  rw [← q,← l]
  exact h _ (I.tok _)
theorem d_write {h':Heap} {t':Nat} {ob:HO} (I:Inv X pins σ H s) (mu:Mut (H a)) (hs:Heap.SameBut a s.heap h') (he:∃ q,h'.get? a = some q) (new:ObjOk X.prog X.w (upd H a ob) h' a ob) :
  Inv X pins σ (upd H a ob) { s with heap:=h',toks:=t' } :=
 I.write (x:=a) (e:=a) mu (.inl rfl) (fun b q hb z=>(hs.2 b hb).trans z) he new
theorem dk_new {P:Program} {w:World} {H':Hp} {h':Heap} {kvs:List (Key × V)} {vs:List (Key × Value)} (z:kvs.length ≤ sizeLine) (hd:(a == sysModules) = false) (rel:KV kvs vs) (dd:h'.DictOf (mixKind P w) a vs) :
  ObjOk P w H' h' a (.dK kvs):=⟨z,hd,vs,rel,dd⟩
theorem d_setItem {H':Hp} {Q:Unit→Shared→Prop} (hu:A.units + 1 < cLine) (I:Inv X pins σ H s) (g:DPut H a y v H') (ry:RelV y u) (rv:RelV v r) (h:∀ s',Inv X pins σ H' s'→Q () s') :
  wpAny (model X.prog X.w) A (setItem (.ref a) u r) Q E s:=by
 rcases g with ⟨kvs,k,e,ey,l,eH⟩ | ⟨kvs,k,b,e,ey,eb,l,eH⟩
 ·subst ey eH
  obtain ⟨z,hd,vs,rel,dd⟩:=dk_of I.hok e
  have hz:vs.length ≤ sizeLine:=by rw [← rel.length]; exact z
  have hl:(putK kvs k v).length ≤ sizeLine:=by have:=length_putK kvs k v; omega
  refine wpAny_setItem_pairs (hsz:=hz) (kV_is ry) dd fun h' dd' hs=>h _ ?_
  have he:∃ q,h'.get? a = some q:=let ⟨q,_,_,hq,_⟩:=dd'; ⟨q,hq⟩
  exact d_write I (by rw [e]; exact True.intro) hs he (dk_new hl hd (rel.put k rv) dd')
 ·subst ey eH
  cases (show u = Value.ref b from ry)
  obtain ⟨z,hd,xs,rel,dd⟩:=dt_of I.hok e
  have hz:xs.length ≤ sizeLine:=by rw [← Paired.length rel]; exact z
  have hl:(putK kvs k v).length ≤ sizeLine:=by have:=length_putK kvs k v; omega
  refine wpAny_setItem_heap (hsz:=hz) (tupleKind_room_in1 hu) (key_of I.hok eb) dd fun h' dd' hs=>h _ ?_
  obtain ⟨q,es,ep,hq,h2,h3,h4,_,h5⟩:=dd'
  refine d_write I (by rw [e]; exact True.intro) hs ⟨q,hq⟩ ⟨hl,hd,_,(rel.put k eb rv).keeps fun c ys ec=>?_,q,es,ep,hq,h2,h3,h4,h5⟩
  rw [upd_ne (ne_of ec e (fun z=>nomatch z))]
  exact ec
end
section
variable {X:Cx} {pins:List (Addr × Obj)} {σ:St} {H:Hp} {s:Shared} {a:Addr} {kvs:List (Key × V)} {k:Key} {u:Value} {A:Around} {E:Value→Shared→Prop}
end
def NoSl (i:Expr):Prop:=∀ ov iv,subscripted i false ov iv = operate [ov,iv] (getItem ov iv)
theorem subD_of {prog:Program} {w:World} {A:Around} {E:Value→Shared→Prop} {s:Shared} {env:Env} {value slice:Expr} {pos:Pos} {T id:String} {Q:Value→Shared→Prop}
  (hl:typeLookup (.type T) "__getitem__" = pure (some (.builtin id))) (hs:NoSl slice)
  (h:wpAny (model prog w) A (eval value env) (fun o s₁=>wpAny (model prog w) A (eval slice env) (fun i s₂=>s₂.TypeIs o T∧wpAny (model prog w) A (getItem o i) Q E s₂) E s₁) E s) :
  wpAny (model prog w) A (eval (.Subscript value slice pos) env) Q E s:=by
 refine Subscript_ (wpAny_mono h (fun o s₁ h₁=>wpAny_mono h₁ (fun i s₂ h₂=>?_) fun _ _ x=>x) fun _ _ x=>x)
 obtain ⟨hT,h₂⟩:=h₂
 unfold subscriptTail
 refine wpAny_bind ?_
 rw [getitemInPython_of_ne hT.not_modules]
 refine wpAny_bind (wpAny_specialOf hT hl ?_)
 have fin:wpAny (model prog w) A (subscripted slice false o i) (fun r s₃=>wpAny (model prog w) A (letTemporaryGo value o r >>= fun _=>pure r) Q E s₃) E s₂:=by
  rw [hs o i]
  exact wpAny_operating (wpAny_mono h₂ (fun r s₃ h₃=>wpAny_bind (wpAny_letTemporaryGo (wpAny_pure h₃))) fun _ _ x=>x)
 first
  | exact wpAny_pure (wpAny_bind fin)
  | exact wpAny_bind (wpAny_pure (wpAny_bind fin))
  | exact wpAny_bind fin
theorem dict_typeIs {X:Cx} {pins:List (Addr × Obj)} {σ:St} {H:Hp} {s:Shared} {a:Addr} {y:V} {o:Option V} (I:Inv X pins σ H s) (g:DGet H a y o):s.TypeIs (.ref a) "dict":=by
 rcases g with ⟨kvs,k,e,_,_⟩ | ⟨kvs,k,b,e,_,_,_⟩
 ·obtain ⟨_,_,vs,_,dd⟩:=dk_rd I.hok e
  exact dd.typeIs
 ·obtain ⟨_,_,xs,_,dd⟩:=dt_rd I.hok e
  exact dd.typeIs
def tDGet (td ty:TE):TE:=fun σ H Q=>td σ H fun x H1=>ty σ H1 fun y H2=>∃ a v,x = .ref a∧DGet H2 a y (some v)∧Q v H2
def tDNotIn (ty td:TE):TE:=fun σ H Q=>ty σ H fun y H1=>td σ H1 fun x H2=>∃ a o,x = .ref a∧DGet H2 a y o∧Q (.bl (!o.isSome)) H2
def sDPut (td ty tv:TE):TS:=fun D σ H=>tv σ H fun v H1=>td σ H1 fun x H2=>ty σ H2 fun y H3=>∃ a H4,x = .ref a∧DPut H3 a y v H4∧D.nx σ H4
section
variable {X:Cx} {o i e value:Expr} {pos pos' tpos:Pos} {td ty tv:TE}
theorem pe_dget (hu:X.A.units + 1 < cLine) (ho:PE X o td) (hi:PE X i ty) (hs:NoSl i):PE X (.Subscript o i pos) (tDGet td ty):=by
 intro pins s σ H Q I h
 refine subD_of PySem.F.slot_dict_getitem.lookup hs (thn (ho pins s σ H _ I h) fun u s1 ⟨x,H1,I1,rx,q1⟩=>thn (hi pins s1 σ H1 _ I1 q1) fun iv s2 ⟨y,H2,I2,ry,a,v,ex,g,q2⟩=>?_)
 subst ex
 obtain rfl:u = Value.ref a:=rx
 exact ⟨dict_typeIs I2 g,d_getItem hu I2 g ry fun w' s3 I3 rw'=>⟨v,H2,I3,rw',q2⟩⟩
theorem pc_dnotin (hu:X.A.units + 1 < cLine) (hi:PE X i ty) (ho:PE X o td):PC X .NotIn i o (tDNotIn ty td):=by
 intro pins s σ H Q I h
 refine thn (hi pins s σ H _ I h) fun iv s1 ⟨y,H1,I1,ry,q1⟩=>thn (ho pins s1 σ H1 _ I1 q1) fun u s2 ⟨x,H2,I2,rx,a,ov,ex,g,q2⟩=>?_
 subst ex
 obtain rfl:u = Value.ref a:=rx
 exact d_notIn hu I2 g ry fun s3 I3=>⟨.bl (!ov.isSome),H2,I3,rfl,q2⟩
theorem ps_dput (hu:X.A.units + 1 < cLine) (ho:PE X o td) (hi:PE X i ty) (hv:PE X value tv) (hs:swapsWith value (some (.Subscript o i pos')) pos.line X.env = pure false) :
  PS X (.Assign [.Subscript o i pos'] value pos) (sDPut td ty tv):=by
 intro pins s σ H D I h
 refine wpAny_Assign_Subscript (thn (hv pins s σ H _ I h) fun r s1 ⟨v,H1,I1,rv,q1⟩=>thn (ho pins s1 σ H1 _ I1 q1) fun u s2 ⟨x,H2,I2,rx,q2⟩=>thn (hi pins s2 σ H2 _ I2 q2) fun iv s3 ⟨y,H3,I3,ry,a,H4,ex,g,q3⟩=>?_) hs
 subst ex
 obtain rfl:u = Value.ref a:=rx
 exact d_setItem hu I3 g ry rv fun s4 I4=>⟨σ,H4,I4,q3⟩
end
theorem dk_empty {P:Program} {w:World} {H:Hp} (h:Heap) (hb:sysModules < h.objs.size):ObjOk P w H (h.push { cls:=.type "dict",data:=.dict #[] }) h.objs.size (.dK []) :=
 ⟨Nat.zero_le _,beq_eq_false_iff_ne.mpr (Ne.symm (Nat.ne_of_lt hb)),[],.nil,Heap.DictOf.new h⟩
def tDNewK:TE:=fun _ H Q=>∀ p,H p = none→Q (.ref p) (upd H p (.dK []))
section
variable {X:Cx} {pos:Pos}
theorem pe_dnewK:PE X (.Dict [] [] pos) tDNewK:=fun pins s σ H Q I h =>
 wpAny_Dict_empty ⟨.ref s.heap.objs.size,_,I.laid (a:=s.heap.objs.size) (o:=.dK []) (t':=s.toks) (fun _ _ q=>Heap.get?_push_of_some _ q) (Nat.le_refl _) (dk_empty s.heap I.big),rfl,h _ (I.hok.fresh (Nat.le_refl _))⟩
end
structure M1 (X:Cx) (o:Expr) (m:Str) (apos:Pos) (e:Expr) (cpos:Pos):Prop where
 base:attributeBase o m X.env (eval o X.env) = eval o X.env
 few:((backTo cpos (starEach [e] X.env)).all (fun x=>!x.1) && (backToKw cpos (keywordEach [] X.env)).all (fun x=>x.1.isSome)
  && decide (([e]:List Expr).length + ([]:List Keyword).length + (if ([]:List Keyword).isEmpty then 0 else 1) < 30)) = true
 line:(apos.endLine == cpos.line) = true
 trees:backTo cpos (starEach [e] X.env) = [(false,eval e X.env)]
structure M2 (X:Cx) (o:Expr) (m:Str) (apos:Pos) (e f:Expr) (cpos:Pos):Prop where
 base:attributeBase o m X.env (eval o X.env) = eval o X.env
 few:((backTo cpos (starEach [e,f] X.env)).all (fun x=>!x.1) && (backToKw cpos (keywordEach [] X.env)).all (fun x=>x.1.isSome)
  && decide (([e,f]:List Expr).length + ([]:List Keyword).length + (if ([]:List Keyword).isEmpty then 0 else 1) < 30)) = true
 line:(apos.endLine == cpos.line) = true
 trees:backTo cpos (starEach [e,f] X.env) = [(false,eval e X.env),(false,eval f X.env)]
def IsD (H:Hp) (a:Addr):Prop:=(∃ kvs,Rd H a (.dK kvs))∨∃ kvs,Rd H a (.dT kvs)
theorem isD_at {X:Cx} {pins:List (Addr × Obj)} {σ:St} {H:Hp} {s:Shared} {a:Addr} (I:Inv X pins σ H s) (d:IsD H a) :
  s.TypeIs (.ref a) "dict"∧(∀ b,Value.ref a = .ref b→∃ ob,s.heap.get? b = some ob∧ob.dict = none)∧(a == sysModules) = false:=by
 rcases d with ⟨kvs,e⟩ | ⟨kvs,e⟩
 ·obtain ⟨_,hd,vs,_,dd⟩:=dk_rd I.hok e
  refine ⟨dd.typeIs,fun b q=>?_,hd⟩
  cases q
  obtain ⟨ob,_,_,h1,h2,_⟩:=dd
  exact ⟨ob,h1,h2.2.1⟩
 ·obtain ⟨_,hd,xs,_,dd⟩:=dt_rd I.hok e
  refine ⟨dd.typeIs,fun b q=>?_,hd⟩
  cases q
  obtain ⟨ob,_,_,h1,h2,_⟩:=dd
  exact ⟨ob,h1,h2.2.1⟩
section
variable {X:Cx} {pins:List (Addr × Obj)} {σ:St} {H:Hp} {s:Shared} {a:Addr} {y d:V} {u r:Value} {o:Option V} {A:Around} {E:Value→Shared→Prop}
theorem d_get2 {Q:Value→Shared→Prop} (hu:A.units + 1 < cLine) (I:Inv X pins σ H s) (g:DGet H a y o) (ry:RelV y u) (rd:RelV d r) (h:∀ w' s',Inv X pins σ H s'→RelV (o.getD d) w'→Q w' s') :
  wpAny (model X.prog X.w) A (call (.builtin "dict.get") [.ref a,u,r]) Q E s:=by
 rcases g with ⟨kvs,k,e,ey,l⟩ | ⟨kvs,k,b,e,ey,eb,l⟩
 ·subst ey
  obtain ⟨z,hd,vs,rel,dd⟩:=dk_rd I.hok e
  refine call_meetsIn PySem.F.slot_dict_get dd.typeIs PySem.F.entry_dict_get (PySem.F.args_dict_get_3 _ _ _) (meets_dict_get_default (mixKind X.prog X.w) a (kV_is ry) hd r) ⟨_,dd.mapOf,h _ _ (I.tok _) ?_⟩
  rw [l]
  exact (rel.val k).getD rd
 ·subst ey
  cases (show u = Value.ref b from ry)
  obtain ⟨z,hd,xs,rel,dd⟩:=dt_rd I.hok e
  refine call_meetsIn PySem.F.slot_dict_get dd.typeIs PySem.F.entry_dict_get (PySem.F.args_dict_get_3 _ _ _) (meetsH_dict_get_default (tupleKind (mixKind X.prog X.w)) a b hd r) ⟨tupleKind_room_in1 hu,k,xs,key_of I.hok eb,dd,h _ _ (I.tok _) ?_⟩
  rw [l]
  exact (rel.val k).getD rd
end
def tDGet2 (td ty tx:TE):TE:=fun σ H Q=>td σ H fun x H1=>∃ a,x = .ref a∧IsD H1 a∧ty σ H1 fun y H2=>tx σ H2 fun z H3=>∃ o,DGet H3 a y o∧Q (o.getD z) H3
section
variable {X:Cx} {o e f:Expr} {apos cpos:Pos} {td ty tx:TE}
theorem pe_dget2 (hu:X.A.units + 1 < cLine) (ho:PE X o td) (he:PE X e ty) (hf:PE X f tx) (m:M2 X o "get" apos e f cpos):PE X (.Call (.Attribute o "get" apos) [e,f] [] cpos) (tDGet2 td ty tx):=by
 intro pins s σ H Q I h
 refine wpAny_Call_method m.base m.few m.line PySem.F.plainAttrs_dict PySem.F.slot_dict_get PySem.F.type_dict_get (thn (ho pins s σ H _ I h) fun u s1 ⟨x,H1,I1,rx,a,ex,d,q1⟩=>?_)
 subst ex
 obtain rfl:u = Value.ref a:=rx
 obtain ⟨t1,t2,_⟩:=isD_at I1 d
 refine ⟨t1,t2,?_⟩
 rw [m.trees]
 refine Calls.callWith_builtin rfl (Calls.evalArgs_plain (Calls.spliced_cons (thn (he pins s1 σ H1 _ I1 q1) fun iv s2 ⟨y,H2,I2,ry,q2⟩ =>
  Calls.spliced_cons (thn (hf pins s2 σ H2 _ I2 q2) fun fv s3 ⟨z,H3,I3,rz,ov,g,q3⟩=>Calls.spliced_nil ?_))))
 exact d_get2 hu I3 g ry rz fun w' s4 I4 rw'=>⟨_,H3,I4,rw',q3⟩
end
section
variable {X:Cx} {pins:List (Addr × Obj)} {σ:St} {H:Hp} {s:Shared} {a:Addr} {kvs:List (Key × V)} {A:Around} {E:Value→Shared→Prop}
end
section
variable {X:Cx} {pins:List (Addr × Obj)} {σ:St} {H:Hp} {s:Shared} {a:Addr} {y:V} {u:Value} {A:Around} {E:Value→Shared→Prop}
end
end L2
namespace Att
open PySem PySem.W PySem.Calls PyProof.Rows
theorem ints_of_wellAll {P:Params} {h:Heap}:∀ (ns:List Int) (vs:List Value),WellAll P h vs (ns.map WData.int)→IntsAre vs ns:=by
 intro ns
 induction ns with
 | nil =>
  intro vs w
  rw [List.map_nil] at w
  cases w
  exact .nil
 | cons n ns ih =>
  intro vs w
  rw [List.map_cons] at w
  cases w with
  | cons a b =>
   cases a
   exact .cons _ _ (ih _ b)
theorem script_of {l:OpenLaw} {n:Nat} (hn:l.most = some n) {P:Params} {h:Heap} {args:List WData} {vals:List Value}
  (hpre:l.row.toRowW.claim.pre args = true) (hwl:WellAll P h vals args) :
  ∃ a vs ns,vals = [Value.ref a]∧args = [WData.list (ns.map WData.int)]∧h.get? a = some { cls:=.type "list",data:=.seq vs.toArray }∧IntsAre vs ns∧ns.length ≤ n:=by
 have hsh:WShape.hasAll [] args [.list .int] = true:=(pre_splitW hpre).1
 have hc:l.pre.holds [] { args:=args } = true:=(pre_splitW hpre).2
 obtain ⟨d,r,rfl,h1,h2⟩:=hasAllW_cons hsh
 obtain rfl:=hasAllW_nil h2
 obtain ⟨xs,rfl,h3⟩:=hasW_list h1
 obtain ⟨ns,rfl⟩:=items_int h3
 have hlen:ns.length ≤ n:=by
  unfold OpenLaw.pre at hc
  have h4:(WTm.not (.lt (.lit (.int (n:Int))) (.len (.arg 0)))).holds [] { args:=[.list (ns.map .int)] } = true:=by
   have h4:=(holds_andW hc).1
   rw [hn] at h4
   exact h4
  have h5:=condW_of h4 (w_not (w_lt w_lit (w_len_list (w_arg rfl))))
  rw [List.length_map] at h5
  refine Nat.le_of_not_lt fun q=>?_
  have q':(n:Int) < ((ns.length:Nat):Int):=by omega
  first
   | (rw [decide_eq_true q'] at h5; exact absurd h5 (by decide))
   | (simp at h5; omega)
 cases hwl with
 | cons w1 w2 =>
  cases w2
  cases w1 with
  | list ho hall=>exact ⟨_,_,ns,rfl,rfl,ho,ints_of_wellAll ns _ hall,hlen⟩
theorem post_true (l:OpenLaw) (args:List WData):l.row.toRowW.claim.post args (.bool true) args = true :=
 postW_of (r:=l.row.toRowW) (X:=(true == true))
  (show WShape.has [] (.bool true) .bool = true by first | rfl | decide | simp [WShape.has,WShape.arms,WShape.armsAll])
  (show (WTm.eq .res (.lit (.bool true))).value [] { args:=args,res:=some (.bool true),after:=args } = some (.bool (true == true)) from w_eq_bool (w_res rfl) w_lit) rfl
theorem attach_call {l:OpenLaw} {n:Nat} {q:Program} {loose:List Str} {XP:(Str→Option Value)→Heap→Prop} {YP:World→Heap→Prop} {d:DefRec}
  (hn:l.most = some n) (hdf:d.params.defaults = [])
  (call:∀ (w:World) (s₀ s₁:Shared) (mg mb:Str→Option Value) (fa:Addr) (o:Obj) (pm cd doc:Value) (a:Addr) (vs:List Value) (ns:List Int),
   Ground q loose [] XP w s₀ mg mb s₁.heap→YP w s₁.heap →
   s₁.heap.get? fa = some o→o.data = .func (docDef d.name d.params d.body d.scope pm cd doc)→s₁.heap.CodeRec cd d.name→mg d.name = some (.ref fa) →
   s₁.heap.get? a = some { cls:=.type "list",data:=.seq vs.toArray }→IntsAre vs ns→ns.length ≤ n→s₁.gens = #[] →
   codeAny (model l.prog w) callerA (.call (.ref fa) ⟨[.ref a],[]⟩) (fun r s'=>r = .ok (.ret (.bool true))∧OldK s₁.heap s'.heap∧s'.os = s₁.os∧AllBare s'.gens) s₁) :
  WalkO q loose XP YP l.row.toRowW d [] (fun f vs=>PySem.call f vs):=by
 intro w s₀ s₁ mg mb G Y fa o pm cd doc dV kV ho hd hcd hD hmg hg args vals as hpre hlay hrd hwl hlo
 obtain rfl:dV = .none:=Dflts.none hD hdf
 obtain rfl:kV = .none:=Dflts.noKw hD
 obtain ⟨a,vs,ns,rfl,rfl,hobj,hints,hlen⟩:=script_of hn hpre hwl
 refine enter_call (codeAny_mono (call w s₀ s₁ mg mb fa o pm cd doc a vs ns G Y ho (fd_plain hd) hcd hmg hobj hints hlen hg) fun r s' hq=>?_)
 obtain ⟨rfl,h2,h3,h4⟩:=hq
 exact ⟨.inl ⟨.bool true,.bool true,[],rfl,fun _=>rfl,.bool true,post_true l _,fun _=>⟨List.Pairwise.nil,fun _ hm=>(nomatch hm)⟩⟩,h2,h3,h4⟩
section
variable {prog:Program} {w:World} {A:Around} {E:Value→Shared→Prop} {s:Shared} {K:Frag}
end
end Att
namespace L2
open PySem PySem.Spec PyProof.Rows
theorem vals_ints:∀ {vs:List Value} {ns:List Int},IntsAre vs ns→Vals (ns.map V.int) vs
 | _,_,.nil=>.nil
 | _,_,.cons n t h=>.cons ⟨t,rfl⟩ (vals_ints h)
abbrev KOf {K:PySem.W.Frag} {h:Heap} (_:K.In h):PySem.W.Frag:=K
def inClass (s:Stmt) (j:Nat):Stmt:=match s with
 | .ClassDef _ _ _ body _ _ _ _ _ _ _=>body.getD j (.Pass ⟨0,0,0,0⟩)
 | _=>.Pass ⟨0,0,0,0⟩
def defArgs (s:Stmt):Arguments:=match s with
 | .FunctionDef _ a _ _ _ _ _ _ _ _=>a
 | _=>{ posonlyargs:=[],args:=[],vararg:=none,kwonlyargs:=[],kw_defaults:=[],kwarg:=none,defaults:=[] }
def defBody (s:Stmt):List Stmt:=match s with
 | .FunctionDef _ _ b _ _ _ _ _ _ _=>b
 | _=>[]
def defScope (s:Stmt):Scope:=match s with
 | .FunctionDef _ _ _ _ _ _ sc _ _ _=>sc
 | _=>{ kind:=.function,names:=[],isGenerator:=false,isCoroutine:=false }
abbrev CX0:CXT:=fun _ _ _ _ _ _=>False
abbrev E0:St→XK:=fun _ _ _ _=>False
theorem pass0 {X:Cx}:Passes CX0 X E0:=fun _ _ _ _ _ _ _ h=>h.elim
structure Fun (K:PySem.W.Frag) (x qual:Str) (st:Stmt) (f:Addr) (fd:FuncData):Prop where
 ex:∃ (oc:Value) (od:Option Addr) (kV doc pm:Value) (an:Option Addr) (cdv ct:Value) (osl:Array (Option Value)),
  fd = PySem.W.fnOf x qual (defArgs st) (defBody st) (defScope st) .none kV doc pm an cdv ct∧K.lookup f = some ⟨oc,od,.func fd,osl⟩∧PySem.W.codeIn K cdv qual = true
 kp:PySem.W.keepIn K (.ref f) = true
section
variable {P:Program} {w:World} {K:PySem.W.Frag} {mg:Str→Option Value} {base:Heap}
theorem Fun.ok {x qual:Str} {st:Stmt} {f:Addr} {fd:FuncData} {N ps:List Str} {k:Nat} {sp:Sp} (F:Fun K x qual st f fd) (S:FnScope N ps (defScope st)) (len:∀ vs H Q E,sp vs H Q E→vs.length = ps.length)
  (hbody:∀ (cdv:Value) (A:Around) (outer:List Env) (s:Shared) (H:Hp) (vs:List V) (Q:VK) (E:XK),Room k (A.deeper (envOfC qual (defScope st) s.heap.objs.size f cdv))→sp vs H Q E →
   ∃ t,PSs (cxOf CX0 P w K mg base N qual (defScope st) f cdv A outer s H E).nox (defBody st) t∧t { nx:=fun _ H'=>Q .non H',rt:=Q } (start N vs) H):FnOk P w K mg base CX0 (k + 1) f fd ps sp:=by
 obtain ⟨oc,od,kV,doc,pm,an,cdv,ct,osl,rfl,lk,hcd⟩:=F.ex
 refine fn_of lk hcd S len fun A outer s H vs Q E hr hsp=>?_
 obtain ⟨t,h,q⟩:=hbody cdv A outer s H vs Q E hr hsp
 exact ⟨t,h.nox,q⟩
theorem Fun.binds {x qual:Str} {st:Stmt} {f:Addr} {fd:FuncData} {ps:List Str} (F:Fun K x qual st f fd)
  (h:∀ (kV doc pm:Value) (an:Option Addr) (cdv ct:Value) (us:List Value),us.length = ps.length→bindArgs (PySem.W.fnOf x qual (defArgs st) (defBody st) (defScope st) .none kV doc pm an cdv ct) ⟨us,[]⟩ = pure (ps.zip us)):Binds K fd ps []:=by
 obtain ⟨oc,od,kV,doc,pm,an,cdv,ct,osl,rfl,lk,hcd⟩:=F.ex
 exact .all (h kV doc pm an cdv ct)
theorem fun_mk {x qual:Str} {st:Stmt} {f:Addr} {oc:Value} {od an:Option Addr} {osl:Array (Option Value)} {kV doc pm cdv ct:Value} (l:K.lookup f = some ⟨oc,od,.func (PySem.W.fnOf x qual (defArgs st) (defBody st) (defScope st) .none kV doc pm an cdv ct),osl⟩)
  (c:PySem.W.codeIn K cdv qual = true) (k:PySem.W.keepIn K (.ref f) = true):Fun K x qual st f (PySem.W.fnOf x qual (defArgs st) (defBody st) (defScope st) .none kV doc pm an cdv ct):=⟨⟨oc,od,kV,doc,pm,an,cdv,ct,osl,rfl,l,c⟩,k⟩
end
theorem hu_of {A:Around} {k:Nat} (hr:Room k A):A.units + 1 < cLine:=Nat.lt_of_le_of_lt (Nat.add_le_add_left (by decide:1 ≤ 64) _) hr.units
section
variable {X:Cx}
theorem pv (i:Nat) {x:Str} {pos:Pos} (hN:X.N[i]? = some x:=by rfl) (hv:Vis X.env.scope x:=by first | exact Or.inl rfl | exact Or.inr (Or.inl rfl) | exact Or.inr (Or.inr rfl)) (hd:(x == ("__debug__":Str)) = false:=by decide)
  (hcd:(x == ("__classdict__":Str)) = false:=by decide):PE X (.Name x pos) (tVar i):=pe_var hN hv hd hcd
end
theorem iteF {A B:Prop} (h:B):if false = true then A else B:=by
 rw [if_neg Bool.false_ne_true]
 exact h
theorem iteT {A B:Prop} (h:A):if true = true then A else B:=by
 rw [if_pos rfl]
 exact h
theorem ite2 {c A B:Prop} [Decidable c] (h1:c→A) (h2:¬ c→B):if c then A else B:=by
 by_cases h:c
 ·rw [if_pos h]
  exact h1 h
 ·rw [if_neg h]
  exact h2 h
theorem iteNS {c A B:Prop} [Decidable c] (hc:c) (h:B):if (!decide c) = true then A else B:=by
 rw [decide_eq_true hc]
 exact iteF h
def Same (H H':Hp):Prop:=∀ b o,H b = some o→H' b = some o
theorem Same.refl (H:Hp):Same H H:=fun _ _ h=>h
theorem Same.trans {H H1 H2:Hp} (a:Same H H1) (b:Same H1 H2):Same H H2:=fun c o h=>b c o (a c o h)
theorem Same.free {H H':Hp} (e:Same H H') {l:Addr} (h:H' l = Option.none):H l = Option.none:=by
 cases q:H l with
 | none=>rfl
 | some o =>
  rw [e l o q] at h
  cases h
theorem Same.seq {K:PySem.W.Frag} {H H':Hp} {a:Addr} {xs:List V} (e:Same H H') (h:SqL K H a xs):SqL K H' a xs:=by
 rcases h with (h | ⟨o,h⟩) | h
 ·exact .inl (.inl (e _ _ h))
 ·exact .inl (.inr ⟨o,e _ _ h⟩)
 ·exact .inr h
section
variable {κ:Type} [DecidableEq κ]
end
theorem ObjOk.ex {P:Program} {w:World} {H:Hp} {h:Heap} {a:Addr} {o:HO} (x:ObjOk P w H h a o):∃ u,h.get? a = some u:=by
 cases o with
 | lst xs=>obtain ⟨_,its,n,_,e⟩:=x; exact ⟨_,e⟩
 | tup xs=>obtain ⟨_,its,_,o,e,_⟩:=x; exact ⟨o,e⟩
 | dK kvs=>obtain ⟨_,_,vs,_,o,es,ep,e,_⟩:=x; exact ⟨o,e⟩
 | dT kvs=>obtain ⟨_,_,xs,_,o,es,ep,e,_⟩:=x; exact ⟨o,e⟩
 | set S n=>obtain ⟨o,_,_,_,e,_⟩:=x; exact ⟨o,e⟩
 | ins C dx fs=>obtain ⟨_,_,_,e,_⟩:=x; exact ⟨_,e⟩
 | own b=>exact x
 | xd fs=>obtain ⟨mA,n,_⟩:=x; obtain ⟨o,_,_,e,_⟩:=n; exact ⟨o,e⟩
 | met f b=>exact ⟨_,x⟩
 | rng lo hi=>obtain ⟨_,_,_,e⟩:=x; exact ⟨_,e⟩
 | frz ob u=>exact ⟨_,x.1⟩
 | tbl ps=>exact ⟨_,x⟩
 | ext φ=>exact x.2.1
structure Flies (P:Program) (w:World) (outer:List Env) (H:Hp) (s:Shared) (a:Addr) (c:Value) (H':Hp) (s':Shared):Prop where
 os:s'.os = s.os
 bare:AllBare s'.gens
 un:Un (frs outer) [] H H' s.heap s'.heap
 hok:HOk P w H' s'.heap
 fly:∃ (B:Heap) (t:Addr),Heap.FlyingW B outer a c (.ref t) s'.heap∧∀ b o,s'.heap.get? b = some o→b ∉ frs outer→((∃ o',s.heap.get? b = some o')∨(H' b).isSome = true)→B.get? b = some o
def CX1 (P:Program) (w:World):CXT:=fun outer H s E e s'=>∃ a c H',e = .ref a∧Flies P w outer H s a c H' s'∧E c none H'
section
variable {P:Program} {w:World} {outer:List Env} {H H':Hp} {s s':Shared} {a:Addr} {c:Value} {B h5:Heap}
theorem fly_land (u:Un (frs outer) [] H H' s.heap s'.heap) (hok:HOk P w H' s'.heap) (hB:∀ b o,s'.heap.get? b = some o→b ∉ frs outer→((∃ o',s.heap.get? b = some o')∨(H' b).isSome = true)→B.get? b = some o)
  (st:B.StaysIn h5) (sm:s'.heap.UpToSlots h5) (fn:∀ b ∈ frs outer,∃ o,s'.heap.get? b = some o∧∀ vs,o.data ≠ .fields vs) (ff:∀ b ∈ frs outer,H' b = none) :
  Un (frs outer) [] H H' s.heap h5∧HOk P w H' h5:=by
 have tr:∀ b o,(H' b).isSome = true→s'.heap.get? b = some o→h5.get? b = some o:=fun b o q e =>
  st b o (hB b o e (fun hm=>by rw [ff b hm] at q; cases q) (.inr q))
 refine ⟨⟨fun b o e n hb hx=>st b o (hB b o (u.keep b o e n hb hx) hb (.inl ⟨o,e⟩)),fun b o e n hb hx=>?_,u.free,fun b o e hx=>?_,u.tups,u.frzs,u.tbls⟩,fun b ob e=>?_⟩
 ·obtain ⟨sl,e1⟩:=u.slot b o e n hb hx
  obtain ⟨o2,h2,nf⟩:=fn b hb
  rw [e1] at h2
  cases h2
  obtain ⟨sl',e2⟩:=sm b _ e1 nf
  exact ⟨sl',e2⟩
 ·obtain ⟨o',e1⟩:=u.there b o e hx
  by_cases hb:b ∈ frs outer
  ·obtain ⟨o2,h2,nf⟩:=fn b hb
   obtain ⟨sl',e2⟩:=sm b _ h2 nf
   exact ⟨_,e2⟩
  ·exact ⟨o',st b o' (hB b o' e1 hb (.inl ⟨o,e⟩))⟩
 ·refine (hok b ob e).stay (fun d u' hd q=>tr d u' ?_ q) (fun _ q=>q) fun _ _ q=>q
  rcases hd with rfl | hd
  ·rw [e]; rfl
  ·rw [hd]; rfl
end
section
variable {X:Cx} {pins:List (Addr × Obj)} {σ:St} {H H':Hp} {s s':Shared}
theorem Inv.stkThere (I:Inv X pins σ H s):∀ b ∈ frs X.stack,∃ o,s.heap.get? b = some o∧∀ vs,o.data ≠ .fields vs:=fun b hb=>(I.stack.mem hb).2
theorem Flies.ff {a:Addr} {c:Value} (I:Inv X pins σ H s) (F:Flies X.prog X.w X.stack H s a c H' s'):∀ b ∈ frs X.stack,H' b = none:=fun b hb=>by
 obtain ⟨o,e,_⟩:=I.stkThere b hb
 exact F.un.free b o e (I.stkFree b hb) (List.not_mem_nil)
theorem Flies.fn {P:Program} {w:World} {outer:List Env} {a:Addr} {c:Value} (F:Flies P w outer H s a c H' s'):∀ b ∈ frs outer,∃ o,s'.heap.get? b = some o∧∀ vs,o.data ≠ .fields vs:=fun b hb=>by
 obtain ⟨B,t,fl,_⟩:=F.fly
 exact (fl.2.2.1.mem hb).2
end
def Raises (X:Cx) (E:St→XK):Prop:=∀ (pins:List (Addr × Obj)) (σ:St) (H:Hp) (s:Shared) (h':Heap) (e:Addr) (c:Value) (vs:List Value),Inv X pins σ H s→Heap.MadeExcOf s.heap h' e c vs→E σ c none H→X.xe (.ref e) { s with heap:=h' }
section
variable {P:Program} {w:World} {K:PySem.W.Frag} {mg:Str→Option Value} {base:Heap} {N:List Str} {qual:Str} {scope:Scope} {f:Addr} {cd:Value} {A:Around} {outer:List Env} {s₀:Shared} {H₀:Hp} {E:XK}
theorem passX:Passes (CX1 P w) (cxOf (CX1 P w) P w K mg base N qual scope f cd A outer s₀ H₀ E) (fun _=>E):=by
 intro pins σ H s e s' I h
 obtain ⟨a,c,H',rfl,F,hE⟩:=h
 have ff:=F.ff I
 have fn:=F.fn
 obtain ⟨B,t,fl,hB⟩:=F.fly
 show wpAny (model P w) (A.deeper (envOfC qual scope s₀.heap.objs.size f cd)) («leaving» (envOfC qual scope s₀.heap.objs.size f cd) (.ref a)) _ _ s'
 refine wpAny_leaves_onW (L:=s₀.heap.objs.size) (outer:=outer) I.ok.frames rfl fl fun h' fl' sm=>?_
 obtain ⟨U,hok⟩:=fly_land F.un F.hok hB fl'.1 sm fn ff
 have J:=I.call' (s':={ s' with heap:=h' }) F.os U hok F.bare (fun b hb=>nomatch hb)
 refine ⟨a,c,H',rfl,⟨J.os,J.bare,J.base,hok,B,t,fl',fun b o e hb hx=>?_⟩,hE⟩
 have hst:b ∉ frs (envOfC qual scope s₀.heap.objs.size f cd :: outer)→∀ o2,s'.heap.get? b = some o2→((∃ o',s.heap.get? b = some o')∨(H' b).isSome = true)→B.get? b = some o:=fun hn o2 e2 z=>by
  have q:=hB b o2 e2 hn z
  have q2:=fl'.1 b o2 q
  rw [e] at q2
  cases q2
  exact q
 rcases hx with ⟨o',e0⟩ | ht
 ·obtain ⟨o1,e1⟩:=I.base.there b o' e0 (List.not_mem_nil)
  obtain ⟨o2,e2⟩:=F.un.there b o1 e1 (List.not_mem_nil)
  refine hst (fun hm=>?_) o2 e2 (.inl ⟨o1,e1⟩)
  rcases List.mem_cons.mp (show b ∈ s₀.heap.objs.size :: frs outer from hm) with z | z
  ·exact absurd (Heap.lt_size e0) (by rw [z]; exact Nat.lt_irrefl _)
  ·exact hb z
 ·cases q:H' b with
  | none=>rw [q] at ht; cases ht
  | some ob =>
   obtain ⟨o2,e2⟩:=(F.hok b ob q).ex
   exact hst (fun hm=>by rw [ff b hm] at q; cases q) o2 e2 (.inr ht)
theorem raiseX:Raises (cxOf (CX1 P w) P w K mg base N qual scope f cd A outer s₀ H₀ E) (fun _=>E):=by
 intro pins σ H s h1 e c vs I hx hE
 show wpAny (model P w) (A.deeper (envOfC qual scope s₀.heap.objs.size f cd)) («leaving» (envOfC qual scope s₀.heap.objs.size f cd) (.ref e)) _ _ { s with heap:=h1 }
 have hin:∀ env ∈ (envOfC qual scope s₀.heap.objs.size f cd :: outer),∀ b,env.frame = some b→b ∈ frs (envOfC qual scope s₀.heap.objs.size f cd :: outer):=fun env he b hb=>List.mem_filterMap.mpr ⟨env,he,hb⟩
 have fn:=I.stkThere
 have ff:=I.stkFree
 refine wpAny_leaves_madeW (s:={ s with heap:=h1 }) (L:=s₀.heap.objs.size) (outer:=outer) (h:=s.heap) (base:=PySem.W.hideAll s.heap (frs (envOfC qual scope s₀.heap.objs.size f cd :: outer))) I.ok.frames rfl (fun b o q=>PySem.W.of_hideAll _ q) (PySem.W.funFrames_hide I.stack hin) hx fun h' t fl tp _ sm=>?_
 have hB:∀ b o,h1.get? b = some o→b ∉ frs (envOfC qual scope s₀.heap.objs.size f cd :: outer)→((∃ o',s.heap.get? b = some o')∨(H b).isSome = true)→(PySem.W.hideAll s.heap (frs (envOfC qual scope s₀.heap.objs.size f cd :: outer))).get? b = some o:=fun b o e hn z=>by
  have ex:∃ o',s.heap.get? b = some o':=by
   rcases z with z | z
   ·exact z
   ·cases q:H b with
    | none=>rw [q] at z; cases z
    | some ob=>exact (I.hok b ob q).ex
  obtain ⟨o',e'⟩:=ex
  have q:=hx.keeps b o' e'
  rw [e] at q
  cases q
  exact PySem.W.hideAll_get _ e' hn
 have U0:Un (frs (envOfC qual scope s₀.heap.objs.size f cd :: outer)) [] H H s.heap h1:=Un.kept hx.keeps
 have hok1:HOk P w H h1:=I.hok.kept hx.keeps
 obtain ⟨U,hok⟩:=fly_land (s:=s) (s':={ s with heap:=h1 }) U0 hok1 hB fl.1 sm (fun b hb=>by obtain ⟨o,e,nf⟩:=fn b hb; exact ⟨o,hx.keeps b o e,nf⟩) ff
 have J:=I.call' (s':={ s with heap:=h' }) rfl U hok I.bare (fun b hb=>nomatch hb)
 refine ⟨e,c,H,rfl,⟨J.os,J.bare,J.base,hok,_,t,fl,fun b o q hb z=>?_⟩,hE⟩
 have hst:b ∉ frs (envOfC qual scope s₀.heap.objs.size f cd :: outer)→∀ o2,s.heap.get? b = some o2→(PySem.W.hideAll s.heap (frs (envOfC qual scope s₀.heap.objs.size f cd :: outer))).get? b = some o:=fun hn o2 e2=>by
  have q1:=PySem.W.hideAll_get _ e2 hn
  have q2:=fl.1 b o2 q1
  rw [q] at q2
  cases q2
  exact q1
 rcases z with ⟨o',e0⟩ | ht
 ·obtain ⟨o1,e1⟩:=I.base.there b o' e0 (List.not_mem_nil)
  refine hst (fun hm=>?_) o1 e1
  rcases List.mem_cons.mp (show b ∈ s₀.heap.objs.size :: frs outer from hm) with z | z
  ·exact absurd (Heap.lt_size e0) (by rw [z]; exact Nat.lt_irrefl _)
  ·exact hb z
 ·cases qq:H b with
  | none=>rw [qq] at ht; cases ht
  | some ob =>
   obtain ⟨o2,e2⟩:=(I.hok b ob qq).ex
   exact hst (fun hm=>by rw [ff b hm] at qq; cases qq) o2 e2
end
theorem own_obj {K:PySem.W.Frag} {h₀:Heap} {C:Addr} {bmB:List Value} {newId:String} (X:K.In h₀) (q:PySem.W.excIn K C bmB newId = true) :
  ∃ bm N nm q bs hdct sn sub ab col dd k0 k1 k2 k3 k5 mN,h₀.get? C = some (excClassObj nm q C N bs bm hdct sn sub ab col dd k0 k1 k2 k3 k5 newId)∧h₀.Ns N mN∧mN "__init__" = none∧OwnTail h₀ bmB bm:=by
 unfold PySem.W.excIn at q
 split at q
 ·rename_i dd cd sl ho
  split at q
  ·rename_i C' bm k0 k1 k2 k3 n k5 hm hs
   simp only [Bool.and_eq_true,beq_iff_eq,Bool.not_eq_true'] at q
   obtain ⟨⟨⟨⟨⟨rfl,rfl⟩,hdel⟩,ht⟩,hok⟩,hni⟩:=q
   obtain ⟨nm,bs,mro,ns,qn,hd,sn,sub,ab,col,del⟩:=cd
   dsimp only at hm hdel hok hni
   subst hm hdel
   have hsl:sl = #[k0,k1,k2,k3,some (.builtin n),k5]:=by
    obtain ⟨l⟩:=sl
    simp only at hs
    rw [hs]
   subst hsl
   exact ⟨bm,ns,nm,qn,bs,hd,sn,sub,ab,col,dd,k0,k1,k2,k3,k5,_,X _ _ ho,.of_isNs (PySem.W.isNs_of_in X hok),PySem.W.nsMap_none_of_in X hok hni,PySem.W.tail_of_in X ht⟩
  ·cases q
 ·cases q
section
variable {X:Cx} {E:St→XK} {x:Str} {C:Addr} {np cpos pos:Pos} {e:Expr} {es:List Expr} {t:TA} {B newId initId:String} {bmB:List Value}
def tRaise (E:St→XK) (C:Addr) (t:TA):TS:=fun _ σ H=>t σ H fun vs H1=>vs.length ≤ sizeLine∧E σ (.ref C) none H1
theorem ps_raise (hx:Raises X E) (hc:X.calm = true) (hg:Gl X x) (hm:X.mg x = some (.ref C)) (q:PySem.W.excIn X.K C bmB newId = true) (FB:ExcBaseFacts B newId initId bmB) (ha:PA X (e :: es) t)
  (hdb:(x == ("__debug__":Str)) = false:=by decide) (he:starEach (e :: es) X.env = (false,eval e X.env) :: starEach es X.env:=by rfl) (hpl:(backTo cpos (starEach es X.env)).any (·.1) = false:=by rfl) :
  PS X (.Raise (some (.Call (.Name x np) (e :: es) [] cpos)) none pos) (tRaise E C t):=by
 intro pins s σ H D I h
 obtain ⟨bm,N,nm,qn,bs,hdct,sn,sub,ab,col,dd,k0,k1,k2,k3,k5,mN,hC,hN,hni,T⟩:=own_obj I.mod.kin q
 refine wpAny_Raise_call_subT (C:=C) (nm:=nm) (q:=qn) (N:=N) (bs:=bs) (bm:=bm) (hdct:=hdct) (sn:=sn) (sub:=sub) (ab:=ab) (col:=col) (dd:=dd) (k0:=k0) (k1:=k1) (k2:=k2) (k3:=k3) (k5:=k5)
  FB (mN:=mN) (T.hasType FB.hasBase) (I.ok.hd hc) (by rw [he]; show (false || (backTo cpos (starEach es X.env)).any (·.1)) = false; rw [hpl]; rfl) hni (ld_glob I hg hm ⟨rfl,?_⟩ hdb)
 have h2:=ha cpos pins s σ H _ I h
 rw [he] at h2 ⊢
 refine Calls.evalArgs_plain (wpAny_mono h2 (fun us s2 z=>?_) fun _ _ y=>y)
 obtain ⟨vs,H1,I1,r,hl,hE⟩:=z
 exact ⟨rfl,by rw [← r.length]; exact hl,I1.bk _ _ hC,hN.keeps I1.bk,T.keeps I1.bk,fun h' e' hm=>hx pins σ H1 s2 h' e' (.ref C) us I1 hm hE⟩
end
abbrev Cx.at_ (X:Cx) (pn:List (Addr × Obj)) (E:Value→Shared→Prop):Cx:={ X with pn:=pn,xe:=E }
abbrev Cx.hand (X:Cx) (pn:List (Addr × Obj)) (a:Addr):Cx:={ X with A:=X.A.mark (some (.ref a)),calm:=false,pn:=pn,xe:=fun _ _=>False }
section
variable {X:Cx} {pins pn:List (Addr × Obj)} {σ:St} {H:Hp} {s:Shared} {E:Value→Shared→Prop} {a:Addr}
theorem Cx.Ok.at_ (ok:X.Ok):(X.at_ pn E).Ok:=⟨ok.mod,ok.kind,ok.glob,ok.blt,ok.above,ok.inj,ok.has,ok.cab,ok.hd,ok.frames,ok.stk,ok.exf,ok.bs,ok.bsz,ok.noex,ok.exfs,ok.funs,ok.frf⟩
theorem Cx.Ok.unat (ok:(X.at_ pn E).Ok):X.Ok:=⟨ok.mod,ok.kind,ok.glob,ok.blt,ok.above,ok.inj,ok.has,ok.cab,ok.hd,ok.frames,ok.stk,ok.exf,ok.bs,ok.bsz,ok.noex,ok.exfs,ok.funs,ok.frf⟩
theorem Cx.Ok.hand (ok:X.Ok):(X.hand pn a).Ok:=⟨ok.mod,ok.kind,ok.glob,ok.blt,ok.above,ok.inj,ok.has,ok.cab,fun z=>(nomatch z),ok.frames,ok.stk,ok.exf,ok.bs,ok.bsz,ok.noex,ok.exfs,ok.funs,ok.frf⟩
theorem Inv.toAt (I:Inv X pins σ H s):Inv (X.at_ (X.pn ++ pins) E) [] σ H s:=⟨I.ok.at_,I.os,I.bare,I.base,I.loc,I.cell,I.free,I.freeC,fun p hp=>I.pin p (by simpa using hp),I.hok,I.len⟩
theorem Inv.ofAt {more:List (Addr × Obj)} (I:Inv (X.at_ (X.pn ++ pins) E) more σ H s):Inv X pins σ H s:=⟨I.ok.unat,I.os,I.bare,I.base,I.loc,I.cell,I.free,I.freeC,fun p hp=>I.pin p (List.mem_append_left _ hp),I.hok,I.len⟩
theorem Inv.toHand {oe:Obj} (I:Inv X pins σ H s) (h:s.heap.get? a = some oe) (hn:H a = none) (h1:a ≠ X.env.locals) (h2:a ∉ X.fs) (h3:∀ v,oe.data ≠ .cell v):Inv (X.hand (X.pn ++ pins ++ [(a,oe)]) a) [] σ H s :=
 ⟨I.ok.hand,I.os,I.bare,I.base,I.loc,I.cell,I.free,I.freeC,fun p hp=>by
  rw [List.append_nil] at hp
  rcases List.mem_append.mp hp with hp | hp
  ·exact I.pin p hp
  ·rcases List.mem_singleton.mp hp with rfl
   exact ⟨h,hn,h1,h2,h3⟩,I.hok,I.len⟩
theorem Inv.ofHand {oe:Obj} {more:List (Addr × Obj)} (ok:X.Ok) (I:Inv (X.hand (X.pn ++ pins ++ [(a,oe)]) a) more σ H s):Inv X pins σ H s :=
 ⟨ok,I.os,I.bare,I.base,I.loc,I.cell,I.free,I.freeC,fun p hp=>I.pin p (List.mem_append_left _ (List.mem_append_left _ hp)),I.hok,I.len⟩
theorem unstore_ok {M:Model} {A:Around} {E:Value→Shared→Prop} {i:Nat} {n:Str} {pos:Pos} {Q:Unit→Shared→Prop} (I:Inv X pins σ H s) (hN:X.N.Nodup) (hi:X.N[i]? = some n) (hk:X.env.scope.names.lookup n = some .local)
  (h:∀ s',Inv X pins (σ.set i none) H s'→Q () s'):wpAny M A (do bindName X.env n .none; unbindBehindTheSuite X.env n pos) Q E s:=by
 obtain ⟨m,hn,hl⟩:=id I.loc
 have hcls:(X.env.scope.kind == .class || (X.env.scope.kind == .module && X.env.locals != X.env.globals)) = false:=by rw [I.ok.kind]; rfl
 have hiσ:i < σ.length:=by rw [I.len]; exact (List.getElem?_eq_some_iff.mp hi).1
 have cne:=I.cne
 refine wpAny_nameGoes_keeps hk hn hcls fun h' v hn' hs=>?_
 obtain ⟨oL,_,_,hoL,_⟩:=id hn
 have tracked:HOk X.prog X.w H h':=fun b ob e=>by
  refine (I.hok b ob e).stay (fun c w' hc q=>(hs.2 c ?_).trans q) (fun _ q=>q) fun _ _ q=>q
  rintro rfl
  rcases hc with rfl | hc
  ·rw [I.free] at e; cases e
  ·rw [I.free] at hc; cases hc
 refine h _ ⟨I.ok,I.os,I.bare,⟨fun b o e n hb hx=>?_,fun b o e n hb hx=>?_,I.base.free,fun b o e hx=>?_,I.base.tups,I.base.frzs,I.base.tbls⟩,⟨_,hn',fun j y v' e1 e2 e3=>?_⟩,fun y c e=>?_,I.free,I.freeC,fun p hp=>?_,tracked,by simpa using I.len⟩
 ·exact (hs.2 b (Nat.ne_of_lt (Nat.lt_of_lt_of_le (Heap.lt_size e) I.ok.above))).trans (I.base.keep b o e n hb hx)
 ·obtain ⟨sl,e1⟩:=I.base.slot b o e n hb hx
  exact ⟨sl,(hs.2 b (Nat.ne_of_lt (Nat.lt_of_lt_of_le (Heap.lt_size e) I.ok.above))).trans e1⟩
 ·obtain ⟨o',e1⟩:=I.base.there b o e hx
  exact ⟨o',(hs.2 b (Nat.ne_of_lt (Nat.lt_of_lt_of_le (Heap.lt_size e) I.ok.above))).trans e1⟩
 ·by_cases hj:j = i
  ·subst hj
   rw [List.getElem?_set_self hiσ] at e2
   cases e2
  ·rw [List.getElem?_set_ne (Ne.symm hj)] at e2
   obtain ⟨u',r',q⟩:=hl j y v' e1 e2 e3
   refine ⟨u',r',?_⟩
   rcases q with ⟨k,e⟩ | ⟨k,c,e,z⟩
   ·refine .inl ⟨k,?_⟩
    have:y ≠ n:=fun e=>hj (nodup_ix hN e1 (e ▸ hi))
    simp [this,e]
   ·exact .inr ⟨k,c,e,z.sameBut hs (cne y c e)⟩
 ·obtain ⟨w',z⟩:=I.cell y c e
  exact ⟨w',z.sameBut hs (cne y c e)⟩
 ·obtain ⟨e,n,ne,nf,d⟩:=I.pin p hp
  exact ⟨(hs.2 p.1 ne).trans e,n,ne,nf,d⟩
end
theorem excMatches_in {K:PySem.W.Frag} {M:Model} {A:Around} {E:Value→Shared→Prop} {s:Shared} {a C:Addr} {oe:Obj} {c:Value} {b:Bool} {Q:Bool→Shared→Prop} (X:K.In s.heap) (ha:s.heap.get? a = some oe) (hc:oe.cls = c)
  (hC:PySem.W.typeIn K (.ref C) = some (.type "type")) (hE:PySem.W.subIn K (.ref C) (.type "BaseException") = some true) (hs:PySem.W.subIn K c (.ref C) = some b) (hcl:(PySem.W.clsIn K C).isSome = true) (h:Q b s):wpAny M A (excMatches (.ref a) (.ref C)) Q E s:=by
 obtain ⟨hp,g,d,t,os⟩:=s
 have L1:=PySem.W.looks_typeIn (M:=M) X hC
 have L2:=PySem.W.looks_subIn (M:=M) X hE
 have L3:=PySem.W.looks_subIn (M:=M) X hs
 have L4:PySem.W.Looks M hp (typeOf (.ref a)) c:=hc ▸ (PySem.W.Looks.ld ha).andThen .now
 have LI:PySem.W.Looks M hp (isInstance (.ref C) (.type "tuple")) false:=L1.andThen (PySem.W.Looks.of_pure tc_notTuple)
 have LT:PySem.W.Looks M hp (isType (.ref C)) true:=by
  unfold PySem.W.clsIn at hcl
  split at hcl
  ·rename_i c' d' cd' sl' ho
   intro A' Q' E' s' k q
   unfold isType loadHead
   exact wpAny_bind (wpAny_loadPart (k _ _ (X _ _ ho)) (wpAny_pure q))
  ·cases hcl
 have LE:PySem.W.Looks M hp (isExcClass (.ref C)) true:=LT.andThen L2
 unfold excMatches
 refine wpAny_bind (LI.at ?_)
 simp only [Bool.false_eq_true,if_false]
 refine wpAny_bind (wpAny_pure ?_)
 simp only [List.forIn_cons,List.forIn_nil]
 refine wpAny_bind (wpAny_bind (wpAny_bind (LE.at ?_)))
 simp only [Bool.not_true,Bool.false_eq_true,if_false]
 refine wpAny_pure (wpAny_pure ?_)
 refine wpAny_bind (L4.at ?_)
 refine wpAny_bind (wpAny_bind (wpAny_bind (L3.at ?_)))
 cases b with
 | true=>exact wpAny_pure (wpAny_pure (wpAny_pure h))
 | false=>exact wpAny_pure (wpAny_pure (wpAny_pure h))
section
variable {X:Cx}
end
section
variable {prog:Program} {w:World} {A:Around} {R:Result→Shared→Prop} {s:Shared}
theorem codeAny_compLoop_L {elt target iter:Expr} {scope:Scope} {pos:Pos} {it acc:Value} {env:Env} (I:Nat→Shared→Prop)
  (turn:∀ n s,I n s→wpAny (model prog w) A (pyNext it) (fun r s₁=>match r with
   | none=>R (.ok .next) s₁
   | some v=>wpAny (model prog w) A (letOwnedTupleGo target it v) (fun _ s₂=>wpAny (model prog w) A (assign target env v) (fun _ s₃=>wpAny (model prog w) A (eval elt env) (fun x s₄ =>
     wpAny (model prog w) A (call (.builtin "list.append") [acc,x]) (fun _ s₅=>∃ m,m < n∧I m s₅) (fun _ _=>False) s₄) (fun _ _=>False) s₃) (fun _ _=>False) s₂) (fun _ _=>False) s₁) (fun _ _=>False) s)
  (n:Nat) (h:I n s):codeAny (model prog w) A (.compLoop (.ListComp elt [⟨target,iter,[],0⟩] scope pos) 0 it acc env) R s:=by
 refine codeAny_loop rfl I (fun n s hI=>?_) n h
 show wpAny _ _ ((compTurn (.ListComp elt [⟨target,iter,[],0⟩] scope pos) 0 it acc env).onRaise (fun x=>do noteFrame x env; theTreesLotGoes x)) _ _ s
 refine wpAny_noted ?_
 rw [compTurn_list1]
 refine wpAny_bind (wpAny_standAt (wpAny_bind (wpAny_mono (turn n s hI) (fun r s₁ h₁=>?_) fun _ _ f=>f.elim)))
 cases r with
 | none=>exact wpAny_pure h₁
 | some v =>
  refine wpAny_bind (wpAny_mono h₁ (fun _ s₂ h₂=>?_) fun _ _ f=>f.elim)
  refine wpAny_bind (wpAny_mono h₂ (fun _ s₃ h₃=>?_) fun _ _ f=>f.elim)
  refine wpAny_bind (wpAny_bind (wpAny_mono h₃ (fun x s₄ h₄=>?_) fun _ _ f=>f.elim))
  refine wpAny_bind (wpAny_mono h₄ (fun _ s₅ h₅=>?_) fun _ _ f=>f.elim)
  exact wpAny_pure (wpAny_pure ⟨rfl,h₅⟩)
end
abbrev Cx.comp (X:Cx) (pins:List (Addr × Obj)) (scope:Scope) (cl:List (Str × Addr)) (Nc:List Str) (fp:List Addr) (s:Shared) (H:Hp):Cx :=
 { X with N:=Nc,s₀:=s,H₀:=H,env:=compEnvC scope cl s.heap.objs.size X.env,outer:=X.stack,stack:=X.stack,ex:=fp,fn:=fun _=>false,pn:=X.pn ++ pins,xe:=fun _ _=>False }
def ClSub (cells:List (Str × Addr)):List (Str × Addr)→Prop
 | []=>True
 | p :: r=>cells.lookup p.1 = some p.2∧ClSub cells r
def ClAll (cl:List (Str × Addr)):List (Str × NameKind)→Prop
 | []=>True
 | p :: r=>((p.2 = .cell∨p.2 = .free)→∃ c,cl.lookup p.1 = some c)∧ClAll cl r
def FvOk (X:Cx) (sc:Scope) (cl:List (Str × Addr)):List Str→List Nat→Prop
 | [],[]=>True
 | x :: r,j :: q=>(X.N[j]? = some x∧(X.env.kindOf x = some .cell∨X.env.kindOf x = some .free)∧(∃ c,X.env.cells.lookup x = some c∧cl.lookup x = some c)∧(sc.names.lookup x = some .cell∨sc.names.lookup x = some .free))∧FvOk X sc cl r q
 | _,_=>False
def fvals (js:List Nat) (σ:St):St:=js.map fun j=>(σ[j]?).join
theorem FvOk.len {X:Cx} {sc:Scope} {cl:List (Str × Addr)}:∀ {fv:List Str} {js:List Nat},FvOk X sc cl fv js→fv.length = js.length
 | [],[],_=>rfl
 | _ :: _,_ :: _,h=>by simp [h.2.len]
 | [],_ :: _,h=>h.elim
 | _ :: _,[],h=>h.elim
theorem FvOk.get {X:Cx} {sc:Scope} {cl:List (Str × Addr)} {σ:St} {x:Str} {v:V}:∀ {fv:List Str} {js:List Nat} {k:Nat},FvOk X sc cl fv js→fv[k]? = some x→(fvals js σ)[k]? = some (some v) →
  ∃ (j:Nat) (c:Addr),X.N[j]? = some x∧σ[j]? = some (some v)∧(X.env.kindOf x = some .cell∨X.env.kindOf x = some .free)∧X.env.cells.lookup x = some c∧cl.lookup x = some c∧(sc.names.lookup x = some .cell∨sc.names.lookup x = some .free)
 | y :: r,j :: q,0,h,e1,e2=>by
  obtain ⟨⟨h1,h2,⟨c,h3,h4⟩,h5⟩,_⟩:=h
  have ex:y = x:=by simpa using e1
  subst ex
  have e3:(σ[j]?).join = some v:=by simpa [fvals] using e2
  exact ⟨j,c,h1,Option.join_eq_some_iff.mp e3,h2,h3,h4,h5⟩
 | y :: r,j :: q,k + 1,h,e1,e2=>FvOk.get (fv:=r) (js:=q) (k:=k) h.2 (by simpa using e1) (by simpa [fvals] using e2)
 | [],[],k,_,e1,_=>by simp at e1
 | [],_ :: _,_,h,_,_=>h.elim
 | _ :: _,[],_,h,_,_=>h.elim
theorem ClSub.get {cells:List (Str × Addr)} {x:Str} {c:Addr}:∀ {cl:List (Str × Addr)},ClSub cells cl→cl.lookup x = some c→cells.lookup x = some c
 | [],_,e=>by simp at e
 | (y,d) :: r,h,e=>by
  rw [List.lookup_cons] at e
  cases q:x == y with
  | true =>
   rw [q] at e
   have ex:x = y:=beq_iff_eq.mp q
   subst ex
   cases e
   exact h.1
  | false=>rw [q] at e; exact ClSub.get h.2 e
theorem ClAll.get {cl:List (Str × Addr)} {x:Str} {k:NameKind}:∀ {l:List (Str × NameKind)},ClAll cl l→l.lookup x = some k→(k = .cell∨k = .free)→∃ c,cl.lookup x = some c
 | [],_,e,_=>by simp at e
 | (y,d) :: r,h,e,hk=>by
  rw [List.lookup_cons] at e
  cases q:x == y with
  | true =>
   rw [q] at e
   have ex:x = y:=beq_iff_eq.mp q
   subst ex
   cases e
   exact h.1 hk
  | false=>rw [q] at e; exact ClAll.get h.2 e hk
def CompW (J:It) (te:TE) (fv:St) (Q:VK) (D:Addr) (H1:Hp):Prop :=
 ∃ W:Nat→Nat→List V→Hp→Prop,(∃ m,W 0 m [] (upd H1 D (.lst [])))∧∀ i m ys Hc,W i m ys Hc→Hc D = some (.lst ys) ∧
  ((J.stop i Hc∧Q (.ref D) Hc)∨(J.go i Hc∧ys.length < sizeLine∧∀ x H',J.yld i Hc x H'→te (some x :: fv) H' fun y H3=>H3 D = some (.lst ys)∧∃ m',m' < m∧W (i + 1) m' (ys ++ [y]) (upd H3 D (.lst (ys ++ [y])))))
def tComp (wi:TI) (js:List Nat) (te:TE):TE:=fun σ H Q=>wi σ H fun J H1=>∀ D,H1 D = none→CompW J te (fvals js σ) Q D H1
section
variable {X:Cx} {elt iter:Expr} {x:Str} {px pos:Pos} {scope:Scope} {fv:List Str} {js:List Nat} {wi:TI} {te:TE}
structure CompTx (X:Cx) (iter:Expr) (scope:Scope) (cl:List (Str × Addr)) (x:Str) (fv:List Str) (js:List Nat):Prop where
 clos:closureFor scope X.env = pure cl
 kind:scope.kind = .function
 nocell:∀ y ∈ scope.names,y.2 ≠ .cell
 names:∀ y ∈ scope.names,y.2 = .local→scope.names.lookup y.1 = some .local
 hx:scope.names.lookup x = some .local
 nd:(x :: fv).Nodup
 sub:ClSub X.env.cells cl
 all:ClAll cl (relabel scope X.env).names
 fvs:FvOk X (relabel scope X.env) cl fv js
 fold:∀ y,foldedSetIterable iter X.env y = pure y
theorem comp_start {cl:List (Str × Addr)} {pins:List (Addr × Obj)} {σ:St} {H:Hp} {s3:Shared} {fp:List Addr} {h1:Heap} {tk:Nat} (T:CompTx X iter scope cl x fv js) (I:Inv X pins σ H s3) (hf:∀ b ∈ fp,FpOk X pins H b)
  (ho:∀ b ∈ fp,b < s3.heap.objs.size) (hn:h1.Ns s3.heap.objs.size (fun _=>none)) (hk:∀ b o,s3.heap.get? b = some o→h1.get? b = some o) :
  Inv (X.comp pins scope cl (x :: fv) fp s3 H) [] (none :: fvals js σ) H { s3 with heap:=h1,toks:=tk }:=by
 have cne:∀ y c,cl.lookup y = some c→X.env.cells.lookup y = some c:=fun y c e=>T.sub.get e
 have cle:∀ y c,cl.lookup y = some c→∃ v,s3.heap.IsCell c v:=fun y c e=>I.cell y c (cne y c e)
 have clt:∀ y c,cl.lookup y = some c→c ≠ s3.heap.objs.size:=fun y c e=>by
  obtain ⟨v,o,q,_⟩:=cle y c e
  exact Nat.ne_of_lt (Heap.lt_size q)
 refine ⟨⟨I.ok.mod,T.kind,I.ok.glob,I.ok.blt,Nat.le_refl _,fun y z c e1 e2=>I.ok.inj y z c (cne y c e1) (cne z c e2),fun y hy=>?_,fun _ _ e _=>(nomatch e),I.ok.hd,I.ok.frames,.inl rfl,fun b hb=>⟨Nat.ne_of_lt (ho b hb),fun y c e=>(hf b hb).2.2.2.2.1 y c (cne y c e)⟩,
  I.bs,Nat.le_trans I.ok.bsz I.sz,fun b o e hb=>?_,fun b hb hm=>?_,I.stack,I.stkFree⟩,rfl,I.bare,Un.kept hk,⟨_,hn,fun i y v e1 e2 e3=>?_⟩,fun y c e=>?_,I.hok.fresh (Nat.le_refl _),fun y c e=>I.freeC y c (cne y c e),fun p hp=>?_,I.hok.kept hk,?_⟩
 ·rcases hy with e | e
  ·exact T.all.get e (.inl rfl)
  ·exact T.all.get e (.inr rfl)
 ·obtain ⟨_,_,_,q,_⟩:=hf b hb
  rcases q with q | q
  ·exact I.ok.noex b o e q
  ·exact absurd (Heap.lt_size (I.ok.bs b o e).1) (Nat.not_lt.mpr q)
 ·obtain ⟨_,q1,q2,_⟩:=hf b hb
  rcases List.mem_cons.mp (I.stkSub b hm) with z | z
  ·exact q1 z
  ·exact q2 z
 ·cases i with
  | zero=>simp at e2
  | succ k =>
   obtain ⟨j,c,g1,g2,g3,g4,g5,g6⟩:=T.fvs.get (σ:=σ) (k:=k) (x:=y) (v:=v) (by simpa using e1) (by simpa using e2)
   obtain ⟨m,_,hl⟩:=I.loc
   obtain ⟨u,r,l⟩:=hl j y v g1 g2 (g3.elim (fun z=>.inr (.inl z)) fun z=>.inr (.inr z))
   refine ⟨u,r,.inr ⟨g6,c,g5,?_⟩⟩
   rcases l with ⟨z,_⟩ | ⟨_,c',z,o,e,d⟩
   ·rcases g3 with g | g
    ·rw [g] at z; cases z
    ·rw [g] at z; cases z
   ·rw [g4] at z
    cases z
    exact ⟨o,hk _ _ e,d⟩
 ·obtain ⟨v,o,e,d⟩:=cle y c e
  exact ⟨v,o,hk _ _ e,d⟩
 ·rw [List.append_nil] at hp
  obtain ⟨e,n,ne,nf,d⟩:=I.pin p hp
  refine ⟨hk _ _ e,n,Nat.ne_of_lt (Heap.lt_size e),fun hm=>?_,d⟩
  rcases List.mem_cons.mp (I.stkSub _ hm) with z | z
  ·exact ne z
  ·exact nf z
 ·simp [fvals,T.fvs.len]
theorem comp_end {cl:List (Str × Addr)} {pins:List (Addr × Obj)} {σ σ':St} {H H':Hp} {s3 s1:Shared} {fp:List Addr} {h':Heap} {more:List (Addr × Obj)} (I:Inv X pins σ H s3) (hf:∀ b ∈ fp,FpOk X pins H b)
  (J:Inv (X.comp pins scope cl (x :: fv) fp s3 H) more σ' H' s1) (hs:Heap.SameBut s3.heap.objs.size s1.heap h'):Inv X pins σ H' { s1 with heap:=h' }:=by
 have ne:∀ b o,s3.heap.get? b = some o→b ≠ s3.heap.objs.size:=fun b o e=>Nat.ne_of_lt (Heap.lt_size e)
 have B:=J.base
 have U:Un (frs X.stack) fp H H' s3.heap h':=⟨fun b o e n hb hx=>(hs.2 b (ne b o e)).trans (B.keep b o e n hb hx),fun b o e n hb hx=>by
   obtain ⟨sl,q⟩:=B.slot b o e n hb hx
   exact ⟨sl,(hs.2 b (ne b o e)).trans q⟩,B.free,fun b o e hx=>by
   obtain ⟨o',q⟩:=B.there b o e hx
   exact ⟨o',(hs.2 b (ne b o e)).trans q⟩,B.tups,B.frzs,B.tbls⟩
 have fr:H' s3.heap.objs.size = none:=J.free
 have hok:HOk X.prog X.w H' h':=fun b ob e=>by
  refine (J.hok b ob e).stay (fun c u hc q=>(hs.2 c ?_).trans q) (fun _ q=>q) fun _ _ q=>q
  rintro rfl
  rcases hc with rfl | hc
  ·rw [fr] at e; cases e
  ·rw [fr] at hc; cases hc
 exact I.call' (s':={ s1 with heap:=h' }) J.os U hok J.bare fun b hb=>⟨(hf b hb).2.2.2.1,(hf b hb).2.1,(hf b hb).2.2.2.2.1,(hf b hb).2.2.2.2.2⟩
theorem comp_loop {cl:List (Str × Addr)} {pins:List (Addr × Obj)} {σ:St} {H1:Hp} {s3:Shared} {fp:List Addr} {it D:Addr} {tn:Nat→Heap→Prop} {J:It} {Q:VK} {h1:Heap} {tk:Nat} {R:Result→Shared→Prop} (hc:X.calm = true)
  (T:CompTx X iter scope cl x fv js) (I:Inv X pins σ (upd H1 D (.lst [])) s3) (hf:∀ b ∈ fp,FpOk X pins (upd H1 D (.lst [])) b) (Tn:Turn X.prog X.w X.K (.Name x px) J fp it tn) (t0:tn 0 s3.heap)
  (hn:h1.Ns s3.heap.objs.size (fun _=>none)) (hk:∀ b o,s3.heap.get? b = some o→h1.get? b = some o)
  (he:PE (X.comp pins scope cl (x :: fv) fp s3 (upd H1 D (.lst []))) elt te) (hW:CompW J te (fvals js σ) Q D H1)
  (hR:∀ Hc s1,Inv (X.comp pins scope cl (x :: fv) fp s3 (upd H1 D (.lst []))) [] (none :: fvals js σ) Hc s1→Q (.ref D) Hc→R (.ok .next) s1) :
  codeAny (model X.prog X.w) X.A (.compLoop (.ListComp elt [⟨.Name x px,iter,[],0⟩] scope pos) 0 (.ref it) (.ref D) (compEnvC scope cl s3.heap.objs.size X.env)) R { s3 with heap:=h1,toks:=tk }:=by
 have ho:∀ b ∈ fp,b < s3.heap.objs.size:=fun b hb=>by
  obtain ⟨o,e,_⟩:=Tn.obj 0 _ t0 b hb
  exact Heap.lt_size e
 have I0:=comp_start (tk:=tk) T I hf ho hn hk
 obtain ⟨W,⟨m0,w0⟩,step⟩:=hW
 have fpc:∀ {Hc:Hp},(∀ b ∈ fp,Hc b = none)→∀ b ∈ fp,FpOk (X.comp pins scope cl (x :: fv) fp s3 (upd H1 D (.lst []))) [] Hc b:=fun {Hc} hn b hb=>by
  refine ⟨hn b hb,Nat.ne_of_lt (ho b hb),fun hm=>?_,.inl hb,fun y c e=>(hf b hb).2.2.2.2.1 y c (T.sub.get e),fun p hp=>(hf b hb).2.2.2.2.2 p (by simpa using hp)⟩
  rcases List.mem_cons.mp (I.stkSub _ hm) with z | z
  ·exact (hf b hb).2.1 z
  ·exact (hf b hb).2.2.1 z
 refine codeAny_compLoop_L (fun n s=>∃ i ys Hc,Inv (X.comp pins scope cl (x :: fv) fp s3 (upd H1 D (.lst []))) [] (none :: fvals js σ) Hc s∧tn i s.heap∧(∀ b ∈ fp,Hc b = none)∧W i n ys Hc) ?_ m0
  ⟨0,[],_,I0,Tn.keep _ _ _ t0 fun b _ o e=>hk b o e,fun b hb=>(hf b hb).1,w0⟩
 rintro n s ⟨i,ys,Hc,Ic,tc,fc,wc⟩
 obtain ⟨hD,hh⟩:=step i n ys Hc wc
 rcases hh with ⟨stop,q⟩ | ⟨go,hl,turn⟩
 ·refine thn (Tn.done (X.comp pins scope cl (x :: fv) fp s3 (upd H1 D (.lst []))) rfl rfl rfl hc i [] s _ Hc _ Ic (fpc fc) tc stop) fun r s1 ⟨hr,I1⟩=>?_
  subst hr
  exact hR Hc s1 I1 q
 ·refine thn (Tn.item (X.comp pins scope cl (x :: fv) fp s3 (upd H1 D (.lst []))) rfl rfl rfl hc i [] s _ Hc _ Ic (fpc fc) tc go) fun r s1 ⟨u,hr,h4⟩=>?_
  subst hr
  refine thn h4 fun _ s5 ⟨y,H5,I5,r5,y5,t5,f5⟩=>?_
  have I5':=I5.pinned (fpc f5) (Tn.obj _ _ t5)
  have hxl:(relabel scope X.env).names.lookup x = some .local:=lookup_relabel_local T.hx
  have pg:PG (X.comp pins scope cl (x :: fv) fp s3 (upd H1 D (.lst []))) (.Name x px) (gName 0):=pg_name (i:=0) T.nd rfl (.inl hxl) (.inr hxl)
  refine thn (pg _ s5 _ H5 y u (fun σ6 H6=>σ6 = some y :: fvals js σ∧H6 = H5) I5' r5 ⟨rfl,rfl⟩) fun _ s6 ⟨σ6,H6,I6,e6,e6'⟩=>?_
  subst e6 e6'
  refine thn (he _ s6 _ _ _ I6 (turn y _ y5)) fun v s7 ⟨z,H7,I7,r7,hD7,m',hm,w7⟩=>?_
  refine thn (mt_append _ s7 _ H7 (.ref D) [z] (.ref D) [v] (fun _ H8=>H8 = upd H7 D (.lst (ys ++ [z]))) I7 rfl (.cons r7 .nil) ⟨D,ys,z,rfl,rfl,hD7,hl,rfl⟩) fun _ s8 ⟨_,H8,I8,_,e8⟩=>?_
  subst e8
  refine ⟨m',hm,i + 1,ys ++ [z],_,I8.unpinned.weak ?_ ?_,Tn.keep _ _ _ t5 fun b hb o e=>(I8.pin (b,o) (List.mem_append_right _ (List.mem_append_right _ (mem_pinsAt hb e)))).1,fun b hb=>?_,w7⟩
  ·simp
  ·intro k v' e
   cases k with
   | zero=>simp at e
   | succ k=>simpa using e
  ·obtain ⟨o,e,d⟩:=Tn.obj _ _ t5 b hb
   exact (I8.pin (b,o) (List.mem_append_right _ (List.mem_append_right _ (mem_pinsAt hb e)))).2.1
theorem pe_comp {cl:List (Str × Addr)} (hc:X.calm = true) (T:CompTx X iter scope cl x fv js) (hi:PI X (.Name x px) iter wi) (he:∀ pins fp s H,PE (X.comp pins scope cl (x :: fv) fp s H) elt te) :
  PE X (.ListComp elt [⟨.Name x px,iter,[],0⟩] scope pos) (tComp wi js te):=by
 intro pins s σ H Q I h
 rw [eval_ListComp]
 refine wpAny_comprehension_free (use:=none) rfl T.fold T.clos T.kind T.names (thn (hi pins s σ H _ I h) fun v s1 h1=>thn h1 fun itv s2 h2=>?_)
 obtain ⟨it,fp,tn,J,H1,rfl,I2,Tn,t0,f2,hR⟩:=h2
 refine wpAny_newObj_type ?_
 have ho:∀ b ∈ fp,b ≠ s2.heap.objs.size:=fun b hb=>by
  obtain ⟨o,e,_⟩:=Tn.obj 0 _ t0 b hb
  exact Nat.ne_of_lt (Heap.lt_size e)
 have I3:Inv X pins σ (upd H1 s2.heap.objs.size (.lst [])) _:=I2.lnew (t':=s2.toks) (ys:=[]) (its:=[]) .nil (Nat.zero_le _)
 have f3:∀ b ∈ fp,FpOk X pins (upd H1 s2.heap.objs.size (.lst [])) b:=fun b hb=>⟨by rw [upd_ne (ho b hb)]; exact (f2 b hb).1,(f2 b hb).2⟩
 have t3:tn 0 (s2.heap.push { cls:=.type "list",data:=.seq ([]:List Value).toArray }):=Tn.keep _ _ _ t0 fun b _ o e=>Heap.get?_push_of_some _ e
 have hW:=hR s2.heap.objs.size (I2.hok.fresh (Nat.le_refl _))
 refine wpAny_newFunctionEnv T.nocell (by intro y hy; simp at hy) (fun h1 hn hs=>?_) T.kind
 have hk:∀ b o,(s2.heap.push { cls:=.type "list",data:=.seq ([]:List Value).toArray }).get? b = some o→h1.get? b = some o:=fun b o e =>
  (hs.2 b (Nat.ne_of_lt (Heap.lt_size e))).trans (Heap.get?_push_of_some _ e)
 have loop:=fun tk=>comp_loop (elt:=elt) (pos:=pos) (px:=px) (R:=compPost (model X.prog X.w) X.A X.xe none (EP X pins σ Q) (.ref s2.heap.objs.size) (s2.heap.push { cls:=.type "list",data:=.seq ([]:List Value).toArray }).objs.size) (tk:=tk) hc T I3 f3 Tn t3 hn hk (he pins fp _ _) hW
  fun Hc s1 J q=>by
   obtain ⟨m,hm,_⟩:=J.loc
   exact ⟨m,hm,fun h' hs'=>⟨.ref s2.heap.objs.size,Hc,comp_end I3 f3 J hs',rfl,q⟩⟩
 refine codeAny_compStart_list (loop _) ?_
 exact Tn.self _ 0 _ _ _ (Tn.keep _ _ _ t3 fun b _ o e=>hk b o e) (loop _)
theorem ps_comp {cl:List (Str × Addr)} {y:Str} {py spos:Pos} {i:Nat} (hc:X.calm = true) (T:CompTx X iter scope cl x fv js) (hN:X.N.Nodup) (hy:X.N[i]? = some y) (hl:X.env.scope.names.lookup y = some .local)
  (hsw:swapsWith (.ListComp elt [⟨.Name x px,iter,[],0⟩] scope pos) (some (.Name y py)) spos.line X.env = pure true)
  (hi:PI X (.Name x px) iter wi) (he:∀ pins fp s H,PE (X.comp pins scope cl (x :: fv) fp s H) elt te) :
  PS X (.Assign [.Name y py] (.ListComp elt [⟨.Name x px,iter,[],0⟩] scope pos) spos) (tAsg (tComp wi js te) (gName i)):=by
 intro pins s σ H D I h
 rw [exec_Assign_Name_used _ _ _ _ hsw]
 refine wpAny_bind (wpAny_standAt (wpAny_bind ?_))
 show wpAny _ X.A (do let _ ← comprehension (.ListComp elt [⟨.Name x px,iter,[],0⟩] scope pos) scope X.env _ (newList []) false (eval iter X.env) (some (assign (.Name y py) X.env))) _ _ s
 refine wpAny_bind (wpAny_mono (wpAny_comprehension_free (use:=some (assign (.Name y py) X.env)) (Q:=fun _ s'=>SP X pins D .next s') rfl T.fold T.clos T.kind T.names (thn (hi pins s σ H _ I h) fun v s1 h1=>thn h1 fun itv s2 h2=>?_)) (fun _ s' hq=>wpAny_pure (wpAny_pure hq)) fun _ _ e=>e)
 obtain ⟨it,fp,tn,J,H1,rfl,I2,Tn,t0,f2,hR⟩:=h2
 refine wpAny_newObj_type ?_
 have ho:∀ b ∈ fp,b ≠ s2.heap.objs.size:=fun b hb=>by
  obtain ⟨o,e,_⟩:=Tn.obj 0 _ t0 b hb
  exact Nat.ne_of_lt (Heap.lt_size e)
 have I3:Inv X pins σ (upd H1 s2.heap.objs.size (.lst [])) _:=I2.lnew (t':=s2.toks) (ys:=[]) (its:=[]) .nil (Nat.zero_le _)
 have f3:∀ b ∈ fp,FpOk X pins (upd H1 s2.heap.objs.size (.lst [])) b:=fun b hb=>⟨by rw [upd_ne (ho b hb)]; exact (f2 b hb).1,(f2 b hb).2⟩
 have t3:tn 0 (s2.heap.push { cls:=.type "list",data:=.seq ([]:List Value).toArray }):=Tn.keep _ _ _ t0 fun b _ o e=>Heap.get?_push_of_some _ e
 have hW:=hR s2.heap.objs.size (I2.hok.fresh (Nat.le_refl _))
 refine wpAny_newFunctionEnv T.nocell (by intro y hy; simp at hy) (fun h1 hn hs=>?_) T.kind
 have hk:∀ b o,(s2.heap.push { cls:=.type "list",data:=.seq ([]:List Value).toArray }).get? b = some o→h1.get? b = some o:=fun b o e =>
  (hs.2 b (Nat.ne_of_lt (Heap.lt_size e))).trans (Heap.get?_push_of_some _ e)
 have loop:=fun tk=>comp_loop (elt:=elt) (pos:=pos) (px:=px) (R:=compPost (model X.prog X.w) X.A X.xe (some (assign (.Name y py) X.env)) (fun _ s'=>SP X pins D .next s') (.ref s2.heap.objs.size) (s2.heap.push { cls:=.type "list",data:=.seq ([]:List Value).toArray }).objs.size) (tk:=tk) hc T I3 f3 Tn t3 hn hk (he pins fp _ _) hW
  fun Hc s1 J q=>by
   have I4:Inv X pins σ Hc s1:=comp_end I3 f3 J (Heap.SameBut.refl ..)
   obtain ⟨m,hm,_⟩:=J.loc
   have fr:Hc (s2.heap.push { cls:=.type "list",data:=.seq ([]:List Value).toArray }).objs.size = none:=J.free
   have Cge:X.s₀.heap.objs.size ≤ (s2.heap.push { cls:=.type "list",data:=.seq ([]:List Value).toArray }).objs.size:=I3.sz
   have CL:(s2.heap.push { cls:=.type "list",data:=.seq ([]:List Value).toArray }).objs.size ≠ X.env.locals:=fun e=>Nat.lt_irrefl _ (e ▸ I3.lt)
   show wpAny _ X.A (assign (.Name y py) X.env (.ref s2.heap.objs.size)) _ _ s1
   refine wpAny_assign_Name (store_ok2 I4 hN hy (.inl hl) (v:=.ref s2.heap.objs.size) rfl (fun s5 I5 ⟨a,hs5,ha⟩=>?_) (.inr hl))
   have hCa:(s2.heap.push { cls:=.type "list",data:=.seq ([]:List Value).toArray }).objs.size ≠ a:=by
    rcases ha with z | z
    ·rw [z]; exact CL
    ·obtain ⟨v,o,q,_⟩:=I3.cell y a z
     exact Nat.ne_of_gt (Heap.lt_size q)
   refine ⟨m,hm.sameBut hs5 hCa,fun h' hs'=>⟨σ.set i (some (.ref s2.heap.objs.size)),Hc,?_,q⟩⟩
   refine I5.turned (t':=s5.toks) (it:=(s2.heap.push { cls:=.type "list",data:=.seq ([]:List Value).toArray }).objs.size) (fun b o hb e=>(hs'.2 b hb).trans e) fr CL (.inr Cge) (fun z c e=>?_) fun p hp=>?_
   ·obtain ⟨v,o,q,_⟩:=I3.cell z c e
    exact Nat.ne_of_lt (Heap.lt_size q)
   ·obtain ⟨q,_⟩:=I3.pin p hp
    exact Nat.ne_of_lt (Heap.lt_size q)
 refine codeAny_compStart_list (loop _) ?_
 exact Tn.self _ 0 _ _ _ (Tn.keep _ _ _ t3 fun b _ o e=>hk b o e) (loop _)
end
theorem comp_range {lo:Int} {n:Nat} {te:TE} {fv:St} {Q:VK} {D:Addr} {H1:Hp} (Pv:Nat→List V→Hp→Prop) (hn:n ≤ sizeLine) (h0:Pv 0 [] (upd H1 D (.lst []))) (hD:∀ i ys Hc,i ≤ n→Pv i ys Hc→Hc D = some (.lst ys)∧ys.length = i)
  (hs:∀ (i:Nat) ys Hc (k:VK),i < n→Pv i ys Hc→(∀ y H3,H3 D = some (.lst ys)→Pv (i + 1) (ys ++ [y]) (upd H3 D (.lst (ys ++ [y])))→k y H3)→te (some (.int (lo + i)) :: fv) Hc k) (hd:∀ ys Hc,Pv n ys Hc→Q (.ref D) Hc) :
  CompW (Itr lo n) te fv Q D H1:=by
 refine ⟨fun i m ys Hc=>m = n - i∧i ≤ n∧Pv i ys Hc,⟨n,rfl,Nat.zero_le _,h0⟩,?_⟩
 rintro i m ys Hc ⟨rfl,hi,p⟩
 obtain ⟨d,l⟩:=hD i ys Hc hi p
 refine ⟨d,?_⟩
 by_cases hlt:i < n
 ·refine .inr ⟨hlt,by omega,?_⟩
  rintro x H' ⟨rfl,rfl⟩
  exact hs i ys _ _ hlt p fun y H3 a b=>⟨a,n - (i + 1),by omega,rfl,by omega,b⟩
 ·have e:i = n:=by omega
  subst e
  exact .inl ⟨Nat.le_refl _,hd ys Hc p⟩
theorem comp_list {K:PySem.W.Frag} {a:Addr} {xs:List V} {te:TE} {fv:St} {Q:VK} {D:Addr} {H1:Hp} (Pv:Nat→List V→Hp→Prop) (hn:xs.length ≤ sizeLine) (h0:Pv 0 [] (upd H1 D (.lst [])))
  (hD:∀ i ys Hc,i ≤ xs.length→Pv i ys Hc→Hc D = some (.lst ys)∧ys.length = i∧SqL K Hc a xs)
  (hs:∀ (i:Nat) x ys Hc (k:VK),xs[i]? = some x→Pv i ys Hc→(∀ y H3,H3 D = some (.lst ys)→Pv (i + 1) (ys ++ [y]) (upd H3 D (.lst (ys ++ [y])))→k y H3)→te (some x :: fv) Hc k) (hd:∀ ys Hc,Pv xs.length ys Hc→Q (.ref D) Hc) :
  CompW (Itl K a) te fv Q D H1:=by
 refine ⟨fun i m ys Hc=>m = xs.length - i∧i ≤ xs.length∧Pv i ys Hc,⟨xs.length,rfl,Nat.zero_le _,h0⟩,?_⟩
 rintro i m ys Hc ⟨rfl,hi,p⟩
 obtain ⟨d,l,q⟩:=hD i ys Hc hi p
 refine ⟨d,?_⟩
 by_cases hlt:i < xs.length
 ·refine .inr ⟨⟨xs,xs[i],q,by simp [hlt]⟩,by omega,?_⟩
  rintro x H' ⟨rfl,y⟩
  exact hs i x ys _ _ (y xs q) p fun y H3 a b=>⟨a,xs.length - (i + 1),by omega,rfl,by omega,b⟩
 ·have e:i = xs.length:=by omega
  subst e
  exact .inl ⟨⟨xs,q,Nat.le_refl _⟩,hd ys Hc p⟩
theorem same_upd {H:Hp} {D:Addr} {o:HO} (h:H D = none):Same H (upd H D o):=fun b u e=>by
 rw [upd_ne (ne_of_none e h)]
 exact e
theorem comp_list_pure {K:PySem.W.Frag} {a:Addr} {xs:List V} {te:TE} {fv:St} {Q:VK} {D:Addr} {H1:Hp} (f:V→V) (hn:xs.length ≤ sizeLine) (hq:SqL K H1 a xs) (hD:H1 D = none)
  (hs:∀ (i:Nat) x Hc (k:VK),xs[i]? = some x→Same H1 Hc→k (f x) Hc→te (some x :: fv) Hc k) (hd:Q (.ref D) (upd H1 D (.lst (xs.map f)))):CompW (Itl K a) te fv Q D H1:=by
 refine comp_list (fun i ys Hc=>ys = (xs.take i).map f∧Hc = upd H1 D (.lst ys)) hn ⟨rfl,rfl⟩ ?_ ?_ ?_
 ·rintro i ys Hc hi ⟨rfl,rfl⟩
  exact ⟨upd_same,by simp [Nat.min_eq_left hi],(same_upd hD).seq hq⟩
 ·rintro i x ys Hc k hi ⟨rfl,rfl⟩ h
  refine hs i x _ k hi (same_upd hD) (h _ _ upd_same ⟨?_,?_⟩)
  ·rw [List.take_succ,hi,List.map_append]; rfl
  ·rw [upd_upd]
 ·rintro ys Hc ⟨rfl,rfl⟩
  rw [List.take_length]
  exact hd
open PySem PySem.Spec PyProof.Rows PySem.SeqAt
section
variable {P:Program} {w:World} {K:PySem.W.Frag} {mg:Str→Option Value} {base:Heap}
theorem Fun.okX {x qual:Str} {st:Stmt} {f:Addr} {fd:FuncData} {N ps:List Str} {k:Nat} {sp:Sp} (F:Fun K x qual st f fd) (S:FnScope N ps (defScope st)) (len:∀ vs H Q E,sp vs H Q E→vs.length = ps.length)
  (hbody:∀ (cdv:Value) (A:Around) (outer:List Env) (s:Shared) (H:Hp) (vs:List V) (Q:VK) (E:XK),Room k (A.deeper (envOfC qual (defScope st) s.heap.objs.size f cdv))→sp vs H Q E →
   ∃ t,PSs (cxOf (CX1 P w) P w K mg base N qual (defScope st) f cdv A outer s H E) (defBody st) t∧t { nx:=fun _ H'=>Q .non H',rt:=Q } (start N vs) H):FnOk P w K mg base (CX1 P w) (k + 1) f fd ps sp:=by
 obtain ⟨oc,od,kV,doc,pm,an,cdv,ct,osl,rfl,lk,hcd⟩:=F.ex
 exact fn_of lk hcd S len fun A outer s H vs Q E hr hsp=>hbody cdv A outer s H vs Q E hr hsp
end
section
variable {X:Cx}
theorem call_allB (hc:X.calm = true):CallR X (.builtin "all") (fun xs H Q=>∃ (p:Addr) (bs:List Bool),xs = [.ref p]∧SqL X.K H p (bs.map V.bl)∧Q (.bl (bs.all id)) H):=by
 intro pins s σ H xs us Q I r h
 obtain ⟨p,bs,rfl,hq,q⟩:=h
 obtain ⟨u,rfl,rx⟩:=vals1 r
 cases rx
 obtain ⟨its,r',pl,hz⟩:=I.list hq
 have hl:=pl.isList
 have hlt:p < s.heap.objs.size:=by obtain ⟨_,e,_⟩:=hl; exact Heap.lt_size e
 have hlen:its.length = bs.length:=by rw [← r'.length,List.length_map]
 refine call_all_walk (wpAny_pyIter_list hl ?_)
 refine ⟨s.heap.objs.size,[s.heap.objs.size,p],[s.heap.objs.size],its.toArray.size,_,_,fun i=>(bs[i]?).getD true,rfl,Walks.list (A:=X.A.in1) (I.ok.hd hc) _ p (Nat.ne_of_lt hlt) its.toArray,
  ⟨⟨_,Heap.get?_push_size _ rfl,rfl,rfl⟩,hl.push _⟩,fun i v s' Q' E' hP hQ=>?_,fun h' tk hk=>?_⟩
 ·have hP':its[i]? = some v:=by simpa using hP
  have hi:i < bs.length:=by rw [← hlen]; exact (List.getElem?_eq_some_iff.mp hP').1
  obtain ⟨u,hu,ru⟩:=r'.get (i:=i) (x:=.bl bs[i]) (by simp [hi])
  rw [hP'] at hu
  cases hu
  cases (show v = Value.bool bs[i] from ru)
  simp only [List.getElem?_eq_getElem hi,Option.getD_some] at hQ
  exact wpAny_truthy_bool hQ
 ·have e:((List.range its.toArray.size).all fun i=>(bs[i]?).getD true) = bs.all id:=by
   rw [List.size_toArray,hlen]
   have g:∀ l:List Bool,((List.range l.length).all fun i=>(l[i]?).getD true) = l.all id:=fun l=>by
    induction l with
    | nil=>rfl
    | cons b l ih=>simp only [List.length_cons,List.range_succ_eq_map,List.all_cons,List.all_map,List.getElem?_cons_zero,Option.getD_some,id]; rw [← ih]; congr 1
   exact g bs
  rw [e]
  refine ⟨.bl (bs.all id),H,I.kept (t':=tk) fun b o e=>?_,rfl,q⟩
  exact hk b o (fun hm=>by rw [List.mem_singleton.mp hm] at e; exact Nat.lt_irrefl _ (Heap.lt_size e)) (Heap.get?_push_of_some _ e)
mutual
inductive Den (K:PySem.W.Frag) (H:Hp):V→PyData→Prop where
 | non:Den K H .non .none
 | bl (b:Bool):Den K H (.bl b) (.bool b)
 | int (i:Int):Den K H (.int i) (.int i)
 | str (x:Str):Den K H (.str x) (.str x)
 | lst {a:Addr} {xs:List V} {ds:List PyData}:SqL K H a xs→DenL K H xs ds→Den K H (.ref a) (.list ds)
inductive DenL (K:PySem.W.Frag) (H:Hp):List V→List PyData→Prop where
 | nil:DenL K H [] []
 | cons {x:V} {d:PyData} {xs:List V} {ds:List PyData}:Den K H x d→DenL K H xs ds→DenL K H (x :: xs) (d :: ds)
end
mutual
def noDict:PyData→Bool
 | .dict _=>false
 | .list xs=>noDictAll xs
 | .tuple xs=>noDictAll xs
 | .none=>true
 | .bool _=>true
 | .int _=>true
 | .str _=>true
def noDictAll:List PyData→Bool
 | []=>true
 | d :: r=>noDict d && noDictAll r
end
mutual
theorem Den.reads {P:Program} {w:World} {pins:List (Addr × Obj)} {σ:St} {H:Hp} {s:Shared} (I:Inv X pins σ H s):∀ {x:V} {d:PyData} {u:Value},Den X.K H x d→RelV x u→∃ as,Reads s.heap u d as
 | _,_,u,.non,r=>by cases (show u = Value.none from r); exact ⟨_,.none⟩
 | _,_,u,.bl b,r=>by cases (show u = Value.bool b from r); exact ⟨_,.bool b⟩
 | _,_,u,.int i,r=>by obtain ⟨t,e⟩:=(show ∃ t,u = Value.int i t from r); cases e; exact ⟨_,.int i t⟩
 | _,_,u,.str x,r=>by obtain ⟨t,e⟩:=(show ∃ t,u = Value.str x t from r); cases e; exact ⟨_,.str x t⟩
 | _,_,u,.lst (a:=a) h l,r=>by
  cases (show u = Value.ref a from r)
  obtain ⟨its,rv,⟨o,n,e,c,_,d⟩,_⟩:=I.list h
  obtain ⟨as,q⟩:=DenL.reads (P:=P) (w:=w) I l rv
  exact ⟨_,.list e c d (by simpa using q)⟩
theorem DenL.reads {P:Program} {w:World} {pins:List (Addr × Obj)} {σ:St} {H:Hp} {s:Shared} (I:Inv X pins σ H s):∀ {xs:List V} {ds:List PyData} {us:List Value},DenL X.K H xs ds→Vals xs us→∃ as,ReadsAll s.heap us ds as
 | _,_,_,.nil,.nil=>⟨_,.nil⟩
 | _,_,_,.cons h l,.cons r rr=>by
  obtain ⟨as,q⟩:=Den.reads (P:=P) (w:=w) I h r
  obtain ⟨bs,q2⟩:=DenL.reads (P:=P) (w:=w) I l rr
  exact ⟨_,.cons q q2⟩
end
end
section
variable {X:Cx}
theorem op_ne_data (hu:X.A.units + 64 < cLine):OpR X (compareOp .NotEq) (fun x y H Q=>∃ d e,Den X.K H x d∧Den X.K H y e∧shaped d = true∧shaped e = true∧noMix d e = true∧Q (.bl (!same d e)) H):=by
 intro pins s σ H x y v u Q I rx ry h
 obtain ⟨d,e,hx,hy,sd,se,nm,q⟩:=h
 obtain ⟨as,ra⟩:=hx.reads (P:=X.prog) (w:=X.w) I rx
 obtain ⟨bs,rb⟩:=hy.reads (P:=X.prog) (w:=X.w) I ry
 exact ne_dataH_same ra rb sd se hu nm ⟨.bl (!same d e),H,I,rfl,q⟩
def clsV:V→Value
 | .ref a=>.ref a
 | .ty n=>.type n
 | _=>.none
theorem call_isi:CallR X (.builtin "isinstance") (fun xs H Q=>∃ x c t b,xs = [x,c]∧((∃ a,c = .ref a)∨∃ n,c = .ty n)∧TyOf X.K H x t∧PySem.W.kitOne X.K t (clsV c) = some b∧Q (.bl b) H):=by
 intro pins s σ H xs us Q I r h
 obtain ⟨x,c,t,b,rfl,hc,ty,k,q⟩:=h
 obtain ⟨u,w',rfl,ru,rw'⟩:=vals2 r
 have e:w' = clsV c:=by
  rcases hc with ⟨a,rfl⟩ | ⟨n,rfl⟩
  ·exact rw'
  ·exact rw'
 subst e
 exact isinst_ok I ru ty k fun tk=>⟨.bl b,H,I.tok _,rfl,q⟩
theorem pe_fstr2 {x:Str} {j:Nat} {p1 p2 pos:Pos} {v:Expr} {tv:TE} (hv:PE X v tv) (hx:x.length ≤ sizeLine):PE X (.JoinedStr [.Constant (.str x) j p1,.FormattedValue v (-1) none p2] pos)
  (fun σ H Q=>tv σ H fun y H1=>∃ i,y = .int i∧i.natAbs.log2 < 1920∧x.length + (toString i:Str).length ≤ sizeLine∧Q (.str (Str.empty ++ x ++ toString i)) H1):=by
 intro pins s σ H Q I h
 refine JoinedStr_many (joinParts_cons (thn (pe_str (x:=x) (j:=j) (pos:=p1) pins s σ H (fun v H1=>v = .str x∧H1 = H) I ⟨rfl,rfl⟩) fun u s1 z=>?_))
 obtain ⟨v',H1,I1,r1,rfl,rfl⟩:=z
 obtain ⟨t,rfl⟩:=(show ∃ t,u = Value.str x t from r1)
 have e0:(Str.empty ++ x).length = x.length:=by rw [strLen_append]; exact Nat.zero_add _
 refine ⟨?_,joinParts_cons (FormattedValue_plain (thn (hv pins s1 σ _ _ I1 h) fun u2 s2 z=>?_))⟩
 ·rw [e0]; exact hx
 ·obtain ⟨y,H2,I2,r2,i,rfl,hi,hz,q⟩:=z
  obtain ⟨t2,rfl⟩:=(show ∃ t,u2 = Value.int i t from r2)
  refine formatField_int_small hi ⟨?_,joinParts_nil ?_ ?_⟩
  ·rw [strLen_append,e0]; exact hz
  ·exact ⟨.str _,H2,I2.tok _,⟨_,rfl⟩,q⟩
  ·rw [strLen_append,e0]; exact hz
end
structure Loose (H₀:Hp) (a:Addr):Prop where
 f:∀ o u,H₀ a ≠ some (.frz o u)
 t:∀ xs,H₀ a ≠ some (.tup xs)
 b:∀ ps,H₀ a ≠ some (.tbl ps)
section
variable {X:Cx} {pins:List (Addr × Obj)} {σ:St} {H:Hp} {s:Shared} {a:Addr} {o:Obj} {kvs:List (Key × V)}
theorem Inv.loose (I:Inv X pins σ H s) (e:H a = some (.dK kvs)):Loose X.H₀ a :=
 ⟨fun o u z=>(by have:=I.base.frzs a o u z; rw [e] at this; cases this),fun xs z=>(by have:=I.base.tups a xs z; rw [e] at this; cases this),fun ps z=>(by obtain ⟨m,q⟩:=I.base.tbls a ps z; rw [e] at q; cases q)⟩
theorem Inv.redo {u v:HO} (I:Inv X pins σ H s) (e:H a = some u) (hu:∀ xs,u ≠ .tup xs) (ho:∀ b,u ≠ .own b) (L:Loose X.H₀ a) (new:ObjOk X.prog X.w H s.heap a v):Inv X pins σ (upd H a v) s:=by
 have k:∀ b w',H b = some w'→b ≠ a→upd H a v b = some w':=fun b w' q n=>by rw [upd_ne n]; exact q
 have tt:∀ b xs,H b = some (.tup xs)→upd H a v b = some (.tup xs):=fun b xs q=>k b _ q fun z=>by subst z; rw [e] at q; cases q; exact hu xs rfl
 have oo:∀ b c,H b = some (.own c)→upd H a v b = some (.own c):=fun b c q=>k b _ q fun z=>by subst z; rw [e] at q; cases q; exact ho c rfl
 have nn:∀ b,H b = none→upd H a v b = none:=fun b q=>by rw [upd_ne (fun z=>by subst z; rw [e] at q; cases q)]; exact q
 refine ⟨I.ok,I.os,I.bare,⟨I.base.keep,I.base.slot,fun b o' q n hx=>nn b (I.base.free b o' q n hx),I.base.there,fun b xs q=>tt b xs (I.base.tups b xs q),fun b o' u' q=>?_,fun b ps q=>?_⟩,I.loc,I.cell,nn _ I.free,fun x c q=>nn c (I.freeC x c q),fun p hp=>?_,fun b ob q=>?_,I.len⟩
 ·exact k b _ (I.base.frzs b o' u' q) fun z=>by subst z; exact L.f _ _ q
 ·obtain ⟨m,q'⟩:=I.base.tbls b ps q
  exact ⟨m,k b _ q' fun z=>by subst z; exact L.b _ q⟩
 ·obtain ⟨p1,p2,p3⟩:=I.pin p hp
  exact ⟨p1,nn _ p2,p3⟩
 ·by_cases z:b = a
  ·subst z
   rw [upd_same] at q
   cases q
   exact new.stay (fun _ _ _ q=>q) (fun c q=>oo c _ q) tt
  ·rw [upd_ne z] at q
   exact (I.hok b ob q).stay (fun _ _ _ q=>q) (fun c q=>oo c _ q) tt
theorem Inv.freeze (I:Inv X pins σ H s) (e:H a = some (.dK kvs)) (ho:s.heap.get? a = some o):Inv X pins σ (upd H a (.frz o (.dK kvs))) s :=
 I.redo e (fun _ z=>nomatch z) (fun _ z=>nomatch z) (I.loose e) ⟨ho,I.hok a _ e⟩
theorem Inv.thaw (I:Inv X pins σ H s) (L:Loose X.H₀ a) (e:H a = some (.frz o (.dK kvs))):Inv X pins σ (upd H a (.dK kvs)) s :=
 I.redo e (fun _ z=>nomatch z) (fun _ z=>nomatch z) L (I.hok a _ e).2
end
def Itd (a:Addr) (o:Obj) (kvs:List (Key × V)):It :=
 ⟨fun i H=>H a = some (.frz o (.dK kvs))∧i < kvs.length,fun i H x H'=>H' = H∧∃ p,kvs[i]? = some p∧x = kV p.1,fun i H=>H a = some (.frz o (.dK kvs))∧kvs.length ≤ i⟩
def epOf (o:Obj):Nat:=match o.data with | .dict _ ep=>ep | _=>0
theorem frz_dict {X:Cx} {pins:List (Addr × Obj)} {σ:St} {H:Hp} {s:Shared} {a:Addr} {o:Obj} {kvs:List (Key × V)} (I:Inv X pins σ H s) (e:H a = some (.frz o (.dK kvs))) :
  (a == sysModules) = false∧∃ vs,KV kvs vs∧s.heap.DictAt (mixKind X.prog X.w) a vs (epOf o):=by
 obtain ⟨ho,_,hd,vs,r,o',es,ep,e1,e2,e3,e4⟩:=I.hok a _ e
 rw [ho] at e1
 cases e1
 have ee:epOf o = ep:=by unfold epOf; rw [e3]
 exact ⟨hd,vs,r,o,es,ho,e2,by rw [ee]; exact e3,e4⟩
theorem kV_of_is {k:Key} {u:Value} (h:keyIs k u = true):RelV (kV k) u:=by
 rcases keyIs_shape h with ⟨i,t,rfl,rfl⟩ | ⟨x,t,rfl,rfl⟩
 ·exact ⟨t,rfl⟩
 ·exact ⟨t,rfl⟩
theorem turn_dict {P:Program} {w:World} {K:PySem.W.Frag} {tg:Expr} (a it:Addr) (o:Obj) (kvs:List (Key × V)) (hne:a ≠ it):Turn P w K tg (Itd a o kvs) [it] it (fun i h=>h.IsKeyIter it a i kvs.length (epOf o)) where
 mem:=by simp
 obj:=fun i h st b hb=>by
  have e:b = it:=by simpa using hb
  subst e
  obtain ⟨o,e,c,d⟩:=st
  exact ⟨o,e,fun v z=>by rw [d] at z; cases z⟩
 keep:=fun i h h' st k=>st.at fun o e=>k it (by simp) o e
 item:=by
  intro X hP hw hK hc i pins s σ H E I hf st hg
  subst hP hw hK
  obtain ⟨e,hi⟩:=hg
  obtain ⟨hd,vs,r,D⟩:=frz_dict I e
  have hlen:=r.length
  obtain ⟨p,hp⟩:∃ p,kvs[i]? = some p:=⟨kvs[i],by simp [hi]⟩
  have hk:vs[i]?.map (·.1) = some p.1:=by
   have q:=congrArg (fun l=>l[i]?) r.keys
   simp only [List.getElem?_map] at q
   rw [hp] at q
   exact q.symm
  obtain ⟨⟨k',v⟩,hx,e2⟩:=Option.map_eq_some_iff.mp hk
  obtain ⟨f0,f1,f2,f3,f4,f5⟩:=hf it (by simp)
  have st':s.heap.IsKeyIter it a i vs.length (epOf o):=by rw [← hlen]; exact st
  refine wpAny_pyNext_dict_item st' D hx fun key h' hkey st2 sb=>?_
  have I1:Inv X pins σ H { s with heap:=h' }:=I.turned (t':=s.toks) (fun b o hb e=>(sb.2 b hb).trans e) f0 f1 f3 f4 f5
  obtain ⟨o2,e3,c3,d3⟩:=id st2
  have ek:k' = p.1:=e2
  refine ⟨key,rfl,go_of (s:={ s with heap:=h' }) e3 c3 d3 (by decide) ⟨kV p.1,H,I1,kV_of_is (by rw [← ek]; exact hkey),⟨rfl,p,hp,rfl⟩,by rw [hlen]; exact st2,fun b hb=>(hf b hb).1⟩⟩
 done:=by
  intro X hP hw hK hc i pins s σ H E I hf st hg
  subst hP hw hK
  obtain ⟨e,hi⟩:=hg
  obtain ⟨hd,vs,r,D⟩:=frz_dict I e
  have hlen:=r.length
  obtain ⟨f0,f1,f2,f3,f4,f5⟩:=hf it (by simp)
  have st':s.heap.IsKeyIter it a i vs.length (epOf o):=by rw [← hlen]; exact st
  exact wpAny_pyNext_dict_end (I.ok.hd hc) st' D (by simp; omega) fun h' eb=>⟨rfl,I.turned (t':=s.toks) (fun b o hb e=>eb b o hb e) f0 f1 f3 f4 f5⟩
 self:=fun _ _ _ _ _ st h=>wpAny_pyIter_keyiter st h
section
variable {X:Cx} {tg:Expr}
def iDict (H₀:Hp) (tl:TE):TI:=fun σ H R=>tl σ H fun x H1=>∃ a kvs,x = .ref a∧H1 a = some (.dK kvs)∧(Loose H₀ a→∀ o,R (Itd a o kvs) (upd H1 a (.frz o (.dK kvs))))
theorem pi_dict {l:Expr} {tl:TE} (hl:PE X l tl):PI X tg l (iDict X.H₀ tl):=by
 intro pins s σ H R I h
 refine thn (hl pins s σ H _ I h) fun v s1 ⟨x,H1,I1,r1,q1⟩=>?_
 obtain ⟨a,kvs,e,hq,q⟩:=q1
 subst e
 cases r1
 obtain ⟨o,ho⟩:=(I1.hok a _ hq).ex
 have I2:=I1.freeze hq ho
 obtain ⟨hd,vs,r,D⟩:=frz_dict I2 upd_same
 have hlen:=r.length
 refine wpAny_pyIter_dict hd D ?_
 have hlt:=Heap.lt_size ho
 refine ⟨s1.heap.objs.size,[s1.heap.objs.size],_,_,_,rfl,I2.kept (t':=s1.toks) fun b o e=>Heap.get?_push_of_some _ e,turn_dict a _ o kvs (Nat.ne_of_lt hlt),⟨_,Heap.get?_push_size _ rfl,rfl,by rw [hlen]; rfl⟩,fun b hb=>?_,q (I1.loose hq) o⟩
 have e:b = s1.heap.objs.size:=by simpa using hb
 subst e
 exact I2.fpOk (Nat.le_refl _) (I2.hok.fresh (Nat.le_refl _))
def thawed (H₀:Hp) (P:Hp→Prop) (H:Hp):Prop:=∃ a o kvs,Loose H₀ a∧H a = some (.frz o (.dK kvs))∧P (upd H a (.dK kvs))
def endsD (H₀:Hp) (D:Ends):Ends:={ nx:=fun σ=>thawed H₀ (D.nx σ),rt:=fun v=>thawed H₀ (D.rt v),bk:=fun σ=>thawed H₀ (D.bk σ),ct:=fun σ=>thawed H₀ (D.ct σ) }
def tThaw (H₀:Hp) (t:TS):TS:=fun D σ H=>t (endsD H₀ D) σ H
theorem ps_thaw {st:Stmt} {t:TS} (h:PS X st t):PS X st (tThaw X.H₀ t):=by
 intro pins s σ H D I q
 refine thn (h pins s σ H (endsD X.H₀ D) I q) fun f s1 z=>?_
 cases f with
 | next=>obtain ⟨σ',H',I',a,o,kvs,L,e,z⟩:=z; exact ⟨σ',_,I'.thaw L e,z⟩
 | brk=>obtain ⟨σ',H',I',a,o,kvs,L,e,z⟩:=z; exact ⟨σ',_,I'.thaw L e,z⟩
 | cont=>obtain ⟨σ',H',I',a,o,kvs,L,e,z⟩:=z; exact ⟨σ',_,I'.thaw L e,z⟩
 | ret u=>obtain ⟨v,σ',H',I',r,a,o,kvs,L,e,z⟩:=z; exact ⟨v,σ',_,I'.thaw L e,r,z⟩
end
theorem for_dict {a:Addr} {o:Obj} {kvs:List (Key × V)} {g:TG} {tb:TS} {D:Ends} {σ:St} {H:Hp} (Pv:Nat→St→Hp→Prop) (h0:Pv 0 σ H) (hl:∀ i σ H,i ≤ kvs.length→Pv i σ H→H a = some (.frz o (.dK kvs)))
  (hs:∀ i p σ H,kvs[i]? = some p→Pv i σ H→g (kV p.1) σ H fun σ2 H2=>tb { D with nx:=Pv (i + 1),ct:=Pv (i + 1),bk:=D.nx } σ2 H2) (hd:∀ σ H,Pv kvs.length σ H→D.nx σ H) :
  ∃ W:Nat→Nat→St→Hp→Prop,(∃ m,W 0 m σ H)∧∀ i m σ H,W i m σ H →
   ((Itd a o kvs).stop i H∧D.nx σ H)∨((Itd a o kvs).go i H∧∃ N:St→Hp→Prop,(∀ σ' H',N σ' H'→∃ m',m' < m∧W (i + 1) m' σ' H')∧∀ x H',(Itd a o kvs).yld i H x H'→g x σ H' fun σ2 H2=>tb { D with nx:=N,ct:=N,bk:=D.nx } σ2 H2):=by
 refine ⟨fun i m σ H=>m = kvs.length - i∧i ≤ kvs.length∧Pv i σ H,⟨kvs.length,by simp,Nat.zero_le _,h0⟩,?_⟩
 rintro i m σ H ⟨rfl,hi,p⟩
 have q:=hl i σ H hi p
 by_cases hlt:i < kvs.length
 ·refine .inr ⟨⟨q,hlt⟩,Pv (i + 1),fun σ' H' p'=>⟨kvs.length - (i + 1),by omega,rfl,hlt,p'⟩,fun x H' y=>?_⟩
  obtain ⟨rfl,p',e,rfl⟩:=y
  exact hs i p' σ _ e p
 ·have e:i = kvs.length:=by omega
  subst e
  exact .inl ⟨⟨q,Nat.le_refl _⟩,hd σ H p⟩
open PySem PySem.Spec PyProof.Rows PySem.W
section
variable {prog:Program} {w:World} {A:Around} {E:Value→Shared→Prop} {K:PySem.W.Frag} {a C:Addr} {h:Heap} {g:Array GenState} {d:Drawn} {t:Nat} {os:OsState} {oe:Obj}
theorem ga_check_exc {M:Model} {nameV:Value} {Q:Unit→Shared→Prop} (X:K.In h) (hx:h.get? a = some oe) (hc:oe.cls = .ref C) (hb:mroIn K C (.type "BaseException") = some true)
  (q:Q () ⟨h,g,d,t,os⟩):wpAny M A (checkBuiltinCall "BaseException.__getattribute__" ⟨[.ref a,nameV],[]⟩) Q E ⟨h,g,d,t,os⟩:=by
 have hk:builtinKind "BaseException.__getattribute__" = some .slot:=by decide +kernel
 have hsplit:splitId "BaseException.__getattribute__" = some ("BaseException","__getattribute__"):=by decide +kernel
 have L0:Looks M h (typeOf (.ref a)) (.ref C):=hc ▸ (Looks.ld hx).andThen .now
 have L1:=looks_mroIn (M:=M) X hb
 have LI:Looks M h (isInstance (.ref a) (.type "BaseException")) true:=L0.andThen L1
 have ha:=PySem.F.args_bexc_ga (.ref a) nameV
 simp only [checkBuiltinCall,hk,hsplit]
 refine wpAny_bind (LI.at ?_)
 repeat wp_step
 exact q
end
section
variable {X:Cx} {pins:List (Addr × Obj)} {σ:L2.St} {H:Hp} {s:Shared}
end
section
variable {X:Cx}
end
section
variable {X:Cx}
theorem op_le_str:OpR X (compareOp .LtE) (fun x y H Q=>∃ i j,x = .str i∧y = .str j∧Q (.bl (!decide (j.cps.toList < i.cps.toList))) H):=by
 intro pins s σ H x y v u Q I rx ry h
 obtain ⟨i,j,rfl,rfl,q⟩:=h
 obtain ⟨t,rfl⟩:=rx
 obtain ⟨t',rfl⟩:=ry
 exact PySem.P.le_str (fin_bl I q rfl)
def cutL (cs:List Nat) (lo hi:Option Int):List Nat:=(cs.drop (HT.sIx cs.length 0 lo)).take (HT.sIx cs.length cs.length hi - HT.sIx cs.length 0 lo)
def cutS (z:Str) (lo hi:Option Int):Str:=⟨(cutL z.cps.toList lo hi).toArray⟩
theorem picked_cut (z:Str) (lo hi:Option Int):(Builtin.Str.strSliceIndices lo hi 1 z.length).filterMap (z.cps[·]?) = cutL z.cps.toList lo hi:=by
 have hl:z.cps.toList.length = z.length:=by simp [Str.length]
 have h1:Builtin.Str.strSliceIndices lo hi 1 z.length = sliceRange ((HT.sIx z.length 0 lo:Nat):Int) ((HT.sIx z.length z.length hi:Nat):Int) 1:=by
  unfold Builtin.Str.strSliceIndices
  simp only [show (1:Int) > 0 by decide,if_true]
  congr 1
  ·cases lo with
   | none=>rfl
   | some i =>
    unfold HT.sIx
    by_cases h:i < 0
    ·simp only [h,if_true]; omega
    ·simp only [h,if_false]; omega
  ·cases hi with
   | none=>rfl
   | some i =>
    unfold HT.sIx
    by_cases h:i < 0
    ·simp only [h,if_true]; omega
    ·simp only [h,if_false]; omega
 rw [h1,sliceRange_one,pick_run]
 unfold cutL
 rw [hl]
theorem picked_len (lo hi:Option Int) (n:Nat):(Builtin.Str.strSliceIndices lo hi 1 n).length = HT.sIx n n hi - HT.sIx n 0 lo:=by
 have h1:Builtin.Str.strSliceIndices lo hi 1 n = sliceRange ((HT.sIx n 0 lo:Nat):Int) ((HT.sIx n n hi:Nat):Int) 1:=by
  unfold Builtin.Str.strSliceIndices
  simp only [show (1:Int) > 0 by decide,if_true]
  congr 1
  ·cases lo with
   | none=>rfl
   | some i =>
    unfold HT.sIx
    by_cases h:i < 0
    ·simp only [h,if_true]; omega
    ·simp only [h,if_false]; omega
  ·cases hi with
   | none=>rfl
   | some i =>
    unfold HT.sIx
    by_cases h:i < 0
    ·simp only [h,if_true]; omega
    ·simp only [h,if_false]; omega
 rw [h1,sliceRange_one]
 simp
theorem cutL_whole {cs:List Nat} {lo hi:Option Int} (h:HT.sIx cs.length cs.length hi - HT.sIx cs.length 0 lo = cs.length):cutL cs lo hi = cs:=by
 unfold cutL
 have a:=HT.sIx_le cs.length cs.length (Nat.le_refl _) hi
 have e:cs.length = 0∨HT.sIx cs.length 0 lo = 0:=by omega
 rcases e with e | e
 ·have:cs = []:=List.length_eq_zero_iff.mp e
  subst this
  simp
 ·rw [e] at h ⊢
  rw [List.drop_zero]
  exact List.take_of_length_le (by omega)
def rSlS:V→Option Int→Option Int→Hp→VK→Prop:=fun x lo hi H Q=>∃ z,x = .str z∧z.length ≤ sizeLine∧Q (.str (cutS z lo hi)) H
theorem isSlice_of {h:Heap} {sl:Addr} {vl vu:Value} {lo hi:Option Int} (hs:h.IsSliceOf sl vl vu .none) (pl:IsPart vl lo) (pu:IsPart vu hi):∃ l u,h.IsSlice sl l u none∧l.map (·.1) = lo∧u.map (·.1) = hi:=by
 obtain ⟨o,e,c,d⟩:=hs
 cases pl with
 | none =>
  cases pu with
  | none=>exact ⟨none,none,⟨o,e,c,d⟩,rfl,rfl⟩
  | int j t=>exact ⟨none,some (j,t),⟨o,e,c,d⟩,rfl,rfl⟩
 | int i t =>
  cases pu with
  | none=>exact ⟨some (i,t),none,⟨o,e,c,d⟩,rfl,rfl⟩
  | int j t'=>exact ⟨some (i,t),some (j,t'),⟨o,e,c,d⟩,rfl,rfl⟩
theorem sl_str:SlR X rSlS:=by
 intro pins s σ H x v vl vu lo hi sl Q I rx hs pl pu h
 obtain ⟨z,rfl,hz,q⟩:=h
 obtain ⟨t,rfl⟩:=rx
 refine ⟨"str",_,slot_str_getitem.lookup,typeIs_str s z t,?_⟩
 obtain ⟨l,u,hS,el,eu⟩:=isSlice_of hs pl pu
 refine wpAny_getItem_str_slice hS rfl ?_
 have hl:z.cps.toList.length = z.length:=by simp [Str.length]
 have hpk:slicePicked z l u none = Builtin.Str.strSliceIndices lo hi 1 z.length:=by
  unfold slicePicked
  rw [el,eu]
  rfl
 unfold sliceMade
 rw [hpk]
 have hp:=picked_cut z lo hi
 by_cases hw:(Builtin.Str.strSliceIndices lo hi 1 z.length).length = z.length
 ·have e1:((((none:Option (Int × Tok)).map (·.1)).getD 1 == 1 && (Builtin.Str.strSliceIndices lo hi 1 z.length).length == z.length) = true):=by rw [hw]; simp
  rw [if_pos e1]
  have e2:cutS z lo hi = z:=by
   unfold cutS
   rw [cutL_whole (by rw [hl,← picked_len]; exact hw)]
  rw [e2] at q
  exact ⟨.str z,H,I,⟨_,rfl⟩,q⟩
 ·have e1:¬ ((((none:Option (Int × Tok)).map (·.1)).getD 1 == 1 && (Builtin.Str.strSliceIndices lo hi 1 z.length).length == z.length) = true):=by
   simp [hw]
  rw [if_neg e1,hp]
  refine ⟨?_,?_⟩
  ·show (cutL z.cps.toList lo hi).toArray.size ≤ sizeLine
   rw [List.size_toArray]
   unfold cutL
   rw [List.length_take,List.length_drop]
   omega
  ·exact ⟨.str (cutS z lo hi),H,I.tok _,⟨_,rfl⟩,q⟩
theorem call_int_text:CallR X (.type "int") (fun xs H Q=>∃ z n,xs = [.str z]∧PySem.intText? z = some n∧z.length ≤ 640∧Q (.int n) H):=by
 intro pins s σ H xs us Q I r h
 obtain ⟨z,n,rfl,hn,hl,q⟩:=h
 obtain ⟨u,rfl,t,rfl⟩:=vals1 r
 exact PySem.W.KIN.call_text hn hl ⟨.int n,H,I.tok _,⟨_,rfl⟩,q⟩
def rCount:V→List V→Hp→VK→Prop:=fun x vs H Q=>∃ z y,x = .str z∧vs = [.str y]∧Q (.int ((Builtin.Str.occurrences z y 0 z.length (z.length + 1)).length:Nat)) H
theorem mt_count:MtM X "str.count" rCount:=by
 intro pins s σ H x vs v us Q I rx rv h
 obtain ⟨z,y,rfl,rfl,q⟩:=h
 obtain ⟨t,rfl⟩:=rx
 obtain ⟨u,rfl,t',rfl⟩:=vals1 rv
 refine call_gives F.slot_str_count (typeIs_str s z t) F.entry_str_count (F.args_str_count_2 _ _) (gives_str_count z y t t') ?_
 exact ⟨.int _,H,I.tok _,⟨_,rfl⟩,q⟩
def Its (z:Str):It:=⟨fun i _=>i < z.cps.toList.length,fun i H x H'=>H' = H∧∃ c,z.cps.toList[i]? = some c∧x = .str ⟨#[c]⟩,fun i _=>z.cps.toList.length ≤ i⟩
end
theorem turn_strA {P:Program} {w:World} {K:PySem.W.Frag} {tg:Expr} (z:Str) (t:Tok) (it:Addr):Turn P w K tg (Its z) [it] it (fun i h=>h.IsStrIter it "str_ascii_iterator" z t i) where
 mem:=by simp
 obj:=fun i h st b hb=>by
  have e:b = it:=by simpa using hb
  subst e
  obtain ⟨o,e,c,d⟩:=st
  exact ⟨o,e,fun v z=>by rw [d] at z; cases z⟩
 keep:=fun i h h' st k=>by
  obtain ⟨o,e,r⟩:=st
  exact ⟨o,k it (by simp) o e,r⟩
 item:=by
  intro X hP hw hK hc i pins s σ H E I hf st hg
  subst hP hw hK
  have hi:i < z.cps.toList.length:=hg
  obtain ⟨f0,f1,f2,f3,f4,f5⟩:=hf it (by simp)
  have hx:z.cps[i]? = some (z.cps.toList[i]):=by rw [← Array.getElem?_toList,List.getElem?_eq_getElem hi]
  refine wpAny_pyNext_ascii_item st hx fun h' st' sb=>?_
  have I1:Inv X pins σ H { s with heap:=h',toks:=s.toks + 1 }:=I.turned (t':=s.toks + 1) (fun b o hb e=>(sb.2 b hb).trans e) f0 f1 f3 f4 f5
  obtain ⟨o,e,c,d⟩:=id st'
  exact ⟨_,rfl,go_of (s:={ s with heap:=h',toks:=s.toks + 1 }) e c d (by decide) ⟨.str ⟨#[z.cps.toList[i]]⟩,H,I1,⟨_,rfl⟩,⟨rfl,_,List.getElem?_eq_getElem hi,rfl⟩,st',fun b hb=>(hf b hb).1⟩⟩
 done:=by
  intro X hP hw hK hc i pins s σ H E I hf st hg
  subst hP hw hK
  have hi:z.cps.toList.length ≤ i:=hg
  obtain ⟨f0,f1,f2,f3,f4,f5⟩:=hf it (by simp)
  exact wpAny_pyNext_ascii_end (I.ok.hd hc) st (by simpa using hi) fun h' eb=>⟨rfl,I.turned (t':=s.toks) (fun b o hb e=>eb b o hb e) f0 f1 f3 f4 f5⟩
 self:=fun _ _ _ _ _ st h=>wpAny_pyIter_striter_ascii st h
theorem turn_strW {P:Program} {w:World} {K:PySem.W.Frag} {tg:Expr} (z:Str) (t:Tok) (it:Addr):Turn P w K tg (Its z) [it] it (fun i h=>h.IsStrIter it "str_iterator" z t i) where
 mem:=by simp
 obj:=fun i h st b hb=>by
  have e:b = it:=by simpa using hb
  subst e
  obtain ⟨o,e,c,d⟩:=st
  exact ⟨o,e,fun v z=>by rw [d] at z; cases z⟩
 keep:=fun i h h' st k=>by
  obtain ⟨o,e,r⟩:=st
  exact ⟨o,k it (by simp) o e,r⟩
 item:=by
  intro X hP hw hK hc i pins s σ H E I hf st hg
  subst hP hw hK
  have hi:i < z.cps.toList.length:=hg
  obtain ⟨f0,f1,f2,f3,f4,f5⟩:=hf it (by simp)
  have hx:z.cps[i]? = some (z.cps.toList[i]):=by rw [← Array.getElem?_toList,List.getElem?_eq_getElem hi]
  refine wpAny_pyNext_wide_item st hx fun h' st' sb=>?_
  have I1:Inv X pins σ H { s with heap:=h',toks:=s.toks + 1 }:=I.turned (t':=s.toks + 1) (fun b o hb e=>(sb.2 b hb).trans e) f0 f1 f3 f4 f5
  obtain ⟨o,e,c,d⟩:=id st'
  exact ⟨_,rfl,go_of (s:={ s with heap:=h',toks:=s.toks + 1 }) e c d (by decide) ⟨.str ⟨#[z.cps.toList[i]]⟩,H,I1,⟨_,rfl⟩,⟨rfl,_,List.getElem?_eq_getElem hi,rfl⟩,st',fun b hb=>(hf b hb).1⟩⟩
 done:=by
  intro X hP hw hK hc i pins s σ H E I hf st hg
  subst hP hw hK
  have hi:z.cps.toList.length ≤ i:=hg
  obtain ⟨f0,f1,f2,f3,f4,f5⟩:=hf it (by simp)
  exact wpAny_pyNext_wide_end (I.ok.hd hc) st (by simpa using hi) fun h' eb=>⟨rfl,I.turned (t':=s.toks) (fun b o hb e=>eb b o hb e) f0 f1 f3 f4 f5⟩
 self:=fun _ _ _ _ _ st h=>wpAny_pyIter_striter_wide st h
section
variable {X:Cx} {tg:Expr}
def iStr (tl:TE):TI:=fun σ H R=>tl σ H fun x H1=>∃ z,x = .str z∧R (Its z) H1
theorem pi_str {l:Expr} {tl:TE} (hl:PE X l tl):PI X tg l (iStr tl):=by
 intro pins s σ H R I h
 refine thn (hl pins s σ H _ I h) fun v s1 ⟨x,H1,I1,r1,q1⟩=>?_
 obtain ⟨z,e,q⟩:=q1
 subst e
 obtain ⟨t,rfl⟩:=r1
 have fin:∀ (o:Obj) (tn:Nat→Heap→Prop),(Turn X.prog X.w X.K tg (Its z) [s1.heap.objs.size] s1.heap.objs.size tn)→tn 0 (s1.heap.push o)→PIE X pins σ tg R (.ref s1.heap.objs.size) { s1 with heap:=s1.heap.push o }:=fun o tn T st=>by
  refine ⟨s1.heap.objs.size,[s1.heap.objs.size],tn,_,H1,rfl,I1.kept (t':=s1.toks) fun b o e=>Heap.get?_push_of_some _ e,T,st,fun b hb=>?_,q⟩
  have e:b = s1.heap.objs.size:=by simpa using hb
  subst e
  exact I1.fpOk (Nat.le_refl _) (I1.hok.fresh (Nat.le_refl _))
 cases ha:z.cps.all (· < 128)
 ·exact wpAny_pyIter_wide ha (fin _ _ (turn_strW z t _) ⟨_,Heap.get?_push_size _ rfl,rfl,rfl⟩)
 ·exact wpAny_pyIter_ascii ha (fin _ _ (turn_strA z t _) ⟨_,Heap.get?_push_size _ rfl,rfl,rfl⟩)
end
theorem comp_str_pure {z:Str} {te:TE} {fv:L2.St} {Q:VK} {D:Addr} {H1:Hp} (f:Nat→V) (hn:z.length ≤ sizeLine) (hD:H1 D = none) (hs:∀ (i:Nat) c Hc (k:VK),z.cps.toList[i]? = some c→Same H1 Hc→k (f c) Hc→te (some (.str ⟨#[c]⟩) :: fv) Hc k)
  (hd:Q (.ref D) (upd H1 D (.lst (z.cps.toList.map f)))):CompW (Its z) te fv Q D H1:=by
 have hl:z.cps.toList.length = z.length:=by simp [Str.length]
 refine ⟨fun i m ys Hc=>m = z.cps.toList.length - i∧i ≤ z.cps.toList.length∧ys = (z.cps.toList.take i).map f∧Hc = upd H1 D (.lst ys),⟨_,rfl,Nat.zero_le _,rfl,rfl⟩,?_⟩
 rintro i m ys Hc ⟨rfl,hi,rfl,rfl⟩
 refine ⟨upd_same,?_⟩
 by_cases hlt:i < z.cps.toList.length
 ·refine .inr ⟨hlt,by rw [List.length_map,List.length_take]; omega,?_⟩
  rintro x H' ⟨rfl,c,hc,rfl⟩
  refine hs i c _ _ hc (same_upd hD) ⟨upd_same,z.cps.toList.length - (i + 1),by omega,rfl,by omega,?_,?_⟩
  ·rw [List.take_succ,hc,List.map_append]; rfl
  ·rw [upd_upd]
 ·have e:i = z.cps.toList.length:=by omega
  subst e
  rw [List.take_length]
  exact .inl ⟨Nat.le_refl _,hd⟩
end L2
set_option maxHeartbeats 4000000
namespace L2
open PySem
def DK {α:Type}:Sem α→Prop
 | .pure _=>True
 | .raise _=>True
 | .unsupported _=>True
 | .finish _=>True
 | .rule _ k=>DK (k ())
 | .at _ k=>DK (k ())
 | .load _ _ k=>∀ o,DK (k o)
 | .update _ _ f k=>(∀ o:Obj,o.isFreed = false→(f o).dict = o.dict∧(f o).isFreed = false)∧DK (k ())
 | .alloc _ k=>∀ a,DK (k a)
 | .loadIfAlive _ k=>∀ o,DK (k o)
 | .point _ k=>DK (k ())
 | .stack k=>∀ x,DK (k x)
 | .fresh k=>∀ x,DK (k x)
 | _=>False
theorem dk_bind {α β:Type} {t:Sem α} {f:α→Sem β} (h:DK t) (g:∀ a,DK (f a)):DK (t >>= f):=by
 show DK (Sem.bind t f)
 induction t with
 | pure a=>exact g a
 | raise e=>exact h
 | unsupported _=>exact h
 | finish _=>exact h
 | rule _ k ih=>exact ih () h
 | «at» p k ih=>exact ih () h
 | load a _ k ih=>exact fun o=>ih o (h o)
 | update a _ f k ih=>exact ⟨h.1,ih () h.2⟩
 | loadIfAlive a k ih=>exact fun o=>ih o (h o)
 | point _ k ih=>exact ih () h
 | alloc o k ih=>exact fun a=>ih a (h a)
 | fresh k ih=>exact fun a=>ih a (h a)
 | stack k ih=>exact fun a=>ih a (h a)
 | _=>exact h.elim
def Lnk (a d:Addr) (s:Shared):Prop:=∃ oe,s.heap.get? a = some oe∧oe.dict = some d
theorem wp_dk {α:Type} (M:Model) (Γ:Ctx) (a d:Addr) (t:Sem α):∀ (Q:α→Pos→Shared→Prop) (E:Value→Pos→Shared→Prop) (p:Pos) (s:Shared),DK t→Lnk a d s→Sem.wp M Γ t Q E p s →
  Sem.wp M Γ t (fun r p' s'=>Lnk a d s'∧Q r p' s') (fun e p' s'=>Lnk a d s'∧E e p' s') p s:=by
 induction t with
 | pure x=>intro Q E p s hd hl h; exact ⟨hl,h⟩
 | raise e=>intro Q E p s hd hl h; exact ⟨hl,h⟩
 | unsupported _=>intro Q E p s _ _ h; exact h
 | finish _=>intro Q E p s _ _ h; exact h
 | rule _ k ih=>intro Q E p s hd hl h; exact ih () Q E p s hd hl h
 | «at» p' k ih=>intro Q E p s hd hl h; exact ih () Q E p' s hd hl h
 | load b _ k ih=>intro Q E p s hd hl h; obtain ⟨o,ho,h⟩:=h; exact ⟨o,ho,ih o Q E p s (hd o) hl h⟩
 | update b _ f k ih =>
  intro Q E p s hd hl h
  refine ⟨h.1,ih () Q E p _ hd.2 ?_ h.2⟩
  obtain ⟨oe,e1,e2⟩:=hl
  by_cases hb:b = a
  ·subst hb
   have nf:oe.isFreed = false:=(Heap.get?_some_iff.mp e1).2
   obtain ⟨z1,z2⟩:=hd.1 oe nf
   exact ⟨f oe,Heap.get?_update_self _ e1 z2,z1.trans e2⟩
  ·exact ⟨oe,(Heap.get?_update_ne _ _ _ _ (Ne.symm hb)).trans e1,e2⟩
 | loadIfAlive b k ih=>intro Q E p s hd hl h; exact ih _ Q E p s (hd _) hl h
 | point _ k ih=>intro Q E p s hd hl h; exact ih () Q E p s hd hl h
 | alloc o k ih =>
  intro Q E p s hd hl h
  refine ih _ Q E p _ (hd _) ?_ h
  obtain ⟨oe,e1,e2⟩:=hl
  exact ⟨oe,Heap.get?_push_of_some _ e1,e2⟩
 | fresh k ih=>intro Q E p s hd hl h; exact ih _ Q E p _ (hd _) hl h
 | stack k ih=>intro Q E p s hd hl h; exact ih _ Q E p s (hd _) hl h
 | _=>intro Q E p s hd _ _; exact hd.elim
def Lk (a:Addr) (o:Option Addr) (s:Shared):Prop:=match o with | none=>True | some d=>Lnk a d s
theorem lk_over {α:Type} {M:Model} {A:Around} {t:Sem α} {Q:α→Shared→Prop} {E:Value→Shared→Prop} {s:Shared} {a:Addr} {o:Option Addr} (hd:DK t) (hl:Lk a o s)
  (h:wpAny M A t (fun r s'=>Lk a o s'→Q r s') (fun e s'=>Lk a o s'→E e s') s):wpAny M A t Q E s:=by
 cases o with
 | none=>exact wpAny_mono h (fun r s' q=>q trivial) fun e s' q=>q trivial
 | some d =>
  intro Γ p hΓ
  have q:=wp_dk M Γ a d t _ _ p s hd hl (h Γ p hΓ)
  exact Sem.wp_mono M Γ t (fun r p' s' z=>z.2 z.1) (fun e p' s' z=>z.2 z.1) p s q
theorem dk_mapFields (f:Array Value→Array Value) (o:Obj) (h:o.isFreed = false):(Obj.mapFields f o).dict = o.dict∧(Obj.mapFields f o).isFreed = false:=by
 obtain ⟨c,d,dt,sl⟩:=o
 cases dt <;> exact ⟨rfl,by first | rfl | exact h⟩
theorem dk_field (v:Value) (i:Nat):DK (field v i):=by
 unfold field fieldsOf
 refine dk_bind ?_ fun vs=>?_
 ·cases v with
  | ref a =>
   refine dk_bind (fun o=>trivial) fun o=>?_
   split <;> trivial
  | _=>trivial
 ·split <;> trivial
theorem dk_setField (v:Value) (i:Nat) (x:Value):DK (setField v i x):=by
 unfold setField
 cases v with
 | ref a =>
  unfold updateField
  refine dk_bind (fun o=>trivial) fun o=>?_
  split
  ·split
   ·exact ⟨dk_mapFields _,trivial⟩
   ·trivial
  ·trivial
 | _=>trivial
theorem dk_setFlight (e:Value) (f:Option Addr):DK (setFlight e f):=by
 unfold setFlight
 refine dk_bind (dk_field _ _) fun tb=>?_
 split
 ·exact dk_setField _ _ _
 ·trivial
theorem dk_behind (env:Env) (outer:List Env):DK (behindIsImport env outer):=by
 unfold behindIsImport
 split
 ·trivial
 ·split
  ·trivial
  ·exact dk_bind (dk_field _ _) fun _=>trivial
theorem dk_readyFrames:∀ l,DK (readyFrames l)
 | []=>trivial
 | env :: outer=>by
  unfold readyFrames
  cases env.frame with
  | none=>trivial
  | some f =>
   refine dk_bind (fun o=>trivial) fun o=>?_
   split
   ·trivial
   ·refine dk_bind (dk_behind _ _) fun imp=>dk_bind ?_ fun back=>dk_bind ⟨fun o h=>⟨rfl,by obtain ⟨c,d,dt,sl⟩:=o; cases dt <;> first | rfl | exact h⟩,trivial⟩ fun _=>dk_readyFrames outer
    cases outer with
    | nil =>
     show DK (if (env.scope.isGenerator || env.scope.isCoroutine) = true then pure Value.none else do return if ← underTheClaimsCaller then .notImplemented else .none)
     split
     ·trivial
     ·refine dk_bind ?_ fun _=>trivial
      unfold underTheClaimsCaller
      exact dk_bind (fun _=>trivial) fun _=>trivial
    | cons c r=>trivial
theorem dk_frameOf (env:Env):DK (frameOf env):=by
 unfold frameOf
 refine dk_bind (dk_bind (fun _=>trivial) fun _=>trivial) fun es=>dk_bind ?_ fun r=>by cases r <;> trivial
 cases es.dropWhile (·.frame != env.frame) with
 | nil=>trivial
 | cons e r=>exact dk_bind (dk_readyFrames _) fun _=>trivial
theorem dk_newFields (ty:String) (vs:List Value):DK (newFields ty vs):=by
 have go:∀ d:Data,DK (newObjAsIs (.type ty) d):=fun d=>by
  unfold newObjAsIs
  exact dk_bind (show DK (alloc _) from fun _=>trivial) fun _=>trivial
 unfold newFields newObj
 generalize vs.toArray = a
 dsimp only
 split
 ·exact dk_bind (show DK (unsupported _) from trivial) fun _=>go _
 ·exact go _
theorem dk_noteFrame (e:Value) (env:Env):DK (noteFrame e env):=by
 unfold noteFrame
 cases env.frame with
 | none=>trivial
 | some f =>
  refine dk_bind (dk_field _ _) fun head=>?_
  have rest:DK (do setField e 1 (← EntryCells.newEntry head (← frameOf env) .none (rawInt f) .none (← entryPlaceOf f (head != .none)))):=by
   refine dk_bind (dk_frameOf _) fun fr=>dk_bind ?_ fun pl=>dk_bind ?_ fun b=>dk_setField _ _ _
   ·unfold entryPlaceOf
    refine dk_bind (fun _=>trivial) fun acts=>?_
    split <;> trivial
   ·exact dk_newFields _ _
  split
  ·refine dk_bind (dk_field _ _) fun h3=>?_
   split
   ·trivial
   ·exact dk_bind (dk_setField _ _ _) fun _=>rest
  ·exact rest
theorem dk_leaving (env:Env) (e:Value):DK («leaving» env e):=dk_bind (dk_noteFrame _ _) fun _=>dk_setFlight _ _
open PySem PyProof.Rows
def excI (K:PySem.W.Frag) (C:Addr) (bmB:List Value) (newId:String) (f:Addr):Bool:=match K.lookup C with
 | some ⟨.type "type",_,.cls cc,ss⟩=>(match cc.mro,ss.toList with
  | .ref D :: bm,[_,_,_,_,some (.builtin n),_]=>D == C && n == newId && !cc.hasDel && cc.hasDict && PySem.W.tailIn K bmB bm && PySem.W.nsOkIn K cc.ns && PySem.W.nsIn K cc.ns "__init__" == some (some (.ref f))
  | _,_=>false)
 | _=>false
theorem ns_some_of {K:PySem.W.Frag} {h:Heap} {N:Addr} {m:Str→Option Value} {x:Str} {v:Value} (X:K.In h) (G:h.Ns N m) (e:PySem.W.nsIn K N x = some (some v)):m x = some v:=by
 obtain ⟨ob,ents,eph,hob,hda,_,hall⟩:=G
 unfold PySem.W.nsIn at e
 split at e
 ·rename_i hq
  have z:=X _ _ hq
  rw [hob] at z
  cases z
  cases hda
  split at e
  ·rename_i en hen
   cases e
   rw [← hall]
   unfold nsFind findBy
   rw [← Array.find?_toList,hen]
   rfl
  ·split at e <;> cases e
 ·cases e
theorem own_objI {K:PySem.W.Frag} {h₀:Heap} {C f:Addr} {bmB:List Value} {newId:String} (X:K.In h₀) (q:excI K C bmB newId f = true) :
  ∃ bm N nm qn bs sn sub ab col dd k0 k1 k2 k3 k5 mN,h₀.get? C = some (excClassObj nm qn C N bs bm true sn sub ab col dd k0 k1 k2 k3 k5 newId)∧h₀.Ns N mN∧mN "__init__" = some (.ref f)∧OwnTail h₀ bmB bm:=by
 unfold excI at q
 split at q
 ·rename_i dd cc ss ho
  split at q
  ·rename_i D bm k0 k1 k2 k3 n k5 hm hs
   simp only [Bool.and_eq_true,beq_iff_eq,Bool.not_eq_true'] at q
   obtain ⟨⟨⟨⟨⟨⟨rfl,rfl⟩,hdel⟩,hhd⟩,ht⟩,hok⟩,hin⟩:=q
   obtain ⟨nm,bs,mro,ns,qn,hd,sn,sub,ab,col,del⟩:=cc
   dsimp only at hm hdel hok hin hhd
   subst hm hdel hhd
   have hsl:ss = #[k0,k1,k2,k3,some (.builtin n),k5]:=by
    obtain ⟨l⟩:=ss
    simp only at hs
    rw [hs]
   subst hsl
   have hn:h₀.Ns ns (h₀.nsMap ns):=.of_isNs (PySem.W.isNs_of_in X hok)
   exact ⟨bm,ns,nm,qn,bs,sn,sub,ab,col,dd,k0,k1,k2,k3,k5,_,X _ _ ho,hn,ns_some_of X hn hin,PySem.W.tail_of_in X ht⟩
  ·cases q
 ·cases q
section
variable {prog:Program} {w:World} {A:Around} {E:Value→Shared→Prop} {h:Heap} {g:Array GenState} {d:Drawn} {t:Nat} {os:OsState}
variable {nm qn:Str} {C N:Addr} {bs bm bmB:List Value} {sn:List Str} {sub:List Value} {ab:Bool} {col:Option Bool} {dd:Option Addr} {k0 k1 k2 k3 k5:Option Value} {B newId initId:String} {mN:Str→Option Value}
theorem typeCall_I (FB:ExcBaseFacts B newId initId bmB) (T:OwnTail h bmB bm) {us:List Value} {fI:Addr} {oI:Obj} {Q:Fin→Shared→Prop}
  (hC:h.get? C = some (excClassObj nm qn C N bs bm true sn sub ab col dd k0 k1 k2 k3 k5 newId)) (hn:h.Ns N mN) (hi:mN "__init__" = some (.ref fI)) (hfI:h.get? fI = some oI) (hfc:oI.cls = .type "function") (hu:us.length ≤ sizeLine)
  (hq:∀ h' e,Heap.MadeExcOf h h' e (.ref C) us→h.objs.size ≤ e→wpAny (model prog w) A (call (.ref fI) (.ref e :: us)) (fun r s'=>r = .none∧Q (.done (.ret (.ref e))) s') E ⟨h',g,d,t,os⟩) :
  wpAny (model prog w) A (Builtin.«type.__call__» ⟨.ref C :: us,[]⟩) Q E ⟨h,g,d,t,os⟩:=by
 repeat (first | with_reducible refine wpAny_madeBy_exc hC ?_ | with_reducible refine wpAny_loadPart_at hC ?_ | wp_step)
 refine codeAny_call_builtin_code (Code.quiet_builtin _ FB.quiet) (wpAny_check_new_subT FB T hC (codeAny_exc_new_subT FB T hC ?_ hu))
 show wpAny _ _ _ _ _ _
 generalize hh1:(h.push { cls:=.type "tuple",data:=.seq us.toArray }).push { cls:=.ref C,data:=.fields #[.ref h.objs.size,.none,.none,.none,.bool false,.none] } = h1
 have kp:∀ b o,h.get? b = some o→h1.get? b = some o:=fun b o e=>by rw [← hh1]; exact Heap.get?_push_of_some _ (Heap.get?_push_of_some _ e)
 have he:h1.get? (h.objs.size + 1) = some { cls:=.ref C,data:=.fields #[.ref h.objs.size,.none,.none,.none,.bool false,.none] }:=by rw [← hh1]; heap_get
 have ht:h1.get? h.objs.size = some { cls:=.type "tuple",data:=.seq us.toArray }:=by rw [← hh1]; exact Heap.get?_push_of_some _ (Heap.get?_push_at rfl rfl)
 have hC1:=kp _ _ hC
 have cc:(Value.ref C :: bm).contains (.ref C) = true:=by simp
 unfold isInstance
 repeat (first | with_reducible refine wpAny_loadPart_at he ?_ | (with_reducible refine wpAny_isSubtype_exc hC1 ?_; rw [cc]) | wp_step)
 show wpAny _ _ (typeLookup (.ref C) _) _ _ _
 refine wpAny_typeLookup_tail hC1 (hn.keeps kp) (T.keeps kp) FB.mroIs FB.init.lookup ?_
 rw [hi]
 refine wpAny_holding (wpAny_bind ?_)
 unfold bindSpecial
 refine wpAny_bind (wpAny_typeOf (T := "function") ⟨_,kp _ _ hfI,hfc⟩ ?_)
 rw [if_pos (by decide)]
 refine wpAny_pure (wpAny_bind (wpAny_mono (hq h1 (h.objs.size + 1) ⟨kp,Heap.get?_none_of_le (Nat.le_succ _),h.objs.size,he,Heap.get?_none_of_le (Nat.le_refl _),ht⟩ (Nat.le_succ _)) (fun r s' hr=>?_) fun _ _ x=>x))
 obtain ⟨rfl,z⟩:=hr
 wp_walk
 exact z
theorem call_I (FB:ExcBaseFacts B newId initId bmB) (T:OwnTail h bmB bm) {us:List Value} {fI:Addr} {oI:Obj} {Q:Value→Shared→Prop}
  (hC:h.get? C = some (excClassObj nm qn C N bs bm true sn sub ab col dd k0 k1 k2 k3 k5 newId)) (hn:h.Ns N mN) (hi:mN "__init__" = some (.ref fI)) (hfI:h.get? fI = some oI) (hfc:oI.cls = .type "function") (hu:us.length ≤ sizeLine)
  (hq:∀ h' e,Heap.MadeExcOf h h' e (.ref C) us→h.objs.size ≤ e→wpAny (model prog w) (A.under (.builtin "type.__call__" ⟨.ref C :: us,[]⟩)) (call (.ref fI) (.ref e :: us)) (fun r s'=>r = .none∧Q (.ref e) s') E ⟨h',g,d,t,os⟩) :
  wpAny (model prog w) A (call (.ref C) us) Q E ⟨h,g,d,t,os⟩:=by
 have f1:=tc_lookup
 have f2:=tc_bind (.ref C)
 have hT:(⟨h,g,d,t,os⟩:Shared).TypeIs (.ref C) "type":=⟨_,hC,rfl⟩
 refine wpAny_call (codeAny_of_tree ?_)
 show wpAny _ _ (callAny (.ref C) _) _ _ _
 repeat (any_goals (first | assumption | wp_step | with_reducible refine wpAny_loadPart_at hC ?_))
 refine ⟨rfl,codeAny_call_builtin_at (Code.quiet_builtin _ (by decide +kernel)) entry_typeCall (wpAny_check_type_call_sub hC (typeCall_I FB T hC hn hi hfI hfc hu fun h' e hm hz=>?_))⟩
 exact hq h' e hm hz
theorem raiseStmt_I {M:Model} {env:Env} {s:Shared} {x:Sem Value} {Q:Flow→Shared→Prop} (hb:bm.contains (.type "BaseException") = true) (hh:A.handled = none)
  (hx:wpAny M A x (fun v s₁=>∃ e oe vs,v = .ref e∧s₁.heap.get? C = some (excClassObj nm qn C N bs bm true sn sub ab col dd k0 k1 k2 k3 k5 newId)∧s₁.heap.get? e = some oe∧oe.cls = .ref C∧oe.data = .fields vs∧vs[1]? = some .none∧E (.ref e) s₁) E s) :
  wpAny M A (raiseStmt env (some x) none) Q E s:=by
 have cB:(Value.ref C :: bm).contains (.type "BaseException") = true:=by rw [List.contains_cons,hb,Bool.or_true]
 unfold raiseStmt
 refine wpAny_bind (wpAny_mono hx (fun v s₁ h₁=>?_) fun _ _ z=>z)
 obtain ⟨e,oe,vs,rfl,hC,he,hc,hd,h1,hE⟩:=h₁
 obtain ⟨hp,g,d,tk,os⟩:=s₁
 dsimp only at hC he
 repeat (first | (with_reducible refine wpAny_loadPart_at he ?_; rw [hc]) | with_reducible refine wpAny_field he hd h1 ?_ | with_reducible refine wpAny_loadPart_at hC ?_ | (with_reducible refine wpAny_isSubtype_exc hC ?_; rw [cB]) | wp_step)
 exact wpAny_raiseNew_none hh hE
theorem baseInit_I (FB:ExcBaseFacts B newId initId bmB) (T:OwnTail h bmB bm) {us:List Value} {x:Addr} {ox:Obj} {vs:Array Value} {Q:Value→Shared→Prop}
  (hC:h.get? C = some (excClassObj nm qn C N bs bm true sn sub ab col dd k0 k1 k2 k3 k5 newId)) (hx:h.get? x = some ox) (hc:ox.cls = .ref C) (hd:ox.data = .fields vs) (h0:∃ a,vs[0]? = some (.ref a)) (hu:us.length ≤ sizeLine)
  (hq:∀ h' tt,(∀ b o,b ≠ x→h.get? b = some o→h'.get? b = some o)→h'.get? x = some { ox with data:=.fields (vs.setIfInBounds 0 (.ref tt)) }→h.get? tt = none→Q .none ⟨h',g,d,t,os⟩) :
  wpAny (model prog w) A (call (.builtin initId) (.ref x :: us)) Q E ⟨h,g,d,t,os⟩:=by
 obtain ⟨v0,h0⟩:=h0
 refine wpAny_call (codeAny_call_builtin FB.init.plain FB.initEntry (wpAny_check_init_subT FB T hC hx hc ?_))
 obtain ⟨xc,xd,xt,xs⟩:=ox
 dsimp only at hc hd hq
 subst hc hd
 wp_walk
 rw [h0]
 refine wpAny_pure (wpAny_bind ?_)
 have hsz:0 < vs.size:=(Array.getElem?_eq_some_iff.mp h0).1
 have hx1:=Heap.get?_push_of_some (h:=h) { cls:=.type "tuple",data:=.seq us.toArray } hx
 refine wpAny_setField hx1 rfl hsz ?_
 wp_walk
 refine hq _ h.objs.size (fun b o hb e=>?_) (Heap.get?_update_self _ hx1 rfl) (Heap.get?_none_of_le (Nat.le_refl _))
 rw [Heap.get?_update_other _ _ (Ne.symm hb)]
 exact Heap.get?_push_of_some _ e
end
def VEb:List Value:=[.type "ValueError",.type "Exception",.type "BaseException",.type "object"]
def veOver:List Value→Bool
 | .ref _ :: r=>veOver r
 | l=>l == VEb
theorem refuse_ve (self:Value):∀ {l:List Value},veOver l = true→refuseLoop self "__setattr__" l = pure ()
 | [],e=>by cases e
 | .ref c :: r,e=>by rw [refuseLoop_ref]; exact refuse_ve self (l:=r) e
 | .type n :: r,e=>by rw [show Value.type n :: r = VEb from beq_iff_eq.mp e]; exact PySem.F.store_ValueError.passes self
 | .none :: r,e=>by cases beq_iff_eq.mp (show ((Value.none :: r) == VEb) = true from e)
 | .notImplemented :: r,e=>by cases beq_iff_eq.mp (show ((Value.notImplemented :: r) == VEb) = true from e)
 | .bool b :: r,e=>by cases beq_iff_eq.mp (show ((Value.bool b :: r) == VEb) = true from e)
 | .int i t :: r,e=>by cases beq_iff_eq.mp (show ((Value.int i t :: r) == VEb) = true from e)
 | .str i t :: r,e=>by cases beq_iff_eq.mp (show ((Value.str i t :: r) == VEb) = true from e)
 | .float i t :: r,e=>by cases beq_iff_eq.mp (show ((Value.float i t :: r) == VEb) = true from e)
 | .bytes i t :: r,e=>by cases beq_iff_eq.mp (show ((Value.bytes i t :: r) == VEb) = true from e)
 | .builtin i :: r,e=>by cases beq_iff_eq.mp (show ((Value.builtin i :: r) == VEb) = true from e)
theorem ve_has:∀ {l:List Value},veOver l = true→l.contains (.type "object") = true
 | [],e=>by cases e
 | v :: r,e=>by
  cases v with
  | ref c=>rw [List.contains_cons,ve_has (l:=r) e,Bool.or_true]
  | _=>rw [show _ :: r = VEb from beq_iff_eq.mp e]; decide +kernel
section
variable {prog:Program} {w:World} {A:Around} {E:Value→Shared→Prop} {s:Shared} {K:PySem.W.Frag} {x C:Addr} {ox:Obj} {cd:ClassData} {name:Str} {v:Value}
open PySem.W in
theorem osa_I {od:Option Obj} {tk:Tok} {R:Result→Shared→Prop} (X:K.In s.heap) (I:InstAt s.heap x ox C od) (hc:clsIn K C = some cd) (hp:veOver cd.mro = true) (ht:takerIn K C name = some none)
  (h:∀ b,wpAny (model prog w) A.in1 (Builtin.ObjectAttr.storeInOwnDict (.ref x) (.ref C) (.str name tk) name v b)
   (fun fin s'=>match fin with | .done f=>R (.ok f) s' | .again c=>c.quiet = true∧codeAny (model prog w) A c R s') (fun e s'=>R (.error e) s') s) :
  codeAny (model prog w) A (.call (.builtin "object.__setattr__") ⟨[.ref x,.str name tk,v],[]⟩) R s:=by
 have SF:=PySem.F.store_object
 have ne:cd.mro.isEmpty = false:=by cases q:cd.mro with | nil=>rw [q] at hp; cases hp | cons _ _=>rfl
 have sub:Looks (model prog w) s.heap (isInstance (.ref x) (.type "object")) true:=I.type.andThen (looks_mroIn X (by unfold mroIn; rw [hc,Option.bind_some,if_neg (by rw [ne]; decide),ve_has hp]))
 obtain ⟨attr,ha,hr⟩:=Option.bind_eq_some_iff.mp ht
 have hm:Looks (model prog w) s.heap (mroOf (.ref C)) cd.mro:=(looks_clsIn X hc).andThen .now
 have L3:Looks (model prog w) s.heap (Builtin.ObjectAttr.storeTaker? attr) none:=by
  cases attr with
  | none=>exact .now
  | some a =>
   obtain ⟨b,hb,hz⟩:=Option.map_eq_some_iff.mp hr
   refine (looks_takesIn X hb).andThen ?_
   cases b with
   | true=>cases hz
   | false=>exact .now
 refine codeAny_call_builtin SF.slot.plain SF.entry (@check_slot (model prog w) _ _ s "object.__setattr__" "object" "__setattr__" (.ref x) [.str name tk,v] [] _ SF.kind SF.split sub (SF.args (.ref x) (.str name tk) v) ?_)
 rw [osa_eq,refuse_eq]
 refine wpAny_bind (wpAny_bind (I.type.here (wpAny_bind (hm.here ?_))))
 rw [refuse_ve _ hp]
 exact wpAny_pure (wpAny_bind (I.type.here (wpAny_bind ((looks_findIn X ha).here (wpAny_bind (L3.here (h _)))))))
open PySem.W in
theorem set_I {fs:Array Value} {Q:Unit→Shared→Prop} (X:K.In s.heap) (hx:s.heap.get? x = some ⟨.ref C,none,.fields fs,#[]⟩) (hs:findIn K (.ref C) "__setattr__" = some (some (.builtin "object.__setattr__")))
  (hc:clsIn K C = some cd) (hp:veOver cd.mro = true) (hd:cd.hasDict = true) (ht:takerIn K C name = some none)
  (h:∀ h' tk,(∀ b o,b ≠ x→s.heap.get? b = some o→h'.get? b = some o)→h'.get? x = some ⟨.ref C,some s.heap.objs.size,.fields fs,#[]⟩→h'.Ns1 s.heap.objs.size (fun y=>if y = name then some v else none)→Q () { s with heap:=h',toks:=tk }) :
  wpAny (model prog w) A (setAttr (.ref x) name v) Q E s:=by
 have J:InstAt s.heap x ⟨.ref C,none,.fields fs,#[]⟩ C none:=⟨hx,rfl,rfl,trivial⟩
 refine set_plain X J hs (osa_I (s:={ s with toks:=s.toks + 1 }) X J hc hp ht fun b=>?_)
 refine wpAny_bind (wpAny_pure (wpAny_bind (wpAny_bind (wpAny_loadPart hx (wpAny_bind (Looks.here (s:={ s with toks:=s.toks + 1 }) (looks_clsIn X hc) ?_))))))
 rw [hd]
 have hxs:x ≠ s.heap.objs.size:=Nat.ne_of_lt (Heap.lt_size hx)
 have hx1:=Heap.get?_push_of_some (h:=s.heap) { cls:=.type "dict",data:=.dict #[] } hx
 refine wpAny_bind (wpAny_alloc' (wpAny_bind (wpAny_update' hx1 ?_)))
 refine wpAny_pure (a:=some s.heap.objs.size) ?_
 generalize hh2:(s.heap.push { cls:=.type "dict",data:=.dict #[] }).update x (fun o=>{ o with dict:=some s.heap.objs.size }) = h2
 have gx:h2.get? x = some ⟨.ref C,some s.heap.objs.size,.fields fs,#[]⟩:=by rw [← hh2]; exact Heap.get?_update_self _ hx1 rfl
 have gd:h2.get? s.heap.objs.size = some { cls:=.type "dict",data:=.dict #[] }:=by rw [← hh2,Heap.get?_update_ne _ _ _ _ (Ne.symm hxs)]; exact Heap.get?_push_at rfl rfl
 have gk:∀ b o,b ≠ x→s.heap.get? b = some o→h2.get? b = some o:=fun b o hb e=>by rw [← hh2,Heap.get?_update_ne _ _ _ _ hb]; exact Heap.get?_push_of_some _ e
 have nd:h2.Ns s.heap.objs.size (fun _=>none):=⟨_,#[],_,gd,rfl,fun e he=>absurd he (by simp),fun _=>rfl⟩
 show wpAny _ _ (Builtin.ObjectAttr.storeInDict s.heap.objs.size (.str name _) name v) _ _ _
 unfold Builtin.ObjectAttr.storeInDict Builtin.ObjectAttr.newKeyGuard
 refine wpAny_bind (wpAny_pure (wpAny_bind (wpAny_nsSet1 (Heap.Ns1.of_empty nd) fun h' hn' sm=>?_)))
 obtain ⟨oD,eD,pD,hoD,hdD,hcD⟩:=hn'.count (Within.cons name v Within.nil)
 refine wpAny_bind (wpAny_lookBehind hoD (by rw [hdD]; exact pastItsLine_dict (Nat.le_trans hcD (by rw [List.length_cons,List.length_nil,sizeLine_eq]; omega))) ?_)
 refine wpAny_pure (h h' _ (fun b o hb e=>?_) ((sm.2 x hxs).trans gx) hn')
 exact (sm.2 b (Nat.ne_of_lt (Heap.lt_size e))).trans (gk b o hb e)
open PySem.W in
theorem set_I2 {fs:Array Value} {dx:Addr} {mA:Str→Option Value} {ns:List Str} {Q:Unit→Shared→Prop} (X:K.In s.heap) (hx:s.heap.get? x = some ⟨.ref C,some dx,.fields fs,#[]⟩) (hN:s.heap.Ns1 dx mA) (hne:dx ≠ x) (hs:findIn K (.ref C) "__setattr__" = some (some (.builtin "object.__setattr__")))
  (hc:clsIn K C = some cd) (hp:veOver cd.mro = true) (hd:cd.hasDict = true) (ht:takerIn K C name = some none) (hw:Within mA ns) (hsz:ns.length < sizeLine)
  (h:∀ h' tk,(∀ b o,b ≠ dx→s.heap.get? b = some o→h'.get? b = some o)→h'.Ns1 dx (fun y=>if y = name then some v else mA y)→Q () { s with heap:=h',toks:=tk }) :
  wpAny (model prog w) A (setAttr (.ref x) name v) Q E s:=by
 obtain ⟨od,es,ep,ho,hN2⟩:=id hN
 have J:InstAt s.heap x ⟨.ref C,some dx,.fields fs,#[]⟩ C (some od):=⟨hx,rfl,rfl,ho⟩
 refine set_plain X J hs (osa_I (s:={ s with toks:=s.toks + 1 }) X J hc hp ht fun b=>?_)
 refine wpAny_bind (wpAny_pure (wpAny_bind (wpAny_bind (wpAny_loadPart hx (wpAny_bind (Looks.here (s:={ s with toks:=s.toks + 1 }) (looks_clsIn X hc) ?_))))))
 rw [hd]
 refine wpAny_pure (a:=some dx) (wpAny_bind (wpAny_pure (wpAny_bind ?_)))
 refine wpAny_nsSet1 (s:={ s with toks:=s.toks + 1 }) hN fun h' hn' sm=>?_
 obtain ⟨oD,eD,pD,hoD,hdD,hcD⟩:=hn'.count (Within.cons name v hw)
 refine wpAny_bind (wpAny_lookBehind hoD (by rw [hdD]; exact pastItsLine_dict (Nat.le_trans hcD (by rw [List.length_cons]; omega))) ?_)
 exact wpAny_pure (h h' _ (fun b o hb e=>(sm.2 b hb).trans e) hn')
end
open PySem PySem.Spec PyProof.Rows
def CX2 (P:Program) (w:World):CXT:=fun outer H s E e s'=>∃ a c o H',e = .ref a∧Flies P w outer H s a c H' s'∧Lk a o s'∧E c o H'
def ExO (e C:Addr) (o:Option Addr):HO:=.ext fun h=>∃ t,h.get? e = some ⟨.ref C,o,.fields #[.ref t,.none,.none,.none,.bool false,.none],#[]⟩
def XdO (d:Addr) (fs:List (Str × V)):HO:=.ext fun h=>∃ mA,h.Ns1 d mA∧(∀ f,RelO (fs.lookup f) (mA f))∧PySem.Within mA (fs.map (·.1))
def rem (H:Hp) (e:Addr):Hp:=fun b=>if b = e then none else H b
theorem rem_at {H:Hp} {e:Addr}:rem H e e = none:=by unfold rem; rw [if_pos rfl]
theorem rem_ne {H:Hp} {e b:Addr} (h:b ≠ e):rem H e b = H b:=by unfold rem; rw [if_neg h]
section
variable {P:Program} {w:World} {K:PySem.W.Frag} {mg:Str→Option Value} {base:Heap} {k:Nat} {f:Addr} {fd:FuncData} {ps:List Str} {sp:Sp}
theorem Fun.okV {x qual:Str} {st:Stmt} {N:List Str} (F:Fun K x qual st f fd) (S:FnScope N ps (defScope st)) (len:∀ vs H Q E,sp vs H Q E→vs.length = ps.length)
  (hbody:∀ (cdv:Value) (A:Around) (outer:List Env) (s:Shared) (H:Hp) (vs:List V) (Q:VK) (E:XK),Room k (A.deeper (envOfC qual (defScope st) s.heap.objs.size f cdv))→sp vs H Q E →
   ∃ t,PSs (cxOf (CX2 P w) P w K mg base N qual (defScope st) f cdv A outer s H E) (defBody st) t∧t { nx:=fun _ H'=>Q .non H',rt:=Q } (start N vs) H):FnOk P w K mg base (CX2 P w) (k + 1) f fd ps sp:=by
 obtain ⟨oc,od,kV,doc,pm,an,cdv,ct,osl,rfl,lk,hcd⟩:=F.ex
 exact fn_of lk hcd S len fun A outer s H vs Q E hr hsp=>hbody cdv A outer s H vs Q E hr hsp
end
section
variable {P:Program} {w:World} {K:PySem.W.Frag} {mg:Str→Option Value} {base:Heap} {N:List Str} {qual:Str} {scope:Scope} {f:Addr} {cd:Value} {A:Around} {outer:List Env} {s₀:Shared} {H₀:Hp} {E:XK}
theorem passV:Passes (CX2 P w) (cxOf (CX2 P w) P w K mg base N qual scope f cd A outer s₀ H₀ E) (fun _=>E):=by
 intro pins σ H s e s' I h
 obtain ⟨a,c,o,H',rfl,F,lk,hE⟩:=h
 have ff:=F.ff I
 have fn:=F.fn
 obtain ⟨B,t,fl,hB⟩:=F.fly
 show wpAny (model P w) (A.deeper (envOfC qual scope s₀.heap.objs.size f cd)) («leaving» (envOfC qual scope s₀.heap.objs.size f cd) (.ref a)) _ _ s'
 refine lk_over (dk_leaving _ _) lk ?_
 refine wpAny_leaves_onW (L:=s₀.heap.objs.size) (outer:=outer) I.ok.frames rfl fl fun h' fl' sm lk'=>?_
 obtain ⟨U,hok⟩:=fly_land F.un F.hok hB fl'.1 sm fn ff
 have J:=I.call' (s':={ s' with heap:=h' }) F.os U hok F.bare (fun b hb=>nomatch hb)
 refine ⟨a,c,o,H',rfl,⟨J.os,J.bare,J.base,hok,B,t,fl',fun b ob e hb hx=>?_⟩,lk',hE⟩
 have hst:b ∉ frs (envOfC qual scope s₀.heap.objs.size f cd :: outer)→∀ o2,s'.heap.get? b = some o2→((∃ o',s.heap.get? b = some o')∨(H' b).isSome = true)→B.get? b = some ob:=fun hn o2 e2 z=>by
  have q:=hB b o2 e2 hn z
  have q2:=fl'.1 b o2 q
  rw [e] at q2
  cases q2
  exact q
 rcases hx with ⟨o',e0⟩ | ht
 ·obtain ⟨o1,e1⟩:=I.base.there b o' e0 (List.not_mem_nil)
  obtain ⟨o2,e2⟩:=F.un.there b o1 e1 (List.not_mem_nil)
  refine hst (fun hm=>?_) o2 e2 (.inl ⟨o1,e1⟩)
  rcases List.mem_cons.mp (show b ∈ s₀.heap.objs.size :: frs outer from hm) with z | z
  ·exact absurd (Heap.lt_size e0) (by rw [z]; exact Nat.lt_irrefl _)
  ·exact hb z
 ·cases q:H' b with
  | none=>rw [q] at ht; cases ht
  | some ob2 =>
   obtain ⟨o2,e2⟩:=(F.hok b ob2 q).ex
   exact hst (fun hm=>by rw [ff b hm] at q; cases q) o2 e2 (.inr ht)
end
def RaisesV (X:Cx) (E:St→XK):Prop:=∀ (pins:List (Addr × Obj)) (σ:St) (H:Hp) (s:Shared) (e C:Addr) (o:Option Addr),Inv X pins σ H s→H e = some (ExO e C o)→X.s₀.heap.get? e = none→E σ (.ref C) o (rem H e)→X.xe (.ref e) s
section
variable {P:Program} {w:World} {K:PySem.W.Frag} {mg:Str→Option Value} {base:Heap} {N:List Str} {qual:Str} {scope:Scope} {f:Addr} {cd:Value} {A:Around} {outer:List Env} {s₀:Shared} {H₀:Hp} {E:XK}
theorem raiseI:RaisesV (cxOf (CX2 P w) P w K mg base N qual scope f cd A outer s₀ H₀ E) (fun _=>E):=by
 intro pins σ H s e C o I he hs0 hE
 have hs0:s₀.heap.get? e = none:=hs0
 obtain ⟨⟨t,q⟩,_,_⟩:=I.hok e _ he
 have lk:Lk e o s:=by
  cases o with
  | none=>trivial
  | some d=>exact ⟨_,q,rfl⟩
 have sf:=I.stkFree
 have sth:=I.stkThere
 have ne_e:∀ b ob,H b = some ob→(∀ φ,ob ≠ .ext φ)→b ≠ e:=fun b ob z nx ze=>by
  rw [ze,he] at z
  cases z
  exact nx _ rfl
 show wpAny (model P w) (A.deeper (envOfC qual scope s₀.heap.objs.size f cd)) («leaving» (envOfC qual scope s₀.heap.objs.size f cd) (.ref e)) _ _ s
 refine lk_over (dk_leaving _ _) lk ?_
 have hin:∀ env ∈ (envOfC qual scope s₀.heap.objs.size f cd :: outer),∀ b,env.frame = some b→b ∈ e :: frs (envOfC qual scope s₀.heap.objs.size f cd :: outer):=fun env hv b hb=>.tail _ (List.mem_filterMap.mpr ⟨env,hv,hb⟩)
 refine wpAny_leaving_firstW (base:=PySem.W.hideAll s.heap (e :: frs (envOfC qual scope s₀.heap.objs.size f cd :: outer))) (outer:=outer) (L:=s₀.heap.objs.size) (a0:=.ref t) I.ok.frames (PySem.W.funFrames_hide I.stack hin) rfl q (fun b ob z=>PySem.W.of_hideAll _ z) (PySem.W.hideAll_none _ (.head _)) rfl rfl rfl fun h' left lk'=>?_
 obtain ⟨l1,l2,l3,l4⟩:=left
 have on:∀ b ob,s.heap.get? b = some ob→b ≠ e→b ∉ frs (envOfC qual scope s₀.heap.objs.size f cd :: outer)→(PySem.W.hideAll s.heap (e :: frs (envOfC qual scope s₀.heap.objs.size f cd :: outer))).get? b = some ob:=fun b ob z n1 n2=>PySem.W.hideAll_get _ z (fun hm=>by
  rcases List.mem_cons.mp hm with hm | hm
  ·exact n1 hm
  ·exact n2 hm)
 have old:∀ b ob,s₀.heap.get? b = some ob→b ≠ e∧b ≠ s₀.heap.objs.size:=fun b ob z=>⟨fun ze=>(by rw [ze,hs0] at z; cases z),Nat.ne_of_lt (Heap.lt_size z)⟩
 have notst:∀ b,b ≠ s₀.heap.objs.size→b ∉ frs outer→b ∉ frs (envOfC qual scope s₀.heap.objs.size f cd :: outer):=fun b n1 n2 hm=>by
  rcases List.mem_cons.mp (show b ∈ s₀.heap.objs.size :: frs outer from hm) with z | z
  ·exact n1 z
  ·exact n2 z
 have inst:∀ b,b ∈ frs outer→b ∈ frs (envOfC qual scope s₀.heap.objs.size f cd :: outer):=fun b hm=>List.mem_cons_of_mem s₀.heap.objs.size hm
 have U:Un (frs outer) [] H₀ (rem H e) s₀.heap h':=by
  refine ⟨fun b ob z n hb hx=>?_,fun b ob z n hb hx=>?_,fun b ob z n hx=>?_,fun b ob z hx=>?_,fun b xs z=>?_,fun b ob u z=>?_,fun b ps z=>?_⟩
  ·have z1:=I.base.keep b ob z n hb hx
   exact l1 b ob (on b ob z1 (old b ob z).1 (notst b (old b ob z).2 hb))
  ·obtain ⟨sl,z1⟩:=I.base.slot b ob z n hb hx
   obtain ⟨o2,z2,nf⟩:=sth b (inst b hb)
   rw [z1] at z2
   cases z2
   obtain ⟨sl',z3⟩:=l4 b _ z1 nf
   exact ⟨sl',z3⟩
  ·have z1:H b = none:=I.base.free b ob z n hx
   unfold rem
   split
   ·rfl
   ·exact z1
  ·obtain ⟨o',z1⟩:=I.base.there b ob z hx
   by_cases hb:b ∈ frs (envOfC qual scope s₀.heap.objs.size f cd :: outer)
   ·obtain ⟨o2,z2,nf⟩:=sth b hb
    obtain ⟨sl',z3⟩:=l4 b _ z2 nf
    exact ⟨_,z3⟩
   ·exact ⟨o',l1 b o' (on b o' z1 (old b ob z).1 hb)⟩
  ·have z1:=I.base.tups b xs z
   rw [rem_ne (ne_e b _ z1 fun φ=>by intro y; cases y)]
   exact z1
  ·have z1:=I.base.frzs b ob u z
   rw [rem_ne (ne_e b _ z1 fun φ=>by intro y; cases y)]
   exact z1
  ·obtain ⟨more,z1⟩:=I.base.tbls b ps z
   refine ⟨more,?_⟩
   rw [rem_ne (ne_e b _ z1 fun φ=>by intro y; cases y)]
   exact z1
 have hok:HOk P w (rem H e) h':=fun b ob z=>by
  have nb:b ≠ e:=fun ze=>by rw [ze,rem_at] at z; cases z
  rw [rem_ne nb] at z
  refine (I.hok b ob z).stay (fun c u hc z2=>?_) (fun c z2=>by rw [rem_ne (ne_e c _ z2 fun φ=>by intro y; cases y)]; exact z2) fun c xs z2=>by rw [rem_ne (ne_e c _ z2 fun φ=>by intro y; cases y)]; exact z2
  rcases hc with rfl | hc
  ·exact l1 _ _ (on _ _ z2 nb fun hm=>by rw [sf _ hm] at z; cases z)
  ·exact l1 _ _ (on _ _ z2 (ne_e c _ hc fun φ=>by intro y; cases y) fun hm=>by rw [sf _ hm] at hc; cases hc)
 refine ⟨e,.ref C,o,rem H e,rfl,⟨I.os,I.bare,U,hok,_,t,⟨l1,PySem.W.hideAll_none _ (.head _),l2.2.2,l3⟩,fun b ob z hb hz=>?_⟩,lk',hE⟩
 have fin:∀ o2,s.heap.get? b = some o2→b ≠ e→b ∉ frs (envOfC qual scope s₀.heap.objs.size f cd :: outer)→(PySem.W.hideAll s.heap (e :: frs (envOfC qual scope s₀.heap.objs.size f cd :: outer))).get? b = some ob:=fun o2 z2 n1 n2=>by
  have z3:=on b o2 z2 n1 n2
  have z4:=l1 b o2 z3
  rw [z] at z4
  cases z4
  exact z3
 rcases hz with ⟨o',z0⟩ | ht
 ·obtain ⟨o1,z1⟩:=I.base.there b o' z0 (List.not_mem_nil)
  exact fin o1 z1 (old b o' z0).1 (notst b (old b o' z0).2 hb)
 ·have nb:b ≠ e:=fun ze=>by rw [ze,rem_at] at ht; cases ht
  rw [rem_ne nb] at ht
  cases qq:H b with
  | none=>rw [qq] at ht; cases ht
  | some ob2 =>
   obtain ⟨o2,z2⟩:=(I.hok b ob2 qq).ex
   exact fin o2 z2 nb fun hm=>by rw [sf b hm] at qq; cases qq
end
section
variable {X:Cx} {E:St→XK} {x:Str} {C f:Addr} {fd:FuncData} {ps:List Str} {sp:Sp} {k:Nat} {np cpos pos:Pos} {e:Expr} {es:List Expr} {t:TA} {B newId initId:String} {bmB:List Value}
def tRaiseV (E:St→XK) (C:Addr) (sp:Sp) (t:TA):TS:=fun _ σ H=>t σ H fun vs H1=>vs.length ≤ sizeLine∧∀ y,H1 y = none→sp (.ref y :: vs) (upd H1 y (ExO y C none)) (fun v H2=>v = .non∧∃ o,H2 y = some (ExO y C o)∧E σ (.ref C) o (rem H2 y)) (fun _ _ _=>False)
theorem extO {P:Program} {w:World} {H:Hp} {h:Heap} {y C:Addr} {o:Option Addr} {t:Addr} (q:h.get? y = some ⟨.ref C,o,.fields #[.ref t,.none,.none,.none,.bool false,.none],#[]⟩):ObjOk P w H h y (ExO y C o) :=
 ⟨⟨t,q⟩,⟨_,q⟩,fun h1 h2 ⟨t',q'⟩ z=>⟨t',z _ q'⟩⟩
theorem ps_raiseV (hx:RaisesV X E) (hc:X.calm = true) (hg:Gl X x) (hm:X.mg x = some (.ref C)) (hk:PySem.W.keepIn X.K (.ref C) = true) (q:excI X.K C bmB newId f = true) (FB:ExcBaseFacts B newId initId bmB) (fn:PySem.W.isFn X.K (.ref f) = true)
  (G:FnOk X.prog X.w X.K X.mg X.base CX0 k f fd ps sp) (hr:Room (k + 1) X.A) (hb:Binds X.K fd ps []) (ha:PA X (e :: es) t)
  (hdb:(x == ("__debug__":Str)) = false:=by decide) (he:starEach (e :: es) X.env = (false,eval e X.env) :: starEach es X.env:=by rfl) (hpl:(backTo cpos (starEach es X.env)).any (·.1) = false:=by rfl) :
  PS X (.Raise (some (.Call (.Name x np) (e :: es) [] cpos)) none pos) (tRaiseV E C sp t):=by
 intro pins s σ H D I h
 obtain ⟨bm,N,nm,qn,bs,sn,sub,ab,col,dd,k0,k1,k2,k3,k5,mN,hC,hN,hi,T⟩:=own_objI I.mod.kin q
 rw [arm_exec_Raise]
 refine wpAny_bind (wpAny_standAt (raiseStmt_I (C:=C) (nm:=nm) (qn:=qn) (N:=N) (bs:=bs) (bm:=bm) (sn:=sn) (sub:=sub) (ab:=ab) (col:=col) (dd:=dd) (k0:=k0) (k1:=k1) (k2:=k2) (k3:=k3) (k5:=k5) (newId:=newId) (T.hasType FB.hasBase) (I.ok.hd hc) ?_))
 refine wpAny_bind (wpAny_mono (wpAny_Call_Name_kw (ld_glob I hg hm ?_ hdb)) (fun v s₃ h₃=>wpAny_bind (wpAny_standAt (wpAny_pure h₃))) fun _ _ x=>x)
 refine PySem.W.callWith_K (h₀:=X.base) I.ok.mod.kin hk (thn (ha cpos pins s σ H _ I h) fun us s1 ⟨vs,H1,I1,r,hl,z⟩=>⟨I1.kIn,?_⟩) he hpl
 obtain ⟨oI,hoI,hcI⟩:∃ oI,s1.heap.get? f = some oI∧oI.cls = .type "function":=by
  have e1:PySem.W.typeIn X.K (.ref f) = some (.type "function"):=beq_iff_eq.mp fn
  unfold PySem.W.typeIn at e1
  obtain ⟨oI,q1,q2⟩:=Option.map_eq_some_iff.mp e1
  exact ⟨oI,I1.kIn _ _ q1,q2⟩
 have hsz:s1.heap.objs.size ≥ X.s₀.heap.objs.size:=I1.sz
 have us_len:us.length ≤ sizeLine:=by rw [← r.length]; exact hl
 have hC1:=I1.bk _ _ hC
 have hN1:=hN.keeps I1.bk
 have T1:=T.keeps I1.bk
 obtain ⟨hp,g,d,tk,os⟩:=s1
 show wpAny (model X.prog X.w) X.A (call (.ref C) us) _ _ _
 refine call_I FB T1 hC1 hN1 hi hoI hcI us_len fun h' y md hy=>?_
 obtain ⟨ta,q1,q2,q3⟩:=md.there
 have hn:H1 y = none:=I1.hok.fresh hy
 have I2:Inv X pins σ (upd H1 y (ExO y C none)) ⟨h',g,d,tk,os⟩:=I1.laid (o:=ExO y C none) (t':=tk) md.keeps hy (extO (t:=ta) q1)
 have hz:=z y hn
 have r2:Vals (V.ref y :: vs) (Value.ref y :: us):=.cons rfl r
 have hlen:(Value.ref y :: us ++ []).length = ps.length:=by rw [List.append_nil,← r2.length]; exact G.len _ _ _ _ hz
 have bb:=hb ⟨h',g,d,tk,os⟩ (Value.ref y :: us) I2.kIn hlen
 rw [List.append_nil] at bb
 refine wpAny_call (codeAny_mono (G.run _ X.stack _ _ ⟨Value.ref y :: us,[]⟩ (Value.ref y :: us) _ _ _ (hr.make C us []) (I2.env0.make C us []) bb r2 hz) fun res s' hq=>?_)
 cases res with
 | error ex=>exact hq.elim
 | ok fl =>
  cases fl with
  | next=>exact hq.elim
  | brk=>exact hq.elim
  | cont=>exact hq.elim
  | ret u =>
   obtain ⟨v,H',I3,rv,ev,o,hO,hE⟩:=I2.after hq
   subst ev
   obtain ⟨⟨t3,g1⟩,_,_⟩:=I3.hok y _ hO
   exact ⟨rv,y,_,_,rfl,I3.bk _ _ hC,g1,rfl,rfl,rfl,hx pins σ H' s' y C o I3 hO (Heap.get?_none_of_le (Nat.le_trans hsz hy)) hE⟩
end
structure BaseI (K:PySem.W.Frag) (L:Addr) (initId:String):Prop where
 sp:PySem.W.specialIn K (.ref L) "__getattribute__" = some (some (.builtin "type.__getattribute__"))
 rd:PySem.W.readsIn K L (.type "type") = true
 fc:PySem.W.findCls K (.ref L) (.type "type") "__init__" = some (.val (.builtin initId))
 hd:PySem.W.handedIn (.builtin initId) = true
section
variable {X:Cx} {cn:Str} {L C f:Addr} {np apos pos:Pos} {e:Expr} {es:List Expr} {t:TA} {B newId initId:String} {bmB:List Value}
def tBaseI (C:Addr) (t:TA):TE:=fun σ H Q=>t σ H fun vs H1=>∃ y o us,vs = .ref y :: us∧H1 y = some (ExO y C o)∧us.length ≤ sizeLine∧Q .non H1
theorem pe_baseI {pl:Sem Bool} (hg:Gl X cn) (hm:X.mg cn = some (.ref L)) (bi:BaseI X.K L initId) (q:excI X.K C bmB newId f = true) (FB:ExcBaseFacts B newId initId bmB) (ha:PA X (e :: es) t)
  (hdb:(cn == ("__debug__":Str)) = false:=by decide) (hst:starEach (e :: es) X.env = (false,eval e X.env) :: starEach es X.env:=by rfl) (hpl:(backTo pos (starEach es X.env)).any (·.1) = false:=by rfl)
  (ht:eval (.Call (.Attribute (.Name cn np) "__init__" apos) (e :: es) [] pos) X.env = (do
   let ov ← eval (.Name cn np) X.env
   standAt apos.atName
   let (f,first) ← holding [ov] (getMethod ov "__init__" pl)
   callWith pos f first (backTo pos (starEach (e :: es) X.env)) (backToKw pos (keywordEach [] X.env))):=by rfl) :
  PE X (.Call (.Attribute (.Name cn np) "__init__" apos) (e :: es) [] pos) (tBaseI C t):=by
 intro pins s σ H Q I h
 obtain ⟨bm,N,nm,qn,bs,sn,sub,ab,col,dd,k0,k1,k2,k3,k5,mN,hC,hN,hi,T⟩:=own_objI I.mod.kin q
 refine PySem.W.methodCall_KW (pl:=pl) (ld_glob I hg hm ?_ hdb) ht
 refine PySem.W.method_cls I.kIn bi.sp (PySem.W.cls_value I.kIn bi.rd bi.fc bi.hd ?_)
 have I1:Inv X pins σ H { s with toks:=s.toks + 1 }:=I.tok _
 have hA:=ha pos pins _ σ H _ I1 h
 rw [hst] at hA ⊢
 refine Calls.callWith_builtin (by show (false || (backTo pos (starEach es X.env)).any (·.1)) = false; rw [hpl] <;> rfl) (Calls.evalArgs_plain ?_)
 refine thn hA fun us s2 ⟨vs,H2,I2,r2,y,o,us',ev,hy,hl,q2⟩=>?_
 subst ev
 obtain ⟨w0,ws,eu0,ry,r⟩:∃ w0 ws,us = w0 :: ws∧RelV (.ref y) w0∧Vals us' ws:=by
  cases r2 with
  | cons a b=>exact ⟨_,_,rfl,a,b⟩
 subst eu0
 obtain rfl:w0 = .ref y:=ry
 obtain ⟨⟨ta,g1⟩,_,_⟩:=I2.hok y _ hy
 have hC1:=I2.bk _ _ hC
 have T1:=T.keeps I2.bk
 have wl:ws.length ≤ sizeLine:=by rw [← r.length]; exact hl
 obtain ⟨hp,g,d,tk,os⟩:=s2
 show wpAny (model X.prog X.w) X.A (call (.builtin initId) (.ref y :: ws)) _ _ _
 refine baseInit_I FB T1 hC1 g1 rfl rfl ⟨ta,rfl⟩ wl fun h' tt kp hx hn=>?_
 have I3:Inv X pins σ (upd H2 y (ExO y C o)) ⟨h',g,d,tk,os⟩:=I2.write (x:=y) (e:=y) (t':=tk) (by rw [hy]; exact True.intro) (.inl rfl) (fun b u hb z=>kp b u hb z) ⟨_,hx⟩ (extO (t:=tt) hx)
 have eu:upd H2 y (ExO y C o) = H2:=by
  funext b
  unfold upd
  split
  ·rename_i hb; rw [hb,hy]
  ·rfl
 rw [eu] at I3
 exact ⟨.non,H2,I3,rfl,q2⟩
end
structure VCls (K:PySem.W.Frag) (C:Addr) (f:Str):Prop where
 sa:PySem.W.findIn K (.ref C) "__setattr__" = some (some (.builtin "object.__setattr__"))
 cl:∃ cd,PySem.W.clsIn K C = some cd∧veOver cd.mro = true∧cd.hasDict = true
 tk:PySem.W.takerIn K C f = some none
theorem extD {P:Program} {w:World} {H:Hp} {h:Heap} {d:Addr} {fs:List (Str × V)} {mA:Str→Option Value} (q:h.Ns1 d mA) (r:∀ f,RelO (fs.lookup f) (mA f)) (wi:PySem.Within mA (fs.map (·.1))):ObjOk P w H h d (XdO d fs):=by
 obtain ⟨od,es,ep,e,c⟩:=id q
 refine ⟨⟨mA,q,r,wi⟩,⟨od,e⟩,fun h1 h2 ⟨m',⟨od',es',ep',e',c'⟩,r',w'⟩ z=>⟨m',⟨od',es',ep',z _ e',c'⟩,r',w'⟩⟩
section
variable {X:Cx} {f:Str} {o value:Expr} {pos pos':Pos} {ta tv:TE}
def sFldV (K:PySem.W.Frag) (ta tv:TE) (f:Str):TS:=fun D σ H=>tv σ H fun y H1=>ta σ H1 fun x H2=>∃ e C,x = .ref e∧VCls K C f ∧
  ((H2 e = some (ExO e C none)∧∀ d,H2 d = none→d ≠ e→D.nx σ (upd (upd H2 d (XdO d [(f,y)])) e (ExO e C (some d)))) ∨
   ∃ d fs,H2 e = some (ExO e C (some d))∧H2 d = some (XdO d fs)∧d ≠ e∧fs.length < 1000∧D.nx σ (upd H2 d (XdO d (putF f y fs))))
theorem ps_fldV (ha:PE X o ta) (hv:PE X value tv) (hs:swapsWith value (some (.Attribute o f pos')) pos.line X.env = pure false:=by rfl):PS X (.Assign [.Attribute o f pos'] value pos) (sFldV X.K ta tv f):=by
 intro pins s σ H D I h
 refine plainObj_wpAny_Assign_Attribute (thn (hv pins s σ H _ I h) fun u s1 ⟨y,H1,I1,ry,q⟩=>thn (ha pins s1 σ H1 _ I1 q) fun ov s2 ⟨x,H2,I2,rx,e,C,ex,vc,q2⟩=>?_) hs
 subst ex
 obtain rfl:ov = Value.ref e:=rx
 obtain ⟨cd,hc,hp,hd⟩:=vc.cl
 rcases q2 with ⟨he,q3⟩ | ⟨d,fs,he,hD,hne,hl,q3⟩
 ·obtain ⟨⟨t,g1⟩,_,_⟩:=I2.hok e _ he
  refine set_I I2.kIn g1 vc.sa hc hp hd vc.tk fun h' tk kp gx gd=>?_
  have hnd:H2 s2.heap.objs.size = none:=I2.hok.fresh (Nat.le_refl _)
  have hdne:s2.heap.objs.size ≠ e:=Nat.ne_of_gt (Heap.lt_size g1)
  refine ⟨σ,_,?_,q3 s2.heap.objs.size hnd hdne⟩
  generalize hdd:s2.heap.objs.size = d at hnd hdne gx gd ⊢
  have lt_d:∀ b ob,s2.heap.get? b = some ob→b ≠ d:=fun b ob z=>by rw [← hdd]; exact Nat.ne_of_lt (Heap.lt_size z)
  have far:∀ b ob,H2 b = some ob→(∀ φ,ob ≠ .ext φ)→b ≠ e∧b ≠ d:=fun b ob z nx=>⟨fun ze=>by rw [ze,he] at z; cases z; exact nx _ rfl,fun zd=>by rw [zd,hnd] at z; cases z⟩
  have up:∀ b,b ≠ e→b ≠ d→upd (upd H2 d (XdO d [(f,y)])) e (ExO e C (some d)) b = H2 b:=fun b n1 n2=>by rw [upd_ne n1,upd_ne n2]
  have noe:∀ b,H2 b = none→b ≠ e:=fun b z ze=>by rw [ze,he] at z; cases z
  refine I2.un (t':=tk) ⟨fun b ob z n hb hx=>kp b ob (noe b n) z,fun b ob z n hb hx=>⟨ob.slots,kp b ob (noe b n) z⟩,fun b ob z n hx=>?_,fun b ob z hx=>?_,fun b xs z=>?_,fun b ob u z=>?_,fun b ps z=>?_⟩ fun b ob z=>?_
  ·rw [up b (noe b n) (lt_d b ob z)]; exact n
  ·by_cases hb:b = e
   ·exact ⟨_,by rw [hb]; exact gx⟩
   ·exact ⟨ob,kp b ob hb z⟩
  ·obtain ⟨n1,n2⟩:=far b _ z fun φ=>by intro w; cases w
   rw [up b n1 n2]; exact z
  ·obtain ⟨n1,n2⟩:=far b _ z fun φ=>by intro w; cases w
   rw [up b n1 n2]; exact z
  ·obtain ⟨n1,n2⟩:=far b _ z fun φ=>by intro w; cases w
   exact ⟨#[],by rw [up b n1 n2,Array.append_empty]; exact z⟩
  ·by_cases hb:b = e
   ·subst hb
    rw [upd_same] at z
    cases z
    exact extO gx
   ·by_cases hb2:b = d
    ·subst hb2
     rw [upd_ne hb,upd_same] at z
     cases z
     refine extD gd (fun g=>?_) fun g hg=>?_
     ·by_cases zz:g = f
      ·subst zz
       simp only [List.lookup_cons,beq_self_eq_true,if_true]
       exact ry
      ·have hbq:(g == f) = false:=beq_eq_false_iff_ne.mpr zz
       simp only [List.lookup_cons,hbq,List.lookup_nil,if_neg zz]
       trivial
     ·by_cases zz:g = f
      ·rw [zz]; exact .head _
      ·rw [if_neg zz] at hg; exact absurd rfl hg
    ·rw [up b hb hb2] at z
     refine (I2.hok b ob z).stay (fun c u hcc z2=>?_) (fun c z2=>?_) fun c xs z2=>?_
     ·rcases hcc with rfl | hcc
      ·exact kp _ _ hb z2
      ·exact kp _ _ (far c _ hcc fun φ=>by intro w; cases w).1 z2
     ·obtain ⟨n1,n2⟩:=far c _ z2 fun φ=>by intro w; cases w
      rw [up c n1 n2]; exact z2
     ·obtain ⟨n1,n2⟩:=far c _ z2 fun φ=>by intro w; cases w
      rw [up c n1 n2]; exact z2
 ·obtain ⟨⟨t,g1⟩,_,_⟩:=I2.hok e _ he
  obtain ⟨⟨mA,n1,r1,w1⟩,_,_⟩:=I2.hok d _ hD
  refine set_I2 I2.kIn g1 n1 hne vc.sa hc hp hd vc.tk w1 (by rw [List.length_map]; exact Nat.lt_trans hl (by decide)) fun h' tk kp gd=>?_
  refine ⟨σ,_,?_,q3⟩
  refine I2.write (x:=d) (e:=d) (t':=tk) (by rw [hD]; exact True.intro) (.inl rfl) (fun b u hb z=>kp b u hb z) (let ⟨od,_,_,z,_⟩:=gd; ⟨od,z⟩) (extD gd (fun g=>?_) (fun g hg=>?_))
  ·show RelO ((putF f y fs).lookup g) (if g = f then some u else mA g)
   rw [lookup_putF]
   by_cases z:g = f
   ·rw [if_pos z,if_pos z]; exact ry
   ·rw [if_neg z,if_neg z]; exact r1 g
  ·by_cases z:g = f
   ·rw [z]; exact (keys_putF f y fs).1
   ·rw [if_neg z] at hg; exact (keys_putF f y fs).2 g (w1 g hg)
end
open PySem PySem.Spec PyProof.Rows PySem.W
structure XCls (K:PySem.W.Frag) (C:Addr) (f:Str):Prop where
 ga:PySem.W.findIn K (.ref C) "__getattribute__" = some (some (.builtin "BaseException.__getattribute__"))
 no:PySem.W.findIn K (.ref C) "__getattr__" = some none
 be:PySem.W.mroIn K C (.type "BaseException") = some true
 nf:PySem.W.findIn K (.ref C) f = some none
 cl:∃ cd,PySem.W.clsIn K C = some cd∧cd.hasDict = true
section
variable {prog:Program} {w:World} {A:Around} {E:Value→Shared→Prop} {K:PySem.W.Frag} {a C:Addr} {h:Heap} {g:Array GenState} {d:Drawn} {t:Nat} {os:OsState} {oe od:Obj} {f:Str} {v:Value}
theorem fld_entry_exc {tk:Tok} {Q:Fin→Shared→Prop} (Y:XCls K C f) (X:K.In h) (I:InstAt h a oe C (some od)) (hl:lookIn f od = some (some v)) (hh:handedOut v = pure v)
  (hq:Q (.done (.ret v)) ⟨h,g,d,t,os⟩):wpAny (model prog w) A (Builtin.«object.__getattribute__» ⟨[.ref a,.str f tk],[]⟩) Q E ⟨h,g,d,t,os⟩:=by
 obtain ⟨cd,hcd,hdi⟩:=Y.cl
 have hx:=I.at_
 have hc:=I.cls
 have L1:=looks_findIn (M:=model prog w) X Y.nf
 have LO:Looks (model prog w) h (Builtin.ObjectAttr.inOwnDict f (.ref a)) (some v):=looks_own X I hcd (by unfold PySem.W.ownOf; rw [if_pos hdi]; exact hl)
 unfold Builtin.«object.__getattribute__»
 repeat (any_goals (first | assumption | (with_reducible refine wpAny_loadPart_at hx ?_; rw [hc]) | with_reducible refine L1.at ?_ | with_reducible refine LO.at ?_ | wp_step))
theorem fld_call_exc {tk:Tok} {R:Result→Shared→Prop} (Y:XCls K C f) (X:K.In h) (I:InstAt h a oe C (some od)) (hl:lookIn f od = some (some v)) (hh:handedOut v = pure v) (hq:R (.ok (.ret v)) ⟨h,g,d,t,os⟩) :
  codeAny (model prog w) A (.call (.builtin "BaseException.__getattribute__") ⟨[.ref a,.str f tk],[]⟩) R ⟨h,g,d,t,os⟩ :=
 codeAny_call_builtin PySem.F.attr_ValueError.ga.plain PySem.F.entry_bexc_ga (ga_check_exc X I.at_ I.cls Y.be (fld_entry_exc Y X I hl hh hq))
theorem fld_by_exc {tk:Tok} {fill expr:Bool} {Q:Value→Shared→Prop} (Y:XCls K C f) (X:K.In h) (I:InstAt h a oe C (some od)) (hl:lookIn f od = some (some v)) (hh:handedOut v = pure v) (hq:Q v ⟨h,g,d,t,os⟩) :
  wpAny (model prog w) A (getAttrBy (.ref a) (.str f tk) fill expr) Q E ⟨h,g,d,t,os⟩:=by
 have hx:=I.at_
 have hc:=I.cls
 have L1:=looks_findIn (M:=model prog w) X Y.ga
 have L2:=looks_findIn (M:=model prog w) X Y.no
 have f3:=PySem.F.attr_ValueError.ga.bind (.ref a)
 have e0:(expr && onTheHeap (Value.builtin "BaseException.__getattribute__")) = false:=by cases expr <;> rfl
 have e2:(Value.builtin "BaseException.__getattribute__" == Value.builtin "object.__getattribute__") = false:=by decide +kernel
 have e1:(onTheHeap (Value.ref C) && Value.builtin "BaseException.__getattribute__" == Value.builtin "object.__getattribute__") = false:=by rw [e2]; rfl
 repeat (any_goals (first | assumption | (with_reducible refine wpAny_loadPart_at hx ?_; rw [hc]) | with_reducible refine L1.at ?_ | with_reducible refine L2.at ?_ | wp_step))
 refine fld_call_exc Y X I hl hh ?_
 repeat (any_goals (first | assumption | rw [hh] | wp_step))
theorem fld_attr_exc {expr:Bool} {Q:Value→Shared→Prop} (Y:XCls K C f) (X:K.In h) (I:InstAt h a oe C (some od)) (hl:lookIn f od = some (some v)) (hh:handedOut v = pure v) (hq:Q v ⟨h,g,d,t + 1,os⟩) :
  wpAny (model prog w) A (getAttr (.ref a) f expr) Q E ⟨h,g,d,t,os⟩:=by
 unfold getAttr
 repeat (any_goals (first | assumption | with_reducible apply fld_by_exc Y X I hl hh | wp_step))
end
section
variable {X:Cx} {e:Expr} {te:TE} {f:Str} {pos:Pos} {a:Addr} {oe:Obj} {c:Value} {o:Option Addr}
def tXFld (K:PySem.W.Frag) (a:Addr) (c:Value) (o:Option Addr) (f:Str) (te:TE):TE:=fun σ H Q=>te σ H fun x H1=>x = .ref a∧∃ C d fs v,c = .ref C∧XCls K C f∧o = some d∧H1 d = some (XdO d fs)∧fs.lookup f = some v∧Q v H1
theorem pe_xfld (hp:(a,oe) ∈ X.pn) (hc:oe.cls = c) (hno:PySem.W.notCls oe = true) (hd:∀ d,o = some d→oe.dict = some d) (he:PE X e te) (hb:attributeBase e f X.env (eval e X.env) = eval e X.env:=by rfl):PE X (.Attribute e f pos) (tXFld X.K a c o f te):=by
 intro pins s σ H Q I h
 refine attr_of hb (thn (he pins s σ H _ I h) fun u s1 ⟨x,H1,I1,rx,ex,C,d,fs,v,ec,Y,eo,hD,hl,q⟩=>?_)
 subst ex
 obtain rfl:u = Value.ref a:=rx
 obtain ⟨⟨mA,n1,r1,_⟩,_,_⟩:=I1.hok d _ hD
 obtain ⟨od,hod,hlk⟩:=lookIn_ns n1
 obtain ⟨u',hu,ru⟩:=RelO.some_of (v:=v) (o:=mA f) (by rw [← hl]; exact r1 f)
 have J:InstAt s1.heap a oe C (some od):=⟨(I1.pin (a,oe) (List.mem_append_left _ hp)).1,hc.trans ec,hno,by rw [hd d eo]; exact hod⟩
 exact fld_attr_exc Y I1.kIn J (by rw [hlk,hu]) (PySem.W.handedOut_of (handed_of ru)) ⟨v,H1,I1.tok _,ru,q⟩
end
def eTryV (K:PySem.W.Frag) (C:Addr) (i:Nat) (th:Addr→Value→Option Addr→TS) (D:Ends):St→XK:=fun σ c o H'=>PySem.W.subIn K c (.ref C) = some true∧∀ a,H' a = none →
 th a c o { nx:=fun σ' H''=>D.nx (σ'.set i none) H'',rt:=D.rt,bk:=fun σ' H''=>D.bk (σ'.set i none) H'',ct:=fun σ' H''=>D.ct (σ'.set i none) H'' } (σ.set i (some (.ref a))) H'
theorem lk_dict {a:Addr} {o:Option Addr} {s:Shared} {oe:Obj} (l:Lk a o s) (h:s.heap.get? a = some oe):∀ d,o = some d→oe.dict = some d:=fun d e=>by
 subst e
 obtain ⟨ob,q,z⟩:=l
 rw [h] at q
 cases q
 exact z
section
variable {X:Cx}
theorem ps_tryV {body:List Stmt} {b₀:Stmt} {suite:List Stmt} {cn n:Str} {C:Addr} {i:Nat} {np hpos pos:Pos} {tb:Ends→TS} {th:Addr→Value→Option Addr→TS}
  (hN:X.N.Nodup) (hi:X.N[i]? = some n) (hl:X.env.scope.names.lookup n = some .local) (hg:Gl X cn) (hm:X.mg cn = some (.ref C))
  (hC:PySem.W.typeIn X.K (.ref C) = some (.type "type")) (hE:PySem.W.subIn X.K (.ref C) (.type "BaseException") = some true) (hcl:(PySem.W.clsIn X.K C).isSome = true)
  (hstk:X.stack = X.env :: X.outer) (hfr:X.env.frame = some X.env.locals)
  (hb:∀ D pn E',Passes (CX2 X.prog X.w) (X.at_ pn E') (eTryV X.K C i th D)→PSs (X.at_ pn E') body (tb D))
  (hh:∀ pn a oe c o,(a,oe) ∈ pn→oe.cls = c→PySem.W.notCls oe = true→(∀ d,o = some d→oe.dict = some d)→PSs (X.hand pn a) (b₀ :: suite) (th a c o)) (hd:(cn == ("__debug__":Str)) = false:=by decide) :
  PS X (.Try body [.ExceptHandler (some (.Name cn np)) (some n) (b₀ :: suite) hpos] [] [] pos) (fun D σ H=>tb D D σ H):=by
 intro pins s σ H D I h
 refine wpAny_Try_except ?_
 refine wpAny_mono (hb D (X.pn ++ pins) (fun e s₁=>wpAny (model X.prog X.w) X.A (noteFrame e X.env) (fun _ s₂=>wpAny (model X.prog X.w) X.A (setFlight e none) (fun _ s₃=>wpAny (model X.prog X.w) X.A (handleBy e X.env [.ExceptHandler (some (.Name cn np)) (some n) (b₀ :: suite) hpos]) (SP X pins D) X.xe s₃) X.xe s₂) X.xe s₁) ?_ [] s σ H D I.toAt h) (fun f s₁ q=>?_) fun e s₁ q=>q
 ·intro pins2 σ2 H2 s2 e s2' I2 z
  obtain ⟨a,c,o,H',rfl,F,lk,hsub,hth⟩:=z
  have ff:=F.ff I2
  have fn:=F.fn
  obtain ⟨B,t,fl,hB⟩:=F.fly
  have fl0:Heap.FlyingW B (X.env :: X.outer) a c (.ref t) s2'.heap:=by rw [← hstk]; exact fl
  have hA:X.A.frames = some (X.env :: X.outer):=by rw [← hstk]; exact I.ok.frames
  refine lk_over (dk_noteFrame _ _) lk ?_
  refine wpAny_looks_onW hA hfr fl0 fun h₄ held₄ sm₄ lk₄=>?_
  refine lk_over (dk_setFlight _ _) lk₄ ?_
  refine wpAny_landsW held₄ fun h₅ fl₅ sm₅ lk₅=>?_
  have land:∀ h',Heap.FlyingW B (X.env :: X.outer) a c (.ref t) h'→s2'.heap.UpToSlots h'→∃ oe,Inv (X.hand (X.pn ++ pins ++ [(a,oe)]) a) [] σ2 H' { s2' with heap:=h' }∧h'.get? a = some oe∧oe.cls = c∧PySem.W.notCls oe = true:=fun h' fl' sm=>by
   obtain ⟨U,hok⟩:=fly_land F.un F.hok hB fl'.1 sm fn ff
   have J:Inv X pins σ2 H' { s2' with heap:=h' }:=(I2.call' (s':={ s2' with heap:=h' }) F.os U hok F.bare (fun b hb=>nomatch hb)).ofAt
   obtain ⟨oe,vs,q1,q2,q3,_⟩:=fl'.first
   have hnone:H' a = none:=by
    cases q:H' a with
    | none=>rfl
    | some ob =>
     obtain ⟨o2,e2⟩:=(F.hok a ob q).ex
     have:=hB a o2 e2 (fun hm=>by rw [ff a hm] at q; cases q) (.inr (by rw [q]; rfl))
     rw [fl'.2.1] at this
     cases this
   have nfr:∀ b ∈ frs (X.env :: X.outer),b ≠ a:=fun b hb z=>by
    subst z
    obtain ⟨_,o,q,nf⟩:=fl'.2.2.1.mem hb
    rw [q1] at q
    cases q
    exact nf vs q3
   have hloc:X.env.locals ∈ frs (X.env :: X.outer):=List.mem_filterMap.mpr ⟨X.env,.head _,hfr⟩
   refine ⟨oe,J.toHand q1 hnone (Ne.symm (nfr _ hloc)) (fun hm=>?_) (fun v z=>by rw [q3] at z; cases z),q1,q2,by unfold PySem.W.notCls; rw [q3]⟩
   obtain ⟨env,he,hf⟩:=List.mem_filterMap.mp hm
   exact nfr a (List.mem_filterMap.mpr ⟨env,.tail _ he,hf⟩) rfl
  obtain ⟨oe5,J5,e5,c5,n5⟩:=land h₅ fl₅ (sm₄.trans sm₅)
  refine wpAny_handleBy_cons (codeAny_handlers_test (ld_glob J5 hg hm ?_ hd)) (by intro q; cases q)
  refine excMatches_in J5.kIn e5 c5 hC hE hsub hcl ?_
  refine codeAny_handlers_suite_as ?_
  refine lk_over (dk_setFlight _ _) lk₅ ?_
  refine lands_againW fl₅ fun h₆ fl₆ sm₆ lk₆=>?_
  obtain ⟨oe6,J6,e6,c6,n6⟩:=land h₆ fl₆ ((sm₄.trans sm₅).trans sm₆)
  refine store_ok (X:=X.hand (X.pn ++ pins ++ [(a,oe6)]) a) J6 hN hi (.inl hl) (v:=.ref a) rfl (fun s7 J7=>?_) (.inr hl)
  have hnone:H' a = none:=(J6.pin (a,oe6) (List.mem_append_left _ (List.mem_append_right _ (.head _)))).2.1
  refine wpAny_mono (hh (X.pn ++ pins ++ [(a,oe6)]) a oe6 c o (List.mem_append_right _ (.head _)) c6 n6 (lk_dict lk₆ e6) [] s7 _ H' _ J7 (hth a hnone)) (fun f s8 q=>?_) fun e s8 q=>q.elim
  cases f with
  | next=>obtain ⟨σ',H'',J8,q⟩:=q; exact unstore_ok (J8.ofHand I.ok) hN hi hl fun s9 J9=>⟨_,_,J9,q⟩
  | brk=>obtain ⟨σ',H'',J8,q⟩:=q; exact unstore_ok (J8.ofHand I.ok) hN hi hl fun s9 J9=>⟨_,_,J9,q⟩
  | cont=>obtain ⟨σ',H'',J8,q⟩:=q; exact unstore_ok (J8.ofHand I.ok) hN hi hl fun s9 J9=>⟨_,_,J9,q⟩
  | ret u=>obtain ⟨v,σ',H'',J8,r,q⟩:=q; exact unstore_ok (J8.ofHand I.ok) hN hi hl fun s9 J9=>⟨v,_,_,J9,r,q⟩
 ·cases f with
  | next=>obtain ⟨σ',H',J,q⟩:=q; exact pss_nil pins s₁ σ' H' D J.ofAt q
  | brk=>obtain ⟨σ',H',J,q⟩:=q; exact ⟨σ',H',J.ofAt,q⟩
  | cont=>obtain ⟨σ',H',J,q⟩:=q; exact ⟨σ',H',J.ofAt,q⟩
  | ret u=>obtain ⟨v,σ',H',J,r,q⟩:=q; exact ⟨v,σ',H',J.ofAt,r,q⟩
end
section
variable {X:Cx} {CX:CXT} {k:Nat} {f:Addr} {fd:FuncData} {ps:List Str} {sp:Sp} {dvs:List V} {ds:List Value} {E:St→XK} {x:Str} {p pos p2:Pos} {e a b:Expr} {es:List Expr} {tf:TE} {t:TA}
def tCallV (f:Addr) (sp:Sp) (dvs:List V) (E:St→XK) (tf:TE) (t:TA):TE:=fun σ H Q=>tf σ H fun v H1=>v = .ref f∧t σ H1 fun vs H2=>sp (vs ++ dvs) H2 Q (E σ)
theorem pe_callL (hf:PE X (.Name x p) tf) (F:FnOk X.prog X.w X.K X.mg X.base CX k f fd ps sp) (hr:Room k X.A) (hk:PySem.W.keepIn X.K (.ref f) = true) (hb:Binds X.K fd ps ds) (hd:Vals dvs ds) (hx:Passes CX X E)
  (ha:PA X (e :: es) t) (he:starEach (e :: es) X.env = (false,eval e X.env) :: starEach es X.env:=by rfl) (hpl:(backTo pos (starEach es X.env)).any (·.1) = false:=by rfl) :
  PE X (.Call (.Name x p) (e :: es) [] pos) (tCallV f sp dvs E tf t):=by
 intro pins s σ H Q I h
 refine wpAny_Call_Name_kw (thn (hf pins s σ H _ I h) fun u s1 ⟨v,H1,I1,rv,ev,q⟩=>?_)
 subst ev
 obtain rfl:u = .ref f:=rv
 refine PySem.W.callWith_K (h₀:=X.base) I.ok.mod.kin hk (thn (ha pos pins s1 σ H1 _ I1 q) fun us s2 ⟨vs,H2,I2,r,q2⟩=>⟨I2.kIn,?_⟩) he hpl
 exact run_fn F hr hb hd hx I2 r q2
end
section
variable {X:Cx} {CX:CXT} {k:Nat} {ps:List Str} {E:St→XK} {pos p2:Pos} {e a b:Expr} {es:List Expr} {tf:TE} {t:TA}
def tCallX (X:Cx) (CX:CXT) (k:Nat) (ps:List Str) (E:St→XK) (tf:TE) (t:TA):TE:=fun σ H Q=>tf σ H fun v H1=>∃ (f:Addr) (fd:FuncData) (sp:Sp),v = .ref f∧FnOk X.prog X.w X.K X.mg X.base CX k f fd ps sp∧PySem.W.keepIn X.K (.ref f) = true∧Binds X.K fd ps []∧t σ H1 fun vs H2=>sp vs H2 Q (E σ)
theorem pe_callSX (hf:PE X (.Subscript a b p2) tf) (hr:Room k X.A) (hx:Passes CX X E) (ha:PA X (e :: es) t) (he:starEach (e :: es) X.env = (false,eval e X.env) :: starEach es X.env:=by rfl) (hpl:(backTo pos (starEach es X.env)).any (·.1) = false:=by rfl) :
  PE X (.Call (.Subscript a b p2) (e :: es) [] pos) (tCallX X CX k ps E tf t):=by
 intro pins s σ H Q I h
 show wpAny (model X.prog X.w) X.A (do callWith pos (← eval (.Subscript a b p2) X.env) [] (backTo pos (starEach (e :: es) X.env)) (backToKw pos (keywordEach [] X.env))) _ _ s
 refine wpAny_bind (thn (hf pins s σ H _ I h) fun u s1 ⟨v,H1,I1,rv,f,fd,sp,ev,F,hk,hb,q⟩=>?_)
 subst ev
 obtain rfl:u = .ref f:=rv
 refine PySem.W.callWith_K (h₀:=X.base) I.ok.mod.kin hk (thn (ha pos pins s1 σ H1 _ I1 q) fun us s2 ⟨vs,H2,I2,r,q2⟩=>⟨I2.kIn,?_⟩) he hpl
 exact run_fn (dvs:=[]) F hr hb .nil hx I2 r (by rw [List.append_nil]; exact q2)
end
structure SD (P:Program) (w:World) (K:PySem.W.Frag) (a:Addr) (kvs:List (Key × V)):Prop where
 sz:kvs.length ≤ sizeLine
 sys:(a == sysModules) = false
 ok:∀ h:Heap,K.In h→∃ vs,KV kvs vs∧h.DictOf (mixKind P w) a vs
section
variable {X:Cx} {o i:Expr} {pos:Pos} {td ty:TE} {a:Addr} {kvs:List (Key × V)}
def tSGet (a:Addr) (kvs:List (Key × V)) (td ty:TE):TE:=fun σ H Q=>td σ H fun x H1=>ty σ H1 fun y H2=>∃ k v,x = .ref a∧y = kV k∧valV kvs k = some v∧Q v H2
theorem pe_sdget (D:SD X.prog X.w X.K a kvs) (ho:PE X o td) (hi:PE X i ty) (hs:NoSl i):PE X (.Subscript o i pos) (tSGet a kvs td ty):=by
 intro pins s σ H Q I h
 refine subD_of PySem.F.slot_dict_getitem.lookup hs (thn (ho pins s σ H _ I h) fun u s1 ⟨x,H1,I1,rx,q1⟩=>thn (hi pins s1 σ H1 _ I1 q1) fun iv s2 ⟨y,H2,I2,ry,k,v,ex,ey,l,q2⟩=>?_)
 subst ex ey
 obtain rfl:u = Value.ref a:=rx
 obtain ⟨vs,rel,dd⟩:=D.ok _ I2.kIn
 obtain ⟨w',hw,rw'⟩:=RelO.some_of (v:=v) (o:=valueAt vs k) (by rw [← l]; exact rel.val k)
 exact ⟨dd.typeIs,wpAny_getItem_of (kV_is ry) dd.mapOf hw ⟨v,H2,I2.tok _,rw',q2⟩⟩
theorem vals_keys {P:Program} {w:World}:∀ {vs:List (Key × Value)} {us:List Value},us.length = vs.length→(∀ (j:Nat) (u:Value),us[j]? = some u→∃ k x,vs[j]? = some (k,x)∧(mixKind P w).is k u = true)→Vals (vs.map fun q=>kV q.1) us
 | [],[],_,_=>.nil
 | q :: vs,u :: us,hl,h=>by
  obtain ⟨k,x,e1,e2⟩:=h 0 u rfl
  obtain rfl:q = (k,x):=by simpa using e1
  refine .cons ?_ (vals_keys (by simpa using hl) fun j u' e=>by simpa using h (j + 1) u' (by simpa using e))
  rcases keyIs_shape e2 with ⟨i,t,ek,ev⟩ | ⟨z,t,ek,ev⟩
  ·dsimp only
   rw [ek,ev]
   exact ⟨t,rfl⟩
  ·dsimp only
   rw [ek,ev]
   exact ⟨t,rfl⟩
 | [],_ :: _,hl,_=>by simp at hl
 | _ :: _,[],hl,_=>by simp at hl
theorem call_listSD (hc:X.calm = true) (D:SD X.prog X.w X.K a kvs):CallR X (.type "list") (fun xs H Q=>xs = [.ref a]∧∀ l,H l = none→Q (.ref l) (upd H l (.lst (kvs.map fun q=>kV q.1)))):=by
 intro pins s σ H xs us Q I r h
 obtain ⟨rfl,q⟩:=h
 obtain ⟨u,rfl,rx⟩:=vals1 r
 cases rx
 obtain ⟨vs,rel,dd⟩:=D.ok _ I.kIn
 obtain ⟨ep,hat⟩:=dd.dictAt
 have hlen:vs.length = kvs.length:=rel.length.symm
 refine PySem.W.kdl_call (PySem.W.kdl_dict (knd:=mixKind X.prog X.w) (kvs:=vs) (ep:=ep) D.sys) (I.ok.hd hc) hat (by rw [hlen]; exact D.sz) fun h' tk acc c' hkp hS hacc=>?_
 have hv:Vals (vs.map fun q=>kV q.1) acc.toList:=vals_keys (P:=X.prog) (w:=X.w) (by rw [Array.length_toList,hacc.1]) fun j u e=>hacc.2 j u (by rw [← Array.getElem?_toList]; exact e)
 have ek:(kvs.map fun q=>kV q.1) = vs.map fun q=>kV q.1:=by
  have e:=congrArg (List.map kV) rel.keys
  rw [List.map_map,List.map_map] at e
  exact e
 refine ⟨.ref s.heap.objs.size,_,I.laid (t':=tk) hkp (Nat.le_refl _) (show ObjOk X.prog X.w _ h' _ (.lst (kvs.map fun q=>kV q.1)) from ⟨by rw [List.length_map]; exact D.sz,acc.toList,c',by rw [ek]; exact hv,by simpa using hS⟩),rfl,q _ (I.hok.fresh (Nat.le_refl _))⟩
end
inductive SEs (P:Params):List DictEntry→List (Key × V)→Prop
 | nil:SEs P [] []
 | cons {x:Str} {t:Tok} {u:Value} {v:V} {es:List DictEntry} {kvs:List (Key × V)}:RelV v u→SEs P es kvs→SEs P (⟨PyData.keyHash P x,.str x t,u⟩ :: es) ((.inr x,v) :: kvs)
theorem SEs.keys {P:Program} {w:World}:∀ {es:List DictEntry} {kvs:List (Key × V)},SEs w.params es kvs→∀ e ∈ es,∃ k,(mixKind P w).is k e.key = true∧e.hash = (mixKind P w).hash k
 | _,_,.nil,e,he=>by cases he
 | _,_,.cons (x:=x) (t:=t) (u:=u) r s,e,he=>by
  rcases List.mem_cons.mp he with rfl | he
  ·exact ⟨.inr x,by show Value.isStrOf x (.str x t) = true; simp [Value.isStrOf],rfl⟩
  ·exact s.keys e he
theorem SEs.pairs {P:Program} {w:World}:∀ {es:List DictEntry} {kvs:List (Key × V)},SEs w.params es kvs→∃ vs,KV kvs vs∧Pairs (mixKind P w) es vs∧vs.map (·.1) = kvs.map (·.1)
 | _,_,.nil=>⟨[],.nil,.nil,rfl⟩
 | _,_,.cons (x:=x) (t:=t) (u:=u) r s=>by
  obtain ⟨vs,a,b,c⟩:=s.pairs (P:=P)
  exact ⟨(.inr x,u) :: vs,.cons ⟨rfl,r⟩ a,.cons (by show Value.isStrOf x (.str x t) = true; simp [Value.isStrOf]) rfl b,by rw [List.map_cons,List.map_cons,c]⟩
theorem sd_mk {P:Program} {w:World} {K:PySem.W.Frag} {a:Addr} {es:Array DictEntry} {ep:Nat} {kvs:List (Key × V)} (hl:K.lookup a = some ⟨.type "dict",none,.dict es ep,#[]⟩) (hs:SEs w.params es.toList kvs) (nd:(kvs.map (·.1)).Nodup) (sz:kvs.length ≤ sizeLine) (sys:(a == sysModules) = false):SD P w K a kvs:=by
 refine ⟨sz,sys,fun h kin=>?_⟩
 obtain ⟨vs,q1,q2,q3⟩:=hs.pairs (P:=P)
 exact ⟨vs,q1,_,es,ep,kin _ _ hl,⟨rfl,rfl,rfl⟩,rfl,fun e he=>hs.keys e (Array.mem_toList_iff.mpr he),q2,by rw [q3]; exact nd⟩
theorem strs_of:∀ {zs:List Str} {us:List Value},Vals (zs.map V.str) us→StrsAre us zs
 | [],_,.nil=>.nil
 | z :: zs,_,.cons ⟨t,e⟩ r=>by
  subst e
  exact .cons z t (strs_of r)
section
variable {X:Cx}
def rJoin (K:PySem.W.Frag):V→List V→Hp→VK→Prop:=fun x vs H Q=>∃ (z:Str) (p:Addr) (zs:List Str),x = .str z∧vs = [.ref p]∧SqL K H p (zs.map V.str)∧(zs.map (·.length)).sum + zs.length * z.length ≤ 16777216∧Q (.str (Str.join z zs)) H
theorem mt_join:MtM X "str.join" (rJoin X.K):=by
 intro pins s σ H x vs v us Q I rx rv h
 obtain ⟨z,p,zs,rfl,rfl,hp,hz,q⟩:=h
 obtain ⟨t,rfl⟩:=rx
 obtain ⟨u,rfl,ru⟩:=rv.one
 cases ru
 obtain ⟨its,r,pl,_⟩:=I.list hp
 refine join_list pl.isList (ys:=zs) (strs_of r) hz fun t' k=>⟨.str (Str.join z zs),H,I.tok _,⟨t',?_⟩,q⟩
 rw [show PySem.Txt.join z zs = Str.join z zs from StrLaws.glued_eq_join _ _]
end
section
open PySem.SeqAt
open PySem.AutoSeq1 (wpAny_loadPart')
open PySem.MeetsSeq PySem.MeetsSeq2 PySem.MeetsSeq3
end
section
variable {X:Cx}
end
section
variable {prog:Program} {w:World} {A:Around} {R:Result→Shared→Prop} {s:Shared}
theorem codeAny_compLoop_G {elt target iter:Expr} {ifs:List Expr} {scope:Scope} {pos:Pos} {it acc:Value} {env:Env} (I:Nat→Shared→Prop)
  (turn:∀ n s,I n s→wpAny (model prog w) A (pyNext it) (fun r s₁=>match r with
   | none=>R (.ok .next) s₁
   | some v=>wpAny (model prog w) A (letOwnedTupleGo target it v) (fun _ s₂=>wpAny (model prog w) A (assign target env v) (fun _ s₃ =>
     wpAny (model prog w) A (forIn ifs true fun c r=>if r = true then do let ok ← isTrue c env (eval c env); pure (ForInStep.yield ok) else pure (ForInStep.yield r)) (fun ok sk =>
      if ok = true then wpAny (model prog w) A (eval elt env) (fun x s₄ =>
       wpAny (model prog w) A (call (.builtin "list.append") [acc,x]) (fun _ s₅=>∃ m,m < n∧I m s₅) (fun _ _=>False) s₄) (fun _ _=>False) sk
      else ∃ m,m < n∧I m sk) (fun _ _=>False) s₃) (fun _ _=>False) s₂) (fun _ _=>False) s₁) (fun _ _=>False) s)
  (n:Nat) (h:I n s):codeAny (model prog w) A (.compLoop (.ListComp elt [⟨target,iter,ifs,0⟩] scope pos) 0 it acc env) R s:=by
 refine codeAny_loop rfl I (fun n s hI=>?_) n h
 show wpAny _ _ ((compTurn (.ListComp elt [⟨target,iter,ifs,0⟩] scope pos) 0 it acc env).onRaise (fun x=>do noteFrame x env; theTreesLotGoes x)) _ _ s
 refine wpAny_noted ?_
 rw [compTurn_list]
 refine wpAny_bind (wpAny_standAt (wpAny_bind (wpAny_mono (turn n s hI) (fun r s₁ h₁=>?_) fun _ _ f=>f.elim)))
 cases r with
 | none=>exact wpAny_pure h₁
 | some v =>
  refine wpAny_bind (wpAny_mono h₁ (fun _ s₂ h₂=>?_) fun _ _ f=>f.elim)
  refine wpAny_bind (wpAny_mono h₂ (fun _ s₃ h₃=>?_) fun _ _ f=>f.elim)
  refine wpAny_bind (wpAny_mono h₃ (fun ok sk hk=>?_) fun _ _ f=>f.elim)
  cases ok with
  | false=>exact wpAny_pure ⟨rfl,hk⟩
  | true=>exact wpAny_bind (wpAny_bind (wpAny_mono hk (fun x s₄ h₄=>wpAny_bind (wpAny_mono h₄ (fun _ s₅ h₅=>wpAny_pure (wpAny_pure ⟨rfl,h₅⟩)) fun _ _ f=>f.elim)) fun _ _ f=>f.elim))
end
def Kp (st0 σ6:St):Prop:=σ6.length = st0.length∧∀ (k:Nat) (v:V),st0[k]? = some (some v)→σ6[k]? = some (some v)
def CompZ (J:It) (g:TG) (tt:TT) (te:TE) (st0:St) (Q:VK) (D:Addr) (H1:Hp):Prop :=
 ∃ W:Nat→Nat→List V→Hp→Prop,(∃ m,W 0 m [] (upd H1 D (.lst [])))∧∀ i m ys Hc,W i m ys Hc→Hc D = some (.lst ys) ∧
  ((J.stop i Hc∧Q (.ref D) Hc)∨(J.go i Hc∧ys.length < sizeLine∧∀ x H',J.yld i Hc x H'→g x st0 H' fun σ6 H6=>Kp st0 σ6∧tt σ6 H6 fun b H7 =>
   if b = true then te σ6 H7 fun y H3=>H3 D = some (.lst ys)∧∃ m',m' < m∧W (i + 1) m' (ys ++ [y]) (upd H3 D (.lst (ys ++ [y]))) else ∃ m',m' < m∧W (i + 1) m' ys H7))
def tCompZ (wi:TI) (xs:List Str) (js:List Nat) (g:TG) (tt:TT) (te:TE):TE:=fun σ H Q=>wi σ H fun J H1=>∀ D,H1 D = none→CompZ J g tt te (xs.map (fun _=>none) ++ fvals js σ) Q D H1
def Tsts (X:Cx) (ifs:List Expr) (tt:TT):Prop :=
 ∀ (pins:List (Addr × Obj)) (s:Shared) (σ:St) (H:Hp) (Q:Bool→Hp→Prop),Inv X pins σ H s→tt σ H Q →
  wpAny (model X.prog X.w) X.A (forIn ifs true fun c r=>if r = true then do let ok ← isTrue c X.env (eval c X.env); pure (ForInStep.yield ok) else pure (ForInStep.yield r)) (TP X pins σ Q) X.xe s
theorem tsts_one {X:Cx} {c:Expr} {tt:TT} (h:PT X c tt):Tsts X [c] tt:=fun pins s σ H Q I hw=>wpAny_tests_one (h pins s σ H Q I hw)
section
variable {X:Cx} {elt iter tg:Expr} {ifs:List Expr} {xs:List Str} {pos:Pos} {scope:Scope} {fv:List Str} {js:List Nat} {wi:TI} {te:TE} {tt:TT} {g:TG}
structure CompTz (X:Cx) (iter:Expr) (scope:Scope) (cl:List (Str × Addr)) (xs fv:List Str) (js:List Nat):Prop where
 clos:closureFor scope X.env = pure cl
 kind:scope.kind = .function
 nocell:∀ y ∈ scope.names,y.2 ≠ .cell
 names:∀ y ∈ scope.names,y.2 = .local→scope.names.lookup y.1 = some .local
 sub:ClSub X.env.cells cl
 all:ClAll cl (relabel scope X.env).names
 fvs:FvOk X (relabel scope X.env) cl fv js
 fold:∀ y,foldedSetIterable iter X.env y = pure y
theorem comp_startZ {cl:List (Str × Addr)} {pins:List (Addr × Obj)} {σ:St} {H:Hp} {s3:Shared} {fp:List Addr} {h1:Heap} {tk:Nat} (T:CompTz X iter scope cl xs fv js) (I:Inv X pins σ H s3) (hf:∀ b ∈ fp,FpOk X pins H b)
  (ho:∀ b ∈ fp,b < s3.heap.objs.size) (hn:h1.Ns s3.heap.objs.size (fun _=>none)) (hk:∀ b o,s3.heap.get? b = some o→h1.get? b = some o) :
  Inv (X.comp pins scope cl (xs ++ fv) fp s3 H) [] (xs.map (fun _=>none) ++ fvals js σ) H { s3 with heap:=h1,toks:=tk }:=by
 have cne:∀ y c,cl.lookup y = some c→X.env.cells.lookup y = some c:=fun y c e=>T.sub.get e
 have cle:∀ y c,cl.lookup y = some c→∃ v,s3.heap.IsCell c v:=fun y c e=>I.cell y c (cne y c e)
 have clt:∀ y c,cl.lookup y = some c→c ≠ s3.heap.objs.size:=fun y c e=>by
  obtain ⟨v,o,q,_⟩:=cle y c e
  exact Nat.ne_of_lt (Heap.lt_size q)
 refine ⟨⟨I.ok.mod,T.kind,I.ok.glob,I.ok.blt,Nat.le_refl _,fun y z c e1 e2=>I.ok.inj y z c (cne y c e1) (cne z c e2),fun y hy=>?_,fun _ _ e _=>(nomatch e),I.ok.hd,I.ok.frames,.inl rfl,fun b hb=>⟨Nat.ne_of_lt (ho b hb),fun y c e=>(hf b hb).2.2.2.2.1 y c (cne y c e)⟩,
  I.bs,Nat.le_trans I.ok.bsz I.sz,fun b o e hb=>?_,fun b hb hm=>?_,I.stack,I.stkFree⟩,rfl,I.bare,Un.kept hk,⟨_,hn,fun i y v e1 e2 e3=>?_⟩,fun y c e=>?_,I.hok.fresh (Nat.le_refl _),fun y c e=>I.freeC y c (cne y c e),fun p hp=>?_,I.hok.kept hk,?_⟩
 ·rcases hy with e | e
  ·exact T.all.get e (.inl rfl)
  ·exact T.all.get e (.inr rfl)
 ·obtain ⟨_,_,_,q,_⟩:=hf b hb
  rcases q with q | q
  ·exact I.ok.noex b o e q
  ·exact absurd (Heap.lt_size (I.ok.bs b o e).1) (Nat.not_lt.mpr q)
 ·obtain ⟨_,q1,q2,_⟩:=hf b hb
  rcases List.mem_cons.mp (I.stkSub b hm) with z | z
  ·exact q1 z
  ·exact q2 z
 ·by_cases hi:i < xs.length
  ·rw [List.getElem?_append_left (by rw [List.length_map]; exact hi),List.getElem?_map,List.getElem?_eq_getElem hi] at e2
   simp at e2
  ·rw [List.getElem?_append_right (by rw [List.length_map]; omega),List.length_map] at e2
   have e1':(xs ++ fv)[i]? = some y:=e1
   rw [List.getElem?_append_right (by omega)] at e1'
   obtain ⟨j,c,g1,g2,g3,g4,g5,g6⟩:=T.fvs.get (σ:=σ) (k:=i - xs.length) (x:=y) (v:=v) e1' e2
   obtain ⟨m,_,hl⟩:=I.loc
   obtain ⟨u,r,l⟩:=hl j y v g1 g2 (g3.elim (fun z=>.inr (.inl z)) fun z=>.inr (.inr z))
   refine ⟨u,r,.inr ⟨g6,c,g5,?_⟩⟩
   rcases l with ⟨z,_⟩ | ⟨_,c',z,o,e,d⟩
   ·rcases g3 with g | g
    ·rw [g] at z; cases z
    ·rw [g] at z; cases z
   ·rw [g4] at z
    cases z
    exact ⟨o,hk _ _ e,d⟩
 ·obtain ⟨v,o,e,d⟩:=cle y c e
  exact ⟨v,o,hk _ _ e,d⟩
 ·rw [List.append_nil] at hp
  obtain ⟨e,n,ne,nf,d⟩:=I.pin p hp
  refine ⟨hk _ _ e,n,Nat.ne_of_lt (Heap.lt_size e),fun hm=>?_,d⟩
  rcases List.mem_cons.mp (I.stkSub _ hm) with z | z
  ·exact ne z
  ·exact nf z
 ·simp [fvals,T.fvs.len]
theorem comp_endZ {Nc:List Str} {cl:List (Str × Addr)} {pins:List (Addr × Obj)} {σ σ':St} {H H':Hp} {s3 s1:Shared} {fp:List Addr} {h':Heap} {more:List (Addr × Obj)} (I:Inv X pins σ H s3) (hf:∀ b ∈ fp,FpOk X pins H b)
  (J:Inv (X.comp pins scope cl Nc fp s3 H) more σ' H' s1) (hs:Heap.SameBut s3.heap.objs.size s1.heap h'):Inv X pins σ H' { s1 with heap:=h' }:=by
 have ne:∀ b o,s3.heap.get? b = some o→b ≠ s3.heap.objs.size:=fun b o e=>Nat.ne_of_lt (Heap.lt_size e)
 have B:=J.base
 have U:Un (frs X.stack) fp H H' s3.heap h':=⟨fun b o e n hb hx=>(hs.2 b (ne b o e)).trans (B.keep b o e n hb hx),fun b o e n hb hx=>by
   obtain ⟨sl,q⟩:=B.slot b o e n hb hx
   exact ⟨sl,(hs.2 b (ne b o e)).trans q⟩,B.free,fun b o e hx=>by
   obtain ⟨o',q⟩:=B.there b o e hx
   exact ⟨o',(hs.2 b (ne b o e)).trans q⟩,B.tups,B.frzs,B.tbls⟩
 have fr:H' s3.heap.objs.size = none:=J.free
 have hok:HOk X.prog X.w H' h':=fun b ob e=>by
  refine (J.hok b ob e).stay (fun c u hc q=>(hs.2 c ?_).trans q) (fun _ q=>q) fun _ _ q=>q
  rintro rfl
  rcases hc with rfl | hc
  ·rw [fr] at e; cases e
  ·rw [fr] at hc; cases hc
 exact I.call' (s':={ s1 with heap:=h' }) J.os U hok J.bare fun b hb=>⟨(hf b hb).2.2.2.1,(hf b hb).2.1,(hf b hb).2.2.2.2.1,(hf b hb).2.2.2.2.2⟩
theorem comp_loopZ {cl:List (Str × Addr)} {pins:List (Addr × Obj)} {σ:St} {H1:Hp} {s3:Shared} {fp:List Addr} {it D:Addr} {tn:Nat→Heap→Prop} {J:It} {Q:VK} {h1:Heap} {tk:Nat} {R:Result→Shared→Prop} (hc:X.calm = true)
  (T:CompTz X iter scope cl xs fv js) (I:Inv X pins σ (upd H1 D (.lst [])) s3) (hf:∀ b ∈ fp,FpOk X pins (upd H1 D (.lst [])) b) (Tn:Turn X.prog X.w X.K tg J fp it tn) (t0:tn 0 s3.heap)
  (hn:h1.Ns s3.heap.objs.size (fun _=>none)) (hk:∀ b o,s3.heap.get? b = some o→h1.get? b = some o)
  (hg:PG (X.comp pins scope cl (xs ++ fv) fp s3 (upd H1 D (.lst []))) tg g) (hts:Tsts (X.comp pins scope cl (xs ++ fv) fp s3 (upd H1 D (.lst []))) ifs tt)
  (he:PE (X.comp pins scope cl (xs ++ fv) fp s3 (upd H1 D (.lst []))) elt te) (hW:CompZ J g tt te (xs.map (fun _=>none) ++ fvals js σ) Q D H1)
  (hR:∀ Hc s1,Inv (X.comp pins scope cl (xs ++ fv) fp s3 (upd H1 D (.lst []))) [] (xs.map (fun _=>none) ++ fvals js σ) Hc s1→Q (.ref D) Hc→R (.ok .next) s1) :
  codeAny (model X.prog X.w) X.A (.compLoop (.ListComp elt [⟨tg,iter,ifs,0⟩] scope pos) 0 (.ref it) (.ref D) (compEnvC scope cl s3.heap.objs.size X.env)) R { s3 with heap:=h1,toks:=tk }:=by
 have ho:∀ b ∈ fp,b < s3.heap.objs.size:=fun b hb=>by
  obtain ⟨o,e,_⟩:=Tn.obj 0 _ t0 b hb
  exact Heap.lt_size e
 have I0:=comp_startZ (tk:=tk) T I hf ho hn hk
 obtain ⟨W,⟨m0,w0⟩,step⟩:=hW
 have fpc:∀ {Hc:Hp},(∀ b ∈ fp,Hc b = none)→∀ b ∈ fp,FpOk (X.comp pins scope cl (xs ++ fv) fp s3 (upd H1 D (.lst []))) [] Hc b:=fun {Hc} hn b hb=>by
  refine ⟨hn b hb,Nat.ne_of_lt (ho b hb),fun hm=>?_,.inl hb,fun y c e=>(hf b hb).2.2.2.2.1 y c (T.sub.get e),fun p hp=>(hf b hb).2.2.2.2.2 p (by simpa using hp)⟩
  rcases List.mem_cons.mp (I.stkSub _ hm) with z | z
  ·exact (hf b hb).2.1 z
  ·exact (hf b hb).2.2.1 z
 refine codeAny_compLoop_G (fun n s=>∃ i ys Hc,Inv (X.comp pins scope cl (xs ++ fv) fp s3 (upd H1 D (.lst []))) [] (xs.map (fun _=>none) ++ fvals js σ) Hc s∧tn i s.heap∧(∀ b ∈ fp,Hc b = none)∧W i n ys Hc) ?_ m0
  ⟨0,[],_,I0,Tn.keep _ _ _ t0 fun b _ o e=>hk b o e,fun b hb=>(hf b hb).1,w0⟩
 rintro n s ⟨i,ys,Hc,Ic,tc,fc,wc⟩
 obtain ⟨hD,hh⟩:=step i n ys Hc wc
 rcases hh with ⟨stop,q⟩ | ⟨go,hl,turn⟩
 ·refine thn (Tn.done (X.comp pins scope cl (xs ++ fv) fp s3 (upd H1 D (.lst []))) rfl rfl rfl hc i [] s _ Hc _ Ic (fpc fc) tc stop) fun r s1 ⟨hr,I1⟩=>?_
  subst hr
  exact hR Hc s1 I1 q
 ·refine thn (Tn.item (X.comp pins scope cl (xs ++ fv) fp s3 (upd H1 D (.lst []))) rfl rfl rfl hc i [] s _ Hc _ Ic (fpc fc) tc go) fun r s1 ⟨u,hr,h4⟩=>?_
  subst hr
  refine thn h4 fun _ s5 ⟨y,H5,I5,r5,y5,t5,f5⟩=>?_
  have I5':=I5.pinned (fpc f5) (Tn.obj _ _ t5)
  refine thn (hg _ s5 _ H5 y u _ I5' r5 (turn y _ y5)) fun _ s6 ⟨σ6,H6,I6,kp6,q6⟩=>?_
  refine thn (hts _ s6 σ6 H6 _ I6 q6) fun b s7 ⟨H7,I7,q7⟩=>?_
  have back:∀ {s8:Shared} {H8:Hp},Inv (X.comp pins scope cl (xs ++ fv) fp s3 (upd H1 D (.lst []))) ([] ++ pinsAt fp s5.heap) σ6 H8 s8→Inv (X.comp pins scope cl (xs ++ fv) fp s3 (upd H1 D (.lst []))) [] (xs.map (fun _=>none) ++ fvals js σ) H8 s8∧tn (i + 1) s8.heap∧∀ b ∈ fp,H8 b = none:=fun {s8 H8} I8=>by
   refine ⟨I8.unpinned.weak kp6.1.symm (fun k v' e=>kp6.2 k v' e),Tn.keep _ _ _ t5 fun b hb o e=>(I8.pin (b,o) (List.mem_append_right _ (List.mem_append_right _ (mem_pinsAt hb e)))).1,fun b hb=>?_⟩
   obtain ⟨o,e,d⟩:=Tn.obj _ _ t5 b hb
   exact (I8.pin (b,o) (List.mem_append_right _ (List.mem_append_right _ (mem_pinsAt hb e)))).2.1
  cases b with
  | false =>
   rw [if_neg Bool.false_ne_true] at q7 ⊢
   obtain ⟨m',hm,w7⟩:=q7
   obtain ⟨b1,b2,b3⟩:=back I7
   exact ⟨m',hm,i + 1,ys,H7,b1,b2,b3,w7⟩
  | true =>
   rw [if_pos rfl] at q7 ⊢
   refine thn (he _ s7 _ _ _ I7 q7) fun v s8 ⟨z,H8,I8,r8,hD8,m',hm,w8⟩=>?_
   refine thn (mt_append _ s8 _ H8 (.ref D) [z] (.ref D) [v] (fun _ H9=>H9 = upd H8 D (.lst (ys ++ [z]))) I8 rfl (.cons r8 .nil) ⟨D,ys,z,rfl,rfl,hD8,hl,rfl⟩) fun _ s9 ⟨_,H9,I9,_,e9⟩=>?_
   subst e9
   obtain ⟨b1,b2,b3⟩:=back I9
   exact ⟨m',hm,i + 1,ys ++ [z],_,b1,b2,b3,w8⟩
theorem pe_compZ {cl:List (Str × Addr)} (hc:X.calm = true) (T:CompTz X iter scope cl xs fv js) (hi:PI X tg iter wi) (hg:∀ pins fp s H,PG (X.comp pins scope cl (xs ++ fv) fp s H) tg g) (hts:∀ pins fp s H,Tsts (X.comp pins scope cl (xs ++ fv) fp s H) ifs tt) (he:∀ pins fp s H,PE (X.comp pins scope cl (xs ++ fv) fp s H) elt te) :
  PE X (.ListComp elt [⟨tg,iter,ifs,0⟩] scope pos) (tCompZ wi xs js g tt te):=by
 intro pins s σ H Q I h
 rw [eval_ListComp]
 refine wpAny_comprehension_free (use:=none) rfl T.fold T.clos T.kind T.names (thn (hi pins s σ H _ I h) fun v s1 h1=>thn h1 fun itv s2 h2=>?_)
 obtain ⟨it,fp,tn,J,H1,rfl,I2,Tn,t0,f2,hR⟩:=h2
 refine wpAny_newObj_type ?_
 have ho:∀ b ∈ fp,b ≠ s2.heap.objs.size:=fun b hb=>by
  obtain ⟨o,e,_⟩:=Tn.obj 0 _ t0 b hb
  exact Nat.ne_of_lt (Heap.lt_size e)
 have I3:Inv X pins σ (upd H1 s2.heap.objs.size (.lst [])) _:=I2.lnew (t':=s2.toks) (ys:=[]) (its:=[]) .nil (Nat.zero_le _)
 have f3:∀ b ∈ fp,FpOk X pins (upd H1 s2.heap.objs.size (.lst [])) b:=fun b hb=>⟨by rw [upd_ne (ho b hb)]; exact (f2 b hb).1,(f2 b hb).2⟩
 have t3:tn 0 (s2.heap.push { cls:=.type "list",data:=.seq ([]:List Value).toArray }):=Tn.keep _ _ _ t0 fun b _ o e=>Heap.get?_push_of_some _ e
 have hW:=hR s2.heap.objs.size (I2.hok.fresh (Nat.le_refl _))
 refine wpAny_newFunctionEnv T.nocell (by intro y hy; simp at hy) (fun h1 hn hs=>?_) T.kind
 have hk:∀ b o,(s2.heap.push { cls:=.type "list",data:=.seq ([]:List Value).toArray }).get? b = some o→h1.get? b = some o:=fun b o e =>
  (hs.2 b (Nat.ne_of_lt (Heap.lt_size e))).trans (Heap.get?_push_of_some _ e)
 have loop:=fun tk=>comp_loopZ (elt:=elt) (pos:=pos) (R:=compPost (model X.prog X.w) X.A X.xe none (EP X pins σ Q) (.ref s2.heap.objs.size) (s2.heap.push { cls:=.type "list",data:=.seq ([]:List Value).toArray }).objs.size) (tk:=tk) hc T I3 f3 Tn t3 hn hk (hg pins fp _ _) (hts pins fp _ _) (he pins fp _ _) hW
  fun Hc s1 J q=>by
   obtain ⟨m,hm,_⟩:=J.loc
   exact ⟨m,hm,fun h' hs'=>⟨.ref s2.heap.objs.size,Hc,comp_endZ I3 f3 J hs',rfl,q⟩⟩
 refine codeAny_compStart_list (loop _) ?_
 exact Tn.self _ 0 _ _ _ (Tn.keep _ _ _ t3 fun b _ o e=>hk b o e) (loop _)
end
section
variable {X:Cx}
end
open PySem.W (codeHdIn kla_obj kla_fn CodeHd tabObj kla_makeFunction kla_makeFunctionHit kla_eval kla_callFunE kla_codeExpr)
def CdR (c:Addr) (q:Str):HO:=.ext fun h=>h.CodeRec (.ref c) q
def TabOk (H:Hp) (P:Addr) (pos:Pos) (q:Str):Prop :=
 H P = some (.tbl #[])∨∃ c,H P = some (.tbl #[rawInt pos.line,rawInt pos.col,.ref c])∧H c = some (CdR c q)
structure SameT (H H':Hp):Prop where
 o:∀ b o,(∀ ps,o ≠ .tbl ps)→H b = some o→H' b = some o
 t:∀ b ps,H b = some (.tbl ps)→∃ ps',H' b = some (.tbl ps')
theorem SameT.refl {H:Hp}:SameT H H:=⟨fun _ _ _ e=>e,fun _ ps e=>⟨ps,e⟩⟩
theorem SameT.trans {H H1 H2:Hp} (a:SameT H H1) (b:SameT H1 H2):SameT H H2:=⟨fun c o n e=>b.o c o n (a.o c o n e),fun c ps e=>let ⟨ps',e'⟩:=a.t c ps e; b.t c ps' e'⟩
theorem Same.t {H H':Hp} (a:Same H H'):SameT H H':=⟨fun b o _ e=>a b o e,fun b ps e=>⟨ps,a b _ e⟩⟩
theorem SameT.lst {H H':Hp} (a:SameT H H') {b:Addr} {xs:List V} (e:H b = some (.lst xs)):H' b = some (.lst xs):=a.o b _ (fun _ z=>nomatch z) e
theorem SameT.tup {H H':Hp} (a:SameT H H') {b:Addr} {xs:List V} (e:H b = some (.tup xs)):H' b = some (.tup xs):=a.o b _ (fun _ z=>nomatch z) e
theorem SameT.ins {H H':Hp} (a:SameT H H') {b C dx:Addr} {fs:List (Str × V)} (e:H b = some (.ins C dx fs)):H' b = some (.ins C dx fs):=a.o b _ (fun _ z=>nomatch z) e
theorem SameT.dK {H H':Hp} (a:SameT H H') {b:Addr} {kvs:List (Key × V)} (e:H b = some (.dK kvs)):H' b = some (.dK kvs):=a.o b _ (fun _ z=>nomatch z) e
theorem SameT.none {H H':Hp} (a:SameT H H') {b:Addr} (e:H' b = none):H b = none:=by
 cases h:H b with
 | none=>rfl
 | some o =>
  exfalso
  by_cases z:∃ ps,o = .tbl ps
  ·obtain ⟨ps,rfl⟩:=z
   obtain ⟨ps',e'⟩:=a.t _ _ h
   rw [e'] at e; cases e
  ·rw [a.o _ _ (fun ps e=>z ⟨ps,e⟩) h] at e; cases e
theorem SameT.seqL {K:PySem.W.Frag} {H H':Hp} {a:Addr} {xs:List V} (t:SameT H H') (h:SqL K H a xs):SqL K H' a xs:=by
 rcases h with (h | ⟨o,h⟩) | h
 ·exact .inl (.inl (t.o _ _ (fun _ z=>nomatch z) h))
 ·exact .inl (.inr ⟨o,t.o _ _ (fun _ z=>nomatch z) h⟩)
 ·exact .inr h
theorem Same.tab {H H':Hp} {P:Addr} {pos:Pos} {q:Str} (a:Same H H') (t:TabOk H P pos q):TabOk H' P pos q:=by
 rcases t with t | ⟨c,t1,t2⟩
 ·exact .inl (a _ _ t)
 ·exact .inr ⟨c,a _ _ t1,a _ _ t2⟩
def BmOk (mg:Str→Option Value) (base:Heap):Prop:=∃ bm ob,mg "__builtins__" = some (.ref bm)∧bm ≠ builtinsNs∧base.get? bm = some ob∧ob.cls = .type "module"∧ob.dict = some builtinsNs∧ob.data = .plain
section
variable {X:Cx} {pins:List (Addr × Obj)} {σ:St} {H:Hp} {s:Shared}
theorem BmOk.at {P:Addr} {ps:Array Value} (b:BmOk X.mg X.base) (I:Inv X pins σ H s) (hP:H P = some (.tbl ps)):s.heap.BuiltinsAt X.mg P:=by
 obtain ⟨bm,ob,b1,b2,b3,b4,b5,b6⟩:=b
 refine ⟨bm,ob,b1,b2,fun q=>?_,fun q=>?_,I.bk _ _ b3,b4,b5,b6⟩
 ·obtain ⟨o,es,ep,e1,hd,_⟩:=I.mod.glob
  rw [q,e1] at b3; cases b3; rw [hd] at b6; cases b6
 ·have:=(I.bs _ _ b3).2
  rw [q,hP] at this; cases this
theorem cr_ok {c:Addr} {q:Str} {P:Program} {w:World} {H':Hp} {h:Heap} (r:h.CodeRec (.ref c) q):ObjOk P w H' h c (CdR c q):=by
 obtain ⟨c2,o,vs,t,e,g,d⟩:=id r
 cases e
 refine ⟨r,⟨o,g⟩,fun h1 h2 r1 k=>?_⟩
 obtain ⟨c3,o3,vs3,t3,e3,g3,d3⟩:=r1
 cases e3
 exact ⟨_,o3,vs3,t3,rfl,k _ g3,d3⟩
theorem lam_make {params:Arguments} {body:Expr} {scope:Scope} {pos:Pos} {c P:Addr} {q:Str} {Q:Value→Shared→Prop} (I:Inv X pins σ H s) (hdef:defaultsOf params X.env = ([],[])) (hcl:closureFor scope X.env = pure []) (hcode:X.env.code = .ref c)
  (hC:codeHdIn X.K c P = true) (hb:BmOk X.mg X.base) (hq:X.env.qual ++ "<lambda>" = q) (hT:TabOk H P pos q)
  (h:∀ f c' ctv s' H',SameT H H'→TabOk H' P pos q→Inv X ((f,kla_obj "<lambda>" q params body scope [] ((X.mg "__name__").getD .none) c' ctv) :: pins) σ H' s'→s'.heap.CodeRec (.ref c') q→Q (.ref f) s') :
  wpAny (model X.prog X.w) X.A (eval (.Lambda params body scope pos) X.env) Q X.xe s:=by
 subst hq
 refine kla_eval hdef ?_
 have C:=PySem.W.codeHd_of_K I.kIn hC
 have hg:=I.mod.glob.keeps I.bk
 rcases id hT with hP | ⟨c',hP,hc'⟩
 ·have eP:s.heap.get? P = some (tabObj #[]):=I.hok P _ hP
  refine kla_makeFunction (mg:=X.mg) hcl I.ok.glob hg hcode C eP trivial rfl (fun z=>?_) (hb.at I hP) fun c' ctv h' tk hx hge hlt hrec htb=>?_
  ·obtain ⟨o,es,ep,e1,hd,_⟩:=I.mod.glob
   have:=(I.bs _ _ e1).2
   rw [z,hP] at this; cases this
  have nc:H c' = none:=I.hok.fresh hge
  have pc:P ≠ c':=ne_of_none hP nc
  have sz:s.heap.objs.size ≤ h'.objs.size:=Nat.le_trans hge (Nat.le_of_lt hlt)
  have htb':h'.get? P = some (tabObj #[rawInt pos.line,rawInt pos.col,.ref c']):=htb
  generalize hfo:kla_obj "<lambda>" (X.env.qual ++ "<lambda>") params body scope [] ((X.mg "__name__").getD .none) c' ctv = fo
  have k2:∀ b o,b ≠ P→s.heap.get? b = some o→(h'.push fo).get? b = some o:=fun b o n e=>Heap.get?_push_of_some _ (hx b o n e)
  have nP:∀ b,H b = none→b ≠ P:=fun b n z=>by rw [z,hP] at n; cases n
  have kP:∀ b u,H b = some u→(∀ ps,u ≠ .tbl ps)→b ≠ P:=fun b u e n z=>by rw [z,hP] at e; cases e; exact n _ rfl
  have up:∀ b u,H b = some u→(∀ ps,u ≠ .tbl ps)→upd (upd H P (.tbl #[rawInt pos.line,rawInt pos.col,.ref c'])) c' (CdR c' (X.env.qual ++ "<lambda>")) b = some u:=fun b u e n=>by
   rw [upd_ne (ne_of_none e nc),upd_ne (kP b u e n)]; exact e
  have J:Inv X pins σ (upd (upd H P (.tbl #[rawInt pos.line,rawInt pos.col,.ref c'])) c' (CdR c' (X.env.qual ++ "<lambda>"))) { s with heap:=h'.push fo,toks:=tk }:=by
   refine I.step (g':=s.gens) (d':=s.drawn) (ch:=[]) (fun _ z=>nomatch z) (fun b o _ _ _ e n=>k2 b o (nP b n) e) (fun b o _ _ _ e n=>⟨o.slots,k2 b o (nP b n) e⟩) (fun b o _ e n=>?_)
    (fun b o _ e=>?_) (fun b xs e=>up b _ e fun _ z=>nomatch z) (fun b o u e=>up b _ e fun _ z=>nomatch z) (fun b ps e=>?_) (fun m hm=>?_) (fun b u e=>?_) I.bare
   ·rw [upd_ne (Nat.ne_of_lt (Nat.lt_of_lt_of_le (Heap.lt_size e) hge)),upd_ne (nP b n)]
    exact n
   ·by_cases z:b = P
    ·subst z; exact ⟨_,Heap.get?_push_of_some _ htb'⟩
    ·exact ⟨o,k2 b o z e⟩
   ·by_cases z:b = P
    ·subst z
     rw [hP] at e; cases e
     exact ⟨#[rawInt pos.line,rawInt pos.col,.ref c'],by rw [upd_ne pc,upd_same]; simp⟩
    ·exact ⟨#[],by rw [upd_ne (ne_of_none e nc),upd_ne z,e]; simp⟩
   ·obtain ⟨o,es,ep,ho,r⟩:=hm
    exact ⟨o,es,ep,k2 _ o (nP _ I.free) ho,r⟩
   ·by_cases z:b = c'
    ·subst z
     rw [upd_same] at e; cases e
     exact cr_ok (hrec.push _)
    ·rw [upd_ne z] at e
     by_cases z2:b = P
     ·subst z2
      rw [upd_same] at e; cases e
      exact Heap.get?_push_of_some _ htb'
     ·rw [upd_ne z2] at e
      refine (I.hok b u e).stay (fun d v hd q=>k2 d v ?_ q) (fun d q=>up d _ q fun _ z=>nomatch z) fun d xs q=>up d _ q fun _ z=>nomatch z
      rcases hd with rfl | hd
      ·exact z2
      ·exact kP d _ hd fun _ z=>nomatch z
  have sT:SameT H (upd (upd H P (.tbl #[rawInt pos.line,rawInt pos.col,.ref c'])) c' (CdR c' (X.env.qual ++ "<lambda>"))):=⟨fun b o n e=>up b o e n,fun b ps e=>by
   by_cases z:b = P
   ·subst z; exact ⟨_,by rw [upd_ne pc,upd_same]⟩
   ·exact ⟨ps,by rw [upd_ne (ne_of_none e nc),upd_ne z]; exact e⟩⟩
  refine h h'.objs.size c' ctv _ _ sT (.inr ⟨c',by rw [upd_ne pc,upd_same],upd_same⟩) (J.pins_of fun p hp=>?_) (hrec.push _)
  rcases List.mem_cons.mp hp with rfl | hp
  ·refine ⟨by rw [← hfo]; exact Heap.get?_push_size _ rfl,?_,Nat.ne_of_gt (Nat.lt_of_lt_of_le I.lt sz),I.nofs sz,fun v z=>nomatch z⟩
   show upd (upd H P _) c' _ h'.objs.size = none
   rw [upd_ne (Nat.ne_of_gt hlt),upd_ne (Nat.ne_of_gt (Heap.lt_size htb'))]
   exact I.hok.fresh sz
  ·exact J.pin p (List.mem_append_right _ hp)
 ·have eP:s.heap.get? P = some (tabObj #[rawInt pos.line,rawInt pos.col,.ref c']):=I.hok P _ hP
  have rec0:s.heap.CodeRec (.ref c') (X.env.qual ++ "<lambda>"):=(show ObjOk X.prog X.w H s.heap c' (CdR c' _) from I.hok c' _ hc').1
  refine kla_makeFunctionHit (mg:=X.mg) (cv:=.ref c') hcl I.ok.glob hg hcode C eP trivial (codeAmong_snoc (c:=.ref c') [] trivial rfl) (hb.at I hP) fun ctv h' tk hk sz=>?_
  generalize hfo:({ cls:=.type "function",data:=.func (kla_fn "<lambda>" (X.env.qual ++ "<lambda>") params body scope [] ((X.mg "__name__").getD .none) (.ref c') ctv) }:Obj) = fo
  have k2:∀ b o,s.heap.get? b = some o→(h'.push fo).get? b = some o:=fun b o e=>Heap.get?_push_of_some _ (hk b o e)
  have J:Inv X pins σ H { s with heap:=h'.push fo,toks:=tk }:=I.kept k2
  refine h h'.objs.size c' ctv _ H SameT.refl hT (J.pins_of fun p hp=>?_) (rec0.keeps k2)
  rcases List.mem_cons.mp hp with rfl | hp
  ·exact ⟨by rw [← hfo]; exact Heap.get?_push_size _ rfl,I.hok.fresh sz,Nat.ne_of_gt (Nat.lt_of_lt_of_le I.lt sz),I.nofs sz,fun v z=>nomatch z⟩
  ·exact J.pin p (List.mem_append_right _ hp)
end
theorem ObjM.keeps {h h':Heap} {x dx C:Addr} {mA:Str→Option Value} (O:ObjM h x dx C mA) (k:∀ b o,h.get? b = some o→h'.get? b = some o):ObjM h' x dx C mA:=by
 obtain ⟨ob,⟨od,es,ep,e,c⟩,ne⟩:=O
 exact ⟨k _ _ ob,⟨od,es,ep,k _ _ e,c⟩,ne⟩
section
variable {prog:Program} {w:World} {A:Around} {E:Value→Shared→Prop} {s:Shared} {K:PySem.W.Frag}
theorem lam_attr {f c' p dx C:Addr} {x attr q:Str} {params:Arguments} {scope:Scope} {pm ctv:Value} {p1 p2:Pos} {mA:Str→Option Value} {v:Value} {Q:Value→Shared→Prop}
  (hroom:A.depth < recursionLimit) (ho:s.heap.get? f = some (kla_obj "<lambda>" q params (.Attribute (.Name x p1) attr p2) scope [] pm c' ctv)) (hrec:s.heap.CodeRec (.ref c') q)
  (hk:scope.kind = .function) (hco:scope.isCoroutine = false) (hgen:scope.isGenerator = false) (hcell:∀ y ∈ scope.names,y.2 ≠ .cell) (hloc:scope.names.lookup x = some .local) (hx:(x == ("__debug__":Str)) = false)
  (hbind:∀ u,bindArgs (kla_fn "<lambda>" q params (.Attribute (.Name x p1) attr p2) scope [] pm (.ref c') ctv) ⟨[u],[]⟩ = pure [(x,u)])
  (kin:K.In s.heap) (lim:s.heap.NoLimit) (O:ObjM s.heap p dx C mA) (hg:PySem.W.plainGet K C attr = true) (hd:PySem.W.hasDictIn K C = true) (ha:PySem.W.findIn K (.ref C) attr = some none) (hv:mA attr = some v) (hh:PySem.W.handedIn v = true)
  (h:∀ h' tk,(∀ b o,s.heap.get? b = some o→h'.get? b = some o)→Q v { s with heap:=h',toks:=tk }) :
  wpAny (model prog w) A (call (.ref f) [.ref p]) Q E s:=by
 refine wpAny_call (kla_callFunE hroom ho rfl hco hgen rfl hrec ?_)
 rw [hbind]
 refine wpAny_pure (wpAny_newFunctionEnv hcell (fun y hy=>?_) (fun h₁ hns hsb=>⟨lim.fresh _ hsb,?_⟩) hk)
 ·rw [List.mem_singleton.mp hy]; exact hloc
 have hk₁:∀ b o,s.heap.get? b = some o→h₁.get? b = some o:=fun b o e=>hsb.extBut b o (Nat.ne_of_lt (Heap.lt_size e)) (Heap.get?_push_of_some _ e)
 refine kla_codeExpr ?_
 refine attr_of rfl ?_
 refine wpAny_Name ?_ hx
 refine wpAny_loadName_local (v:=.ref p) hk hloc hns (by simp) ?_
 exact get_map (kin.keeps hk₁) (O.keeps hk₁) hg hd ha hv hh (h _ _ hk₁)
theorem args_maxk (a f:Value):argsOk "max" ⟨[a],[(Str.ofString "key",f),(Str.ofString "default",.none)]⟩:=by unfold argsOk; kernel_rfl
def KeyTurn (prog:Program) (w:World) (A:Around) (s:Shared) (f:Addr) (vs:List Value) (kf:Nat→Int):Prop :=
 ∀ (i:Nat) (v:Value),vs[i]? = some v→∀ (h:Heap) (tk:Nat) (Q:Value→Shared→Prop),(∀ b o,s.heap.get? b = some o→h.get? b = some o) →
  (∀ h' tk' t,(∀ b o,h.get? b = some o→h'.get? b = some o)→Q (.int (kf i) t) { s with heap:=h',toks:=tk' })→wpAny (model prog w) A (call (.ref f) [v]) Q (fun _ _=>False) { s with heap:=h,toks:=tk }
theorem maxk_loop {R:Result→Shared→Prop} {l f I S:Addr} {vs:List Value} {kf:Nat→Int} (hh:A.handled = none) (hl:s.heap.IsList l vs.toArray) (hI:s.heap.objs.size ≤ I) (hS:s.heap.objs.size ≤ S) (hSI:S ≠ I)
  (turn:KeyTurn prog w A.in1 s f vs kf)
  (hR:∀ i v h' tk',vs[i]? = some v→(∀ j,j < vs.length→kf j ≤ kf i)→(∀ b o,s.heap.get? b = some o→h'.get? b = some o)→R (.ok (.ret v)) { s with heap:=h',toks:=tk' }) :
  ∀ (r j i:Nat) (h:Heap) (tk:Nat) (vb:Value) (tb:Tok) (c:Nat),vs.length - (j + 1) = r→j + 1 ≤ vs.length→(∀ b o,s.heap.get? b = some o→h.get? b = some o) →
   h.get? S = some (seqObj "list" #[vb,.int (kf i) tb] c)→h.IsListIter I l (j + 1)→vs[i]? = some vb→(∀ j',j' ≤ j→kf j' ≤ kf i) →
   codeAny (model prog w) A (.builtin "max.loop" ⟨[.ref I,.ref f,.ref S],[(Str.ofString "default",.none)]⟩) R { s with heap:=h,toks:=tk }:=by
 have hname:(toString "max" ++ toString ".loop":String) = "max.loop":=by decide
 have hll:l < s.heap.objs.size:=by obtain ⟨ol,hol,_⟩:=id hl; exact Heap.lt_size hol
 have W:=Walks.list (prog:=prog) (w:=w) (A:=A.in1) hh I l (Nat.ne_of_lt (Nat.lt_of_lt_of_le hll hI)) vs.toArray
 have hsz:vs.toArray.size = vs.length:=List.size_toArray ..
 have out:∀ {h h':Heap} {ch:List Addr},(∀ b o,s.heap.get? b = some o→h.get? b = some o)→(∀ b ∈ ch,s.heap.objs.size ≤ b)→(∀ b o,b ∉ ch→h.get? b = some o→h'.get? b = some o)→∀ b o,s.heap.get? b = some o→h'.get? b = some o :=
  fun k hc k' b o e=>k' b o (fun hb=>absurd (Nat.lt_of_lt_of_le (Heap.lt_size e) (hc b hb)) (Nat.lt_irrefl _)) (k b o e)
 intro r
 induction r with
 | zero =>
  intro j i h tk vb tb c hr hj k hSo hit hvb hbest
  have hin:j + 1 = vs.length:=by omega
  refine codeAny_builtin PySem.F.entry_max_loop ?_
  rw [Around.under_plainId PySem.F.plain_max_loop _]
  show wpAny _ A.in1 (seqItems? (.ref S) >>= _) _ _ _
  refine wpAny_bind (wpAny_seqItems hSo rfl ?_)
  show wpAny _ A.in1 (tryCatch (pyNext (.ref I)) _ >>= _) _ _ _
  refine wpAny_bind (wpAny_tryCatch (W.done _ _ _ ⟨by rw [hsz,← hin]; exact hit,Heap.IsList.at hl fun o e=>k _ o e⟩ fun h' tk' hk'=>?_))
  have k1:=out k (fun b hb=>by rw [List.mem_singleton.mp hb]; exact hI) hk'
  have hS':=hk' S _ (by simpa using hSI) hSo
  have s1:=Heap.SameBut.update h' S (Obj.mapSeq fun _=>(#[]:Array Value))
  show wpAny _ A.in1 (updateSeq S (fun _=>#[]) >>= _) _ _ _
  refine wpAny_bind ?_
  refine wpAny_updateSeq hS' rfl (wpAny_bind (wpAny_letGo (wpAny_pure ?_)))
  exact hR i vb _ _ hvb (fun j' hj'=>hbest j' (by omega)) (out (ch:=[S]) k1 (fun b hb=>by rw [List.mem_singleton.mp hb]; exact hS) fun b o hb e=>(s1.2 b (by simpa using hb)).trans e)
 | succ r ih =>
  intro j i h tk vb tb c hr hj k hSo hit hvb hbest
  have hlt:j + 1 < vs.length:=by omega
  refine codeAny_builtin PySem.F.entry_max_loop ?_
  rw [Around.under_plainId PySem.F.plain_max_loop _]
  show wpAny _ A.in1 (seqItems? (.ref S) >>= _) _ _ _
  refine wpAny_bind (wpAny_seqItems hSo rfl ?_)
  show wpAny _ A.in1 (tryCatch (pyNext (.ref I)) _ >>= _) _ _ _
  refine wpAny_bind (wpAny_tryCatch (W.item (j + 1) _ _ _ (by rw [hsz]; exact hlt) ⟨hit,Heap.IsList.at hl fun o e=>k _ o e⟩ fun v h' tk' hP hst' hk'=>?_))
  have hv:vs[j + 1]? = some v:=by simpa using hP
  have k1:=out k (fun b hb=>by rw [List.mem_singleton.mp hb]; exact hI) hk'
  have hS':=hk' S _ (by simpa using hSI) hSo
  obtain ⟨oI',hoI',hoc,hod⟩:=id hst'.1
  show wpAny _ A.in1 (tryCatch (holding [v] (call (.ref f) [v])) _ >>= _) _ _ _
  refine wpAny_bind (wpAny_tryCatch (wpAny_holding (wpAny_mono (turn (j + 1) v hv h' tk' (fun u s2=>∃ h2 tk2 t2,u = .int (kf (j + 1)) t2∧s2 = { s with heap:=h2,toks:=tk2 }∧∀ b o,h'.get? b = some o→h2.get? b = some o) k1 fun h2 tk2 t2 k2=>⟨h2,tk2,t2,rfl,rfl,k2⟩) (fun x s'' he=>?_) fun _ _ hF=>hF.elim)))
  obtain ⟨h2,tk2,t2,rfl,rfl,k2⟩:=he
  have nS2:=k2 _ _ hS'
  have hit2:h2.IsListIter I l (j + 1 + 1):=⟨oI',k2 _ _ hoI',hoc,hod⟩
  have kk:∀ b o,s.heap.get? b = some o→h2.get? b = some o:=fun b o e=>k2 b o (k1 b o e)
  show wpAny _ A.in1 (tryCatch (holding [v,.int (kf (j + 1)) t2] (richCompare .Gt (.int (kf (j + 1)) t2) (.int (kf i) tb) >>= _)) _ >>= _) _ _ _
  refine wpAny_bind (wpAny_tryCatch (wpAny_holding (wpAny_bind (CmpOf.ints_gt (prog:=prog) (w:=w) (A:=A.in1) (P:=fun i v=>∃ t,v = .int (kf i) t) kf (fun i v h=>h) (j + 1) i _ _ _ _ _ ⟨t2,rfl⟩ ⟨tb,rfl⟩ ?_))))
  refine wpAny_bind (wpAny_holding (wpAny_truthy_bool ?_))
  refine wpAny_bind (wpAny_letGo (wpAny_pure ?_))
  by_cases hb':kf (j + 1) > kf i
  ·have s1:=Heap.SameBut.update h2 S (Obj.mapSeq fun _=>#[v,.int (kf (j + 1)) t2])
   obtain ⟨c2,hc2⟩:∃ c2,(h2.update S (Obj.mapSeq fun _=>#[v,.int (kf (j + 1)) t2])).get? S = some (seqObj "list" #[v,.int (kf (j + 1)) t2] c2):=⟨_,get?_update_seq nS2 fun _=>#[v,.int (kf (j + 1)) t2]⟩
   simp only [hb',decide_true,if_true]
   refine wpAny_bind ?_
   refine wpAny_updateSeq nS2 rfl (wpAny_bind (wpAny_letGo ?_))
   rw [hname]
   refine wpAny_pure ⟨plainId_quiet PySem.F.plain_max_loop _,ih (j + 1) (j + 1) _ _ v t2 c2 (by omega) hlt (out (ch:=[S]) kk (fun b hb=>by rw [List.mem_singleton.mp hb]; exact hS) fun b o hb e=>(s1.2 b (by simpa using hb)).trans e) hc2 ⟨oI',(s1.2 I hSI.symm).trans (k2 _ _ hoI'),hoc,hod⟩ hv fun j' hj'=>?_⟩
   by_cases e:j' = j + 1
   ·subst e; omega
   ·have:=hbest j' (by omega)
    omega
  ·simp only [hb',decide_false,Bool.false_eq_true,if_false]
   refine wpAny_bind (wpAny_letGo ?_)
   rw [hname]
   refine wpAny_pure ⟨plainId_quiet PySem.F.plain_max_loop _,ih (j + 1) i _ _ vb tb c (by omega) hlt kk nS2 hit2 hvb fun j' hj'=>?_⟩
   by_cases e:j' = j + 1
   ·subst e; omega
   ·exact hbest j' (by omega)
theorem call_maxk {l f:Addr} {vs:List Value} {kf:Nat→Int} {Q:Value→Shared→Prop} (hh:A.handled = none) (hl:s.heap.IsList l vs.toArray) (turn:KeyTurn prog w A.in1 s f vs kf)
  (h0:vs = []→∀ h' tk',(∀ b o,s.heap.get? b = some o→h'.get? b = some o)→Q .none { s with heap:=h',toks:=tk' })
  (hQ:∀ i v h' tk',vs[i]? = some v→(∀ j,j < vs.length→kf j ≤ kf i)→(∀ b o,s.heap.get? b = some o→h'.get? b = some o)→Q v { s with heap:=h',toks:=tk' }) :
  wpAny (model prog w) A (call (.builtin "max") [.ref l] [(Str.ofString "key",.ref f),(Str.ofString "default",.none)]) Q E s:=by
 have hname:(toString "max" ++ toString ".loop":String) = "max.loop":=by decide
 have hll:l < s.heap.objs.size:=by obtain ⟨ol,hol,_⟩:=id hl; exact Heap.lt_size hol
 refine kmk_tree PySem.F.kind_max PySem.F.plain_max PySem.F.entry_max (args_maxk _ _) ?_
 show wpAny _ A.in1 (Builtin.Builtins.bindParams "max" ["key","default"] 0 ⟨[],[(Str.ofString "key",.ref f),(Str.ofString "default",.none)]⟩ >>= _) _ _ s
 refine wpAny_bind (wpAny_of_eq (show Builtin.Builtins.bindParams "max" ["key","default"] 0 ⟨[],[(Str.ofString "key",.ref f),(Str.ofString "default",.none)]⟩ = pure [some (.ref f),some .none] from rfl) ?_)
 refine wpAny_bind (wpAny_pure ?_)
 refine wpAny_bind (wpAny_pyIter_list hl ?_)
 refine wpAny_bind (wpAny_newList ?_ (Nat.zero_le _))
 rw [hname]
 generalize hoI:({ cls:=.type "list_iterator",data:=.fields #[.ref l,.int 0 0] }:Obj) = oI
 have hSz:(s.heap.push oI).objs.size = s.heap.objs.size + 1:=size_push' ..
 have hSI:(s.heap.push oI).objs.size ≠ s.heap.objs.size:=by rw [hSz]; exact Nat.ne_of_gt (Nat.lt_succ_self _)
 have hSl:s.heap.objs.size ≤ (s.heap.push oI).objs.size:=by rw [hSz]; exact Nat.le_succ _
 refine wpAny_pure ⟨plainId_quiet PySem.F.plain_max_loop _,?_⟩
 have k:∀ b o,s.heap.get? b = some o→((s.heap.push oI).push (seqObj "list" #[] 0)).get? b = some o:=fun b o e=>Heap.get?_push_of_some _ (Heap.get?_push_of_some _ e)
 have gI:((s.heap.push oI).push (seqObj "list" #[] 0)).get? s.heap.objs.size = some oI:=Heap.get?_push_of_some _ (Heap.get?_push_size _ (by rw [← hoI]; rfl))
 have gS:((s.heap.push oI).push (seqObj "list" #[] 0)).get? (s.heap.push oI).objs.size = some (seqObj "list" #[] 0):=Heap.get?_push_size _ rfl
 have hit:((s.heap.push oI).push (seqObj "list" #[] 0)).IsListIter s.heap.objs.size l 0:=⟨_,gI,by rw [← hoI],by rw [← hoI]; rfl⟩
 have W:=Walks.list (prog:=prog) (w:=w) (A:=A.in1) hh s.heap.objs.size l (Nat.ne_of_lt hll) vs.toArray
 have hsz:vs.toArray.size = vs.length:=List.size_toArray ..
 have out:∀ {h h':Heap} {ch:List Addr},(∀ b o,s.heap.get? b = some o→h.get? b = some o)→(∀ b ∈ ch,s.heap.objs.size ≤ b)→(∀ b o,b ∉ ch→h.get? b = some o→h'.get? b = some o)→∀ b o,s.heap.get? b = some o→h'.get? b = some o :=
  fun k hc k' b o e=>k' b o (fun hb=>absurd (Nat.lt_of_lt_of_le (Heap.lt_size e) (hc b hb)) (Nat.lt_irrefl _)) (k b o e)
 refine codeAny_builtin PySem.F.entry_max_loop ?_
 rw [Around.under_plainId PySem.F.plain_max_loop _]
 show wpAny _ A.in1 (seqItems? (.ref _) >>= _) _ _ _
 refine wpAny_bind (wpAny_seqItems gS rfl ?_)
 show wpAny _ A.in1 (tryCatch (pyNext (.ref s.heap.objs.size)) _ >>= _) _ _ _
 by_cases hne:0 < vs.length
 ·refine wpAny_bind (wpAny_tryCatch (W.item 0 _ _ _ (by rw [hsz]; exact hne) ⟨hit,Heap.IsList.at hl fun o e=>k _ o e⟩ fun v h' tk' hP hst' hk'=>?_))
  have hv:vs[0]? = some v:=by simpa using hP
  have k1:=out k (fun b hb=>by rw [List.mem_singleton.mp hb]; exact Nat.le_refl _) hk'
  have hS':=hk' _ _ (by simpa using hSI) gS
  obtain ⟨oI',hoI',hoc,hod⟩:=id hst'.1
  show wpAny _ A.in1 (tryCatch (holding [v] (call (.ref f) [v])) _ >>= _) _ _ _
  refine wpAny_bind (wpAny_tryCatch (wpAny_holding (wpAny_mono (turn 0 v hv h' tk' (fun u s2=>∃ h2 tk2 t2,u = .int (kf 0) t2∧s2 = { s with heap:=h2,toks:=tk2 }∧∀ b o,h'.get? b = some o→h2.get? b = some o) k1 fun h2 tk2 t2 k2=>⟨h2,tk2,t2,rfl,rfl,k2⟩) (fun x s'' he=>?_) fun _ _ hF=>hF.elim)))
  obtain ⟨h2,tk2,t2,rfl,rfl,k2⟩:=he
  have nS2:=k2 _ _ hS'
  have kk:∀ b o,s.heap.get? b = some o→h2.get? b = some o:=fun b o e=>k2 b o (k1 b o e)
  have s1:=Heap.SameBut.update h2 (s.heap.push oI).objs.size (Obj.mapSeq fun _=>#[v,.int (kf 0) t2])
  obtain ⟨c2,hc2⟩:∃ c2,(h2.update (s.heap.push oI).objs.size (Obj.mapSeq fun _=>#[v,.int (kf 0) t2])).get? (s.heap.push oI).objs.size = some (seqObj "list" #[v,.int (kf 0) t2] c2):=⟨_,get?_update_seq nS2 fun _=>#[v,.int (kf 0) t2]⟩
  show wpAny _ A.in1 (updateSeq (s.heap.push oI).objs.size (fun _=>#[v,.int (kf 0) t2]) >>= _) _ _ _
  refine wpAny_bind ?_
  refine wpAny_updateSeq nS2 rfl ?_
  rw [hname]
  refine wpAny_pure ⟨plainId_quiet PySem.F.plain_max_loop _,maxk_loop hh hl (Nat.le_refl _) hSl hSI turn hQ _ 0 0 _ _ v t2 c2 rfl hne (out (ch:=[(s.heap.push oI).objs.size]) kk (fun b hb=>by rw [List.mem_singleton.mp hb]; exact hSl) fun b o hb e=>(s1.2 b (by simpa using hb)).trans e) hc2 ⟨oI',(s1.2 _ hSI.symm).trans (k2 _ _ hoI'),hoc,hod⟩ hv fun j' hj'=>?_⟩
  rw [Nat.le_zero.mp hj']
  exact Int.le_refl _
 ·have e0:vs = []:=List.length_eq_zero_iff.mp (by omega)
  refine wpAny_bind (wpAny_tryCatch (W.done _ _ _ ⟨by rw [hsz,e0]; exact hit,Heap.IsList.at hl fun o e=>k _ o e⟩ fun h' tk' hk'=>?_))
  have k1:=out k (fun b hb=>by rw [List.mem_singleton.mp hb]; exact Nat.le_refl _) hk'
  exact wpAny_bind (wpAny_rule (wpAny_pure (h0 e0 _ _ k1)))
theorem call_min1 {l:Addr} {v:Value} {Q:Value→Shared→Prop} (hh:A.handled = none) (hl:s.heap.IsList l #[v])
  (hQ:∀ h' tk',(∀ b o,s.heap.get? b = some o→h'.get? b = some o)→Q v { s with heap:=h',toks:=tk' }) :
  wpAny (model prog w) A (call (.builtin "min") [.ref l]) Q E s:=by
 have hname:(toString "min" ++ toString ".loop":String) = "min.loop":=by decide
 have hll:l < s.heap.objs.size:=by obtain ⟨ol,hol,_⟩:=id hl; exact Heap.lt_size hol
 refine call_function_tree F.kind_min F.plain_min F.entry_min (F.args_min1 _) ?_
 show wpAny _ A.in1 (Builtin.Builtins.bindParams "min" ["key","default"] 0 ⟨[],[]⟩ >>= _) _ _ s
 refine wpAny_bind (wpAny_of_eq (show Builtin.Builtins.bindParams "min" ["key","default"] 0 ⟨[],[]⟩ = pure [none,none] from rfl) ?_)
 refine wpAny_bind (wpAny_pure ?_)
 refine wpAny_bind (wpAny_pyIter_list hl ?_)
 refine wpAny_bind (wpAny_newList ?_ (Nat.zero_le _))
 rw [hname]
 generalize hoI:({ cls:=.type "list_iterator",data:=.fields #[.ref l,.int 0 0] }:Obj) = oI
 have hSz:(s.heap.push oI).objs.size = s.heap.objs.size + 1:=size_push' ..
 have hSI:(s.heap.push oI).objs.size ≠ s.heap.objs.size:=by rw [hSz]; exact Nat.ne_of_gt (Nat.lt_succ_self _)
 have hSl:s.heap.objs.size ≤ (s.heap.push oI).objs.size:=by rw [hSz]; exact Nat.le_succ _
 refine wpAny_pure ⟨plainId_quiet PySem.F.plain_min_loop _,?_⟩
 have k:∀ b o,s.heap.get? b = some o→((s.heap.push oI).push (seqObj "list" #[] 0)).get? b = some o:=fun b o e=>Heap.get?_push_of_some _ (Heap.get?_push_of_some _ e)
 have gI:((s.heap.push oI).push (seqObj "list" #[] 0)).get? s.heap.objs.size = some oI:=Heap.get?_push_of_some _ (Heap.get?_push_size _ (by rw [← hoI]; rfl))
 have gS:((s.heap.push oI).push (seqObj "list" #[] 0)).get? (s.heap.push oI).objs.size = some (seqObj "list" #[] 0):=Heap.get?_push_size _ rfl
 have hit:((s.heap.push oI).push (seqObj "list" #[] 0)).IsListIter s.heap.objs.size l 0:=⟨_,gI,by rw [← hoI],by rw [← hoI]; rfl⟩
 have W:=Walks.list (prog:=prog) (w:=w) (A:=A.in1) hh s.heap.objs.size l (Nat.ne_of_lt hll) #[v]
 have out:∀ {h h':Heap} {ch:List Addr},(∀ b o,s.heap.get? b = some o→h.get? b = some o)→(∀ b ∈ ch,s.heap.objs.size ≤ b)→(∀ b o,b ∉ ch→h.get? b = some o→h'.get? b = some o)→∀ b o,s.heap.get? b = some o→h'.get? b = some o :=
  fun k hc k' b o e=>k' b o (fun hb=>absurd (Nat.lt_of_lt_of_le (Heap.lt_size e) (hc b hb)) (Nat.lt_irrefl _)) (k b o e)
 refine codeAny_builtin PySem.F.entry_min_loop ?_
 rw [Around.under_plainId PySem.F.plain_min_loop _]
 show wpAny _ A.in1 (seqItems? (.ref _) >>= _) _ _ _
 refine wpAny_bind (wpAny_seqItems gS rfl ?_)
 show wpAny _ A.in1 (tryCatch (pyNext (.ref s.heap.objs.size)) _ >>= _) _ _ _
 refine wpAny_bind (wpAny_tryCatch (W.item 0 _ _ _ (by show 0 < 1; decide) ⟨hit,Heap.IsList.at hl fun o e=>k _ o e⟩ fun v' h' tk' hP hst' hk'=>?_))
 obtain rfl:v = v':=by simpa using hP
 have k1:=out k (fun b hb=>by rw [List.mem_singleton.mp hb]; exact Nat.le_refl _) hk'
 have hS':=hk' _ _ (by simpa using hSI) gS
 obtain ⟨oI',hoI',hoc,hod⟩:=id hst'.1
 have s1:=Heap.SameBut.update h' (s.heap.push oI).objs.size (Obj.mapSeq fun _=>#[v,v])
 obtain ⟨c2,hc2⟩:∃ c2,(h'.update (s.heap.push oI).objs.size (Obj.mapSeq fun _=>#[v,v])).get? (s.heap.push oI).objs.size = some (seqObj "list" #[v,v] c2):=⟨_,get?_update_seq hS' fun _=>#[v,v]⟩
 have k2:=out (ch:=[(s.heap.push oI).objs.size]) k1 (fun b hb=>by rw [List.mem_singleton.mp hb]; exact hSl) fun b o hb e=>(s1.2 b (by simpa using hb)).trans e
 show wpAny _ A.in1 (updateSeq (s.heap.push oI).objs.size (fun _=>#[v,v]) >>= _) _ _ _
 refine wpAny_bind ?_
 refine wpAny_updateSeq hS' rfl ?_
 rw [hname]
 refine wpAny_pure ⟨plainId_quiet PySem.F.plain_min_loop _,?_⟩
 refine codeAny_builtin PySem.F.entry_min_loop ?_
 rw [Around.under_plainId PySem.F.plain_min_loop _]
 show wpAny _ A.in1 (seqItems? (.ref _) >>= _) _ _ _
 refine wpAny_bind (wpAny_seqItems hc2 rfl ?_)
 show wpAny _ A.in1 (tryCatch (pyNext (.ref s.heap.objs.size)) _ >>= _) _ _ _
 refine wpAny_bind (wpAny_tryCatch (W.done _ _ _ ⟨⟨oI',(s1.2 _ hSI.symm).trans hoI',hoc,hod⟩,Heap.IsList.at hl fun o e=>k2 _ o e⟩ fun h3 tk3 hk3=>?_))
 have k3:=out k2 (fun b hb=>by rw [List.mem_singleton.mp hb]; exact Nat.le_refl _) hk3
 have hS3:=hk3 _ _ (by simpa using hSI) hc2
 have s3:=Heap.SameBut.update h3 (s.heap.push oI).objs.size (Obj.mapSeq fun _=>(#[]:Array Value))
 show wpAny _ A.in1 (updateSeq (s.heap.push oI).objs.size (fun _=>#[]) >>= _) _ _ _
 refine wpAny_bind ?_
 refine wpAny_updateSeq hS3 rfl (wpAny_bind (wpAny_letGo (wpAny_pure ?_)))
 exact hQ _ _ (out (ch:=[(s.heap.push oI).objs.size]) k3 (fun b hb=>by rw [List.mem_singleton.mp hb]; exact hSl) fun b o hb e=>(s3.2 b (by simpa using hb)).trans e)
end
section
variable {X:Cx}
theorem call_minOne (hc:X.calm = true):CallR X (.builtin "min") (fun xs H Q=>∃ l v,xs = [.ref l]∧SqL X.K H l [v]∧Q v H):=by
 intro pins s σ H xs us Q I r h
 obtain ⟨l,v,rfl,hl,q⟩:=h
 obtain ⟨u,rfl,ru⟩:=vals1 r
 cases ru
 obtain ⟨its,rv,pl,_⟩:=I.list hl
 obtain ⟨u,rfl,ru⟩:=rv.one
 exact call_min1 (I.ok.hd hc) pl.isList fun h' tk' k=>⟨v,H,I.kept k,ru,q⟩
def MaxOf (kf:Addr→Int) (hs:List Addr) (v:V):Prop:=(hs = []∧v = .non)∨∃ p,p ∈ hs∧v = .ref p∧∀ p' ∈ hs,kf p' ≤ kf p
def tMaxKey (K:PySem.W.Frag) (P:Addr) (pos:Pos) (q attr:Str) (ta:TA):TE:=fun σ H Q=>ta σ H fun vs H1=>∃ l hs kf,vs = [.ref l]∧SqL K H1 l (hs.map V.ref) ∧
 (∀ p ∈ hs,∃ C dx fs,H1 p = some (.ins C dx fs)∧Cls K C∧NoAttr K C attr∧fs.lookup attr = some (.int (kf p)))∧TabOk H1 P pos q∧∀ H2 v,SameT H1 H2→TabOk H2 P pos q→MaxOf kf hs v→Q v H2
theorem vals_refs:∀ {hs:List Addr} {us:List Value},Vals (hs.map V.ref) us→us = hs.map Value.ref
 | [],_,.nil=>rfl
 | h :: hs,_,.cons r t=>by
  rw [show _ = Value.ref h from r,vals_refs t]
  rfl
theorem pe_maxKey {e:Expr} {ta:TA} {params:Arguments} {scope:Scope} {x attr q:Str} {p1 p2 lp np pos kp1 kp2 cp:Pos} {j:Nat} {c P:Addr} (hc:X.calm = true) (hroom:X.A.in1.depth < recursionLimit) (hg:Gl X "max") (hm:X.mg "max" = none) (ha:PA X [e] ta)
  (hdef:defaultsOf params X.env = ([],[])) (hcl:closureFor scope X.env = pure []) (hcode:X.env.code = .ref c) (hC:codeHdIn X.K c P = true) (hb:BmOk X.mg X.base) (hq:X.env.qual ++ "<lambda>" = q)
  (hk:scope.kind = .function) (hco:scope.isCoroutine = false) (hgen:scope.isGenerator = false) (hcell:∀ y ∈ scope.names,y.2 ≠ .cell) (hloc:scope.names.lookup x = some .local) (hx:(x == ("__debug__":Str)) = false)
  (hbind:∀ c' pm ctv u,bindArgs (kla_fn "<lambda>" q params (.Attribute (.Name x p1) attr p2) scope [] pm (.ref c') ctv) ⟨[u],[]⟩ = pure [(x,u)])
  (hst:starEach [e] X.env = [(false,eval e X.env)]:=by rfl) :
  PE X (.Call (.Name "max" np) [e] [⟨some "key",.Lambda params (.Attribute (.Name x p1) attr p2) scope lp,kp1⟩,⟨some "default",.Constant .none j cp,kp2⟩] pos) (tMaxKey X.K P lp q attr ta):=by
 intro pins s σ H Q I h
 refine wpAny_Call_Name_kw (ld_blt I hg hm (u:=.builtin "max") (by rfl) ?_)
 refine callWith_kw (thn (ha pos pins s σ H _ I h) fun us s1 ⟨vs,H1,I1,rv,l,hs,kf,ev,hl,hi,hT,q1⟩=>?_) (he:=by rw [hst]; rfl) (hplain:=by rw [hst]; rfl)
 subst ev
 obtain ⟨u,rfl,ru⟩:=vals1 rv
 cases ru
 refine kws_cons (lam_make I1 hdef hcl hcode hC hb hq hT fun f c' ctv s2 H2 sT hT2 I2 hrec=>?_)
 refine kws_cons (Constant_none (kws_nil ?_))
 obtain ⟨its,rvs,pl,_⟩:=I2.list (sT.seqL hl)
 have e2:=vals_refs rvs
 subst e2
 have hf:=(I2.pin _ (List.mem_append_right _ (List.mem_cons_self ..))).1
 refine call_maxk (vs:=hs.map Value.ref) (kf:=fun i=>kf (hs.getD i 0)) (I2.ok.hd hc) pl.isList (fun i v hv h tk Q' k hQ'=>?_) (fun e0 h' tk' k=>?_) (fun i v h' tk' hv hb' k=>?_)
 ·rw [List.getElem?_map] at hv
  cases e3:hs[i]? with
  | none=>rw [e3] at hv; cases hv
  | some p =>
   rw [e3] at hv
   cases hv
   obtain ⟨C,dx,fs,ep,cl,na,lk⟩:=hi p (List.mem_of_getElem? e3)
   obtain ⟨mA,O,r,_,_,_⟩:=ins_get I2.hok (sT.ins ep)
   obtain ⟨u,hu,t,rfl⟩:=RelO.some_of (v:=.int (kf p)) (o:=mA attr) (by rw [← lk]; exact r attr)
   have I3:Inv X _ σ H2 { s2 with heap:=h,toks:=tk }:=I2.kept k
   have eg:hs.getD i 0 = p:=by rw [List.getD_eq_getElem?_getD,e3]; rfl
   refine lam_attr (s:={ s2 with heap:=h,toks:=tk }) (K:=X.K) hroom (k _ _ hf) (hrec.keeps k) hk hco hgen hcell hloc hx (hbind c' _ ctv) I3.kIn I3.nolimit (O.keeps k) (cl.get attr) cl.hd na hu rfl fun h' tk' k'=>?_
   show Q' (.int (kf p) t) _
   have:=hQ' h' tk' t k'
   dsimp only at this
   rw [eg] at this
   exact this
 ·have e4:hs = []:=List.map_eq_nil_iff.mp e0
  exact ⟨.non,H2,(I2.kept k).pins_of fun p hp=>(I2.kept k).pin p (List.mem_append_right _ (List.mem_cons_of_mem _ hp)),rfl,q1 H2 .non sT hT2 (.inl ⟨e4,rfl⟩)⟩
 ·rw [List.getElem?_map] at hv
  cases e3:hs[i]? with
  | none=>rw [e3] at hv; cases hv
  | some p =>
   rw [e3] at hv
   cases hv
   have eg:hs.getD i 0 = p:=by rw [List.getD_eq_getElem?_getD,e3]; rfl
   refine ⟨.ref p,H2,(I2.kept k).pins_of fun p hp=>(I2.kept k).pin p (List.mem_append_right _ (List.mem_cons_of_mem _ hp)),rfl,q1 H2 (.ref p) sT hT2 (.inr ⟨p,List.mem_of_getElem? e3,rfl,fun p' hp'=>?_⟩)⟩
   obtain ⟨j',hj',e5⟩:=List.getElem_of_mem hp'
   have:=hb' j' (by rw [List.length_map]; exact hj')
   rw [eg,List.getD_eq_getElem?_getD,List.getElem?_eq_getElem hj',e5] at this
   exact this
end
def Itv (K:PySem.W.Frag) (a:Addr) (n:Nat):It :=
 ⟨fun i H=>∃ xs x,SqL K H a xs∧i < n∧xs[n - 1 - i]? = some x,fun i H x H'=>H' = H∧∀ xs,SqL K H a xs→xs[n - 1 - i]? = some x,fun i _=>i = n⟩
theorem turn_rev {P:Program} {w:World} {K:PySem.W.Frag} {tg:Expr} (a it:Addr) (n:Nat):Turn P w K tg (Itv K a n) [it] it (fun i h=>h.IsRevIter it a ((n:Int) - 1 - (i:Int))) where
 mem:=by simp
 obj:=fun i h st b hb=>by
  have e:b = it:=by simpa using hb
  subst e
  obtain ⟨o,e,c,d⟩:=st
  exact ⟨o,e,fun v z=>by rw [d] at z; cases z⟩
 keep:=fun i h h' st k=>st.at fun o e=>k it (by simp) o e
 item:=by
  intro X hP hw hK hc i pins s σ H E I hf st hg
  subst hP hw hK
  obtain ⟨xs,x,hq,hi,hx⟩:=hg
  obtain ⟨its,rv,p,hz⟩:=I.list hq
  obtain ⟨u,hu,ru⟩:=rv.get hx
  obtain ⟨f0,f1,f2,f3,f4,f5⟩:=hf it (by simp)
  have e1:(n:Int) - 1 - (i:Int) = ((n - 1 - i:Nat):Int):=by omega
  rw [e1] at st
  refine wpAny_pyNext_rev_item st p.isList (x:=u) (by simpa using hu) fun h' st' sb=>?_
  have I1:Inv X pins σ H { s with heap:=h' }:=I.turned (t':=s.toks) (fun b o hb e=>(sb.2 b hb).trans e) f0 f1 f3 f4 f5
  have e2:((n - 1 - i:Nat):Int) - 1 = (n:Int) - 1 - ((i + 1:Nat):Int):=by omega
  rw [e2] at st'
  obtain ⟨o,e,c,d⟩:=id st'
  exact ⟨u,rfl,go_of (s:={ s with heap:=h' }) e c d (by decide) ⟨x,H,I1,ru,⟨rfl,fun ys hy=>by rw [I.list_inj hy hq]; exact hx⟩,st',fun b hb=>(hf b hb).1⟩⟩
 done:=by
  intro X hP hw hK hc i pins s σ H E I hf st hg
  subst hP hw hK
  obtain rfl:i = n:=hg
  obtain ⟨f0,f1,f2,f3,f4,f5⟩:=hf it (by simp)
  have e1:(i:Int) - 1 - (i:Int) = -1:=by omega
  rw [e1] at st
  exact wpAny_pyNext_rev_end (I.ok.hd hc) st fun h' eb=>⟨rfl,I.turned (t':=s.toks) (fun b o hb e=>eb b o hb e) f0 f1 f3 f4 f5⟩
 self:=fun _ _ _ _ _ st h=>wpAny_pyIter_revIter st h
section
variable {X:Cx} {tg:Expr}
def iRev (K:PySem.W.Frag) (ta:TA):TI:=fun σ H R=>ta σ H fun vs H1=>∃ a xs,vs = [.ref a]∧SqL K H1 a xs∧R (Itv K a xs.length) H1
theorem pi_rev {a:Expr} {ta:TA} {p pos:Pos} (hg:Gl X "reversed") (hm:X.mg "reversed" = none) (ha:PA X [a] ta) (hs:starEach [a] X.env = [(false,eval a X.env)]:=by rfl):PI X tg (.Call (.Name "reversed" p) [a] [] pos) (iRev X.K ta):=by
 intro pins s σ H R I h
 refine Call_ (ld_blt I hg hm (u:=.type "reversed") (by rfl) (PyProof.Rows.callWith_type1 (thn (ha pos pins s σ H _ I h) fun us s1 ⟨vs,H1,I1,r1,q1⟩=>?_) hs rfl))
 obtain ⟨l,xs,e,hq,q⟩:=q1
 subst e
 cases r1 with
 | cons r rr =>
  cases rr
  cases r
  obtain ⟨its,rv,pl,hz⟩:=I1.list hq
  refine call_reversed_list pl.isList ?_
  have en:((its.toArray.size:Nat):Int) - 1 = (xs.length:Int) - 1 - ((0:Nat):Int):=by
   rw [List.size_toArray,← rv.length]; simp
  have hit:(s1.heap.push (revObj l ((its.toArray.size:Int) - 1))).IsRevIter s1.heap.objs.size l ((xs.length:Int) - 1 - ((0:Nat):Int)):=by
   rw [← en]; exact ⟨_,Heap.get?_push_size _ rfl,rfl,rfl⟩
  refine wpAny_pyIter_revIter (s:={ s1 with heap:=s1.heap.push (revObj l ((its.toArray.size:Int) - 1)) }) hit ?_
  have I2:Inv X pins σ H1 { s1 with heap:=s1.heap.push (revObj l ((its.toArray.size:Int) - 1)) }:=I1.kept (t':=s1.toks) fun b o e=>Heap.get?_push_of_some _ e
  refine ⟨s1.heap.objs.size,[s1.heap.objs.size],_,_,H1,rfl,I2,turn_rev l _ xs.length,hit,fun b hb=>?_,q⟩
  have e:b = s1.heap.objs.size:=by simpa using hb
  subst e
  exact I1.fpOk (Nat.le_refl _) (I1.hok.fresh (Nat.le_refl _))
end
theorem for_rev {K:PySem.W.Frag} {a:Addr} {xs:List V} {g:TG} {tb:TS} {D:Ends} {σ:St} {H:Hp} (Pv:Nat→St→Hp→Prop) (h0:Pv 0 σ H) (hl:∀ i σ H,i ≤ xs.length→Pv i σ H→SqL K H a xs)
  (hs:∀ i x σ H,i < xs.length→xs[xs.length - 1 - i]? = some x→Pv i σ H→g x σ H fun σ2 H2=>tb { D with nx:=Pv (i + 1),ct:=Pv (i + 1),bk:=D.nx } σ2 H2) (hd:∀ σ H,Pv xs.length σ H→D.nx σ H) :
  ∃ W:Nat→Nat→St→Hp→Prop,(∃ m,W 0 m σ H)∧∀ i m σ H,W i m σ H →
   ((Itv K a xs.length).stop i H∧D.nx σ H)∨((Itv K a xs.length).go i H∧∃ N:St→Hp→Prop,(∀ σ' H',N σ' H'→∃ m',m' < m∧W (i + 1) m' σ' H')∧∀ x H',(Itv K a xs.length).yld i H x H'→g x σ H' fun σ2 H2=>tb { D with nx:=N,ct:=N,bk:=D.nx } σ2 H2):=by
 refine ⟨fun i m σ H=>m = xs.length - i∧i ≤ xs.length∧Pv i σ H,⟨xs.length,by simp,Nat.zero_le _,h0⟩,?_⟩
 rintro i m σ H ⟨rfl,hi,p⟩
 have q:=hl i σ H hi p
 by_cases hlt:i < xs.length
 ·have hlt':xs.length - 1 - i < xs.length:=by omega
  refine .inr ⟨⟨xs,xs[xs.length - 1 - i],q,hlt,by simp [hlt']⟩,Pv (i + 1),fun σ' H' p'=>⟨xs.length - (i + 1),by omega,rfl,hlt,p'⟩,fun x H' y=>?_⟩
  obtain ⟨e,y⟩:=y
  subst e
  exact hs i x σ _ hlt (y xs q) p
 ·have e:i = xs.length:=by omega
  subst e
  exact .inl ⟨rfl,hd σ H p⟩
section
variable {P:Program} {w:World} {K:PySem.W.Frag} {mg:Str→Option Value} {base:Heap} {k:Nat} {f:Addr} {fd:FuncData} {ps:List Str} {sp:Sp}
theorem FnOk.down1 (F:FnOk P w K mg base (CX1 P w) k f fd ps sp):FnOk P w K mg base CX0 k f fd ps (fun vs H Q _=>sp vs H Q fun _ _ _=>False) :=
 ⟨fun vs H Q E h=>F.len _ _ _ _ h,fun A outer s H args us vs Q E hr he hb hv hs=>codeAny_mono (F.run A outer s H args us vs Q _ hr he hb hv hs) fun r s' z=>by
  cases r with
  | ok fl=>cases fl <;> exact z
  | error e=>obtain ⟨a,c,H',e1,F1,z⟩:=z; exact z.elim⟩
theorem Fun.okC {x qual:Str} {st:Stmt} {N:List Str} {c:Addr} (F:Fun K x qual st f fd) (hc:fd.code = .ref c) (S:FnScope N ps (defScope st)) (len:∀ vs H Q E,sp vs H Q E→vs.length = ps.length)
  (hbody:∀ (A:Around) (outer:List Env) (s:Shared) (H:Hp) (vs:List V) (Q:VK) (E:XK),Room k (A.deeper (envOfC qual (defScope st) s.heap.objs.size f (.ref c)))→sp vs H Q E →
   ∃ t,PSs (cxOf CX0 P w K mg base N qual (defScope st) f (.ref c) A outer s H E).nox (defBody st) t∧t { nx:=fun _ H'=>Q .non H',rt:=Q } (start N vs) H):FnOk P w K mg base CX0 (k + 1) f fd ps sp:=by
 obtain ⟨oc,od,kV,doc,pm,an,cdv,ct,osl,rfl,lk,hcd⟩:=F.ex
 obtain rfl:cdv = .ref c:=hc
 refine fn_of lk hcd S len fun A outer s H vs Q E hr hsp=>?_
 obtain ⟨t,h,q⟩:=hbody A outer s H vs Q E hr hsp
 exact ⟨t,h.nox,q⟩
end
theorem iteN {b:Bool} {A B:Prop} (hb:b = false) (h:B):if b = true then A else B:=by
 rw [hb]
 exact iteF h
theorem iteY {b:Bool} {A B:Prop} (hb:b = true) (h:A):if b = true then A else B:=by
 rw [hb]
 exact iteT h
section
variable {X:Cx}
end
theorem comp_tup {K:PySem.W.Frag} {a:Addr} {xs:List V} {te:TE} {fv:St} {Q:VK} {D:Addr} {H1:Hp} (Pv:Nat→List V→Hp→Prop) (hn:xs.length ≤ sizeLine) (h0:Pv 0 [] (upd H1 D (.lst [])))
  (hD:∀ i ys Hc,i ≤ xs.length→Pv i ys Hc→Hc D = some (.lst ys)∧ys.length = i∧SqT K Hc a xs)
  (hs:∀ (i:Nat) x ys Hc (k:VK),xs[i]? = some x→Pv i ys Hc→(∀ y H3,H3 D = some (.lst ys)→Pv (i + 1) (ys ++ [y]) (upd H3 D (.lst (ys ++ [y])))→k y H3)→te (some x :: fv) Hc k) (hd:∀ ys Hc,Pv xs.length ys Hc→Q (.ref D) Hc) :
  CompW (Itt K a) te fv Q D H1:=by
 refine ⟨fun i m ys Hc=>m = xs.length - i∧i ≤ xs.length∧Pv i ys Hc,⟨xs.length,rfl,Nat.zero_le _,h0⟩,?_⟩
 rintro i m ys Hc ⟨rfl,hi,p⟩
 obtain ⟨d,l,q⟩:=hD i ys Hc hi p
 refine ⟨d,?_⟩
 by_cases hlt:i < xs.length
 ·refine .inr ⟨⟨xs,xs[i],q,by simp [hlt]⟩,by omega,?_⟩
  rintro x H' ⟨rfl,y⟩
  exact hs i x ys _ _ (y xs q) p fun y H3 a b=>⟨a,xs.length - (i + 1),by omega,rfl,by omega,b⟩
 ·have e:i = xs.length:=by omega
  subst e
  exact .inl ⟨⟨xs,q,Nat.le_refl _⟩,hd ys Hc p⟩
theorem compZ_list {K:PySem.W.Frag} {a:Addr} {xs:List V} {g:TG} {tt:TT} {te:TE} {st0:St} {Q:VK} {D:Addr} {H1:Hp} (Pv:Nat→List V→Hp→Prop) (hn:xs.length ≤ sizeLine) (h0:Pv 0 [] (upd H1 D (.lst [])))
  (hD:∀ i ys Hc,i ≤ xs.length→Pv i ys Hc→Hc D = some (.lst ys)∧ys.length ≤ i∧SqL K Hc a xs)
  (hs:∀ (i:Nat) x ys Hc (k1:VK) (k2:Hp→Prop),xs[i]? = some x→Pv i ys Hc→(∀ y H3,H3 D = some (.lst ys)→Pv (i + 1) (ys ++ [y]) (upd H3 D (.lst (ys ++ [y])))→k1 y H3)→(∀ H7,Pv (i + 1) ys H7→k2 H7) →
   g x st0 Hc fun σ6 H6=>Kp st0 σ6∧tt σ6 H6 fun b H7=>if b = true then te σ6 H7 k1 else k2 H7) (hd:∀ ys Hc,Pv xs.length ys Hc→Q (.ref D) Hc) :
  CompZ (Itl K a) g tt te st0 Q D H1:=by
 refine ⟨fun i m ys Hc=>m = xs.length - i∧i ≤ xs.length∧Pv i ys Hc,⟨xs.length,rfl,Nat.zero_le _,h0⟩,?_⟩
 rintro i m ys Hc ⟨rfl,hi,p⟩
 obtain ⟨d,l,q⟩:=hD i ys Hc hi p
 refine ⟨d,?_⟩
 by_cases hlt:i < xs.length
 ·refine .inr ⟨⟨xs,xs[i],q,by simp [hlt]⟩,by omega,?_⟩
  rintro x H' ⟨rfl,y⟩
  exact hs i x ys _ _ _ (y xs q) p (fun y H3 a b=>⟨a,xs.length - (i + 1),by omega,rfl,by omega,b⟩) fun H7 b=>⟨xs.length - (i + 1),by omega,rfl,by omega,b⟩
 ·have e:i = xs.length:=by omega
  subst e
  exact .inl ⟨⟨xs,q,Nat.le_refl _⟩,hd ys Hc p⟩
theorem kp_one {fv:St} {x:V}:Kp (none :: fv) ((none :: fv).set 0 (some x)):=⟨by simp,fun k v e=>by
 cases k with
 | zero=>simp at e
 | succ k=>simpa using e⟩
def OnlyT (H:Hp) (Pt:Addr):Prop:=H Pt = some (.tbl #[])∧∀ b,H b = none∨(∃ o xs,H b = some (.frz o (.lst xs)))∨(b = Pt∧H b = some (.tbl #[]))
theorem law_callT {P:Program} {w:World} {K:PySem.W.Frag} {mg mb:Str→Option Value} {CX:CXT} {k:Nat} {fa a c Pt:Addr} {fd:FuncData} {x:Str} {sp:Sp} {s₁:Shared} {vs:List Value} {ns:List Int}
  (KX:K.In s₁.heap) (hns:s₁.heap.Ns mainGlobals mg) (hb:s₁.heap.Ns builtinsNs mb) (hbb:∀ x:Str,x ≠ "__name__"→mb x = bootBuiltins x) (hlim:s₁.heap.NoLimit) (hg:s₁.gens = #[])
  (hP:s₁.heap.get? Pt = some (PySem.W.tabObj #[])) (hPK:K.lookup Pt = none) (hC:PySem.W.codeHdIn K c Pt = true) (hbm:BmOk mg s₁.heap)
  (ha:s₁.heap.get? a = some { cls:=.type "list",data:=.seq vs.toArray }) (hi:IntsAre vs ns) (hl:ns.length ≤ sizeLine) (hr:Room k callerA)
  (F:∀ base:Heap,K.In base→base.Ns mainGlobals mg→BmOk mg base→FnOk P w K mg base CX k fa fd [x] sp) (hbind:∀ (s:Shared) (u:Value),BindsTo s fd ⟨[u],[]⟩ [(x,u)])
  (hsp:∀ H:Hp,OnlyT H Pt→SqL K H a (ns.map V.int)→sp [.ref a] H (fun v _=>v = .bl true) fun _ _ _=>False)
  (hCX:∀ H e s',CX [] H s₁ (fun _ _ _=>False) e s'→False) :
  codeAny (model P w) callerA (.call (.ref fa) ⟨[.ref a],[]⟩) (fun r s'=>r = .ok (.ret (.bool true))∧OldK s₁.heap s'.heap∧s'.os = s₁.os∧AllBare s'.gens) s₁:=by
 have rv:=vals_ints hi
 have lenV:=hi.length
 have aP:a ≠ Pt:=fun z=>by rw [z,hP] at ha; cases ha
 have hct:isCodeTable s₁.heap Pt:=by
  obtain ⟨o,cvs,_,_,_,_,_,_,_,e1,e2,e3,e4,_⟩:=PySem.W.codeHd_of_K KX hC
  exact ⟨c,o,cvs,e1,e2,e3,e4⟩
 have core:∀ H:Hp,OnlyT H Pt→SqL K H a (ns.map V.int)→HOk P w H s₁.heap→(∀ b,H b ≠ none→b = a∨b = Pt)→(H a ≠ none→K.lookup a = none) →
   codeAny (model P w) callerA (.call (.ref fa) ⟨[.ref a],[]⟩) (fun r s'=>r = .ok (.ret (.bool true))∧OldK s₁.heap s'.heap∧s'.os = s₁.os∧AllBare s'.gens) s₁:=by
  intro H hO hS hok hA hK
  have base_of:∀ {b:Addr} {o:Obj},s₁.heap.get? b = some o→H b = none→(hidT s₁.heap H).get? b = some o:=fun e n=>hidT_get e n
  have untr:∀ {b:Addr} {o:Obj},s₁.heap.get? b = some o→(∀ its n,o.data ≠ .seq its n)→(∀ fs,o.data ≠ .fields fs)→H b = none:=fun {b o} e d1 d2=>by
   cases q:H b with
   | none=>rfl
   | some u =>
    exfalso
    rcases hA b (by rw [q]; simp) with e' | e'
    ·subst e'
     rw [ha] at e; cases e
     exact d1 _ _ rfl
    ·subst e'
     rw [hP] at e; cases e
     exact d2 _ rfl
  have nsK:∀ {b:Addr} {m:Str→Option Value},s₁.heap.Ns b m→(hidT s₁.heap H).Ns b m:=fun {b m} ⟨o,es,ep,e,d,r⟩=>⟨o,es,ep,base_of e (untr e (fun _ _ z=>by rw [d] at z; cases z) fun _ z=>by rw [d] at z; cases z),d,r⟩
  have hKb:K.In (hidT s₁.heap H):=fun b o e=>base_of (KX b o e) (by
   cases q:H b with
   | none=>rfl
   | some u =>
    rcases hA b (by rw [q]; simp) with e' | e'
    ·subst e'
     rw [hK (by rw [q]; simp)] at e; cases e
    ·subst e'
     rw [hPK] at e; cases e)
  have hM:Mod K mg (hidT s₁.heap H):=⟨hKb,nsK hns,⟨mb,nsK hb,hbb⟩,let ⟨mc,h1,h2⟩:=hlim; ⟨mc,nsK h1,h2⟩⟩
  have hBm:BmOk mg (hidT s₁.heap H):=by
   obtain ⟨bm,ob,b1,b2,b3,b4,b5,b6⟩:=hbm
   exact ⟨bm,ob,b1,b2,base_of b3 (untr b3 (fun _ _ z=>by rw [b6] at z; cases z) fun _ z=>by rw [b6] at z; cases z),b4,b5,b6⟩
  have e0:Env0 P w K mg (hidT s₁.heap H) callerA [] s₁ H:=⟨rfl,hM,fun b o e=>of_hidT e,Nat.le_of_eq (hidT_size _ _),trivial,fun b hb=>absurd (show b ∈ ([]:List Addr) from hb) (by simp),hok,.of_eq hg⟩
  refine codeAny_mono ((F _ hKb (nsK hns) hBm).run callerA [] s₁ H ⟨[.ref a],[]⟩ [.ref a] [.ref a] _ _ hr e0 (hbind s₁ (.ref a)) (.cons rfl .nil) (hsp H hO hS)) fun r s' h=>?_
  cases r with
  | error e=>exact (hCX H e s' h).elim
  | ok fl =>
   cases fl with
   | next=>exact False.elim h
   | brk=>exact False.elim h
   | cont=>exact False.elim h
   | ret u =>
    obtain ⟨v,H',os,bare,un,hok',r',q⟩:=h
    have q':v = .bl true:=q
    subst q'
    obtain rfl:u = Value.bool true:=r'
    have both:∀ b o,s₁.heap.get? b = some o→asItWas s₁.heap s'.heap b o∧∃ o',s'.heap.get? b = some o':=fun b o e=>by
     rcases hO.2 b with z | ⟨ob,xs,z⟩ | ⟨z0,z⟩
     ·have:=un.keep b o e z (by intro z; exact absurd (show b ∈ ([]:List Addr) from z) (by simp)) (by simp)
      exact ⟨.inl this,o,this⟩
     ·have z2:=un.frzs b ob _ z
      obtain ⟨e1,_⟩:=hok b _ z
      obtain ⟨e2,_⟩:=hok' b _ z2
      rw [e] at e1; cases e1
      exact ⟨.inl e2,_,e2⟩
     ·obtain ⟨more,z2⟩:=un.tbls b _ z
      have e2:s'.heap.get? b = some { cls:=.none,data:=.fields (#[] ++ more) }:=hok' b _ z2
      subst z0
      rw [hP] at e; cases e
      exact ⟨.inr (.inl ⟨hct,rfl,#[],more,rfl,e2⟩),_,e2⟩
    exact ⟨rfl,⟨fun b o e=>(both b o e).1,fun b o e=>(both b o e).2⟩,os,bare⟩
 have tP:∀ (H:Hp),H Pt = some (.tbl #[])→(∀ b u,b ≠ Pt→H b = some u→ObjOk P w H s₁.heap b u)→HOk P w H s₁.heap:=fun H hT hr b u e=>by
  by_cases z:b = Pt
  ·subst z
   rw [hT] at e; cases e
   exact hP
  ·exact hr b u z e
 cases hk:K.lookup a with
 | some o =>
  have e:=KX a o hk
  rw [ha] at e
  cases e
  have h1:(fun b=>if b = Pt then some (HO.tbl #[]) else none:Hp) Pt = some (.tbl #[]):=if_pos rfl
  refine core (fun b=>if b = Pt then some (.tbl #[]) else none) ⟨h1,fun b=>?_⟩ (.inr ⟨_,vs.toArray,_,hk,rfl,rfl,rfl,by rw [List.size_toArray,lenV]; exact hl,by simpa using rv⟩) (tP _ h1 fun b u z e=>?_) (fun b z=>?_) fun z=>?_
  ·by_cases hb:b = Pt
   ·exact .inr (.inr ⟨hb,if_pos hb⟩)
   ·exact .inl (if_neg hb)
  ·have z':=(if_neg z).symm.trans e
   cases z'
  ·by_cases hb:b = Pt
   ·exact .inr hb
   ·exact absurd (if_neg hb) z
  ·exact absurd (if_neg aP) z
 | none =>
  have h1:(fun b=>if b = a then some (HO.frz { cls:=.type "list",data:=.seq vs.toArray } (.lst (ns.map V.int))) else if b = Pt then some (.tbl #[]) else none:Hp) Pt = some (.tbl #[]):=by
   show (if Pt = a then _ else if Pt = Pt then _ else _) = _
   rw [if_neg aP.symm,if_pos rfl]
  refine core (fun b=>if b = a then some (.frz { cls:=.type "list",data:=.seq vs.toArray } (.lst (ns.map V.int))) else if b = Pt then some (.tbl #[]) else none) ⟨h1,fun b=>?_⟩ (.inl (.inr ⟨{ cls:=.type "list",data:=.seq vs.toArray },if_pos rfl⟩)) (tP _ h1 fun b u z e=>?_) (fun b z=>?_) fun _=>hk
  ·by_cases hb:b = a
   ·exact .inr (.inl ⟨_,_,if_pos hb⟩)
   ·by_cases hb2:b = Pt
    ·exact .inr (.inr ⟨hb2,(if_neg hb).trans (if_pos hb2)⟩)
    ·exact .inl ((if_neg hb).trans (if_neg hb2))
  ·by_cases hb:b = a
   ·have z':=(if_pos hb).symm.trans e
    cases z'
    subst hb
    exact ⟨ha,by rw [List.length_map]; exact hl,vs,_,rv,ha⟩
   ·have z':=((if_neg hb).trans (if_neg z)).symm.trans e
    cases z'
  ·by_cases hb:b = a
   ·exact .inl hb
   ·by_cases hb2:b = Pt
    ·exact .inr hb2
    ·exact absurd ((if_neg hb).trans (if_neg hb2)) z
theorem walk_ofT {l:PySem.W.OpenLaw} {n k:Nat} {q:Program} {loose:List Str} {XP:(Str→Option Value)→Heap→Prop} {YP:World→Heap→Prop} {d:DefRec} {K:Params→PySem.W.Frag} {CX:World→CXT} {sp:World→Sp} {x:Str} {c Pt:Addr}
  (hn:l.most = some n) (hn2:n ≤ sizeLine) (hdf:d.params.defaults = []) (hr:Room k callerA)
  (hY:∀ (w:World) (h:Heap),YP w h→(K w.params).In h) (hYP:∀ (w:World) (h:Heap),YP w h→h.get? Pt = some (PySem.W.tabObj #[])) (hPK:∀ w:World,(K w.params).lookup Pt = none) (hC:∀ w:World,PySem.W.codeHdIn (K w.params) c Pt = true)
  (F:∀ (w:World) (mg:Str→Option Value) (fa:Addr) (h:Heap),(K w.params).In h→h.Ns mainGlobals mg→mg d.name = some (.ref fa) →
   ∃ fd:FuncData,(∀ (s:Shared) (u:Value),BindsTo s fd ⟨[u],[]⟩ [(x,u)]) ∧
    ∀ base:Heap,(K w.params).In base→base.Ns mainGlobals mg→BmOk mg base→FnOk l.prog w (K w.params) mg base (CX w) k fa fd [x] (sp w))
  (hsp:∀ (w:World) (H:Hp) (a:Addr) (ns:List Int),ns.length ≤ n→OnlyT H Pt→SqL (K w.params) H a (ns.map V.int)→sp w [.ref a] H (fun v _=>v = .bl true) fun _ _ _=>False)
  (hCX:∀ (w:World) (H:Hp) (s:Shared) (e:Value) (s':Shared),CX w [] H s (fun _ _ _=>False) e s'→False) :
  PySem.W.WalkO q loose XP YP l.row.toRowW d [] (fun f vs=>PySem.call f vs):=by
 refine Att.attach_call hn hdf fun w s₀ s₁ mg mb fa o pm cd doc a vs ns G Y ho hd hcd hmg hobj hints hlen hg=>?_
 have KX:=hY w _ Y
 obtain ⟨fd,hb,hF⟩:=F w mg fa _ KX G.T.g hmg
 exact law_callT KX G.T.g G.T.b G.T.builtins G.T.nolimit hg (hYP w _ Y) (hPK w) (hC w) G.T.bmain hobj hints (Nat.le_trans hlen hn2) hr hF hb (fun H hO hS=>hsp w H a ns hlen hO hS) fun H e s'=>hCX w H s₁ e s'
end L2
namespace KL
open PySem L2
def top (i:Nat):Stmt:=PySem.Challenge.pw_ledgerdb_k12_deep.main.body.getD i (.Pass ⟨0,0,0,0⟩)
abbrev s_WrongWord_init:Stmt:=inClass (top 6) 0
abbrev s_split_words:Stmt:=top 22
abbrev s_skip_blanks:Stmt:=top 23
abbrev s_find_end:Stmt:=top 24
abbrev s_skip_name_signs:Stmt:=top 25
abbrev s_find_text_end:Stmt:=top 26
abbrev s_make_word:Stmt:=top 27
abbrev s_make_number:Stmt:=top 28
abbrev s_make_text:Stmt:=top 29
abbrev s_is_name_sign:Stmt:=top 30
abbrev s_is_letter:Stmt:=top 31
abbrev s_is_figure:Stmt:=top 32
abbrev s_Statement_init:Stmt:=inClass (top 54) 0
abbrev s_Reader_init:Stmt:=inClass (top 55) 0
abbrev s_Reader_refuse:Stmt:=inClass (top 55) 1
abbrev s_Reader_look:Stmt:=inClass (top 55) 2
abbrev s_Reader_sees:Stmt:=inClass (top 55) 3
abbrev s_Reader_take:Stmt:=inClass (top 55) 4
abbrev s_Reader_take_if:Stmt:=inClass (top 55) 5
abbrev s_Reader_take_all:Stmt:=inClass (top 55) 6
abbrev s_Reader_take_kind:Stmt:=inClass (top 55) 7
abbrev s_Reader_take_name:Stmt:=inClass (top 55) 8
abbrev s_Reader_enter:Stmt:=inClass (top 55) 9
abbrev s_Reader_leave:Stmt:=inClass (top 55) 10
abbrev s_read_statement:Stmt:=top 56
abbrev s_read_insert:Stmt:=top 61
abbrev s_read_list:Stmt:=top 71
abbrev s_read_expression:Stmt:=top 73
abbrev s_read_or:Stmt:=top 74
abbrev s_read_and:Stmt:=top 75
abbrev s_read_not:Stmt:=top 76
abbrev s_read_comparison:Stmt:=top 77
abbrev s_read_sum:Stmt:=top 78
abbrev s_read_product:Stmt:=top 79
abbrev s_read_minus:Stmt:=top 80
abbrev s_enter_all:Stmt:=top 81
abbrev s_leave_all:Stmt:=top 82
abbrev s_read_last:Stmt:=top 83
abbrev s_Verdict_init:Stmt:=inClass (top 130) 0
abbrev s_judge:Stmt:=top 131
abbrev s_find_refusal:Stmt:=top 132
abbrev s_fits_transaction:Stmt:=top 133
abbrev s_find_wrong_names:Stmt:=top 134
abbrev s_tell_missing:Stmt:=top 136
abbrev s_Tape_init:Stmt:=inClass (top 153) 0
abbrev s_Tape_has_more:Stmt:=inClass (top 153) 1
abbrev s_write_digits:Stmt:=top 154
abbrev s_read_digits:Stmt:=top 155
abbrev s_read_state:Stmt:=top 157
abbrev s_page_takes:Stmt:=top 173
abbrev s_Disk_init:Stmt:=inClass (top 174) 0
abbrev s_Disk_size:Stmt:=inClass (top 174) 2
abbrev s_Disk_read:Stmt:=inClass (top 174) 3
abbrev s_Disk_write:Stmt:=inClass (top 174) 4
abbrev s_Disk_sync:Stmt:=inClass (top 174) 5
abbrev s_Disk_check_page:Stmt:=inClass (top 174) 8
abbrev s_Disk_spend:Stmt:=inClass (top 174) 9
abbrev s_Head_init:Stmt:=inClass (top 182) 0
abbrev s_Store_init:Stmt:=inClass (top 183) 0
abbrev s_make_ready:Stmt:=top 184
abbrev s_find_store:Stmt:=top 185
abbrev s_check_size:Stmt:=top 188
abbrev s_find_head:Stmt:=top 189
abbrev s_read_head:Stmt:=top 190
abbrev s_next_head:Stmt:=top 191
abbrev s_put_head:Stmt:=top 192
abbrev s_Base_init:Stmt:=inClass (top 198) 0
abbrev s_format_disk:Stmt:=top 199
abbrev s_open_base:Stmt:=top 200
abbrev s_run:Stmt:=top 201
abbrev s_law_cell:Stmt:=top 206
abbrev s_law_mix:Stmt:=top 207
abbrev s_law_whole:Stmt:=top 208
abbrev s_law_answer:Stmt:=top 211
abbrev s_law_reply:Stmt:=top 212
abbrev s_law_new:Stmt:=top 213
abbrev s_law:Stmt:=top 214
def lamP:Pos:=⟨810,65,810,87⟩
def isLet (c:Nat):Bool:=decide (97 ≤ c) && decide (c ≤ 122)
def isFig (c:Nat):Bool:=decide (48 ≤ c) && decide (c ≤ 57)
def isNm (c:Nat):Bool:=isLet c || (isFig c || decide (c = 95))
def isBl (c:Nat):Bool:=decide (c = 32) || decide (c = 10)
def isLong (l:List Nat):Bool:=decide (l = [60,62]) || (decide (l = [60,61]) || decide (l = [62,61]))
def lead (p:Nat→Bool):List Nat→Nat
 | []=>0
 | c :: r=>if p c = true then lead p r + 1 else 0
def qEnd:List Nat→Nat
 | []=>0
 | [c]=>1
 | c :: d :: r=>if c = 39 then (if d = 39 then qEnd r + 2 else 1) else qEnd (d :: r) + 1
def wEnd:List Nat→Nat
 | []=>0
 | c :: r=>if (isLet c || isFig c) = true then lead isNm (c :: r) else if c = 39 then qEnd r + 1 else if isLong ((c :: r).take 2) = true then 2 else 1
theorem lead_le (p:Nat→Bool):∀ l,lead p l ≤ l.length
 | []=>Nat.le_refl _
 | c :: r=>by
  unfold lead
  have:=lead_le p r
  split
  ·simp only [List.length_cons]; omega
  ·exact Nat.zero_le _
theorem qEnd_le:∀ l,qEnd l ≤ l.length
 | []=>Nat.le_refl _
 | [c]=>Nat.le_refl _
 | c :: d :: r=>by
  unfold qEnd
  have h1:=qEnd_le r
  have h2:=qEnd_le (d :: r)
  simp only [List.length_cons] at h2 ⊢
  split
  ·split <;> omega
  ·omega
theorem wEnd_le (l:List Nat):wEnd l ≤ l.length:=by
 cases l with
 | nil=>exact Nat.le_refl _
 | cons c r =>
  unfold wEnd
  have h1:=lead_le isNm (c :: r)
  have h2:=qEnd_le r
  simp only [List.length_cons] at h1 ⊢
  split
  ·exact h1
  ·split
   ·omega
   ·split
    ·rename_i h
     have:((c :: r).take 2).length = 2:=by
      unfold isLong at h
      simp only [Bool.or_eq_true,decide_eq_true_eq] at h
      rcases h with h | h | h <;> rw [h] <;> rfl
     rw [List.length_take] at this
     simp only [List.length_cons] at this
     omega
    ·omega
theorem wEnd_pos (c:Nat) (r:List Nat):1 ≤ wEnd (c :: r):=by
 show 1 ≤ (if (isLet c || isFig c) = true then lead isNm (c :: r) else if c = 39 then qEnd r + 1 else if isLong ((c :: r).take 2) = true then 2 else 1)
 by_cases h:(isLet c || isFig c) = true
 ·rw [if_pos h]
  have:isNm c = true:=by
   unfold isNm
   rw [Bool.or_eq_true] at h ⊢
   rcases h with h | h
   ·exact .inl h
   ·exact .inr (by rw [h]; rfl)
  show 1 ≤ (if isNm c = true then lead isNm r + 1 else 0)
  rw [if_pos this]
  omega
 ·rw [if_neg h]
  by_cases h1:c = 39
  ·rw [if_pos h1]; omega
  ·rw [if_neg h1]
   by_cases h2:isLong ((c :: r).take 2) = true
   ·rw [if_pos h2]; omega
   ·rw [if_neg h2]; omega
theorem lead_cons {p:Nat→Bool} {l:List Nat} {n:Nat} {c:Nat} (h:l[n]? = some c) (hp:p c = true):lead p (l.drop n) = lead p (l.drop (n + 1)) + 1:=by
 have hn:n < l.length:=(List.getElem?_eq_some_iff.mp h).1
 rw [List.drop_eq_getElem_cons hn]
 have e:l[n] = c:=(List.getElem?_eq_some_iff.mp h).2
 rw [e]
 show (if p c = true then lead p (l.drop (n + 1)) + 1 else 0) = _
 rw [if_pos hp]
theorem lead_stop {p:Nat→Bool} {l:List Nat} {n:Nat} {c:Nat} (h:l[n]? = some c) (hp:p c = false):lead p (l.drop n) = 0:=by
 have hn:n < l.length:=(List.getElem?_eq_some_iff.mp h).1
 rw [List.drop_eq_getElem_cons hn]
 have e:l[n] = c:=(List.getElem?_eq_some_iff.mp h).2
 rw [e]
 show (if p c = true then lead p (l.drop (n + 1)) + 1 else 0) = _
 rw [hp]
 rfl
theorem lead_end {p:Nat→Bool} {l:List Nat} {n:Nat} (h:l.length ≤ n):lead p (l.drop n) = 0:=by
 rw [List.drop_eq_nil_of_le h]
 rfl
theorem le_one (c d:Nat):(!decide ((⟨#[d]⟩:Str).cps.toList < (⟨#[c]⟩:Str).cps.toList)) = decide (c ≤ d):=by
 have:((⟨#[d]⟩:Str).cps.toList < (⟨#[c]⟩:Str).cps.toList) ↔ d < c:=by
  show ([d]:List Nat) < [c] ↔ d < c
  rw [List.cons_lt_cons_iff]
  constructor
  ·rintro (h | ⟨_,h⟩)
   ·exact h
   ·exact absurd h (by simp)
  ·exact .inl
 rw [decide_eq_decide.mpr this]
 by_cases h:d < c
 ·rw [decide_eq_true h,decide_eq_false (by omega)]; rfl
 ·rw [decide_eq_false h,decide_eq_true (by omega)]; rfl
theorem iteB {b:Bool} {A B:Prop} (h1:b = true→A) (h2:b = false→B):if b = true then A else B:=by
 cases b with
 | true=>exact iteT (h1 rfl)
 | false=>exact iteF (h2 rfl)
theorem str_sg (z:Str):z.cps.toList.length = z.length:=by simp [Str.length]
theorem str_at {z:Str} {i:Nat} (h:i < z.length):∃ c,z.cps.toList[i]? = some c∧z.cps[i]? = some c:=by
 have h':i < z.cps.size:=h
 exact ⟨z.cps[i],by simp [h'],by simp [h']⟩
def GS (mg:Str→Option Value) (x z:Str):Prop:=∃ t,mg x = some (.str z t)
def GI (mg:Str→Option Value) (x:Str) (i:Int):Prop:=∃ t,mg x = some (.int i t)
def GT (K:PySem.W.Frag) (mg:Str→Option Value) (x:Str) (xs:List V):Prop:=∃ a,mg x = some (.ref a)∧∀ H,SqT K H a xs
def keptV:List V:=[.str "create",.str "table",.str "drop",.str "insert",.str "into",.str "values",.str "update",.str "set",.str "where",.str "delete",.str "from",.str "select",.str "order",.str "by",.str "desc",.str "limit",.str "begin",.str "commit",.str "rollback",.str "to",.str "savepoint",.str "int",.str "text",.str "not",.str "null",.str "unique",.str "or",.str "and",.str "is"]
def longV:List V:=[.str "<>",.str "<=",.str ">="]
def shortV:List V:=[.str "(",.str ")",.str ",",.str "=",.str "<",.str ">",.str "+",.str "-",.str "*"]
structure TxW (K:PySem.W.Frag) (mg:Str→Option Value):Prop where
 len:mg "len" = none
 all:mg "all" = none
 int:mg "int" = none
 name:GS mg "NAME" "name"
 kept:GS mg "KEPT" "kept"
 number:GS mg "NUMBER_words" "number"
 text:GS mg "TEXT_words" "text"
 sign:GS mg "SIGN" "sign"
 wrong:GS mg "WRONG" "wrong"
 quote:GS mg "QUOTE" "'"
 most:GI mg "MOST_FIGURES" 30
 words:GT K mg "KEPT_WORDS" keptV
 long:GT K mg "LONG_SIGNS" longV
 short:GT K mg "SHORT_SIGNS" shortV
 betw:GT K mg "BETWEEN_WORDS" [.str " ",.str "\n"]
section
variable {P:Program} {w:World} {K:PySem.W.Frag} {mg:Str→Option Value} {base:Heap}
def spSg (p:Nat→Bool):Sp:=fun vs H Q _=>∃ c,vs = [.str ⟨#[c]⟩]∧Q (.bl (p c)) H
theorem sc_is_letter:FnScope ["sign"] ["sign"] (defScope s_is_letter):=⟨rfl,rfl,rfl,by decide +kernel,rfl,by decide +kernel,by decide +kernel⟩
theorem ok_is_letter {f:Addr} {fd:FuncData} (F:Fun K "is_letter" "is_letter" s_is_letter f fd):FnOk P w K mg base CX0 1 f fd ["sign"] (spSg isLet):=by
 refine F.ok sc_is_letter (fun vs H Q E h=>?_) (fun cdv A outer s H vs Q E hr h=>?_)
 ·obtain ⟨c,rfl,_⟩:=h
  rfl
 ·obtain ⟨c,rfl,q⟩:=h
  refine ⟨_,pss_one (ps_ret (pe_chain op_le_str op_le_str pe_str (pv 0) pe_str)),?_⟩
  refine ⟨_,rfl,_,_,rfl,rfl,_,rfl,?_⟩
  have e1:(!decide ((⟨#[c]⟩:Str).cps.toList < ("a":Str).cps.toList)) = decide (97 ≤ c):=le_one 97 c
  have e2:(!decide (("z":Str).cps.toList < (⟨#[c]⟩:Str).cps.toList)) = decide (c ≤ 122):=le_one c 122
  rw [e1]
  unfold isLet at q
  refine iteB (fun h=>⟨_,_,rfl,rfl,?_⟩) (fun h=>?_)
  ·rw [h] at q
   rw [e2]
   exact q
  ·rw [h] at q
   exact q
theorem sc_is_figure:FnScope ["sign"] ["sign"] (defScope s_is_figure):=⟨rfl,rfl,rfl,by decide +kernel,rfl,by decide +kernel,by decide +kernel⟩
theorem ok_is_figure {f:Addr} {fd:FuncData} (F:Fun K "is_figure" "is_figure" s_is_figure f fd):FnOk P w K mg base CX0 1 f fd ["sign"] (spSg isFig):=by
 refine F.ok sc_is_figure (fun vs H Q E h=>?_) (fun cdv A outer s H vs Q E hr h=>?_)
 ·obtain ⟨c,rfl,_⟩:=h
  rfl
 ·obtain ⟨c,rfl,q⟩:=h
  refine ⟨_,pss_one (ps_ret (pe_chain op_le_str op_le_str pe_str (pv 0) pe_str)),?_⟩
  refine ⟨_,rfl,_,_,rfl,rfl,_,rfl,?_⟩
  have e1:(!decide ((⟨#[c]⟩:Str).cps.toList < ("0":Str).cps.toList)) = decide (48 ≤ c):=le_one 48 c
  have e2:(!decide (("9":Str).cps.toList < (⟨#[c]⟩:Str).cps.toList)) = decide (c ≤ 57):=le_one c 57
  rw [e1]
  unfold isFig at q
  refine iteB (fun h=>⟨_,_,rfl,rfl,?_⟩) (fun h=>?_)
  ·rw [h] at q
   rw [e2]
   exact q
  ·rw [h] at q
   exact q
structure FnS (P:Program) (w:World) (K:PySem.W.Frag) (mg:Str→Option Value) (base:Heap) (k:Nat) (x:Str) (ps:List Str) (sp:Sp):Prop where
 ex:∃ (f:Addr) (fd:FuncData),mg x = some (.ref f)∧PySem.W.keepIn K (.ref f) = true∧FnOk P w K mg base CX0 k f fd ps sp∧Binds K fd ps []
theorem one_eq (c d:Nat):decide (V.str ⟨#[c]⟩ = V.str ⟨#[d]⟩) = decide (c = d):=by
 have:(V.str ⟨#[c]⟩ = V.str ⟨#[d]⟩) ↔ c = d:=⟨fun h=>by
  injection h with h
  injection h with h
  simpa using h,fun h=>by rw [h]⟩
 exact decide_eq_decide.mpr this
theorem sc_is_name_sign:FnScope ["sign"] ["sign"] (defScope s_is_name_sign):=⟨rfl,rfl,rfl,by decide +kernel,rfl,by decide +kernel,by decide +kernel⟩
theorem ok_is_name_sign {f:Addr} {fd:FuncData} (F:Fun K "is_name_sign" "is_name_sign" s_is_name_sign f fd) (GL:FnS P w K mg base 1 "is_letter" ["sign"] (spSg isLet)) (GF:FnS P w K mg base 1 "is_figure" ["sign"] (spSg isFig)) :
  FnOk P w K mg base CX0 2 f fd ["sign"] (spSg isNm):=by
 obtain ⟨fL,fdL,mL,kL,GL,bL⟩:=GL.ex
 obtain ⟨fF,fdF,mF,kF,GF,bF⟩:=GF.ex
 refine F.ok sc_is_name_sign (fun vs H Q E h=>?_) (fun cdv A outer s H vs Q E hr h=>?_)
 ·obtain ⟨c,rfl,_⟩:=h
  rfl
 ·obtain ⟨c,rfl,q⟩:=h
  refine ⟨_,pss_one (ps_ret (pe_or (pe_call GL hr (by rfl) mL kL bL .nil pass0 (pa_cons (pv 0) pa_nil)) (pe_or (pe_call GF hr (by rfl) mF kF bF .nil pass0 (pa_cons (pv 0) pa_nil)) (pe_one (pe_cmpR op_eq (pv 0) pe_str (nomark _)))))),?_⟩
  unfold isNm at q
  refine ⟨_,rfl,c,rfl,_,rfl,iteB (fun h=>?_) (fun h=>?_)⟩
  ·rw [h] at q
   exact q
  ·rw [h] at q
   refine ⟨_,rfl,c,rfl,_,rfl,iteB (fun h2=>?_) (fun h2=>?_)⟩
   ·rw [h2] at q
    exact q
   ·rw [h2] at q
    refine ⟨_,rfl,rfl,?_⟩
    have e:decide (V.str ⟨#[c]⟩ = V.str ("_":Str)) = decide (c = 95):=one_eq c 95
    rw [e]
    exact q
end
section
variable {P:Program} {w:World} {K:PySem.W.Frag} {mg:Str→Option Value} {base:Heap}
def spWalk (g:List Nat→Nat):Sp:=fun vs H Q _=>∃ (z:Str) (p:Nat),vs = [.str z,.int p]∧z.length ≤ 1000000∧p ≤ z.length∧Q (.int ((p + g (z.cps.toList.drop p):Nat):Int)) H
theorem in_betw (c:Nat):inV (.str ⟨#[c]⟩) [.str " ",.str "\n"] = isBl c:=by
 unfold inV isBl
 simp only [List.any_cons,List.any_nil,Bool.or_false]
 have e:∀ d:Nat,eqV (.str ⟨#[d]⟩) (.str ⟨#[c]⟩) = decide (c = d):=fun d=>by
  show ((⟨#[d]⟩:Str) == ⟨#[c]⟩) = decide (c = d)
  by_cases h:c = d
  ·rw [h,decide_eq_true rfl]; exact beq_self_eq_true _
  ·rw [decide_eq_false h]
   refine beq_eq_false_iff_ne.mpr fun z=>h ?_
   injection z with z
   simpa using z.symm
 exact congr (congrArg or (e 32)) (e 10)
theorem sc_skip_blanks:FnScope ["text","place"] ["text","place"] (defScope s_skip_blanks):=⟨rfl,rfl,rfl,by decide +kernel,rfl,by decide +kernel,by decide +kernel⟩
theorem ok_skip_blanks {f:Addr} {fd:FuncData} (F:Fun K "skip_blanks" "skip_blanks" s_skip_blanks f fd) (T:TxW K mg):FnOk P w K mg base CX0 1 f fd ["text","place"] (spWalk (lead isBl)):=by
 obtain ⟨aB,mB,sB⟩:=T.betw
 refine F.ok sc_skip_blanks (fun vs H Q E h=>?_) (fun cdv A outer s H vs Q E hr h=>?_)
 ·obtain ⟨z,p,rfl,_⟩:=h
  rfl
 ·obtain ⟨z,p,rfl,hz,hp,q⟩:=h
  refine ⟨_,pss_cons (ps_while PassesOwn.never (pw_and (pt_cmpR op_lt (pv 1) (pe_callB call_len (by rfl) T.len PySem.boot_len (pa_cons (pv 0) pa_nil)) (nomark _)) (pw_and1 (pt_cmpR op_in_seq (pe_item_str (pv 0) (pv 1) (fun _ _=>rfl)) (pe_glob (by rfl) mB (v:=.ref aB) rfl) (by rfl)))).pt
    (pss_one (ps_aug (i:=1) sc_skip_blanks.nd rfl (Or.inl rfl) pe_int ip_add)))
   (pss_one (ps_ret (pv 1))),?_⟩
  refine ⟨fun m σ H'=>∃ n:Nat,m + n = z.length∧n ≤ z.length∧p + lead isBl (z.cps.toList.drop p) = n + lead isBl (z.cps.toList.drop n)∧σ = [some (.str z),some (.int n)]∧H' = H,⟨z.length - p,p,by omega,hp,rfl,rfl,rfl⟩,?_⟩
  rintro m σ H' ⟨n,hmn,hn,hq,rfl,rfl⟩
  refine ⟨_,rfl,_,rfl,_,z.length,rfl,⟨Nat.le_trans hz (by decide),rfl⟩,_,_,rfl,rfl,_,rfl,iteB (fun h=>?_) (fun h=>?_)⟩
  ·have hlt:n < z.length:=by have:=of_decide_eq_true h; omega
   obtain ⟨c,hc,hc'⟩:=str_at hlt
   refine ⟨_,rfl,_,rfl,z,n,c,rfl,rfl,by omega,by omega,by omega,hc',aB,_,rfl,.inr (sB _),rfl,rfl,_,rfl,?_⟩
   show if (inV (.str ⟨#[c]⟩) [.str " ",.str "\n"]) = true then _ else _
   rw [in_betw]
   refine iteB (fun hb=>?_) (fun hb=>?_)
   ·refine ⟨fun σ' H2=>∃ n':Nat,n' = n + 1∧σ' = [some (.str z),some (.int n')]∧H2 = H',?_,_,rfl,_,_,rfl,rfl,n + 1,rfl,by simp,rfl⟩
    rintro σ' H2 ⟨n',rfl,rfl,rfl⟩
    exact ⟨z.length - (n + 1),by omega,n + 1,by omega,by omega,by rw [hq,lead_cons hc hb]; omega,rfl,rfl⟩
   ·refine ⟨_,rfl,?_⟩
    rw [hq,lead_stop hc hb] at q
    exact q
  ·have hge:z.length ≤ n:=by have:=of_decide_eq_false h; omega
   refine iteF ⟨_,rfl,?_⟩
   rw [hq,lead_end (by rw [str_sg]; exact hge)] at q
   exact q
theorem sc_skip_name_signs:FnScope ["text","place"] ["text","place"] (defScope s_skip_name_signs):=⟨rfl,rfl,rfl,by decide +kernel,rfl,by decide +kernel,by decide +kernel⟩
theorem ok_skip_name_signs {f:Addr} {fd:FuncData} (F:Fun K "skip_name_signs" "skip_name_signs" s_skip_name_signs f fd) (T:TxW K mg) (G:FnS P w K mg base 2 "is_name_sign" ["sign"] (spSg isNm)):FnOk P w K mg base CX0 3 f fd ["text","place"] (spWalk (lead isNm)):=by
 obtain ⟨fN,fdN,mN,kN,GN,bN⟩:=G.ex
 refine F.ok sc_skip_name_signs (fun vs H Q E h=>?_) (fun cdv A outer s H vs Q E hr h=>?_)
 ·obtain ⟨z,p,rfl,_⟩:=h
  rfl
 ·obtain ⟨z,p,rfl,hz,hp,q⟩:=h
  refine ⟨_,pss_cons (ps_while PassesOwn.never (pw_and (pt_cmpR op_lt (pv 1) (pe_callB call_len (by rfl) T.len PySem.boot_len (pa_cons (pv 0) pa_nil)) (nomark _)) (pw_and1 (pt_val (pe_call GN hr (by rfl) mN kN bN .nil pass0 (pa_cons (pe_item_str (pv 0) (pv 1) (fun _ _=>rfl)) pa_nil))))).pt
    (pss_one (ps_aug (i:=1) sc_skip_name_signs.nd rfl (Or.inl rfl) pe_int ip_add)))
   (pss_one (ps_ret (pv 1))),?_⟩
  refine ⟨fun m σ H'=>∃ n:Nat,m + n = z.length∧n ≤ z.length∧p + lead isNm (z.cps.toList.drop p) = n + lead isNm (z.cps.toList.drop n)∧σ = [some (.str z),some (.int n)]∧H' = H,⟨z.length - p,p,by omega,hp,rfl,rfl,rfl⟩,?_⟩
  rintro m σ H' ⟨n,hmn,hn,hq,rfl,rfl⟩
  refine ⟨_,rfl,_,rfl,_,z.length,rfl,⟨Nat.le_trans hz (by decide),rfl⟩,_,_,rfl,rfl,_,rfl,iteB (fun h=>?_) (fun h=>?_)⟩
  ·have hlt:n < z.length:=by have:=of_decide_eq_true h; omega
   obtain ⟨c,hc,hc'⟩:=str_at hlt
   refine ⟨_,rfl,_,rfl,z,n,c,rfl,rfl,by omega,by omega,by omega,hc',c,rfl,_,rfl,?_⟩
   refine iteB (fun hb=>?_) (fun hb=>?_)
   ·refine ⟨fun σ' H2=>∃ n':Nat,n' = n + 1∧σ' = [some (.str z),some (.int n')]∧H2 = H',?_,_,rfl,_,_,rfl,rfl,n + 1,rfl,by simp,rfl⟩
    rintro σ' H2 ⟨n',rfl,rfl,rfl⟩
    exact ⟨z.length - (n + 1),by omega,n + 1,by omega,by omega,by rw [hq,lead_cons hc hb]; omega,rfl,rfl⟩
   ·refine ⟨_,rfl,?_⟩
    rw [hq,lead_stop hc hb] at q
    exact q
  ·have hge:z.length ≤ n:=by have:=of_decide_eq_false h; omega
   refine iteF ⟨_,rfl,?_⟩
   rw [hq,lead_end (by rw [str_sg]; exact hge)] at q
   exact q
end
section
variable {P:Program} {w:World} {K:PySem.W.Frag} {mg:Str→Option Value} {base:Heap}
theorem cut_two (z:Str) (a b:Nat) (h:a ≤ z.length) (hb:a ≤ b):cutS z (some (a:Int)) (some (b:Int)) = ⟨((z.cps.toList.drop a).take (b - a)).toArray⟩:=by
 unfold cutS cutL
 have hl:=str_sg z
 have e1:HT.sIx z.cps.toList.length 0 (some (a:Int)) = a:=by
  unfold HT.sIx
  simp only [show ¬ ((a:Int) < 0) by omega,if_false]
  omega
 rw [e1]
 by_cases hbz:b ≤ z.length
 ·have e2:HT.sIx z.cps.toList.length z.cps.toList.length (some (b:Int)) = b:=by
   unfold HT.sIx
   simp only [show ¬ ((b:Int) < 0) by omega,if_false]
   omega
  rw [e2]
 ·have e2:HT.sIx z.cps.toList.length z.cps.toList.length (some (b:Int)) = z.cps.toList.length:=by
   unfold HT.sIx
   simp only [show ¬ ((b:Int) < 0) by omega,if_false]
   omega
  rw [e2,List.take_of_length_le (l:=z.cps.toList.drop a) (by rw [List.length_drop]; omega),List.take_of_length_le (by rw [List.length_drop]; omega)]
theorem qEnd_end {l:List Nat} {n:Nat} (h:l.length ≤ n):qEnd (l.drop n) = 0:=by
 rw [List.drop_eq_nil_of_le h]
 rfl
theorem qEnd_on {l:List Nat} {n c:Nat} (h:l[n]? = some c) (hc:c ≠ 39):qEnd (l.drop n) = qEnd (l.drop (n + 1)) + 1:=by
 have hn:n < l.length:=(List.getElem?_eq_some_iff.mp h).1
 have e:l[n] = c:=(List.getElem?_eq_some_iff.mp h).2
 rw [List.drop_eq_getElem_cons hn,e]
 cases l.drop (n + 1) with
 | nil=>rfl
 | cons d r=>show (if c = 39 then _ else qEnd (d :: r) + 1) = _; rw [if_neg hc]
theorem qEnd_two {l:List Nat} {n:Nat} (h:l[n]? = some 39) (h':l[n + 1]? = some 39):qEnd (l.drop n) = qEnd (l.drop (n + 2)) + 2:=by
 have hn:n < l.length:=(List.getElem?_eq_some_iff.mp h).1
 have e:l[n] = 39:=(List.getElem?_eq_some_iff.mp h).2
 have hn':n + 1 < l.length:=(List.getElem?_eq_some_iff.mp h').1
 have e':l[n + 1] = 39:=(List.getElem?_eq_some_iff.mp h').2
 rw [List.drop_eq_getElem_cons hn,e,List.drop_eq_getElem_cons hn',e']
 rfl
theorem qEnd_one {l:List Nat} {n:Nat} (h:l[n]? = some 39) (h':l[n + 1]? ≠ some 39):qEnd (l.drop n) = 1:=by
 have hn:n < l.length:=(List.getElem?_eq_some_iff.mp h).1
 have e:l[n] = 39:=(List.getElem?_eq_some_iff.mp h).2
 rw [List.drop_eq_getElem_cons hn,e]
 by_cases hn':n + 1 < l.length
 ·rw [List.drop_eq_getElem_cons hn']
  have:l[n + 1] ≠ 39:=fun z=>h' (by rw [List.getElem?_eq_getElem hn',z])
  show (if (39:Nat) = 39 then (if l[n + 1] = 39 then _ else 1) else _) = 1
  rw [if_pos rfl,if_neg this]
 ·rw [List.drop_eq_nil_of_le (by omega)]
  rfl
theorem quote_eq (c:Nat):decide (V.str ⟨#[c]⟩ = V.str ("'":Str)) = decide (c = 39):=one_eq c 39
theorem quote_next (l:List Nat) (n:Nat):decide (V.str ⟨((l.drop n).take 1).toArray⟩ = V.str ("'":Str)) = decide (l[n]? = some 39):=by
 refine decide_eq_decide.mpr ⟨fun h=>?_,fun h=>?_⟩
 ·injection h with h
  injection h with h
  have h2:(l.drop n).take 1 = [39]:=by
   have e:((l.drop n).take 1).toArray.toList = [39]:=congrArg Array.toList h
   rwa [List.toList_toArray] at e
  have h3:=congrArg List.head? h2
  rw [List.head?_take] at h3
  simpa using h3
 ·have hn:n < l.length:=(List.getElem?_eq_some_iff.mp h).1
  have e:l[n] = 39:=(List.getElem?_eq_some_iff.mp h).2
  rw [List.drop_eq_getElem_cons hn,e]
  rfl
def spTextEnd:Sp:=fun vs H Q _=>∃ (z:Str) (p:Nat),vs = [.str z,.int p]∧z.length ≤ 1000000∧p < z.length∧Q (.int ((p + 1 + qEnd (z.cps.toList.drop (p + 1)):Nat):Int)) H
theorem sc_find_text_end:FnScope ["text","start","place"] ["text","start"] (defScope s_find_text_end):=⟨rfl,rfl,rfl,by decide +kernel,rfl,by decide +kernel,by decide +kernel⟩
theorem ok_find_text_end {f:Addr} {fd:FuncData} (F:Fun K "find_text_end" "find_text_end" s_find_text_end f fd) (T:TxW K mg):FnOk P w K mg base CX0 1 f fd ["text","start"] spTextEnd:=by
 obtain ⟨tq,mq⟩:=T.quote
 refine F.ok sc_find_text_end (fun vs H Q E h=>?_) (fun cdv A outer s H vs Q E hr h=>?_)
 ·obtain ⟨z,p,rfl,_⟩:=h
  rfl
 ·obtain ⟨z,p,rfl,hz,hp,q⟩:=h
  refine ⟨_,pss_cons (ps_set (i:=2) sc_find_text_end.nd rfl (Or.inl rfl) (pe_op op_add (pv 1) pe_int))
   (pss_cons (ps_while PassesOwn.never (pt_cmpR op_lt (pv 2) (pe_callB call_len (by rfl) T.len PySem.boot_len (pa_cons (pv 0) pa_nil)) (nomark _))
    (pss_one (ps_if (pt_cmpR op_ne (pe_item_str (pv 0) (pv 2) (fun _ _=>rfl)) (pe_glob (by rfl) mq (v:=.str "'") ⟨_,rfl⟩) (nomark _))
     (pss_one (ps_aug (i:=2) sc_find_text_end.nd rfl (Or.inl rfl) pe_int ip_add))
     (pss_one (ps_if (pt_cmpR op_eq (pe_slice sl_str (pv 0) (po_some (pe_op op_add (pv 2) pe_int)) (po_some (pe_op op_add (pv 2) pe_int))) (pe_glob (by rfl) mq (v:=.str "'") ⟨_,rfl⟩) (nomark _))
      (pss_one (ps_aug (i:=2) sc_find_text_end.nd rfl (Or.inl rfl) pe_int ip_add))
      (pss_one (ps_ret (pe_op op_add (pv 2) pe_int))))))))
   (pss_one (ps_ret (pe_callB call_len (by rfl) T.len PySem.boot_len (pa_cons (pv 0) pa_nil))))),?_⟩
  refine ⟨_,rfl,_,_,rfl,rfl,?_⟩
  refine ⟨fun m σ H'=>∃ n:Nat,m + n = z.length∧n ≤ z.length∧p + 1 + qEnd (z.cps.toList.drop (p + 1)) = n + qEnd (z.cps.toList.drop n)∧σ = [some (V.str z),some (V.int p),some (V.int n)]∧H' = H,⟨z.length - (p + 1),p + 1,by omega,by omega,rfl,rfl,rfl⟩,?_⟩
  rintro m σ H' ⟨n,hmn,hn,hq,rfl,rfl⟩
  refine ⟨_,rfl,_,rfl,_,z.length,rfl,⟨Nat.le_trans hz (by decide),rfl⟩,_,_,rfl,rfl,_,rfl,iteB (fun h=>?_) (fun h=>?_)⟩
  ·have hlt:n < z.length:=by have:=of_decide_eq_true h; omega
   obtain ⟨c,hc,hc'⟩:=str_at hlt
   have next:∀ (k:Nat),1 ≤ k→n + k ≤ z.length→p + 1 + qEnd (z.cps.toList.drop (p + 1)) = n + k + qEnd (z.cps.toList.drop (n + k)) →
     ∀ σ' H2,(σ' = [some (V.str z),some (V.int p),some (V.int ((n + k:Nat):Int))]∧H2 = H')→∃ m',m' < m∧∃ n:Nat,m' + n = z.length∧n ≤ z.length∧p + 1 + qEnd (z.cps.toList.drop (p + 1)) = n + qEnd (z.cps.toList.drop n)∧σ' = [some (V.str z),some (V.int p),some (V.int n)]∧H2 = H' :=
    fun k hk hle e σ' H2 ⟨e1,e2⟩=>⟨z.length - (n + k),by omega,n + k,by omega,hle,e,e1,e2⟩
   by_cases h39:c = 39
   ·subst h39
    by_cases h2:z.cps.toList[n + 1]? = some 39
    ·have hn2:n + 1 < z.length:=by rw [← str_sg]; exact (List.getElem?_eq_some_iff.mp h2).1
     refine ⟨fun σ' H2=>σ' = [some (V.str z),some (V.int p),some (V.int ((n + 2:Nat):Int))]∧H2 = H',next 2 (by omega) (by omega) (by rw [hq,qEnd_two hc h2]; omega),?_⟩
     refine ⟨_,rfl,_,rfl,z,n,39,rfl,rfl,by omega,by omega,by omega,hc',rfl,_,rfl,?_⟩
     rw [quote_eq]
     refine iteF ?_
     refine ⟨_,rfl,_,rfl,_,_,rfl,rfl,_,rfl,_,rfl,_,_,rfl,rfl,_,rfl,z,rfl,Nat.le_trans hz (by decide),rfl,_,rfl,?_⟩
     have e:cutS z (some ((n:Int) + 1)) (some ((n:Int) + 2)) = ⟨((z.cps.toList.drop (n + 1)).take 1).toArray⟩:=by
      have:=cut_two z (n + 1) (n + 2) (by omega) (by omega)
      rw [show n + 2 - (n + 1) = 1 by omega] at this
      exact this
     rw [e,quote_next,decide_eq_true h2]
     exact iteT ⟨_,rfl,_,_,rfl,rfl,rfl,rfl⟩
    ·refine ⟨fun _ _=>False,fun _ _ z=>z.elim,?_⟩
     refine ⟨_,rfl,_,rfl,z,n,39,rfl,rfl,by omega,by omega,by omega,hc',rfl,_,rfl,?_⟩
     rw [quote_eq]
     refine iteF ?_
     refine ⟨_,rfl,_,rfl,_,_,rfl,rfl,_,rfl,_,rfl,_,_,rfl,rfl,_,rfl,z,rfl,Nat.le_trans hz (by decide),rfl,_,rfl,?_⟩
     have e:cutS z (some ((n:Int) + 1)) (some ((n:Int) + 2)) = ⟨((z.cps.toList.drop (n + 1)).take 1).toArray⟩:=by
      have:=cut_two z (n + 1) (n + 2) (by omega) (by omega)
      rw [show n + 2 - (n + 1) = 1 by omega] at this
      exact this
     rw [e,quote_next,decide_eq_false h2]
     refine iteF ⟨_,rfl,_,_,rfl,rfl,?_⟩
     rw [hq,qEnd_one hc h2] at q
     exact q
   ·refine ⟨fun σ' H2=>σ' = [some (V.str z),some (V.int p),some (V.int ((n + 1:Nat):Int))]∧H2 = H',next 1 (by omega) (by omega) (by rw [hq,qEnd_on hc h39]; omega),?_⟩
    refine ⟨_,rfl,_,rfl,z,n,c,rfl,rfl,by omega,by omega,by omega,hc',rfl,_,rfl,?_⟩
    rw [quote_eq,decide_eq_false h39]
    exact iteT ⟨_,rfl,_,_,rfl,rfl,rfl,rfl⟩
  ·have hge:z.length ≤ n:=by have:=of_decide_eq_false h; omega
   have hen:n = z.length:=by omega
   refine ⟨_,rfl,_,z.length,rfl,⟨Nat.le_trans hz (by decide),rfl⟩,?_⟩
   rw [hq,qEnd_end (by rw [str_sg]; exact hge),hen] at q
   exact q
def spEnd:Sp:=fun vs H Q _=>∃ (z:Str) (p:Nat),vs = [.str z,.int p]∧z.length ≤ 1000000∧p < z.length∧Q (.int ((p + wEnd (z.cps.toList.drop p):Nat):Int)) H
theorem in_long (l:List Nat):inV (.str ⟨l.toArray⟩) longV = isLong l:=by
 unfold inV isLong longV
 simp only [List.any_cons,List.any_nil,Bool.or_false]
 have e:∀ d:List Nat,eqV (.str ⟨d.toArray⟩) (.str ⟨l.toArray⟩) = decide (l = d):=fun d=>by
  show ((⟨d.toArray⟩:Str) == ⟨l.toArray⟩) = decide (l = d)
  by_cases h:l = d
  ·rw [h,decide_eq_true rfl]; exact beq_self_eq_true _
  ·rw [decide_eq_false h]
   refine beq_eq_false_iff_ne.mpr fun z=>h ?_
   injection z with z
   simpa using z.symm
 exact congr (congrArg or (e [60,62])) (congr (congrArg or (e [60,61])) (e [62,61]))
theorem sc_find_end:FnScope ["text","start"] ["text","start"] (defScope s_find_end):=⟨rfl,rfl,rfl,by decide +kernel,rfl,by decide +kernel,by decide +kernel⟩
theorem ok_find_end {f:Addr} {fd:FuncData} (F:Fun K "find_end" "find_end" s_find_end f fd) (T:TxW K mg) (GL:FnS P w K mg base 1 "is_letter" ["sign"] (spSg isLet)) (GF:FnS P w K mg base 1 "is_figure" ["sign"] (spSg isFig))
  (GN:FnS P w K mg base 3 "skip_name_signs" ["text","place"] (spWalk (lead isNm))) (GQ:FnS P w K mg base 1 "find_text_end" ["text","start"] spTextEnd):FnOk P w K mg base CX0 4 f fd ["text","start"] spEnd:=by
 obtain ⟨fL,fdL,mL,kL,GL,bL⟩:=GL.ex
 obtain ⟨fF,fdF,mF,kF,GF,bF⟩:=GF.ex
 obtain ⟨fN,fdN,mN,kN,GN,bN⟩:=GN.ex
 obtain ⟨fQ,fdQ,mQ,kQ,GQ,bQ⟩:=GQ.ex
 obtain ⟨tq,mq⟩:=T.quote
 obtain ⟨aL,maL,sL⟩:=T.long
 refine F.ok sc_find_end (fun vs H Q E h=>?_) (fun cdv A outer s H vs Q E hr h=>?_)
 ·obtain ⟨z,p,rfl,_⟩:=h
  rfl
 ·obtain ⟨z,p,rfl,hz,hp,q⟩:=h
  have hr1:Room 1 _:=hr.mono (by decide)
  refine ⟨_,pss_cons (ps_if (pw_or (pt_val (pe_call GL hr1 (by rfl) mL kL bL .nil pass0 (pa_cons (pe_item_str (pv 0) (pv 1) (fun _ _=>rfl)) pa_nil))) (pw_or1 (pt_val (pe_call GF hr1 (by rfl) mF kF bF .nil pass0 (pa_cons (pe_item_str (pv 0) (pv 1) (fun _ _=>rfl)) pa_nil))))).pt
    (pss_one (ps_ret (pe_call GN hr (by rfl) mN kN bN .nil pass0 (pa_cons (pv 0) (pa_cons (pv 1) pa_nil))))) pss_nil)
   (pss_cons (ps_if (pt_cmpR op_eq (pe_item_str (pv 0) (pv 1) (fun _ _=>rfl)) (pe_glob (by rfl) mq (v:=.str "'") ⟨_,rfl⟩) (nomark _))
    (pss_one (ps_ret (pe_call GQ hr1 (by rfl) mQ kQ bQ .nil pass0 (pa_cons (pv 0) (pa_cons (pv 1) pa_nil))))) pss_nil)
   (pss_cons (ps_if (pt_cmpR op_in_seq (pe_slice sl_str (pv 0) (po_some (pv 1)) (po_some (pe_op op_add (pv 1) pe_int))) (pe_glob (by rfl) maL (v:=.ref aL) rfl) (by rfl))
    (pss_one (ps_ret (pe_op op_add (pv 1) pe_int))) pss_nil)
   (pss_one (ps_ret (pe_op op_add (pv 1) pe_int))))),?_⟩
  obtain ⟨c,hc,hc'⟩:=str_at hp
  have hd:z.cps.toList.drop p = c :: z.cps.toList.drop (p + 1):=by
   rw [List.drop_eq_getElem_cons (by rw [str_sg]; exact hp)]
   rw [(List.getElem?_eq_some_iff.mp hc).2]
  have ew:wEnd (z.cps.toList.drop p) = if (isLet c || isFig c) = true then lead isNm (z.cps.toList.drop p) else if c = 39 then qEnd (z.cps.toList.drop (p + 1)) + 1 else if isLong ((z.cps.toList.drop p).take 2) = true then 2 else 1:=by
   rw [hd]; rfl
  rw [ew] at q
  refine ⟨_,rfl,_,rfl,z,p,c,rfl,rfl,by omega,by omega,by omega,hc',c,rfl,_,rfl,?_⟩
  have yes:(isLet c || isFig c) = true→Q (.int ((p + lead isNm (z.cps.toList.drop p):Nat):Int)) H:=fun h=>by
   rw [if_pos h] at q; exact q
  refine iteB (fun h1=>iteT ⟨_,rfl,_,rfl,z,p,rfl,hz,by omega,yes (by rw [h1]; rfl)⟩) (fun h1=>⟨_,rfl,_,rfl,z,p,c,rfl,rfl,by omega,by omega,by omega,hc',c,rfl,_,rfl,iteB (fun h2=>⟨_,rfl,_,rfl,z,p,rfl,hz,by omega,yes (by rw [h2,Bool.or_true])⟩) (fun h2=>?_)⟩)
  have no:¬ (isLet c || isFig c) = true:=by rw [h1,h2]; decide
  rw [if_neg no] at q
  refine ⟨_,rfl,_,rfl,z,p,c,rfl,rfl,by omega,by omega,by omega,hc',rfl,_,rfl,?_⟩
  rw [quote_eq]
  refine ite2 (fun h3=>?_) (fun h3=>?_)
  ·have h39:c = 39:=of_decide_eq_true h3
   rw [if_pos h39] at q
   refine ⟨_,rfl,_,rfl,z,p,rfl,hz,hp,?_⟩
   rw [show p + (qEnd (z.cps.toList.drop (p + 1)) + 1) = p + 1 + qEnd (z.cps.toList.drop (p + 1)) by omega] at q
   exact q
  ·have h39:¬ c = 39:=fun z=>h3 (decide_eq_true z)
   rw [if_neg h39] at q
   refine ⟨_,rfl,_,rfl,_,rfl,_,rfl,_,_,rfl,rfl,_,rfl,z,rfl,Nat.le_trans hz (by decide),aL,_,rfl,.inr (sL _),rfl,rfl,_,rfl,?_⟩
   have e:cutS z (some (p:Int)) (some ((p:Int) + 2)) = ⟨((z.cps.toList.drop p).take 2).toArray⟩:=by
    have:=cut_two z p (p + 2) (by omega) (by omega)
    rw [show p + 2 - p = 2 by omega] at this
    exact this
   show if (inV (.str (cutS z (some (p:Int)) (some ((p:Int) + 2)))) longV) = true then _ else _
   rw [e,in_long]
   refine iteB (fun h4=>?_) (fun h4=>?_)
   ·rw [if_pos h4] at q
    exact ⟨_,rfl,_,_,rfl,rfl,q⟩
   ·rw [if_neg (by rw [h4]; decide)] at q
    exact ⟨_,rfl,_,_,rfl,rfl,q⟩
end
end KL
namespace L2
open PySem PySem.Spec PyProof.Rows
section
variable {X:Cx}
def rRepl0:V→List V→Hp→VK→Prop:=fun x vs H Q=>∃ z y u,x = .str z∧vs = [.str y,.str u]∧(Builtin.Str.occurrences z y 0 z.length (z.length + 1)).isEmpty = true∧Q (.str z) H
theorem mt_replace0:MtM X "str.replace" rRepl0:=by
 intro pins s σ H x vs v us Q I rx rv h
 obtain ⟨z,y,u,rfl,rfl,h0,q⟩:=h
 obtain ⟨t,rfl⟩:=rx
 obtain ⟨a,b,rfl,⟨t1,rfl⟩,t2,rfl⟩:=vals2 rv
 refine call_gives F.slot_str_replace (typeIs_str s z t) F.entry_str_replace (F.args_str_replace_3 _ _ _) (gives_str_replace z y u t t1 t2 fun h=>absurd h (by rw [h0]; simp)) ?_
 rw [if_pos (by rw [h0]; rfl)]
 exact ⟨.str z,H,I,⟨_,rfl⟩,q⟩
end
end L2
namespace KL
open PySem L2
def numOf (z:Str):Int:=(PySem.intText? z).getD 0
def okNum (z:Str):Bool:=decide (z.length ≤ 30) && z.cps.toList.all isFig
def numW (z:Str):Str × V:=if okNum z = true then ("number",.int (numOf z)) else ("wrong",.str z)
def nQ (z:Str):Nat:=(Builtin.Str.occurrences z "'" 0 z.length (z.length + 1)).length
def mid (z:Str):Str:=cutS z (some 1) (some (-1))
def plainQ (z:Str):Prop:=(Builtin.Str.occurrences (mid z) "''" 0 (mid z).length ((mid z).length + 1)).isEmpty = true
def textW (z:Str):Str × V:=if nQ z % 2 = 1 then ("wrong",.str z) else ("text",.str (mid z))
def keptB (z:Str):Bool:=inV (.str z) keptV
def signB (z:Str):Bool:=inV (.str z) longV || inV (.str z) shortV
def wordOf (z:Str):Str × V:=match z.cps.toList with
 | []=>("wrong",.str z)
 | c :: _=>if isLet c = true then (if keptB z = true then ("kept",.str z) else ("name",.str z)) else if isFig c = true then numW z else if c = 39 then textW z else if signB z = true then ("sign",.str z) else ("wrong",.str z)
section
variable {P:Program} {w:World} {K:PySem.W.Frag} {mg:Str→Option Value} {base:Heap}
def spMk (g:Str→Str × V) (pre:Str→Prop):Sp:=fun vs H Q _=>∃ z:Str,vs = [.str z]∧0 < z.length∧z.length ≤ 1000000∧pre z∧∀ (t:Addr) (H':Hp),H t = none→Same H H'→H' t = some (.tup [.str (g z).1,(g z).2])→Q (.ref t) H'
theorem allDigits_of {z:Str} (h:z.cps.toList.all isFig = true):NumText.AllDigits z.cps.toList:=fun c hc=>by
 have:=List.all_eq_true.mp h c hc
 unfold isFig at this
 simp only [Bool.and_eq_true,decide_eq_true_eq] at this
 omega
theorem len_cons {z:Str} (h:0 < z.length):∃ c r,z.cps.toList = c :: r:=by
 cases e:z.cps.toList with
 | nil=>have:=str_sg z; rw [e] at this; simp at this; omega
 | cons c r=>exact ⟨c,r,rfl⟩
theorem sc_make_number:FnScope ["written"] ["written"] (defScope s_make_number):=⟨rfl,rfl,rfl,by decide +kernel,rfl,by decide +kernel,by decide +kernel⟩
theorem ok_make_number {f:Addr} {fd:FuncData} (F:Fun K "make_number" "make_number" s_make_number f fd) (T:TxW K mg) (GF:FnS P w K mg base 1 "is_figure" ["sign"] (spSg isFig)):FnOk P w K mg base CX0 2 f fd ["written"] (spMk numW fun _=>True):=by
 obtain ⟨fF,fdF,mF,kF,GF,bF⟩:=GF.ex
 obtain ⟨tw,mw⟩:=T.wrong
 obtain ⟨tn,mn⟩:=T.number
 obtain ⟨tm,mm⟩:=T.most
 refine F.ok sc_make_number (fun vs H Q E h=>?_) (fun cdv A outer s H vs Q E hr h=>?_)
 ·obtain ⟨z,rfl,_⟩:=h
  rfl
 ·obtain ⟨z,rfl,h0,hz,_,q⟩:=h
  refine ⟨_,pss_cons (ps_if (pw_or (pt_cmpR op_gt (pe_callB call_len (by rfl) T.len PySem.boot_len (pa_cons (pv 0) pa_nil)) (pe_glob (by rfl) mm (v:=.int 30) ⟨_,rfl⟩) (nomark _))
    (pw_or1 (pt_not (pt_val (pe_callB (call_allB rfl) (by rfl) T.all PyProof.Rows.Boot.«all» (pa_cons (pe_comp (x := "sign") (fv:=[]) (js:=[]) (cl:=[]) rfl
     ⟨by with_unfolding_all rfl,rfl,by decide +kernel,by decide +kernel,rfl,by decide +kernel,trivial,by exact ⟨fun z=>(by rcases z with z | z <;> cases z),fun z=>(by rcases z with z | z <;> cases z),fun z=>(by rcases z with z | z <;> cases z),trivial⟩,trivial,fun _=>rfl⟩
     (pi_str (pv 0)) (fun pins fp s H=>pe_call GF hr (by rfl) mF kF bF .nil pass0 (pa_cons (pv 0) pa_nil))) pa_nil)))))).pt
    (pss_one (ps_ret (pe_tup (pa_cons (pe_glob (by rfl) mw (v:=.str "wrong") ⟨_,rfl⟩) (pa_cons (pv 0) pa_nil))))) pss_nil)
   (pss_one (ps_ret (pe_tup (pa_cons (pe_glob (by rfl) mn (v:=.str "number") ⟨_,rfl⟩) (pa_cons (pe_callTy call_int_text (by rfl) T.int PyProof.Rows.boot_int (pa_cons (pv 0) pa_nil)) pa_nil))))),?_⟩
  refine ⟨_,rfl,_,z.length,rfl,⟨Nat.le_trans hz (by decide),rfl⟩,_,_,rfl,rfl,_,rfl,iteB (fun h=>?_) (fun h=>?_)⟩
  ·have hgt:30 < z.length:=by have:=of_decide_eq_true h; omega
   have e:numW z = (("wrong":Str),V.str z):=by
    unfold numW okNum
    rw [decide_eq_false (by omega)]
    rfl
   rw [e] at q
   exact iteT ⟨_,rfl,by show 2 ≤ sizeLine; decide,fun t ht=>q t _ ht (same_upd ht) upd_same⟩
  ·have hle:z.length ≤ 30:=by have:=of_decide_eq_false h; omega
   refine ⟨_,rfl,z,rfl,fun D hD=>?_⟩
   refine comp_str_pure (fun c=>.bl (isFig c)) (Nat.le_trans hz (by decide)) hD (fun i c Hc k hc sm q=>⟨_,rfl,c,rfl,q⟩) ?_
   refine ⟨D,z.cps.toList.map isFig,rfl,SqL.of (by rw [upd_same,List.map_map]; rfl),?_⟩
   have ea:(z.cps.toList.map isFig).all id = z.cps.toList.all isFig:=by rw [List.all_map]; rfl
   rw [ea]
   refine ⟨_,rfl,?_⟩
   cases ha:z.cps.toList.all isFig with
   | false =>
    have e:numW z = (("wrong":Str),V.str z):=by
     unfold numW okNum
     rw [ha,Bool.and_false]
     rfl
    rw [e] at q
    exact iteT ⟨_,rfl,by show 2 ≤ sizeLine; decide,fun t ht=>q t _ ((same_upd hD).free ht) ((same_upd hD).trans (same_upd ht)) upd_same⟩
   | true =>
    have e:numW z = (("number":Str),V.int (numOf z)):=by
     unfold numW okNum
     rw [ha,decide_eq_true hle]
     rfl
    rw [e] at q
    obtain ⟨c,r,hcr⟩:=len_cons h0
    have hi:=intText_digits (allDigits_of ha) (by rw [hcr]; simp) (Nat.le_trans hle (by decide))
    have hn:PySem.intText? z = some (numOf z):=by
     unfold numOf
     rw [hi]; rfl
    exact iteF ⟨_,rfl,z,_,rfl,hn,Nat.le_trans hle (by decide),by show 2 ≤ sizeLine; decide,fun t ht=>q t _ ((same_upd hD).free ht) ((same_upd hD).trans (same_upd ht)) upd_same⟩
theorem sc_make_text:FnScope ["written"] ["written"] (defScope s_make_text):=⟨rfl,rfl,rfl,by decide +kernel,rfl,by decide +kernel,by decide +kernel⟩
theorem ok_make_text {f:Addr} {fd:FuncData} (F:Fun K "make_text" "make_text" s_make_text f fd) (T:TxW K mg):FnOk P w K mg base CX0 1 f fd ["written"] (spMk textW plainQ):=by
 obtain ⟨tw,mw⟩:=T.wrong
 obtain ⟨tt,mt⟩:=T.text
 obtain ⟨tq,mq⟩:=T.quote
 refine F.ok sc_make_text (fun vs H Q E h=>?_) (fun cdv A outer s H vs Q E hr h=>?_)
 ·obtain ⟨z,rfl,_⟩:=h
  rfl
 ·obtain ⟨z,rfl,h0,hz,hp,q⟩:=h
  refine ⟨_,pss_cons (ps_if (pt_cmpR op_eq (pe_op op_mod (pe_bm PySem.F.plainAttrs_str PySem.F.slot_str_count PySem.F.type_str_count mt_count (pv 0) (pa_cons (pe_glob (by rfl) mq (v:=.str "'") ⟨_,rfl⟩) pa_nil)) pe_int) pe_int (nomark _))
    (pss_one (ps_ret (pe_tup (pa_cons (pe_glob (by rfl) mw (v:=.str "wrong") ⟨_,rfl⟩) (pa_cons (pv 0) pa_nil))))) pss_nil)
   (pss_one (ps_ret (pe_tup (pa_cons (pe_glob (by rfl) mt (v:=.str "text") ⟨_,rfl⟩)
    (pa_cons (pe_bm PySem.F.plainAttrs_str PySem.F.slot_str_replace PySem.F.type_str_replace mt_replace0 (pe_slice sl_str (pv 0) (po_some pe_int) (po_some (pe_un un_neg pe_int))) (pa_cons pe_str (pa_cons (pe_glob (by rfl) mq (v:=.str "'") ⟨_,rfl⟩) pa_nil))) pa_nil))))),?_⟩
  refine ⟨_,rfl,rfl,z,_,rfl,rfl,_,_,rfl,rfl,by show (0:Int) < 2; decide,rfl,_,rfl,?_⟩
  refine ite2 (fun h=>?_) (fun h=>?_)
  ·have e:((nQ z:Nat):Int) % 2 = 1:=V.int.inj (of_decide_eq_true h)
   have e2:textW z = (("wrong":Str),V.str z):=by unfold textW; rw [if_pos (by omega)]
   rw [e2] at q
   exact ⟨_,rfl,by show 2 ≤ sizeLine; decide,fun t ht=>q t _ ht (same_upd ht) upd_same⟩
  ·have e:¬ ((nQ z:Nat):Int) % 2 = 1:=fun z=>h (decide_eq_true (congrArg V.int z))
   have e2:textW z = (("text":Str),V.str (mid z)):=by unfold textW; rw [if_neg (by omega)]
   rw [e2] at q
   refine ⟨_,rfl,_,rfl,_,rfl,_,rfl,z,rfl,Nat.le_trans hz (by decide),rfl,mid z,_,_,rfl,rfl,hp,by show 2 ≤ sizeLine; decide,fun t ht=>q t _ ht (same_upd ht) upd_same⟩
end
def preW (z:Str):Prop:=z.cps.toList.head? = some 39→plainQ z
def pieces:Nat→List Nat→List (List Nat)
 | 0,_=>[]
 | k + 1,cs=>match cs.drop (lead isBl cs) with
  | []=>[]
  | c :: r=>(c :: r).take (wEnd (c :: r)) :: pieces k ((c :: r).drop (wEnd (c :: r)))
abbrev mkS (l:List Nat):Str:=⟨l.toArray⟩
def wordsOf (z:Str):List (Str × V):=(pieces z.length z.cps.toList).map fun l=>wordOf (mkS l)
theorem lead_drop (p:Nat→Bool):∀ l:List Nat,lead p (l.drop (lead p l)) = 0
 | []=>rfl
 | c :: r=>by
  by_cases h:p c = true
  ·have e:lead p (c :: r) = lead p r + 1:=by
    show (if p c = true then lead p r + 1 else 0) = _
    rw [if_pos h]
   rw [e,List.drop_succ_cons]
   exact lead_drop p r
  ·have e:lead p (c :: r) = 0:=by
    show (if p c = true then lead p r + 1 else 0) = _
    rw [if_neg h]
   rw [e,List.drop_zero,e]
theorem pieces_skip (k:Nat) (l:List Nat):pieces k (l.drop (lead isBl l)) = pieces k l:=by
 cases k with
 | zero=>rfl
 | succ k =>
  unfold pieces
  rw [lead_drop,List.drop_zero]
theorem pieces_on (k:Nat) (c:Nat) (r:List Nat) (h:lead isBl (c :: r) = 0):pieces (k + 1) (c :: r) = (c :: r).take (wEnd (c :: r)) :: pieces k ((c :: r).drop (wEnd (c :: r))):=by
 have e:(c :: r).drop (lead isBl (c :: r)) = c :: r:=by rw [h]; rfl
 show (match (c :: r).drop (lead isBl (c :: r)) with
  | []=>[]
  | c :: r=>(c :: r).take (wEnd (c :: r)) :: pieces k ((c :: r).drop (wEnd (c :: r)))) = _
 rw [e]
theorem pieces_nil (k:Nat):pieces k [] = []:=by
 cases k <;> rfl
def WAt (H:Hp) (kv:Str × V) (r:V):Prop:=∃ t,r = .ref t∧H t = some (.tup [.str kv.1,kv.2])
abbrev WsAt (H:Hp) (ws:List (Str × V)) (rs:List V):Prop:=Paired (WAt H) ws rs
theorem WAt.same {H H':Hp} (s:Same H H') {kv:Str × V} {r:V} (h:WAt H kv r):WAt H' kv r:=by
 obtain ⟨t,e,q⟩:=h
 exact ⟨t,e,s _ _ q⟩
theorem pairedSnoc {α β:Type} {R:α→β→Prop}:∀ {a:List α} {b:List β} {x:α} {y:β},Paired R a b→R x y→Paired R (a ++ [x]) (b ++ [y])
 | [],[],_,_,.nil,h=>.cons h .nil
 | _ :: _,_ :: _,_,_,.cons x r,h=>.cons x (pairedSnoc r h)
section
variable {P:Program} {w:World} {K:PySem.W.Frag} {mg:Str→Option Value} {base:Heap}
theorem flat_kept:keptV.all flatV = true:=by rfl
theorem sc_make_word:FnScope ["written","first"] ["written"] (defScope s_make_word):=⟨rfl,rfl,rfl,by decide +kernel,rfl,by decide +kernel,by decide +kernel⟩
theorem ok_make_word {f:Addr} {fd:FuncData} (F:Fun K "make_word" "make_word" s_make_word f fd) (T:TxW K mg) (GL:FnS P w K mg base 1 "is_letter" ["sign"] (spSg isLet)) (GF:FnS P w K mg base 1 "is_figure" ["sign"] (spSg isFig))
  (GN:FnS P w K mg base 2 "make_number" ["written"] (spMk numW fun _=>True)) (GQ:FnS P w K mg base 1 "make_text" ["written"] (spMk textW plainQ)):FnOk P w K mg base CX0 3 f fd ["written"] (spMk wordOf preW):=by
 obtain ⟨fL,fdL,mL,kL,GL,bL⟩:=GL.ex
 obtain ⟨fF,fdF,mF,kF,GF,bF⟩:=GF.ex
 obtain ⟨fN,fdN,mN,kN,GN,bN⟩:=GN.ex
 obtain ⟨fQ,fdQ,mQ,kQ,GQ,bQ⟩:=GQ.ex
 obtain ⟨tq,mq⟩:=T.quote
 obtain ⟨tw,mw⟩:=T.wrong
 obtain ⟨tn,mn⟩:=T.name
 obtain ⟨tk,mk⟩:=T.kept
 obtain ⟨ts,ms⟩:=T.sign
 obtain ⟨aK,maK,sK⟩:=T.words
 obtain ⟨aL,maL,sL⟩:=T.long
 obtain ⟨aS,maS,sS⟩:=T.short
 refine F.ok sc_make_word (fun vs H Q E h=>?_) (fun cdv A outer s H vs Q E hr h=>?_)
 ·obtain ⟨z,rfl,_⟩:=h
  rfl
 ·obtain ⟨z,rfl,h0,hz,hp,q⟩:=h
  have hr1:Room 1 _:=hr.mono (by decide)
  refine ⟨_,pss_cons (ps_set (i:=1) sc_make_word.nd rfl (Or.inl rfl) (pe_item_str (pv 0) pe_int (fun _ _=>rfl)))
   (pss_cons (ps_if (pt_val (pe_call GL hr1 (by rfl) mL kL bL .nil pass0 (pa_cons (pv 1) pa_nil)))
    (pss_one (ps_ret (pe_tup (pa_cons (pe_ifExp (pt_cmpR op_in_seq (pv 0) (pe_glob (by rfl) maK (v:=.ref aK) rfl) (by rfl)) (pe_glob (by rfl) mk (v:=.str "kept") ⟨_,rfl⟩) (pe_glob (by rfl) mn (v:=.str "name") ⟨_,rfl⟩)) (pa_cons (pv 0) pa_nil))))) pss_nil)
   (pss_cons (ps_if (pt_val (pe_call GF hr1 (by rfl) mF kF bF .nil pass0 (pa_cons (pv 1) pa_nil)))
    (pss_one (ps_ret (pe_call GN hr (by rfl) mN kN bN .nil pass0 (pa_cons (pv 0) pa_nil)))) pss_nil)
   (pss_cons (ps_if (pt_cmpR op_eq (pv 1) (pe_glob (by rfl) mq (v:=.str "'") ⟨_,rfl⟩) (nomark _))
    (pss_one (ps_ret (pe_call GQ hr1 (by rfl) mQ kQ bQ .nil pass0 (pa_cons (pv 0) pa_nil)))) pss_nil)
   (pss_cons (ps_if (pw_or (pt_cmpR op_in_seq (pv 0) (pe_glob (by rfl) maL (v:=.ref aL) rfl) (by rfl)) (pw_or1 (pt_cmpR op_in_seq (pv 0) (pe_glob (by rfl) maS (v:=.ref aS) rfl) (by rfl)))).pt
    (pss_one (ps_ret (pe_tup (pa_cons (pe_glob (by rfl) ms (v:=.str "sign") ⟨_,rfl⟩) (pa_cons (pv 0) pa_nil))))) pss_nil)
   (pss_one (ps_ret (pe_tup (pa_cons (pe_glob (by rfl) mw (v:=.str "wrong") ⟨_,rfl⟩) (pa_cons (pv 0) pa_nil))))))))),?_⟩
  obtain ⟨c,hc,hc'⟩:=str_at h0
  obtain ⟨c2,r,hcr⟩:=len_cons h0
  have ec:c2 = c:=by rw [hcr] at hc; simpa using hc
  subst ec
  have two:2 ≤ sizeLine:=by decide
  have ew:wordOf z = if isLet c2 = true then (if keptB z = true then (("kept":Str),V.str z) else (("name":Str),V.str z)) else if isFig c2 = true then numW z else if c2 = 39 then textW z else if signB z = true then (("sign":Str),V.str z) else (("wrong":Str),V.str z):=by
   unfold wordOf
   rw [hcr]
  have q':=q
  rw [ew] at q'
  refine ⟨_,rfl,z,0,c2,rfl,rfl,by omega,by omega,by omega,hc',?_⟩
  refine ⟨_,rfl,c2,rfl,_,rfl,iteB (fun h1=>?_) (fun h1=>?_)⟩
  ·rw [if_pos h1] at q'
   refine ⟨_,rfl,aK,_,rfl,.inr (sK _),rfl,flat_kept,_,rfl,?_⟩
   show if keptB z = true then _ else _
   refine iteB (fun h2=>?_) (fun h2=>?_)
   ·rw [if_pos h2] at q'
    exact ⟨_,rfl,two,fun t ht=>q' t _ ht (same_upd ht) upd_same⟩
   ·rw [if_neg (by rw [h2]; decide)] at q'
    exact ⟨_,rfl,two,fun t ht=>q' t _ ht (same_upd ht) upd_same⟩
  ·rw [if_neg (by rw [h1]; decide)] at q'
   refine ⟨_,rfl,c2,rfl,_,rfl,iteB (fun h2=>?_) (fun h2=>?_)⟩
   ·rw [if_pos h2] at q'
    exact ⟨_,rfl,z,rfl,h0,hz,trivial,q'⟩
   ·rw [if_neg (by rw [h2]; decide)] at q'
    refine ⟨_,rfl,rfl,_,rfl,?_⟩
    rw [quote_eq]
    refine ite2 (fun h3=>?_) (fun h3=>?_)
    ·have e3:c2 = 39:=of_decide_eq_true h3
     rw [if_pos e3] at q'
     exact ⟨_,rfl,z,rfl,h0,hz,hp (by rw [hcr,e3]; rfl),q'⟩
    ·have e3:¬ c2 = 39:=fun z=>h3 (decide_eq_true z)
     rw [if_neg e3] at q'
     refine ⟨_,rfl,aL,_,rfl,.inr (sL _),rfl,rfl,_,rfl,iteB (fun h4=>?_) (fun h4=>?_)⟩
     ·have e4:signB z = true:=by
       unfold signB
       rw [show inV (.str z) longV = true from h4]; rfl
      rw [if_pos e4] at q'
      exact iteT ⟨_,rfl,two,fun t ht=>q' t _ ht (same_upd ht) upd_same⟩
     ·refine ⟨_,rfl,aS,_,rfl,.inr (sS _),rfl,rfl,_,rfl,iteB (fun h5=>?_) (fun h5=>?_)⟩
      ·have e4:signB z = true:=by
        unfold signB
        rw [show inV (.str z) shortV = true from h5,Bool.or_true]
       rw [if_pos e4] at q'
       exact ⟨_,rfl,two,fun t ht=>q' t _ ht (same_upd ht) upd_same⟩
      ·have e4:signB z = false:=by
        unfold signB
        rw [show inV (.str z) shortV = false from h5,show inV (.str z) longV = false from h4]; rfl
       rw [if_neg (by rw [e4]; decide)] at q'
       exact ⟨_,rfl,two,fun t ht=>q' t _ ht (same_upd ht) upd_same⟩
def spSplit:Sp:=fun vs H Q _=>∃ z:Str,vs = [.str z]∧z.length ≤ 1000000∧(∀ l ∈ pieces z.length z.cps.toList,preW (mkS l)) ∧
 ∀ (l:Addr) (rs:List V) (H':Hp),H l = none→Same H H'→H' l = some (.lst rs)→WsAt H' (wordsOf z) rs→Q (.ref l) H'
theorem sc_split_words:FnScope ["text","words","place","behind"] ["text"] (defScope s_split_words):=⟨rfl,rfl,rfl,by decide +kernel,rfl,by decide +kernel,by decide +kernel⟩
theorem ok_split_words {f:Addr} {fd:FuncData} (F:Fun K "split_words" "split_words" s_split_words f fd) (T:TxW K mg) (GB:FnS P w K mg base 1 "skip_blanks" ["text","place"] (spWalk (lead isBl)))
  (GE:FnS P w K mg base 4 "find_end" ["text","start"] spEnd) (GW:FnS P w K mg base 3 "make_word" ["written"] (spMk wordOf preW)):FnOk P w K mg base CX0 5 f fd ["text"] spSplit:=by
 obtain ⟨fB,fdB,mB,kB,GB,bB⟩:=GB.ex
 obtain ⟨fE,fdE,mE,kE,GE,bE⟩:=GE.ex
 obtain ⟨fW,fdW,mW,kW,GW,bW⟩:=GW.ex
 refine F.ok sc_split_words (fun vs H Q E h=>?_) (fun cdv A outer s H vs Q E hr h=>?_)
 ·obtain ⟨z,rfl,_⟩:=h
  rfl
 ·obtain ⟨z,rfl,hz,hp,q⟩:=h
  have hr1:Room 1 _:=hr.mono (by decide)
  have hr3:Room 3 _:=hr.mono (by decide)
  refine ⟨_,pss_cons (ps_set (i:=1) sc_split_words.nd rfl (Or.inl rfl) (pe_lst pa_nil))
   (pss_cons (ps_set (i:=2) sc_split_words.nd rfl (Or.inl rfl) (pe_call GB hr1 (by rfl) mB kB bB .nil pass0 (pa_cons (pv 0) (pa_cons pe_int pa_nil))))
   (pss_cons (ps_while PassesOwn.never (pt_cmpR op_lt (pv 2) (pe_callB call_len (by rfl) T.len PySem.boot_len (pa_cons (pv 0) pa_nil)) (nomark _))
    (pss_cons (ps_set (i:=3) sc_split_words.nd rfl (Or.inl rfl) (pe_call GE hr (by rfl) mE kE bE .nil pass0 (pa_cons (pv 0) (pa_cons (pv 2) pa_nil))))
    (pss_cons (ps_expr (pe_bm PySem.F.plainAttrs_list PySem.F.slot_list_append PySem.F.type_list_append mt_append (pv 1) (pa_cons (pe_call GW hr3 (by rfl) mW kW bW .nil pass0 (pa_cons (pe_slice sl_str (pv 0) (po_some (pv 2)) (po_some (pv 3))) pa_nil)) pa_nil)))
    (pss_one (ps_set (i:=2) sc_split_words.nd rfl (Or.inl rfl) (pe_call GB hr1 (by rfl) mB kB bB .nil pass0 (pa_cons (pv 0) (pa_cons (pv 3) pa_nil))))))))
   (pss_one (ps_ret (pv 1))))),?_⟩
  refine ⟨by show 0 ≤ sizeLine; decide,fun l hl=>?_⟩
  refine ⟨_,rfl,z,0,rfl,hz,Nat.zero_le _,?_⟩
  have lenz:=str_sg z
  refine ⟨fun m σ H'=>∃ (n k:Nat) (dn:List (List Nat)) (rs:List V) (o:Option V),m + n = z.length∧n ≤ z.length∧z.length ≤ n + k∧lead isBl (z.cps.toList.drop n) = 0∧pieces z.length z.cps.toList = dn ++ pieces k (z.cps.toList.drop n)∧rs.length ≤ n ∧
   H' l = some (.lst rs)∧WsAt H' (dn.map fun l=>wordOf (mkS l)) rs∧Same H H'∧σ = [some (.str z),some (.ref l),some (.int n),o],?_,?_⟩
  ·refine ⟨z.length - lead isBl z.cps.toList,lead isBl z.cps.toList,z.length,[],[],none,?_,?_,?_,lead_drop _ _,?_,Nat.zero_le _,upd_same,.nil,same_upd hl,?_⟩
   ·have:=lead_le isBl z.cps.toList; omega
   ·have:=lead_le isBl z.cps.toList; omega
   ·omega
   ·rw [pieces_skip]; rfl
   ·simp
    rfl
  ·rintro m σ H1 ⟨n,k,dn,rs,o,hmn,hn,hk,hb,hpc,hrs,h1,ws,s1,rfl⟩
   refine ⟨_,rfl,_,rfl,_,z.length,rfl,⟨Nat.le_trans hz (by decide),rfl⟩,_,_,rfl,rfl,_,rfl,iteB (fun h=>?_) (fun h=>?_)⟩
   ·have hlt:n < z.length:=by have:=of_decide_eq_true h; omega
    obtain ⟨c,hc,hc'⟩:=str_at hlt
    have hd:z.cps.toList.drop n = c :: z.cps.toList.drop (n + 1):=by
     rw [List.drop_eq_getElem_cons (by rw [str_sg]; exact hlt)]
     rw [(List.getElem?_eq_some_iff.mp hc).2]
    obtain ⟨k',rfl⟩:∃ k',k = k' + 1:=⟨k - 1,by omega⟩
    have e1:=wEnd_pos c (z.cps.toList.drop (n + 1))
    have e2:=wEnd_le (z.cps.toList.drop n)
    rw [List.length_drop] at e2
    rw [← hd] at e1
    have hon:pieces (k' + 1) (z.cps.toList.drop n) = (z.cps.toList.drop n).take (wEnd (z.cps.toList.drop n)) :: pieces k' ((z.cps.toList.drop n).drop (wEnd (z.cps.toList.drop n))):=by
     rw [hd]
     exact pieces_on k' _ _ (by rw [← hd]; exact hb)
    generalize hwe:wEnd (z.cps.toList.drop n) = we at *
    rw [List.drop_drop] at hon
    have hcut:cutS z (some (n:Int)) (some (((n + we:Nat):Nat):Int)) = mkS ((z.cps.toList.drop n).take we):=by
     have:=cut_two z n (n + we) hn (by omega)
     rw [show n + we - n = we by omega] at this
     exact this
    have hlen:(mkS ((z.cps.toList.drop n).take we)).length = we:=by
     show (((z.cps.toList.drop n).take we).toArray).size = we
     rw [List.size_toArray,List.length_take,List.length_drop]
     omega
    refine ⟨fun σ' H'=>∃ (t:Addr),Same H H'∧H' l = some (.lst (rs ++ [.ref t]))∧WsAt H' ((dn ++ [(z.cps.toList.drop n).take we]).map fun l=>wordOf (mkS l)) (rs ++ [.ref t]) ∧
     σ' = [some (.str z),some (.ref l),some (.int ((n + we + lead isBl (z.cps.toList.drop (n + we)):Nat):Int)),some (.int ((n + we:Nat):Int))],?_,?_⟩
    ·rintro σ' H' ⟨t,s',hl',ws',rfl⟩
     have e3:=lead_le isBl (z.cps.toList.drop (n + we))
     have hdd:z.cps.toList.drop (n + we + lead isBl (z.cps.toList.drop (n + we))) = (z.cps.toList.drop (n + we)).drop (lead isBl (z.cps.toList.drop (n + we))):=by rw [List.drop_drop]
     rw [List.length_drop] at e3
     refine ⟨z.length - (n + we + lead isBl (z.cps.toList.drop (n + we))),by omega,n + we + lead isBl (z.cps.toList.drop (n + we)),k',dn ++ [(z.cps.toList.drop n).take we],rs ++ [.ref t],some (.int ((n + we:Nat):Int)),by omega,by omega,by omega,?_,?_,?_,hl',ws',s',rfl⟩
     ·rw [hdd]; exact lead_drop _ _
     ·rw [hpc,hon,hdd,pieces_skip,List.append_assoc]; rfl
     ·rw [List.length_append]; show rs.length + 1 ≤ _; omega
    ·refine ⟨_,rfl,_,rfl,z,n,rfl,hz,hlt,?_⟩
     rw [hwe]
     refine ⟨_,rfl,.inl ⟨rfl,_,SqL.of h1⟩,_,rfl,_,rfl,_,rfl,_,rfl,_,rfl,z,rfl,Nat.le_trans hz (by decide),?_⟩
     refine ⟨_,rfl,by rw [hcut,hlen]; omega,by rw [hcut,hlen]; omega,by rw [hcut]; exact hp _ (by rw [hpc,hon]; simp),fun t H2 ht s2 h2=>?_⟩
     rw [hcut] at h2
     have htl:t ≠ l:=fun z=>by rw [z,h1] at ht; cases ht
     refine ⟨l,rs,_,rfl,rfl,s2 _ _ h1,Nat.lt_of_le_of_lt (Nat.le_trans hrs (Nat.le_trans hn hz)) (by decide),?_⟩
     have s3:Same H (upd H2 l (.lst (rs ++ [.ref t]))):=fun b u e=>by
      rw [upd_ne (ne_of_none e hl)]
      exact s2 _ _ (s1 _ _ e)
     refine ⟨_,rfl,_,rfl,z,n + we,rfl,hz,by omega,t,s3,upd_same,?_,rfl⟩
     rw [List.map_append]
     refine pairedSnoc (L2.Paired.imp' (fun kv r z=>?_) ws) ⟨t,rfl,by rw [upd_ne htl]; exact h2⟩
     obtain ⟨t',e,q⟩:=z
     exact ⟨t',e,by rw [upd_ne (ne_of q h1 (by intro z; cases z))]; exact s2 _ _ q⟩
   ·have hge:z.length ≤ n:=by have:=of_decide_eq_false h; omega
    refine ⟨_,rfl,q l rs H1 hl s1 h1 ?_⟩
    unfold wordsOf
    rw [hpc,List.drop_eq_nil_of_le (by rw [lenz]; exact hge),pieces_nil,List.append_nil]
    exact ws
end
end KL
namespace L2
open PySem PySem.Spec PyProof.Rows
section
variable {X:Cx}
theorem pe_fstr3 {x x':Str} {j j':Nat} {p1 p2 p3 pos:Pos} {v:Expr} {tv:TE} (hv:PE X v tv) (hx:x.length ≤ sizeLine):PE X (.JoinedStr [.Constant (.str x) j p1,.FormattedValue v (-1) none p2,.Constant (.str x') j' p3] pos)
  (fun σ H Q=>tv σ H fun y H1=>∃ i,y = .int i∧i.natAbs.log2 < 1920∧x.length + (toString i:Str).length + x'.length ≤ sizeLine∧Q (.str (Str.empty ++ x ++ toString i ++ x')) H1):=by
 intro pins s σ H Q I h
 refine JoinedStr_many (joinParts_cons (thn (pe_str (x:=x) (j:=j) (pos:=p1) pins s σ H (fun v H1=>v = .str x∧H1 = H) I ⟨rfl,rfl⟩) fun u s1 z=>?_))
 obtain ⟨v',H1,I1,r1,rfl,rfl⟩:=z
 obtain ⟨t,rfl⟩:=(show ∃ t,u = Value.str x t from r1)
 have e0:(Str.empty ++ x).length = x.length:=by rw [strLen_append]; exact Nat.zero_add _
 refine ⟨?_,joinParts_cons (FormattedValue_plain (thn (hv pins s1 σ _ _ I1 h) fun u2 s2 z=>?_))⟩
 ·rw [e0]; exact hx
 ·obtain ⟨y,H2,I2,r2,i,rfl,hi,hz,q⟩:=z
  obtain ⟨t2,rfl⟩:=(show ∃ t,u2 = Value.int i t from r2)
  refine formatField_int_small hi ⟨?_,?_⟩
  ·rw [strLen_append,e0]; omega
  ·refine joinParts_cons (thn (pe_str (x:=x') (j:=j') (pos:=p3) pins _ σ H2 (fun v H1=>v = .str x'∧H1 = H2) (I2.tok _) ⟨rfl,rfl⟩) fun u3 s3 z=>?_)
   obtain ⟨v3,H3,I3,r3,rfl,rfl⟩:=z
   obtain ⟨t3,rfl⟩:=(show ∃ t,u3 = Value.str x' t from r3)
   refine ⟨?_,joinParts_nil ?_ ?_⟩
   ·rw [strLen_append,strLen_append,e0]; exact hz
   ·exact ⟨.str _,H3,I3.tok _,⟨_,rfl⟩,q⟩
   ·rw [strLen_append,strLen_append,e0]; exact hz
end
end L2
namespace KL
open PySem L2
def VE:List Value:=[.type "ValueError",.type "Exception",.type "BaseException",.type "object"]
section
variable {P:Program} {w:World} {K:PySem.W.Frag} {mg:Str→Option Value} {base:Heap}
structure TxE (K:PySem.W.Frag) (mg:Str→Option Value) (CL CW fW:Addr):Prop where
 mgL:mg "LedgerError" = some (.ref CL)
 mgW:mg "WrongWord" = some (.ref CW)
 bi:BaseI K CL "ValueError.__init__"
 ex:excI K CW VE "ValueError.__new__" fW = true
 vc:VCls K CW "place"
 kp:PySem.W.keepIn K (.ref CW) = true
 fn:PySem.W.isFn K (.ref fW) = true
def spWrong (CW:Addr):Sp:=fun vs H Q _=>∃ (y:Addr) (i:Int),vs = [.ref y,.int i]∧i.natAbs.log2 < 1000∧H y = some (ExO y CW none) ∧
 ∀ d,H d = none→d ≠ y→Q .non (upd (upd H d (XdO d [("place",.int i)])) y (ExO y CW (some d)))
theorem sc_WrongWord_init:FnScope ["self","place"] ["self","place"] (defScope s_WrongWord_init):=⟨rfl,rfl,rfl,by decide +kernel,rfl,by decide +kernel,by decide +kernel⟩
theorem fits_word {i:Int} (h:i.natAbs.log2 < 1000):(Str.ofString "word ").length + (toString i:Str).length + (Str.ofString " is wrong").length ≤ sizeLine:=by
 have e:=int_text_length_le (k:=1000) (by decide) h
 have e1:(Str.ofString "word ").length = 5:=by decide +kernel
 have e2:(Str.ofString " is wrong").length = 9:=by decide +kernel
 have e3:(Str.ofString (toString i)).length + 14 ≤ sizeLine:=by
  rw [ofString_length,sizeLine_eq]
  omega
 have e4:(toString i:Str).length = (Str.ofString (toString i)).length:=rfl
 rw [e1,e2]
 omega
theorem ok_WrongWord_init {f CL CW fW:Addr} {fd:FuncData} (F:Fun K "__init__" "WrongWord.__init__" s_WrongWord_init f fd) (T:TxE K mg CL CW fW):FnOk P w K mg base CX0 1 f fd ["self","place"] (spWrong CW):=by
 refine F.ok sc_WrongWord_init (fun vs H Q E h=>?_) (fun cdv A outer s H vs Q E hr h=>?_)
 ·obtain ⟨y,i,rfl,_⟩:=h
  rfl
 ·obtain ⟨y,i,rfl,hi,hy,q⟩:=h
  refine ⟨_,pss_cons (ps_expr (pe_baseI (by rfl) T.mgL T.bi T.ex PySem.F.excBase_ValueError (pa_cons (pv 0) (pa_cons (pe_fstr3 (pv 1) (by decide)) pa_nil))))
   (pss_one (ps_fldV (pv 0) (pv 1))),?_⟩
  refine ⟨_,rfl,_,rfl,i,rfl,by omega,fits_word hi,y,none,_,rfl,hy,by show 1 ≤ sizeLine; decide,?_⟩
  exact ⟨_,rfl,_,rfl,y,CW,rfl,T.vc,.inl ⟨hy,fun d hd hn=>q d hd hn⟩⟩
end
abbrev Wd:=Str × V
def lookW (ws:List Wd) (n:Nat):Wd:=(ws[n]?).getD ("end",.str "")
def seesW (ws:List Wd) (n:Nat) (cs:List V):Bool:=inV (.str (lookW ws n).1) [.str "kept",.str "sign"] && inV (lookW ws n).2 cs
def rflds (l:Addr) (n k:Nat):List (Str × V):=[("words",.ref l),("passed",.int n),("within",.int k)]
theorem q01:¬ (("words":Str) = "passed"):=by decide +kernel
theorem q02:¬ (("words":Str) = "within"):=by decide +kernel
theorem q12:¬ (("passed":Str) = "within"):=by decide +kernel
section
variable (l:Addr) (n k:Nat)
theorem r_words:(rflds l n k).lookup ("words":Str) = some (.ref l):=by rfl
theorem r_passed:(rflds l n k).lookup ("passed":Str) = some (.int n):=by rfl
theorem r_within:(rflds l n k).lookup ("within":Str) = some (.int k):=by rfl
theorem r_no {m:Str} (h0:¬ m = "words") (h1:¬ m = "passed") (h2:¬ m = "within"):(rflds l n k).lookup m = none:=by
 unfold rflds
 simp [List.lookup_cons,beq_eq_false_iff_ne.mpr h0,beq_eq_false_iff_ne.mpr h1,beq_eq_false_iff_ne.mpr h2]
theorem s_passed (j:Nat):putF "passed" (.int j) (rflds l n k) = rflds l j k:=by
 unfold rflds; simp only [putF,if_neg q01,if_pos]
theorem s_within (j:Nat):putF "within" (.int j) (rflds l n k) = rflds l n j:=by
 unfold rflds; simp only [putF,if_neg q02,if_neg q12,if_pos]
end
def Step (A:List Addr) (H H':Hp):Prop:=∀ b o,H b = some o→b ∉ A→H' b = some o
theorem Same.step {A:List Addr} {H H':Hp} (s:Same H H'):Step A H H':=fun b o e _=>s b o e
theorem Step.trans {A:List Addr} {H H1 H2:Hp} (s:Step A H H1) (t:Step A H1 H2):Step A H H2:=fun b o e n=>t b o (s b o e n) n
theorem Step.mono {A B:List Addr} {H H':Hp} (s:Step A H H') (h:∀ a ∈ A,a ∈ B):Step B H H':=fun b o e n=>s b o e fun m=>n (h b m)
theorem Step.refl {A:List Addr} (H:Hp):Step A H H:=fun _ _ e _=>e
theorem Step.at1 {H:Hp} {p:Addr} {o:HO}:Step [p] H (upd H p o):=fun b u e n=>by rw [upd_ne (by simpa using n)]; exact e
structure RdAt (C:Addr) (H:Hp) (p l:Addr) (ws:List Wd) (n k:Nat):Prop where
 ob:∃ dx,H p = some (.ins C dx (rflds l n k))
 li:∃ rs,H l = some (.lst rs)∧WsAt H ws rs
 fl:∀ w ∈ ws,flatV w.2 = true
 len:ws.length ≤ 1000000
theorem RdAt.move {C:Addr} {H H':Hp} {p l:Addr} {ws:List Wd} {n k n' k':Nat} {A:List Addr} (R:RdAt C H p l ws n k) (s:Step A H H') (hA:∀ a ∈ A,a ≠ l∧∀ xs,H a ≠ some (.tup xs)) (h':∃ dx,H' p = some (.ins C dx (rflds l n' k'))) :
  RdAt C H' p l ws n' k':=by
 obtain ⟨rs,h1,h2⟩:=R.li
 refine ⟨h',⟨rs,s _ _ h1 fun m=>(hA _ m).1 rfl,L2.Paired.imp' (fun kv r z=>?_) h2⟩,R.fl,R.len⟩
 obtain ⟨t,e,q⟩:=z
 exact ⟨t,e,s _ _ q fun m=>(hA _ m).2 _ q⟩
theorem RdAt.same {C:Addr} {H H':Hp} {p l:Addr} {ws:List Wd} {n k:Nat} (R:RdAt C H p l ws n k) (s:Same H H'):RdAt C H' p l ws n k:=by
 obtain ⟨dx,h⟩:=R.ob
 exact R.move (A:=[]) (Same.step s) (fun _ m=>nomatch m) ⟨dx,s _ _ h⟩
theorem RdAt.apart {C:Addr} {H:Hp} {p l:Addr} {ws:List Wd} {n k:Nat} (R:RdAt C H p l ws n k):p ≠ l∧∀ xs,H p ≠ some (.tup xs):=by
 obtain ⟨dx,h⟩:=R.ob
 obtain ⟨rs,h1,_⟩:=R.li
 exact ⟨ne_of h h1 (by intro z; cases z),fun xs z=>by rw [h] at z; cases z⟩
theorem RdAt.put {C:Addr} {H:Hp} {p l dx:Addr} {ws:List Wd} {n k:Nat} (R:RdAt C H p l ws n k) (n' k':Nat):RdAt C (upd H p (.ins C dx (rflds l n' k'))) p l ws n' k' :=
 R.move Step.at1 (fun a m=>by rcases List.mem_singleton.mp m with rfl; exact R.apart) ⟨dx,upd_same⟩
theorem lookW_flat {ws:List Wd} (h:∀ w ∈ ws,flatV w.2 = true) (n:Nat):flatV (lookW ws n).2 = true:=by
 unfold lookW
 cases e:ws[n]? with
 | none=>rfl
 | some w=>exact h w (List.mem_of_getElem? e)
theorem pairedAt {α β:Type} {R:α→β→Prop}:∀ {a:List α} {b:List β} {i:Nat} {x:α},Paired R a b→a[i]? = some x→∃ y,b[i]? = some y∧R x y
 | _,_,_,_,.nil,e=>by simp at e
 | _,_,0,_,.cons r _,e=>by simp at e; subst e; exact ⟨_,rfl,r⟩
 | _,_,i + 1,x,.cons _ t,e=>by
  obtain ⟨y,h1,h2⟩:=pairedAt (i:=i) (x:=x) t (by simpa using e)
  exact ⟨y,by simpa using h1,h2⟩
structure TxR (K:PySem.W.Frag) (mg:Str→Option Value) (C:Addr):Prop where
 cl:Cls K C
 nWo:NoAttr K C "words"
 nPa:NoAttr K C "passed"
 nWi:NoAttr K C "within"
 mgC:mg "Reader" = some (.ref C)
 len:mg "len" = none
 list:mg "list" = none
 kept:GS mg "KEPT" "kept"
 sign:GS mg "SIGN" "sign"
 name:GS mg "NAME" "name"
 number:GS mg "NUMBER_words" "number"
 text:GS mg "TEXT_words" "text"
 fin:GS mg "END" "end"
 most:GI mg "MOST_WITHIN" 24
structure MtS (P:Program) (w:World) (K:PySem.W.Frag) (mg:Str→Option Value) (base:Heap) (CX:CXT) (C:Addr) (k:Nat) (m:Str) (ps:List Str) (sp:Sp):Prop where
 ex:∃ (f:Addr) (fd:FuncData),Meth K C m f∧FnOk P w K mg base CX k f fd ps sp∧Binds K fd ps []
section
variable {P:Program} {w:World} {K:PySem.W.Frag} {mg:Str→Option Value} {base:Heap}
def spLook (C:Addr):Sp:=fun vs H Q _=>∃ (p l:Addr) (ws:List Wd) (n k:Nat),vs = [.ref p]∧RdAt C H p l ws n k∧∀ (t:Addr) (H':Hp),Same H H'→H' t = some (.tup [.str (lookW ws n).1,(lookW ws n).2])→Q (.ref t) H'
theorem sc_look:FnScope ["self"] ["self"] (defScope s_Reader_look):=⟨rfl,rfl,rfl,by decide +kernel,rfl,by decide +kernel,by decide +kernel⟩
theorem ok_look {f C:Addr} {fd:FuncData} (F:Fun K "look" "Reader.look" s_Reader_look f fd) (T:TxR K mg C):FnOk P w K mg base CX0 1 f fd ["self"] (spLook C):=by
 obtain ⟨tE,mE⟩:=T.fin
 refine F.ok sc_look (fun vs H Q E h=>?_) (fun cdv A outer s H vs Q E hr h=>?_)
 ·obtain ⟨p,l,ws,n,k,rfl,_⟩:=h
  rfl
 ·obtain ⟨p,l,ws,n,k,rfl,R,q⟩:=h
  refine ⟨_,pss_cons (ps_if (pt_cmpR op_lt (pe_fld (pv 0) rfl) (pe_callB call_len_seq (by rfl) T.len PySem.boot_len (pa_cons (pe_fld (pv 0) rfl) pa_nil)) (nomark _))
    (pss_one (ps_ret (pe_ix ix_list (pe_fld (pv 0) rfl) (pe_fld (pv 0) rfl) (fun _ _=>rfl)))) pss_nil)
   (pss_one (ps_ret (pe_tup (pa_cons (pe_glob (by rfl) mE (v:=.str "end") ⟨_,rfl⟩) (pa_cons pe_str pa_nil))))),?_⟩
  obtain ⟨dx,h1⟩:=R.ob
  obtain ⟨rs,h2,h3⟩:=R.li
  have hlen:rs.length = ws.length:=(Paired.length h3).symm
  refine ⟨_,rfl,p,C,dx,_,_,rfl,h1,T.cl,T.nPa,r_passed ..,_,rfl,p,C,dx,_,_,rfl,h1,T.cl,T.nWo,r_words ..,l,rs,rfl,.inl (SqL.of h2),_,_,rfl,rfl,_,rfl,iteB (fun h=>?_) (fun h=>?_)⟩
  ·have hlt:n < ws.length:=by have:=of_decide_eq_true h; omega
   obtain ⟨v,hv,t,ht,q3⟩:=pairedAt (x:=ws[n]) h3 (List.getElem?_eq_getElem hlt)
   have e:lookW ws n = ws[n]:=by unfold lookW; rw [List.getElem?_eq_getElem hlt]; rfl
   refine ⟨_,rfl,p,C,dx,_,_,rfl,h1,T.cl,T.nWo,r_words ..,_,rfl,p,C,dx,_,_,rfl,h1,T.cl,T.nPa,r_passed ..,l,rs,n,v,rfl,rfl,SqL.of h2,atI_nat hv,?_⟩
   rw [ht]
   exact q t H (Same.refl H) (by rw [e]; exact q3)
  ·have hge:ws.length ≤ n:=by have:=of_decide_eq_false h; omega
   have e:lookW ws n = (("end":Str),V.str ""):=by unfold lookW; rw [List.getElem?_eq_none_iff.mpr hge]; rfl
   exact ⟨by show 2 ≤ sizeLine; decide,fun t ht=>q t _ (same_upd ht) (by rw [upd_same,e])⟩
def spSees (K:PySem.W.Frag) (C:Addr):Sp:=fun vs H Q _=>∃ (p l c:Addr) (ws:List Wd) (n k:Nat) (cs:List V),vs = [.ref p,.ref c]∧RdAt C H p l ws n k∧(SqL K H c cs∨SqT K H c cs)∧cs.all flatV = true∧∀ H',Same H H'→Q (.bl (seesW ws n cs)) H'
theorem Same.sq {K:PySem.W.Frag} {H H':Hp} {c:Addr} {cs:List V} (s:Same H H') (h:SqL K H c cs∨SqT K H c cs):SqL K H' c cs∨SqT K H' c cs:=by
 rcases h with h | h
 ·exact .inl (s.seq h)
 ·refine .inr ?_
  rcases h with h | h
  ·rcases h with h | ⟨o,h⟩
   ·exact .inl (.inl (s _ _ h))
   ·exact .inl (.inr ⟨o,s _ _ h⟩)
  ·exact .inr h
theorem sc_sees:FnScope ["self","choices","word"] ["self","choices"] (defScope s_Reader_sees):=⟨rfl,rfl,rfl,by decide +kernel,rfl,by decide +kernel,by decide +kernel⟩
theorem ok_sees {f C:Addr} {fd:FuncData} (F:Fun K "sees" "Reader.sees" s_Reader_sees f fd) (T:TxR K mg C) (G:MtS P w K mg base CX0 C 1 "look" ["self"] (spLook C)):FnOk P w K mg base CX0 2 f fd ["self","choices"] (spSees K C):=by
 obtain ⟨fL,fdL,mL,GL,bL⟩:=G.ex
 obtain ⟨tK,mK⟩:=T.kept
 obtain ⟨tS,mS⟩:=T.sign
 refine F.ok sc_sees (fun vs H Q E h=>?_) (fun cdv A outer s H vs Q E hr h=>?_)
 ·obtain ⟨p,l,c,ws,n,k,cs,rfl,_⟩:=h
  rfl
 ·obtain ⟨p,l,c,ws,n,k,cs,rfl,R,hc,fc,q⟩:=h
  refine ⟨_,pss_cons (ps_set (i:=2) sc_sees.nd rfl (Or.inl rfl) (pe_meth0 (pv 0) T.cl mL GL hr bL .nil pass0))
   (pss_one (ps_ret (pe_and (pe_cmpR op_in_seq (pe_ix ix_tup (pv 2) pe_int (fun _ _=>rfl)) (pe_tup (pa_cons (pe_glob (by rfl) mK (v:=.str "kept") ⟨_,rfl⟩) (pa_cons (pe_glob (by rfl) mS (v:=.str "sign") ⟨_,rfl⟩) pa_nil))) (by rfl))
    (pe_one (pe_cmpR op_in_seq (pe_ix ix_tup (pv 2) pe_int (fun _ _=>rfl)) (pv 1) (by rfl)))))),?_⟩
  obtain ⟨dx,h1⟩:=R.ob
  have fw:=lookW_flat R.fl n
  refine ⟨_,rfl,p,dx,_,rfl,h1,r_no _ _ _ (by decide +kernel) (by decide +kernel) (by decide +kernel),p,l,ws,n,k,rfl,R,fun t H1 s1 ht=>?_⟩
  refine ⟨_,rfl,t,_,0,_,rfl,rfl,SqT.of ht,rfl,by show 2 ≤ sizeLine; decide,fun t2 ht2=>?_⟩
  have s2:Same H1 (upd H1 t2 (.tup [V.str "kept",V.str "sign"])):=same_upd ht2
  refine ⟨t2,_,rfl,.inr (SqT.of upd_same),rfl,rfl,_,rfl,?_⟩
  have q':Q (.bl (seesW ws n cs)) (upd H1 t2 (.tup [V.str "kept",V.str "sign"])):=q _ (s1.trans s2)
  unfold seesW at q'
  show if (inV (.str (lookW ws n).1) [.str "kept",.str "sign"]) = true then _ else _
  refine iteB (fun h=>?_) (fun h=>?_)
  ·rw [h] at q'
   exact ⟨_,rfl,t,_,1,_,rfl,rfl,SqT.of (s2 _ _ ht),rfl,_,rfl,c,cs,rfl,Same.sq (s1.trans s2) hc,fw,fc,q'⟩
  ·rw [h] at q'
   exact q'
end
section
variable {P:Program} {w:World} {K:PySem.W.Frag} {mg:Str→Option Value} {base:Heap}
def Goes (C:Addr) (p l:Addr) (ws:List Wd) (n' k':Nat) (H:Hp) (Q:Hp→Prop):Prop:=∀ H',Step [p] H H'→RdAt C H' p l ws n' k'→Q H'
def spTake (C:Addr):Sp:=fun vs H Q _=>∃ (p l:Addr) (ws:List Wd) (n k:Nat),vs = [.ref p]∧RdAt C H p l ws n k∧Goes C p l ws (n + 1) k H (Q (lookW ws n).2)
theorem sc_take:FnScope ["self","word"] ["self"] (defScope s_Reader_take):=⟨rfl,rfl,rfl,by decide +kernel,rfl,by decide +kernel,by decide +kernel⟩
theorem nm (m:Str) (h0:¬ m = "words") (h1:¬ m = "passed") (h2:¬ m = "within") (l:Addr) (n k:Nat):(rflds l n k).lookup m = none:=r_no l n k h0 h1 h2
theorem Step.put {A:List Addr} {H H1:Hp} {p:Addr} {o:HO} (s:Step A H H1) (hp:p ∈ A):Step A H (upd H1 p o):=fun b u e n=>by
 have nb:b ≠ p:=fun z=>by rw [z] at n; exact n hp
 rw [upd_ne nb]
 exact s b u e n
theorem ok_take {f C:Addr} {fd:FuncData} (F:Fun K "take" "Reader.take" s_Reader_take f fd) (T:TxR K mg C) (G:MtS P w K mg base CX0 C 1 "look" ["self"] (spLook C)):FnOk P w K mg base CX0 2 f fd ["self"] (spTake C):=by
 obtain ⟨fL,fdL,mL,GL,bL⟩:=G.ex
 refine F.ok sc_take (fun vs H Q E h=>?_) (fun cdv A outer s H vs Q E hr h=>?_)
 ·obtain ⟨p,l,ws,n,k,rfl,_⟩:=h
  rfl
 ·obtain ⟨p,l,ws,n,k,rfl,R,q⟩:=h
  refine ⟨_,pss_cons (ps_set (i:=1) sc_take.nd rfl (Or.inl rfl) (pe_meth0 (pv 0) T.cl mL GL hr bL .nil pass0))
   (pss_cons (ps_fldaug (pv 0) pe_int in_add)
   (pss_one (ps_ret (pe_ix ix_tup (pv 1) pe_int (fun _ _=>rfl))))),?_⟩
  obtain ⟨dx,h1⟩:=R.ob
  refine ⟨_,rfl,p,dx,_,rfl,h1,nm _ (by decide +kernel) (by decide +kernel) (by decide +kernel) ..,p,l,ws,n,k,rfl,R,fun t H1 s1 ht=>?_⟩
  have R1:=R.same s1
  have g1:=s1 _ _ h1
  refine ⟨_,rfl,p,C,dx,_,_,rfl,g1,T.cl,T.nPa,r_passed ..,_,_,rfl,rfl,dx,_,g1,by show 3 < 1000; decide,?_⟩
  have e:putF "passed" (.int ((n:Int) + 1)) (rflds l n k) = rflds l (n + 1) k:=s_passed l n k (n + 1)
  rw [e]
  refine ⟨_,rfl,t,_,0 + 1,_,rfl,rfl,SqT.of (by rw [upd_ne (ne_of ht g1 (by intro z; cases z))]; exact ht),rfl,?_⟩
  exact q _ (Step.put (Same.step s1) (.head _)) (R1.put (n + 1) k)
def spTakeIf (C:Addr):Sp:=fun vs H Q _=>∃ (p l:Addr) (ws:List Wd) (n k:Nat) (z:Str),vs = [.ref p,.str z]∧RdAt C H p l ws n k ∧
 (seesW ws n [.str z] = true→Goes C p l ws (n + 1) k H (Q (.bl true)))∧(seesW ws n [.str z] = false→∀ H',Same H H'→Q (.bl false) H')
theorem sc_take_if:FnScope ["self","written"] ["self","written"] (defScope s_Reader_take_if):=⟨rfl,rfl,rfl,by decide +kernel,rfl,by decide +kernel,by decide +kernel⟩
theorem ok_take_if {f C:Addr} {fd:FuncData} (F:Fun K "take_if" "Reader.take_if" s_Reader_take_if f fd) (T:TxR K mg C) (G:MtS P w K mg base CX0 C 2 "sees" ["self","choices"] (spSees K C)):FnOk P w K mg base CX0 3 f fd ["self","written"] (spTakeIf C):=by
 obtain ⟨fL,fdL,mL,GL,bL⟩:=G.ex
 refine F.ok sc_take_if (fun vs H Q E h=>?_) (fun cdv A outer s H vs Q E hr h=>?_)
 ·obtain ⟨p,l,ws,n,k,z,rfl,_⟩:=h
  rfl
 ·obtain ⟨p,l,ws,n,k,z,rfl,R,q1,q2⟩:=h
  refine ⟨_,pss_cons (ps_if (pt_not (pt_val (pe_meth (pv 0) T.cl mL GL hr bL .nil pass0 (pa_cons (pe_tup (pa_cons (pv 1) pa_nil)) pa_nil)))) (pss_one (ps_ret pe_bl)) pss_nil)
   (pss_cons (ps_fldaug (pv 0) pe_int in_add)
   (pss_one (ps_ret pe_bl))),?_⟩
  obtain ⟨dx,h1⟩:=R.ob
  refine ⟨_,rfl,p,dx,_,rfl,h1,nm _ (by decide +kernel) (by decide +kernel) (by decide +kernel) ..,_,rfl,by show 1 ≤ sizeLine; decide,fun t ht=>?_⟩
  have s1:Same H (upd H t (.tup [.str z])):=same_upd ht
  have R1:=R.same s1
  refine ⟨p,l,t,ws,n,k,[.str z],rfl,R1,.inr (SqT.of upd_same),rfl,fun H2 s2=>⟨_,rfl,?_⟩⟩
  cases hs:seesW ws n [.str z] with
  | false=>exact iteT (q2 hs H2 (s1.trans s2))
  | true =>
   refine iteF ?_
   have g1:=s2 _ _ (s1 _ _ h1)
   refine ⟨_,rfl,p,C,dx,_,_,rfl,g1,T.cl,T.nPa,r_passed ..,_,_,rfl,rfl,dx,_,g1,by show 3 < 1000; decide,?_⟩
   have e:putF "passed" (.int ((n:Int) + 1)) (rflds l n k) = rflds l (n + 1) k:=s_passed l n k (n + 1)
   rw [e]
   exact q1 hs _ (Step.put (Same.step (s1.trans s2)) (.head _)) ((R1.same s2).put (n + 1) k)
def spLeave (C:Addr):Sp:=fun vs H Q _=>∃ (p l:Addr) (ws:List Wd) (n k j:Nat),vs = [.ref p,.int j]∧RdAt C H p l ws n (k + j)∧Goes C p l ws n k H (Q .non)
theorem sc_leave:FnScope ["self","many"] ["self","many"] (defScope s_Reader_leave):=⟨rfl,rfl,rfl,by decide +kernel,rfl,by decide +kernel,by decide +kernel⟩
theorem ok_leave {f C:Addr} {fd:FuncData} (F:Fun K "leave" "Reader.leave" s_Reader_leave f fd) (T:TxR K mg C):FnOk P w K mg base CX0 1 f fd ["self","many"] (spLeave C):=by
 refine F.ok sc_leave (fun vs H Q E h=>?_) (fun cdv A outer s H vs Q E hr h=>?_)
 ·obtain ⟨p,l,ws,n,k,j,rfl,_⟩:=h
  rfl
 ·obtain ⟨p,l,ws,n,k,j,rfl,R,q⟩:=h
  refine ⟨_,pss_one (ps_fldaug (pv 0) (pv 1) in_sub),?_⟩
  obtain ⟨dx,h1⟩:=R.ob
  refine ⟨_,rfl,p,C,dx,_,_,rfl,h1,T.cl,T.nWi,r_within ..,_,rfl,_,_,rfl,rfl,dx,_,h1,by show 3 < 1000; decide,?_⟩
  have e:putF "within" (.int (((k + j:Nat):Int) - (j:Int))) (rflds l n (k + j)) = rflds l n k:=by
   rw [show (((k + j:Nat):Int) - (j:Int)) = ((k:Nat):Int) by omega]
   exact s_within l n (k + j) k
  rw [e]
  exact q _ Step.at1 (R.put n k)
def Fails (CW:Addr) (A:List Addr) (H:Hp) (E:XK) (e:Nat):Prop:=∀ (d:Addr) (H':Hp),Step A H H'→H' d = some (XdO d [("place",.int e)])→E (.ref CW) (some d) H'
def spRefuse (C CW:Addr):Sp:=fun vs H _ E=>∃ (p l:Addr) (ws:List Wd) (n k:Nat),vs = [.ref p]∧n ≤ 1000100∧RdAt C H p l ws n k∧Fails CW [] H E (n + 1)
theorem sc_refuse:FnScope ["self"] ["self"] (defScope s_Reader_refuse):=⟨rfl,rfl,rfl,by decide +kernel,rfl,by decide +kernel,by decide +kernel⟩
theorem log_small {n:Nat} (h:n ≤ 2000000):(n:Int).natAbs.log2 < 1000:=by
 have e:(n:Int).natAbs = n:=rfl
 rw [e]
 have:n.log2 ≤ n:=Nat.log2_le_self n
 by_cases h0:n = 0
 ·subst h0; decide
 ·have h1:n < 2 ^ 21:=Nat.lt_of_le_of_lt h (by decide)
  exact Nat.lt_trans ((Nat.log2_lt h0).mpr h1) (by decide)
theorem ok_refuse {f C CL CW fW:Addr} {fd fdW:FuncData} (F:Fun K "refuse" "Reader.refuse" s_Reader_refuse f fd) (T:TxR K mg C) (TE:TxE K mg CL CW fW) (G:FnOk P w K mg base CX0 1 fW fdW ["self","place"] (spWrong CW)) (bW:Binds K fdW ["self","place"] []) :
  FnOk P w K mg base (CX2 P w) 3 f fd ["self"] (spRefuse C CW):=by
 refine F.okV sc_refuse (fun vs H Q E h=>?_) (fun cdv A outer s H vs Q E hr h=>?_)
 ·obtain ⟨p,l,ws,n,k,rfl,_⟩:=h
  rfl
 ·obtain ⟨p,l,ws,n,k,rfl,hn,R,q⟩:=h
  refine ⟨_,pss_one (ps_raiseV raiseI rfl (by rfl) TE.mgW TE.kp TE.ex PySem.F.excBase_ValueError TE.fn G hr bW (pa_cons (pe_op op_add (pe_fld (pv 0) rfl) pe_int) pa_nil)),?_⟩
  obtain ⟨dx,h1⟩:=R.ob
  refine ⟨_,rfl,p,C,dx,_,_,rfl,h1,T.cl,T.nPa,r_passed ..,_,_,rfl,rfl,by show 1 ≤ sizeLine; decide,fun y hy=>?_⟩
  refine ⟨y,((n + 1:Nat):Int),rfl,log_small (by omega),upd_same,fun d hd hne=>⟨rfl,some d,upd_same,q d _ (fun b o e _=>?_) ?_⟩⟩
  ·have nb:b ≠ y:=ne_of_none e hy
   have nd:b ≠ d:=fun z=>by
    rw [z] at e
    rw [upd_ne hne,e] at hd
    cases hd
   rw [rem_ne nb,upd_ne nb,upd_ne nd,upd_ne nb]
   exact e
  ·rw [rem_ne hne,upd_ne hne,upd_same]
end
abbrev RR (α:Type):=Except Nat α
def tAll (ws:List Wd):Nat→List Str→RR Nat
 | n,[]=>.ok n
 | n,z :: r=>if seesW ws n [.str z] = true then tAll ws (n + 1) r else .error (n + 1)
theorem Step.sqt {K:PySem.W.Frag} {A:List Addr} {H H':Hp} {c:Addr} {xs:List V} (s:Step A H H') (hA:∀ a ∈ A,∀ o,H a = some o→(∀ ys,o ≠ .tup ys)∧∀ ob u,o ≠ .frz ob u) (h:SqT K H c xs):SqT K H' c xs:=by
 rcases h with h | h
 ·rcases h with h | ⟨o,h⟩
  ·exact .inl (.inl (s _ _ h fun m=>(hA _ m _ h).1 _ rfl))
  ·exact .inl (.inr ⟨o,s _ _ h fun m=>(hA _ m _ h).2 _ _ rfl⟩)
 ·exact .inr h
theorem RdAt.notT {C:Addr} {H:Hp} {p l:Addr} {ws:List Wd} {n k:Nat} (R:RdAt C H p l ws n k):∀ o,H p = some o→(∀ ys,o ≠ .tup ys)∧∀ ob u,o ≠ .frz ob u:=fun o e=>by
 obtain ⟨dx,h⟩:=R.ob
 rw [h] at e
 cases e
 exact ⟨fun _ z=>(by cases z),fun _ _ z=>(by cases z)⟩
def Comes (CW C:Addr) (A:List Addr) (p l:Addr) (ws:List Wd) (H:Hp) (E:XK) {α:Type} (r:RR α) (at_:α→Nat × Nat) (Q:α→Hp→Prop):Prop:=match r with
 | .ok a=>∀ H',Step A H H'→RdAt C H' p l ws (at_ a).1 (at_ a).2→Q a H'
 | .error e=>Fails CW A H E e
section
variable {P:Program} {w:World} {K:PySem.W.Frag} {mg:Str→Option Value} {base:Heap}
def spTakeAll (K:PySem.W.Frag) (C CW:Addr):Sp:=fun vs H Q E=>∃ (p l c:Addr) (ws:List Wd) (n k:Nat) (zs:List Str),vs = [.ref p,.ref c]∧n + zs.length ≤ 1000100∧RdAt C H p l ws n k∧SqT K H c (zs.map V.str) ∧
 Comes CW C [p] p l ws H E (tAll ws n zs) (fun n'=>(n',k)) (fun _=>Q .non)
theorem sc_take_all:FnScope ["self","expected","written"] ["self","expected"] (defScope s_Reader_take_all):=⟨rfl,rfl,rfl,by decide +kernel,rfl,by decide +kernel,by decide +kernel⟩
theorem ok_take_all {f C CW:Addr} {fd:FuncData} (F:Fun K "take_all" "Reader.take_all" s_Reader_take_all f fd) (T:TxR K mg C) (GI:MtS P w K mg base CX0 C 3 "take_if" ["self","written"] (spTakeIf C)) (GR:MtS P w K mg base (CX2 P w) C 3 "refuse" ["self"] (spRefuse C CW)) :
  FnOk P w K mg base (CX2 P w) 4 f fd ["self","expected"] (spTakeAll K C CW):=by
 obtain ⟨fI,fdI,mI,GI,bI⟩:=GI.ex
 obtain ⟨fR,fdR,mR,GR,bR⟩:=GR.ex
 refine F.okV sc_take_all (fun vs H Q E h=>?_) (fun cdv A outer s H vs Q E hr h=>?_)
 ·obtain ⟨p,l,c,ws,n,k,zs,rfl,_⟩:=h
  rfl
 ·obtain ⟨p,l,c,ws,n,k,zs,rfl,hn,R,hc,q⟩:=h
  refine ⟨_,pss_one (ps_for PassesOwn.leaving rfl (pi_tup (pv 1)) (pg_name (i:=2) sc_take_all.nd rfl (Or.inl rfl))
   (pss_one (ps_if (pt_not (pt_val (pe_meth (pv 0) T.cl mI GI hr bI .nil pass0 (pa_cons (pv 2) pa_nil)))) (pss_one (ps_expr (pe_meth0 (pv 0) T.cl mR GR hr bR .nil passV))) pss_nil))),?_⟩
  refine ⟨_,rfl,c,rfl,⟨_,hc⟩,?_⟩
  refine for_tup (xs:=zs.map V.str) (fun i σ Hc=>∃ o,Step [p] H Hc∧RdAt C Hc p l ws (n + i) k∧tAll ws n zs = tAll ws (n + i) (zs.drop i)∧σ = [some (.ref p),some (.ref c),o]) ⟨none,Step.refl H,R,rfl,rfl⟩ ?_ ?_ ?_
  ·rintro i σ Hc hi ⟨o,s1,R1,_,_⟩
   exact s1.sqt (fun a m=>by rcases List.mem_singleton.mp m with rfl; exact R.notT) hc
  ·rintro i x σ Hc hx ⟨o,s1,R1,e,rfl⟩
   rw [List.getElem?_map] at hx
   obtain ⟨z,hz,rfl⟩:=Option.map_eq_some_iff.mp hx
   have hlt:i < zs.length:=(List.getElem?_eq_some_iff.mp hz).1
   have hd:zs.drop i = z :: zs.drop (i + 1):=by
    rw [List.drop_eq_getElem_cons hlt,(List.getElem?_eq_some_iff.mp hz).2]
   rw [hd] at e
   obtain ⟨dx,g1⟩:=R1.ob
   refine ⟨_,rfl,p,dx,_,rfl,g1,nm _ (by decide +kernel) (by decide +kernel) (by decide +kernel) ..,_,rfl,p,l,ws,n + i,k,z,rfl,R1,fun hs H2 s2 R2=>⟨_,rfl,iteF ?_⟩,fun hs H2 s2=>⟨_,rfl,iteT ?_⟩⟩
   ·refine ⟨some (.str z),s1.trans s2,R2,?_,rfl⟩
    rw [e]
    show (if seesW ws (n + i) [.str z] = true then _ else _) = _
    rw [if_pos hs]
    rfl
   ·have e2:tAll ws n zs = .error (n + i + 1):=by
     rw [e]
     show (if seesW ws (n + i) [.str z] = true then _ else _) = _
     rw [if_neg (by rw [hs]; decide)]
    rw [e2] at q
    have R2:=R1.same s2
    obtain ⟨dy,g2⟩:=R2.ob
    refine ⟨_,rfl,p,dy,_,rfl,g2,nm _ (by decide +kernel) (by decide +kernel) (by decide +kernel) ..,p,l,ws,n + i,k,rfl,by omega,R2,fun d H' s' hd'=>q d H' ?_ hd'⟩
    exact s1.trans (Step.trans (Same.step s2) (s'.mono fun _ m=>nomatch m))
  ·rintro σ Hc ⟨o,s1,R1,e,_⟩
   rw [List.length_map] at R1 e
   rw [e,List.drop_length] at q
   exact q Hc s1 R1
def spTakeKind (C CW:Addr):Sp:=fun vs H Q E=>∃ (p l:Addr) (ws:List Wd) (n k:Nat) (z:Str),vs = [.ref p,.str z]∧n ≤ 1000100∧RdAt C H p l ws n k ∧
 ((lookW ws n).1 = z→Goes C p l ws (n + 1) k H (Q (lookW ws n).2))∧((lookW ws n).1 ≠ z→Fails CW [] H E (n + 1))
theorem sc_take_kind:FnScope ["self","kind"] ["self","kind"] (defScope s_Reader_take_kind):=⟨rfl,rfl,rfl,by decide +kernel,rfl,by decide +kernel,by decide +kernel⟩
theorem iteNe {x y:Str} {A B:Prop} (h1:x ≠ y→A) (h2:x = y→B):if (!decide (V.str x = V.str y)) = true then A else B:=by
 by_cases e:x = y
 ·exact iteNS (by rw [e]) (h2 e)
 ·have:¬ V.str x = V.str y:=fun z=>e (V.str.inj z)
  rw [decide_eq_false this]
  exact iteT (h1 e)
theorem ok_take_kind {f C CW:Addr} {fd:FuncData} (F:Fun K "take_kind" "Reader.take_kind" s_Reader_take_kind f fd) (T:TxR K mg C) (GL:MtS P w K mg base CX0 C 1 "look" ["self"] (spLook C)) (GT:MtS P w K mg base CX0 C 2 "take" ["self"] (spTake C)) (GR:MtS P w K mg base (CX2 P w) C 3 "refuse" ["self"] (spRefuse C CW)) :
  FnOk P w K mg base (CX2 P w) 4 f fd ["self","kind"] (spTakeKind C CW):=by
 obtain ⟨fL,fdL,mL,GL,bL⟩:=GL.ex
 obtain ⟨fT,fdT,mT,GT,bT⟩:=GT.ex
 obtain ⟨fR,fdR,mR,GR,bR⟩:=GR.ex
 refine F.okV sc_take_kind (fun vs H Q E h=>?_) (fun cdv A outer s H vs Q E hr h=>?_)
 ·obtain ⟨p,l,ws,n,k,z,rfl,_⟩:=h
  rfl
 ·obtain ⟨p,l,ws,n,k,z,rfl,hn,R,q1,q2⟩:=h
  have hr1:Room 1 _:=hr.mono (by decide)
  have hr2:Room 2 _:=hr.mono (by decide)
  refine ⟨_,pss_cons (ps_if (pt_cmpR op_ne (pe_ix ix_tup (pe_meth0 (pv 0) T.cl mL GL hr1 bL .nil pass0) pe_int (fun _ _=>rfl)) (pv 1) (nomark _)) (pss_one (ps_expr (pe_meth0 (pv 0) T.cl mR GR hr bR .nil passV))) pss_nil)
   (pss_one (ps_ret (pe_meth0 (pv 0) T.cl mT GT hr2 bT .nil pass0))),?_⟩
  obtain ⟨dx,g1⟩:=R.ob
  refine ⟨_,rfl,p,dx,_,rfl,g1,nm _ (by decide +kernel) (by decide +kernel) (by decide +kernel) ..,p,l,ws,n,k,rfl,R,fun t H1 s1 ht=>?_⟩
  have R1:=R.same s1
  obtain ⟨dy,g2⟩:=R1.ob
  refine ⟨t,_,0,_,rfl,rfl,SqT.of ht,rfl,_,rfl,rfl,_,rfl,iteNe (fun ne=>?_) (fun e=>?_)⟩
  ·refine ⟨_,rfl,p,dy,_,rfl,g2,nm _ (by decide +kernel) (by decide +kernel) (by decide +kernel) ..,p,l,ws,n,k,rfl,hn,R1,fun d H' s' hd'=>q2 ne d H' (Step.trans (Same.step s1) s') hd'⟩
  ·refine ⟨_,rfl,p,dy,_,rfl,g2,nm _ (by decide +kernel) (by decide +kernel) (by decide +kernel) ..,p,l,ws,n,k,rfl,R1,fun H2 s2 R2=>q1 e H2 (Step.trans (Same.step s1) s2) R2⟩
def spTakeName (C CW:Addr):Sp:=fun vs H Q E=>∃ (p l:Addr) (ws:List Wd) (n k:Nat),vs = [.ref p]∧n ≤ 1000100∧RdAt C H p l ws n k ∧
 ((lookW ws n).1 = "name"→∀ t,Goes C p l ws (n + 1) k H fun H'=>H' t = some (.tup [(lookW ws n).2,.int ((n + 1:Nat):Int)])→Q (.ref t) H')∧((lookW ws n).1 ≠ "name"→Fails CW [] H E (n + 1))
theorem sc_take_name:FnScope ["self","name"] ["self"] (defScope s_Reader_take_name):=⟨rfl,rfl,rfl,by decide +kernel,rfl,by decide +kernel,by decide +kernel⟩
theorem ok_take_name {f C CW:Addr} {fd:FuncData} (F:Fun K "take_name" "Reader.take_name" s_Reader_take_name f fd) (T:TxR K mg C) (GK:MtS P w K mg base (CX2 P w) C 4 "take_kind" ["self","kind"] (spTakeKind C CW)) :
  FnOk P w K mg base (CX2 P w) 5 f fd ["self"] (spTakeName C CW):=by
 obtain ⟨fK,fdK,mK,GK,bK⟩:=GK.ex
 obtain ⟨tN,mN⟩:=T.name
 refine F.okV sc_take_name (fun vs H Q E h=>?_) (fun cdv A outer s H vs Q E hr h=>?_)
 ·obtain ⟨p,l,ws,n,k,rfl,_⟩:=h
  rfl
 ·obtain ⟨p,l,ws,n,k,rfl,hn,R,q1,q2⟩:=h
  refine ⟨_,pss_cons (ps_set (i:=1) sc_take_name.nd rfl (Or.inl rfl) (pe_meth (pv 0) T.cl mK GK hr bK .nil passV (pa_cons (pe_glob (by rfl) mN (v:=.str "name") ⟨_,rfl⟩) pa_nil)))
   (pss_one (ps_ret (pe_tup (pa_cons (pv 1) (pa_cons (pe_fld (pv 0) rfl) pa_nil))))),?_⟩
  obtain ⟨dx,g1⟩:=R.ob
  refine ⟨_,rfl,p,dx,_,rfl,g1,nm _ (by decide +kernel) (by decide +kernel) (by decide +kernel) ..,p,l,ws,n,k,"name",rfl,hn,R,fun e H1 s1 R1=>?_,fun ne=>q2 ne⟩
  obtain ⟨dy,g2⟩:=R1.ob
  refine ⟨_,rfl,_,rfl,p,C,dy,_,_,rfl,g2,T.cl,T.nPa,r_passed ..,by show 2 ≤ sizeLine; decide,fun t ht=>?_⟩
  have s2:Same H1 (upd H1 t (.tup [(lookW ws n).2,.int ((n + 1:Nat):Int)])):=same_upd ht
  exact q1 e t _ (Step.trans s1 (Same.step s2)) (R1.same s2) upd_same
def spEnter (C CW:Addr):Sp:=fun vs H Q E=>∃ (p l:Addr) (ws:List Wd) (n k:Nat),vs = [.ref p]∧n ≤ 1000100∧RdAt C H p l ws n k ∧
 (k < 24→Goes C p l ws (n + 1) (k + 1) H (Q .non))∧(24 ≤ k→Fails CW [] H E (n + 1))
theorem sc_enter:FnScope ["self"] ["self"] (defScope s_Reader_enter):=⟨rfl,rfl,rfl,by decide +kernel,rfl,by decide +kernel,by decide +kernel⟩
theorem ok_enter {f C CW:Addr} {fd:FuncData} (F:Fun K "enter" "Reader.enter" s_Reader_enter f fd) (T:TxR K mg C) (GR:MtS P w K mg base (CX2 P w) C 3 "refuse" ["self"] (spRefuse C CW)) :
  FnOk P w K mg base (CX2 P w) 4 f fd ["self"] (spEnter C CW):=by
 obtain ⟨fR,fdR,mR,GR,bR⟩:=GR.ex
 obtain ⟨tM,mM⟩:=T.most
 refine F.okV sc_enter (fun vs H Q E h=>?_) (fun cdv A outer s H vs Q E hr h=>?_)
 ·obtain ⟨p,l,ws,n,k,rfl,_⟩:=h
  rfl
 ·obtain ⟨p,l,ws,n,k,rfl,hn,R,q1,q2⟩:=h
  refine ⟨_,pss_cons (ps_if (pt_cmpR op_ge (pe_fld (pv 0) rfl) (pe_glob (by rfl) mM (v:=.int 24) ⟨_,rfl⟩) (nomark _)) (pss_one (ps_expr (pe_meth0 (pv 0) T.cl mR GR hr bR .nil passV))) pss_nil)
   (pss_cons (ps_fldaug (pv 0) pe_int in_add) (pss_one (ps_fldaug (pv 0) pe_int in_add))),?_⟩
  obtain ⟨dx,g1⟩:=R.ob
  refine ⟨_,rfl,p,C,dx,_,_,rfl,g1,T.cl,T.nWi,r_within ..,_,_,rfl,rfl,_,rfl,iteB (fun h=>?_) (fun h=>?_)⟩
  ·have hk:24 ≤ k:=by have:=of_decide_eq_true h; omega
   exact ⟨_,rfl,p,dx,_,rfl,g1,nm _ (by decide +kernel) (by decide +kernel) (by decide +kernel) ..,p,l,ws,n,k,rfl,hn,R,q2 hk⟩
  ·have hk:k < 24:=by have:=of_decide_eq_false h; omega
   refine ⟨_,rfl,p,C,dx,_,_,rfl,g1,T.cl,T.nWi,r_within ..,_,_,rfl,rfl,dx,_,g1,by show 3 < 1000; decide,?_⟩
   have e1:putF "within" (.int ((k:Int) + 1)) (rflds l n k) = rflds l n (k + 1):=s_within l n k (k + 1)
   rw [e1]
   refine ⟨_,rfl,p,C,dx,_,_,rfl,upd_same,T.cl,T.nPa,r_passed ..,_,_,rfl,rfl,dx,_,upd_same,by show 3 < 1000; decide,?_⟩
   have e2:putF "passed" (.int ((n:Int) + 1)) (rflds l n (k + 1)) = rflds l (n + 1) (k + 1):=s_passed l n (k + 1) (n + 1)
   rw [e2,upd_upd]
   exact q1 hk _ Step.at1 (R.put (n + 1) (k + 1))
end
abbrev Stp:=Str × V × Int
def stTwo (v:V):Stp:=("two",v,0)
def stOne (z:Str):Stp:=("one",.str z,0)
abbrev PF:=List Wd→Nat→Nat→RR (List Stp × Nat)
def enterP (ws:List Wd) (z:Str):Nat→Nat→Nat→RR (Nat × Nat)
 | 0,n,k=>.ok (n,k)
 | m + 1,n,k=>if seesW ws n [.str z] = true then (if k < 24 then enterP ws z m (n + 1) (k + 1) else .error (n + 1)) else .ok (n,k)
def loopP (op:Nat→Option V) (one:Nat→RR (List Stp × Nat)):Nat→List Stp→Nat→RR (List Stp × Nat)
 | 0,acc,n=>.ok (acc,n)
 | m + 1,acc,n=>match op n with
  | none=>.ok (acc,n)
  | some v=>match one (n + 1) with
   | .error e=>.error e
   | .ok (ss,n')=>loopP op one m (acc ++ ss ++ [stTwo v]) n'
def opIf (z:Str) (ws:List Wd) (n:Nat):Option V:=if seesW ws n [.str z] = true then some (.str z) else none
def opSum (ws:List Wd) (n:Nat):Option V:=if seesW ws n [.str "+",.str "-"] = true then some (lookW ws n).2 else none
def cmpV:List V:=[.str "=",.str "<>",.str "<",.str "<=",.str ">",.str ">="]
def pLast (br:PF):PF:=fun ws n k =>
 if (lookW ws n).1 = "name" then .ok ([("column",(lookW ws n).2,((n + 1:Nat):Int))],n + 1)
 else if inV (.str (lookW ws n).1) [.str "number",.str "text"] = true then .ok ([("value",(lookW ws n).2,0)],n + 1)
 else if seesW ws n [.str "("] = true then
  (if k < 24 then (match br ws (n + 1) (k + 1) with
   | .error e=>.error e
   | .ok (ss,n')=>(match tAll ws n' [")"] with
    | .error e=>.error e
    | .ok n2=>.ok (ss,n2)))
  else .error (n + 1))
 else (match tAll ws n ["null"] with
  | .error e=>.error e
  | .ok n'=>.ok ([("value",.non,0)],n'))
def pPre (z op:Str) (inner:PF):PF:=fun ws n k=>match enterP ws z 25 n k with
 | .error e=>.error e
 | .ok (n1,k1)=>(match inner ws n1 k1 with
  | .error e=>.error e
  | .ok (ss,n2)=>.ok (ss ++ List.replicate (k1 - k) (stOne op),n2))
def pBin (op:List Wd→Nat→Option V) (one:PF):PF:=fun ws n k=>match one ws n k with
 | .error e=>.error e
 | .ok (ss,n1)=>loopP (op ws) (fun j=>one ws j k) (ws.length + 1) ss n1
def pCmp (sum:PF):PF:=fun ws n k=>match sum ws n k with
 | .error e=>.error e
 | .ok (ss,n1) =>
  if seesW ws n1 cmpV = true then (match sum ws (n1 + 1) k with
   | .error e=>.error e
   | .ok (ss2,n2)=>.ok (ss ++ ss2 ++ [stTwo (lookW ws n1).2],n2))
  else if seesW ws n1 [.str "is"] = true then
   (if seesW ws (n1 + 1) [.str "not"] = true then (match tAll ws (n1 + 2) ["null"] with
    | .error e=>.error e
    | .ok n3=>.ok (ss ++ [stOne "is not null"],n3))
   else (match tAll ws (n1 + 1) ["null"] with
    | .error e=>.error e
    | .ok n3=>.ok (ss ++ [stOne "is null"],n3)))
  else .ok (ss,n1)
def pProd (br:PF):PF:=pBin (opIf "*") (pPre "-" "minus" (pLast br))
def pSum (br:PF):PF:=pBin opSum (pProd br)
def pNot (br:PF):PF:=pPre "not" "not" (pCmp (pSum br))
def pAnd (br:PF):PF:=pBin (opIf "and") (pNot br)
def pOrB (br:PF):PF:=pBin (opIf "or") (pAnd br)
def pOr:Nat→PF
 | 0=>fun _ _ _=>.error 0
 | d + 1=>pOrB (pOr d)
def Good (g:PF):Prop:=∀ ws n k ss n',n ≤ ws.length→g ws n k = .ok (ss,n')→n < n'∧n' ≤ ws.length∧ss.length + n ≤ n'
theorem look_end {ws:List Wd} {n:Nat} (h:ws.length ≤ n):lookW ws n = (("end":Str),V.str ""):=by
 unfold lookW; rw [List.getElem?_eq_none_iff.mpr h]; rfl
theorem sees_lt {ws:List Wd} {n:Nat} {cs:List V} (h:seesW ws n cs = true):n < ws.length:=by
 refine Nat.lt_of_not_le fun z=>?_
 unfold seesW at h
 rw [look_end z] at h
 have:inV (.str (("end":Str),V.str "").1) [.str "kept",.str "sign"] = false:=by decide +kernel
 rw [this] at h
 cases h
theorem kind_lt {ws:List Wd} {n:Nat} (h:(lookW ws n).1 ≠ "end"):n < ws.length:=Nat.lt_of_not_le fun z=>h (by rw [look_end z])
theorem tAll_ok {ws:List Wd}:∀ {zs:List Str} {n n':Nat},n ≤ ws.length→tAll ws n zs = .ok n'→n' = n + zs.length∧n' ≤ ws.length
 | [],n,n',h,e=>by cases e; exact ⟨rfl,h⟩
 | z :: r,n,n',h,e=>by
  unfold tAll at e
  split at e
  ·rename_i hs
   obtain ⟨a,b⟩:=tAll_ok (zs:=r) (n:=n + 1) (sees_lt hs) e
   exact ⟨by rw [a]; simp only [List.length_cons]; omega,b⟩
  ·cases e
theorem enterP_ok {ws:List Wd} {z:Str}:∀ {m n k n1 k1:Nat},n ≤ ws.length→enterP ws z m n k = .ok (n1,k1)→k ≤ k1∧n1 = n + (k1 - k)∧n1 ≤ ws.length∧(k ≤ 24→k1 ≤ 24)
 | 0,n,k,n1,k1,h,e=>by cases e; exact ⟨Nat.le_refl _,by omega,h,fun z=>z⟩
 | m + 1,n,k,n1,k1,h,e=>by
  unfold enterP at e
  split at e
  ·rename_i hs
   split at e
   ·rename_i hk
    obtain ⟨a,b,c,d⟩:=enterP_ok (m:=m) (sees_lt hs) e
    exact ⟨by omega,by omega,c,fun _=>d (by omega)⟩
   ·cases e
  ·cases e; exact ⟨Nat.le_refl _,by omega,h,fun z=>z⟩
theorem good_last {br:PF} (g:Good br):Good (pLast br):=by
 intro ws n k ss n' h e
 unfold pLast at e
 split at e
 ·rename_i h1
  cases e
  have:=kind_lt (ws:=ws) (n:=n) (by rw [h1]; decide +kernel)
  exact ⟨by omega,by omega,by show 1 + n ≤ n + 1; omega⟩
 ·split at e
  ·rename_i h1 h2
   cases e
   have:n < ws.length:=kind_lt fun z=>by
    rw [z] at h2
    exact absurd h2 (by decide +kernel)
   exact ⟨by omega,by omega,by show 1 + n ≤ n + 1; omega⟩
  ·split at e
   ·rename_i h1 h2 h3
    split at e
    ·split at e
     ·cases e
     ·rename_i ss1 n1 e1
      obtain ⟨a,b,c⟩:=g ws (n + 1) (k + 1) ss1 n1 (sees_lt h3) e1
      split at e
      ·cases e
      ·rename_i n2 e2
       obtain ⟨a2,b2⟩:=tAll_ok b e2
       cases e
       simp only [List.length_cons,List.length_nil] at a2
       exact ⟨by omega,b2,by omega⟩
    ·cases e
   ·split at e
    ·cases e
    ·rename_i n2 e2
     obtain ⟨a2,b2⟩:=tAll_ok h e2
     cases e
     simp only [List.length_cons,List.length_nil] at a2
     exact ⟨by omega,b2,by show 1 + n ≤ _; omega⟩
theorem good_pre {z op:Str} {g:PF} (G:Good g):Good (pPre z op g):=by
 intro ws n k ss n' h e
 unfold pPre at e
 split at e
 ·cases e
 ·rename_i n1 k1 e1
  obtain ⟨a,b,c,d⟩:=enterP_ok h e1
  split at e
  ·cases e
  ·rename_i s2 n2 e2
   obtain ⟨a2,b2,c2⟩:=G ws n1 k1 s2 n2 c e2
   cases e
   refine ⟨by omega,b2,?_⟩
   rw [List.length_append,List.length_replicate]
   omega
theorem good_loop {ws:List Wd} {op:Nat→Option V} {one:Nat→RR (List Stp × Nat)} (hop:∀ n v,op n = some v→n < ws.length) (G:∀ n ss n',n ≤ ws.length→one n = .ok (ss,n')→n < n'∧n' ≤ ws.length∧ss.length + n ≤ n') :
  ∀ {m:Nat} {acc ss:List Stp} {n n':Nat},n ≤ ws.length→loopP op one m acc n = .ok (ss,n')→n ≤ n'∧n' ≤ ws.length∧ss.length + n ≤ acc.length + n'
 | 0,acc,ss,n,n',h,e=>by cases e; exact ⟨Nat.le_refl _,h,Nat.le_refl _⟩
 | m + 1,acc,ss,n,n',h,e=>by
  unfold loopP at e
  split at e
  ·cases e; exact ⟨Nat.le_refl _,h,Nat.le_refl _⟩
  ·rename_i v hv
   split at e
   ·cases e
   ·rename_i s1 n1 e1
    obtain ⟨a,b,c⟩:=G (n + 1) s1 n1 (hop n v hv) e1
    obtain ⟨a2,b2,c2⟩:=good_loop hop G (m:=m) b e
    rw [List.length_append,List.length_append] at c2
    simp only [List.length_cons,List.length_nil] at c2
    exact ⟨by omega,b2,by omega⟩
theorem opIf_lt {z:Str} {ws:List Wd} {n:Nat} {v:V} (h:opIf z ws n = some v):n < ws.length:=by
 unfold opIf at h
 split at h
 ·rename_i hs; exact sees_lt hs
 ·cases h
theorem opSum_lt {ws:List Wd} {n:Nat} {v:V} (h:opSum ws n = some v):n < ws.length:=by
 unfold opSum at h
 split at h
 ·rename_i hs; exact sees_lt hs
 ·cases h
theorem good_bin {op:List Wd→Nat→Option V} {g:PF} (hop:∀ ws n v,op ws n = some v→n < ws.length) (G:Good g):Good (pBin op g):=by
 intro ws n k ss n' h e
 unfold pBin at e
 split at e
 ·cases e
 ·rename_i s1 n1 e1
  obtain ⟨a,b,c⟩:=G ws n k s1 n1 h e1
  obtain ⟨a2,b2,c2⟩:=good_loop (ws:=ws) (hop ws) (fun j s j' hj ej=>G ws j k s j' hj ej) b e
  exact ⟨by omega,b2,by omega⟩
theorem good_cmp {g:PF} (G:Good g):Good (pCmp g):=by
 intro ws n k ss n' h e
 unfold pCmp at e
 split at e
 ·cases e
 ·rename_i s1 n1 e1
  obtain ⟨a,b,c⟩:=G ws n k s1 n1 h e1
  split at e
  ·rename_i hs
   split at e
   ·cases e
   ·rename_i s2 n2 e2
    obtain ⟨a2,b2,c2⟩:=G ws (n1 + 1) k s2 n2 (sees_lt hs) e2
    cases e
    refine ⟨by omega,b2,?_⟩
    rw [List.length_append,List.length_append]
    simp only [List.length_cons,List.length_nil]
    omega
  ·split at e
   ·rename_i hs
    have h1:=sees_lt hs
    split at e
    ·rename_i hs2
     have h2:=sees_lt hs2
     split at e
     ·cases e
     ·rename_i n3 e3
      obtain ⟨a3,b3⟩:=tAll_ok (by omega) e3
      cases e
      simp only [List.length_cons,List.length_nil] at a3
      refine ⟨by omega,b3,?_⟩
      rw [List.length_append]
      simp only [List.length_cons,List.length_nil]
      omega
    ·split at e
     ·cases e
     ·rename_i n3 e3
      obtain ⟨a3,b3⟩:=tAll_ok (by omega) e3
      cases e
      simp only [List.length_cons,List.length_nil] at a3
      refine ⟨by omega,b3,?_⟩
      rw [List.length_append]
      simp only [List.length_cons,List.length_nil]
      omega
   ·cases e
    exact ⟨a,b,c⟩
theorem good_prod {br:PF} (g:Good br):Good (pProd br):=good_bin (fun _ _ _=>opIf_lt) (good_pre (good_last g))
theorem good_sum {br:PF} (g:Good br):Good (pSum br):=good_bin (fun _ _ _=>opSum_lt) (good_prod g)
theorem good_not {br:PF} (g:Good br):Good (pNot br):=good_pre (good_cmp (good_sum g))
theorem good_and {br:PF} (g:Good br):Good (pAnd br):=good_bin (fun _ _ _=>opIf_lt) (good_not g)
theorem good_orB {br:PF} (g:Good br):Good (pOrB br):=good_bin (fun _ _ _=>opIf_lt) (good_and g)
theorem good_or:∀ d,Good (pOr d)
 | 0=>fun _ _ _ _ _ _ e=>by cases e
 | d + 1=>good_orB (good_or d)
def StAt (H:Hp) (s:Stp) (r:V):Prop:=∃ t,r = .ref t∧H t = some (.tup [.str s.1,s.2.1,.int s.2.2])
abbrev StsAt (H:Hp) (ss:List Stp) (rs:List V):Prop:=Paired (StAt H) ss rs
theorem StAt.same {H H':Hp} (s:Same H H') {a:Stp} {r:V} (h:StAt H a r):StAt H' a r:=by
 obtain ⟨t,e,q⟩:=h
 exact ⟨t,e,s _ _ q⟩
theorem StAt.tups {H H':Hp} (s:∀ b xs,H b = some (.tup xs)→H' b = some (.tup xs)) {a:Stp} {r:V} (h:StAt H a r):StAt H' a r:=by
 obtain ⟨t,e,q⟩:=h
 exact ⟨t,e,s _ _ q⟩
structure TxX (K:PySem.W.Frag) (mg:Str→Option Value):Prop where
 one:GS mg "ONE" "one"
 two:GS mg "TWO" "two"
 value:GS mg "VALUE" "value"
 column:GS mg "COLUMN" "column"
 cmp:GT K mg "COMPARING_SIGNS" cmpV
def Yields (CW C:Addr) (p l st:Addr) (ws:List Wd) (k:Nat) (xs:List V) (H:Hp) (E:XK) (r:RR (List Stp × Nat)) (Q:Hp→Prop):Prop:=match r with
 | .ok (ss,n')=>∀ (H':Hp) (ys:List V),Step [p,st] H H'→RdAt C H' p l ws n' k→H' st = some (.lst (xs ++ ys))→StsAt H' ss ys→Q H'
 | .error e=>Fails CW [p,st] H E e
def spExp (CW C:Addr) (g:PF) (d:Nat):Sp:=fun vs H Q E=>∃ (p l st:Addr) (ws:List Wd) (n k:Nat) (xs:List V),vs = [.ref p,.ref st]∧RdAt C H p l ws n k∧H st = some (.lst xs)∧st ≠ l∧xs.length ≤ n∧n ≤ ws.length∧k ≤ 24∧25 ≤ k + d ∧
 Yields CW C p l st ws k xs H E (g ws n k) (Q .non)
section
variable {P:Program} {w:World} {K:PySem.W.Frag} {mg:Str→Option Value} {base:Heap}
structure FnV (P:Program) (w:World) (K:PySem.W.Frag) (mg:Str→Option Value) (base:Heap) (CX:CXT) (k:Nat) (x:Str) (ps:List Str) (sp:Sp):Prop where
 ex:∃ (f:Addr) (fd:FuncData),mg x = some (.ref f)∧PySem.W.keepIn K (.ref f) = true∧FnOk P w K mg base CX k f fd ps sp∧Binds K fd ps []
def spEnterAll (CW C:Addr):Sp:=fun vs H Q E=>∃ (p l:Addr) (ws:List Wd) (n k:Nat) (z:Str),vs = [.ref p,.str z]∧RdAt C H p l ws n k∧n ≤ ws.length∧k ≤ 24 ∧
 Comes CW C [p] p l ws H E (enterP ws z 25 n k) id (fun a=>Q (.int ((a.2 - k:Nat):Int)))
theorem sc_enter_all:FnScope ["reader","written","many"] ["reader","written"] (defScope s_enter_all):=⟨rfl,rfl,rfl,by decide +kernel,rfl,by decide +kernel,by decide +kernel⟩
theorem ok_enter_all {f C CW:Addr} {fd:FuncData} (F:Fun K "enter_all" "enter_all" s_enter_all f fd) (T:TxR K mg C) (GS:MtS P w K mg base CX0 C 2 "sees" ["self","choices"] (spSees K C)) (GE:MtS P w K mg base (CX2 P w) C 4 "enter" ["self"] (spEnter C CW)) :
  FnOk P w K mg base (CX2 P w) 5 f fd ["reader","written"] (spEnterAll CW C):=by
 obtain ⟨fS,fdS,mS,GS,bS⟩:=GS.ex
 obtain ⟨fE,fdE,mE,GE,bE⟩:=GE.ex
 refine F.okV sc_enter_all (fun vs H Q E h=>?_) (fun cdv A outer s H vs Q E hr h=>?_)
 ·obtain ⟨p,l,ws,n,k,z,rfl,_⟩:=h
  rfl
 ·obtain ⟨p,l,ws,n,k,z,rfl,R,hn,hk,q⟩:=h
  have hr2:Room 2 _:=hr.mono (by decide)
  refine ⟨_,pss_cons (ps_set (i:=2) sc_enter_all.nd rfl (Or.inl rfl) pe_int)
   (pss_cons (ps_while PassesOwn.leaving (pt_val (pe_meth (pv 0) T.cl mS GS hr2 bS .nil pass0 (pa_cons (pe_tup (pa_cons (pv 1) pa_nil)) pa_nil)))
    (pss_cons (ps_expr (pe_meth0 (pv 0) T.cl mE GE hr bE .nil passV)) (pss_one (ps_aug (i:=2) sc_enter_all.nd rfl (Or.inl rfl) pe_int ip_add))))
   (pss_one (ps_ret (pv 2)))),?_⟩
  refine ⟨fun m σ Hc=>∃ n1 k1:Nat,m + k1 = 24∧k ≤ k1∧n1 ≤ ws.length∧Step [p] H Hc∧RdAt C Hc p l ws n1 k1∧enterP ws z 25 n k = enterP ws z (25 - (k1 - k)) n1 k1∧σ = [some (.ref p),some (.str z),some (.int ((k1 - k:Nat):Int))],⟨24 - k,n,k,by omega,Nat.le_refl _,hn,Step.refl H,R,by rw [Nat.sub_self],?_⟩,?_⟩
  ·rw [Nat.sub_self]; rfl
  ·rintro m σ Hc ⟨n1,k1,hm,hkk,hn1,s1,R1,e,rfl⟩
   obtain ⟨dx,g1⟩:=R1.ob
   refine ⟨_,rfl,p,dx,_,rfl,g1,nm _ (by decide +kernel) (by decide +kernel) (by decide +kernel) ..,_,rfl,by show 1 ≤ sizeLine; decide,fun t ht=>?_⟩
   have s2:Same Hc (upd Hc t (.tup [.str z])):=same_upd ht
   have R2:=R1.same s2
   refine ⟨p,l,t,ws,n1,k1,[.str z],rfl,R2,.inr (SqT.of upd_same),rfl,fun H2 s3=>⟨_,rfl,?_⟩⟩
   have R3:=R2.same s3
   have s4:Step [p] H H2:=s1.trans (Same.step (s2.trans s3))
   obtain ⟨j,hj⟩:∃ j,25 - (k1 - k) = j + 1:=⟨24 - (k1 - k),by omega⟩
   rw [hj] at e
   refine iteB (fun hs=>?_) (fun hs=>?_)
   ·have e2:enterP ws z (j + 1) n1 k1 = if k1 < 24 then enterP ws z j (n1 + 1) (k1 + 1) else .error (n1 + 1):=by
     show (if seesW ws n1 [.str z] = true then _ else _) = _
     rw [if_pos hs]
    rw [e2] at e
    obtain ⟨dy,g3⟩:=R3.ob
    have hlt:=sees_lt hs
    refine ⟨fun σ' H'=>∃ H3,H3 = H'∧k1 < 24∧Step [p] H H'∧RdAt C H' p l ws (n1 + 1) (k1 + 1)∧σ' = [some (V.ref p),some (V.str z),some (V.int (((k1 - k:Nat):Int) + 1))],?_,?_⟩
    ·rintro σ' H' ⟨H3,rfl,hk24,s5,R5,rfl⟩
     rw [if_pos hk24] at e
     refine ⟨23 - k1,by omega,n1 + 1,k1 + 1,by omega,by omega,by omega,s5,R5,?_,?_⟩
     ·rw [e,show 25 - (k1 + 1 - k) = j by omega]
     ·rw [show ((k1 + 1 - k:Nat):Int) = ((k1 - k:Nat):Int) + 1 by omega]
    ·refine ⟨_,rfl,p,dy,_,rfl,g3,nm _ (by decide +kernel) (by decide +kernel) (by decide +kernel) ..,p,l,ws,n1,k1,rfl,by have:=R3.len; omega,R3,fun hk24 H4 s5 R5=>?_,fun hk24=>?_⟩
     ·exact ⟨_,rfl,_,_,rfl,rfl,H4,rfl,hk24,s4.trans s5,R5,rfl⟩
     ·rw [if_neg (by omega)] at e
      rw [e] at q
      exact fun d H' s' hd'=>q d H' (s4.trans (s'.mono fun _ m=>nomatch m)) hd'
   ·have e2:enterP ws z (j + 1) n1 k1 = .ok (n1,k1):=by
     show (if seesW ws n1 [.str z] = true then _ else _) = _
     rw [if_neg (by rw [hs]; decide)]
    rw [e,e2] at q
    exact ⟨_,rfl,q H2 s4 R3⟩
def spLeaveAll (C:Addr):Sp:=fun vs H Q _=>∃ (p l st:Addr) (ws:List Wd) (n k j:Nat) (xs:List V) (op:Str),vs = [.ref p,.ref st,.int j,.str op]∧RdAt C H p l ws n (k + j)∧H st = some (.lst xs)∧st ≠ l∧xs.length ≤ 1000000∧j ≤ 24 ∧
 ∀ (H':Hp) (ys:List V),Step [p,st] H H'→RdAt C H' p l ws n k→H' st = some (.lst (xs ++ ys))→StsAt H' (List.replicate j (stOne op)) ys→Q .non H'
theorem sc_leave_all:FnScope ["reader","steps","many","operator"] ["reader","steps","many","operator"] (defScope s_leave_all):=⟨rfl,rfl,rfl,by decide +kernel,rfl,by decide +kernel,by decide +kernel⟩
theorem sts_rep {H:Hp} {a:Stp} {r:V} (h:StAt H a r):∀ j,StsAt H (List.replicate j a) (List.replicate j [r]).flatten
 | 0=>.nil
 | j + 1=>by
  rw [List.replicate_succ,List.replicate_succ,List.flatten_cons]
  exact .cons h (sts_rep h j)
theorem ok_leave_all {f C:Addr} {fd:FuncData} (F:Fun K "leave_all" "leave_all" s_leave_all f fd) (T:TxR K mg C) (X:TxX K mg) (GL:MtS P w K mg base CX0 C 1 "leave" ["self","many"] (spLeave C)):FnOk P w K mg base CX0 2 f fd ["reader","steps","many","operator"] (spLeaveAll C):=by
 obtain ⟨fL,fdL,mL,GL,bL⟩:=GL.ex
 obtain ⟨t1,m1⟩:=X.one
 refine F.ok sc_leave_all (fun vs H Q E h=>?_) (fun cdv A outer s H vs Q E hr h=>?_)
 ·obtain ⟨p,l,st,ws,n,k,j,xs,op,rfl,_⟩:=h
  rfl
 ·obtain ⟨p,l,st,ws,n,k,j,xs,op,rfl,R,hst,hne,hxs,hj,q⟩:=h
  refine ⟨_,pss_cons (ps_expr (pe_meth (pv 0) T.cl mL GL hr bL .nil pass0 (pa_cons (pv 2) pa_nil)))
   (pss_one (ps_expr (pe_bm PySem.F.plainAttrs_list PySem.F.slot_list_extend PySem.F.type_list_extend mt_extend (pv 1)
    (pa_cons (pe_op op_rep (pe_lst (pa_cons (pe_tup (pa_cons (pe_glob (by rfl) m1 (v:=.str "one") ⟨_,rfl⟩) (pa_cons (pv 3) (pa_cons pe_int pa_nil)))) pa_nil)) (pv 2)) pa_nil)))),?_⟩
  obtain ⟨dx,g1⟩:=R.ob
  have hps:st ≠ p:=ne_of hst g1 (by intro z; cases z)
  refine ⟨_,rfl,p,dx,_,rfl,g1,nm _ (by decide +kernel) (by decide +kernel) (by decide +kernel) ..,_,rfl,p,l,ws,n,k,j,rfl,R,fun H1 s1 R1=>?_⟩
  have h1:H1 st = some (.lst xs):=s1 _ _ hst (by simpa using hps)
  refine ⟨_,rfl,.inl ⟨rfl,_,SqL.of h1⟩,_,rfl,by show 3 ≤ sizeLine; decide,fun t ht=>?_⟩
  have s2:Same H1 (upd H1 t (.tup [.str "one",.str op,.int 0])):=same_upd ht
  refine ⟨by show 1 ≤ sizeLine; decide,fun b hb=>?_⟩
  have s3:=same_upd (o:=.lst [V.ref t]) hb
  refine ⟨_,rfl,b,(j:Int),_,rfl,rfl,upd_same,by omega,by omega,?_,fun c hc=>?_⟩
  ·show 1 * ((j:Int).toNat) ≤ sizeLine
   rw [sizeLine_eq]; omega
  ·have s4:=same_upd (o:=.lst (List.replicate (j:Int).toNat [V.ref t]).flatten) hc
   have s5:=s2.trans (s3.trans s4)
   have hz:(List.replicate (j:Int).toNat [V.ref t]).flatten.length = j:=by rw [len_rep]; simp
   refine ⟨st,c,xs,_,rfl,rfl,s5 _ _ h1,upd_same,by rw [hz,sizeLine_eq]; omega,?_⟩
   have ht':upd (upd (upd H1 t (.tup [.str "one",.str op,.int 0])) b (.lst [V.ref t])) c (.lst (List.replicate (j:Int).toNat [V.ref t]).flatten) t = some (.tup [.str "one",.str op,.int 0]):=s4 _ _ (s3 _ _ upd_same)
   have nt:t ≠ st:=ne_of ht' (s5 _ _ h1) (by intro z; cases z)
   refine q _ _ (Step.put (Step.trans (s1.mono fun a m=>by rcases List.mem_singleton.mp m with rfl; exact .head _) (Same.step s5)) (.tail _ (.head _))) ?_ upd_same ?_
   ·have R5:=R1.same s5
    obtain ⟨dy,g5⟩:=R5.ob
    exact R5.move (A:=[st]) Step.at1 (fun a m=>by rcases List.mem_singleton.mp m with rfl; exact ⟨hne,fun ys z=>by rw [s5 _ _ h1] at z; cases z⟩) ⟨dy,by rw [upd_ne (Ne.symm hps)]; exact g5⟩
   ·exact sts_rep ⟨t,rfl,by rw [upd_ne nt]; exact ht'⟩ j
end
structure Mid (C:Addr) (p l st:Addr) (ws:List Wd) (xs:List V) (H0 H:Hp) (ss:List Stp) (n k:Nat):Prop where
 step:Step [p,st] H0 H
 rd:RdAt C H p l ws n k
 at_:∃ ys,H st = some (.lst (xs ++ ys))∧StsAt H ss ys
theorem Mid.start {C p l st:Addr} {ws:List Wd} {xs:List V} {H:Hp} {n k:Nat} (R:RdAt C H p l ws n k) (h:H st = some (.lst xs)):Mid C p l st ws xs H H [] n k :=
 ⟨Step.refl H,R,[],by rw [List.append_nil]; exact h,.nil⟩
theorem Mid.same {C p l st:Addr} {ws:List Wd} {xs:List V} {H0 H H':Hp} {ss:List Stp} {n k:Nat} (M:Mid C p l st ws xs H0 H ss n k) (s:Same H H'):Mid C p l st ws xs H0 H' ss n k:=by
 obtain ⟨ys,h1,h2⟩:=M.at_
 exact ⟨M.step.trans (Same.step s),M.rd.same s,ys,s _ _ h1,L2.Paired.imp' (fun _ _ z=>z.same s) h2⟩
theorem Mid.apart {C p l st:Addr} {ws:List Wd} {xs:List V} {H0 H:Hp} {ss:List Stp} {n k:Nat} (M:Mid C p l st ws xs H0 H ss n k):st ≠ p∧∀ o,H st = some o→(∀ ys,o ≠ .tup ys)∧∀ ob u,o ≠ .frz ob u:=by
 obtain ⟨ys,h1,_⟩:=M.at_
 obtain ⟨dx,g⟩:=M.rd.ob
 refine ⟨ne_of h1 g (by intro z; cases z),fun o e=>?_⟩
 rw [h1] at e
 cases e
 exact ⟨fun _ z=>(by cases z),fun _ _ z=>(by cases z)⟩
theorem Mid.goes {C p l st:Addr} {ws:List Wd} {xs:List V} {H0 H H':Hp} {ss:List Stp} {n k n' k':Nat} (M:Mid C p l st ws xs H0 H ss n k) (s:Step [p] H H') (R:RdAt C H' p l ws n' k'):Mid C p l st ws xs H0 H' ss n' k':=by
 obtain ⟨ys,h1,h2⟩:=M.at_
 have ap:=M.apart.1
 have tp:∀ b zs,H b = some (.tup zs)→H' b = some (.tup zs):=fun b zs z=>s _ _ z fun m=>by
  rcases List.mem_singleton.mp m with rfl
  exact M.rd.apart.2 _ z
 exact ⟨M.step.trans (s.mono fun a m=>by rcases List.mem_singleton.mp m with rfl; exact .head _),R,ys,s _ _ h1 (by simpa using ap),L2.Paired.imp' (fun _ _ z=>z.tups tp) h2⟩
theorem Mid.more {C p l st:Addr} {ws:List Wd} {xs zs:List V} {H0 H H':Hp} {ss ss2:List Stp} {n k n' k':Nat} (M:Mid C p l st ws xs H0 H ss n k) (s:Step [p,st] H H') (R:RdAt C H' p l ws n' k') {ys:List V} (hys:H st = some (.lst (xs ++ ys))) (hss:StsAt H ss ys)
  (h:H' st = some (.lst (xs ++ ys ++ zs))) (h2:StsAt H' ss2 zs):Mid C p l st ws xs H0 H' (ss ++ ss2) n' k':=by
 have tp:∀ b us,H b = some (.tup us)→H' b = some (.tup us):=fun b us z=>s _ _ z fun m=>by
  rcases List.mem_cons.mp m with rfl | m
  ·exact M.rd.apart.2 _ z
  ·rcases List.mem_singleton.mp m with rfl
   exact (M.apart.2 _ z).1 _ rfl
 refine ⟨M.step.trans s,R,ys ++ zs,by rw [← List.append_assoc]; exact h,?_⟩
 have a:StsAt H' ss ys:=L2.Paired.imp' (fun _ _ z=>z.tups tp) hss
 clear hss hys h M
 induction a with
 | nil=>exact h2
 | cons x r ih=>exact .cons x ih
theorem Mid.put {C p l st t:Addr} {ws:List Wd} {xs ys:List V} {H0 H:Hp} {ss:List Stp} {n k:Nat} (M:Mid C p l st ws xs H0 H ss n k) (hne:st ≠ l) (a:Stp) (ht:H t = some (.tup [.str a.1,a.2.1,.int a.2.2])) (hys:H st = some (.lst (xs ++ ys))) (hss:StsAt H ss ys) :
  Mid C p l st ws xs H0 (upd H st (.lst (xs ++ ys ++ [.ref t]))) (ss ++ [a]) n k:=by
 obtain ⟨dx,g⟩:=M.rd.ob
 have ap:=M.apart
 have nt:t ≠ st:=ne_of ht hys (by intro z; cases z)
 refine M.more (zs:=[.ref t]) (fun b o e m=>?_) (M.rd.move (A:=[st]) Step.at1 (fun c m=>by rcases List.mem_singleton.mp m with rfl; exact ⟨hne,fun us z=>(ap.2 _ z).1 _ rfl⟩) ⟨dx,by rw [upd_ne (Ne.symm ap.1)]; exact g⟩) hys hss upd_same (.cons ⟨t,rfl,by rw [upd_ne nt]; exact ht⟩ .nil)
 rw [upd_ne (fun z=>m (by rw [z]; exact .tail _ (.head _)))]
 exact e
theorem Mid.len {C p l st:Addr} {ws:List Wd} {xs:List V} {H0 H:Hp} {ss:List Stp} {n k:Nat} (M:Mid C p l st ws xs H0 H ss n k) {ys:List V} (hss:StsAt H ss ys):ys.length = ss.length:=(Paired.length hss).symm
theorem Mid.fin {CW C p l st:Addr} {ws:List Wd} {xs:List V} {H H':Hp} {ss:List Stp} {n' k:Nat} {E:XK} {Q:Hp→Prop} (M:Mid C p l st ws xs H H' ss n' k) (q:Yields CW C p l st ws k xs H E (.ok (ss,n')) Q):Q H':=by
 obtain ⟨ys,h1,h2⟩:=M.at_
 exact q H' ys M.step M.rd h1 h2
theorem Mid.room {C p l st:Addr} {ws:List Wd} {xs ys:List V} {H0 H:Hp} {ss:List Stp} {n k n0:Nat} (M:Mid C p l st ws xs H0 H ss n k) (hss:StsAt H ss ys) (hx:xs.length ≤ n0) (h0:n0 ≤ ws.length) (hs:ss.length ≤ ws.length):(xs ++ ys).length < sizeLine:=by
 have:=M.len hss
 have:=M.rd.len
 rw [List.length_append,sizeLine_eq]
 omega
section
variable {P:Program} {w:World} {K:PySem.W.Frag} {mg:Str→Option Value} {base:Heap}
structure RdS (P:Program) (w:World) (K:PySem.W.Frag) (mg:Str→Option Value) (base:Heap) (C CW:Addr):Prop where
 look:MtS P w K mg base CX0 C 1 "look" ["self"] (spLook C)
 sees:MtS P w K mg base CX0 C 2 "sees" ["self","choices"] (spSees K C)
 take:MtS P w K mg base CX0 C 2 "take" ["self"] (spTake C)
 takeIf:MtS P w K mg base CX0 C 3 "take_if" ["self","written"] (spTakeIf C)
 takeAll:MtS P w K mg base (CX2 P w) C 4 "take_all" ["self","expected"] (spTakeAll K C CW)
 takeKind:MtS P w K mg base (CX2 P w) C 4 "take_kind" ["self","kind"] (spTakeKind C CW)
 takeName:MtS P w K mg base (CX2 P w) C 5 "take_name" ["self"] (spTakeName C CW)
 enter:MtS P w K mg base (CX2 P w) C 4 "enter" ["self"] (spEnter C CW)
 leave:MtS P w K mg base CX0 C 1 "leave" ["self","many"] (spLeave C)
 refuse:MtS P w K mg base (CX2 P w) C 3 "refuse" ["self"] (spRefuse C CW)
theorem sc_read_last:FnScope ["reader","steps","kind","named"] ["reader","steps"] (defScope s_read_last):=⟨rfl,rfl,rfl,by decide +kernel,rfl,by decide +kernel,by decide +kernel⟩
theorem iteEq {x y:Str} {A B:Prop} (h1:x = y→A) (h2:x ≠ y→B):if decide (V.str x = V.str y) = true then A else B:=by
 by_cases e:x = y
 ·rw [decide_eq_true (by rw [e])]
  exact iteT (h1 e)
 ·have:¬ V.str x = V.str y:=fun z=>e (V.str.inj z)
  rw [decide_eq_false this]
  exact iteF (h2 e)
theorem fail_mono {CW:Addr} {A B:List Addr} {H H1:Hp} {E:XK} {e:Nat} (q:Fails CW B H E e) (s:Step B H H1) (h:∀ a ∈ A,a ∈ B):Fails CW A H1 E e:=fun d H' s' hd=>q d H' (s.trans (s'.mono h)) hd
theorem ok_read_last {f C CW:Addr} {fd:FuncData} {L d:Nat} (F:Fun K "read_last" "read_last" s_read_last f fd) (T:TxR K mg C) (X:TxX K mg) (S:RdS P w K mg base C CW) (hL:5 ≤ L) (G:FnV P w K mg base (CX2 P w) L "read_or" ["reader","steps"] (spExp CW C (pOr d) d)) :
  FnOk P w K mg base (CX2 P w) (L + 1) f fd ["reader","steps"] (spExp CW C (pLast (pOr d)) (d + 1)):=by
 obtain ⟨fL,fdL,mL,GL,bL⟩:=S.look.ex
 obtain ⟨fS,fdS,mS,GS,bS⟩:=S.sees.ex
 obtain ⟨fT,fdT,mT,GT,bT⟩:=S.take.ex
 obtain ⟨fA,fdA,mA,GA,bA⟩:=S.takeAll.ex
 obtain ⟨fN,fdN,mN,GN,bN⟩:=S.takeName.ex
 obtain ⟨fE,fdE,mE,GE,bE⟩:=S.enter.ex
 obtain ⟨fV,fdV,mV,GV,bV⟩:=S.leave.ex
 obtain ⟨fO,fdO,mO,kO,GO,bO⟩:=G.ex
 obtain ⟨tn,n1⟩:=T.name
 obtain ⟨tu,n2⟩:=T.number
 obtain ⟨tt,n3⟩:=T.text
 obtain ⟨tv,n4⟩:=X.value
 obtain ⟨tc,n5⟩:=X.column
 refine F.okV sc_read_last (fun vs H Q E h=>?_) (fun cdv A outer s H vs Q E hr h=>?_)
 ·obtain ⟨p,l,st,ws,n,k,xs,rfl,_⟩:=h
  rfl
 ·obtain ⟨p,l,st,ws,n,k,xs,rfl,R,hst,hne,hxs,hn,hk,hd,q⟩:=h
  have r1:Room 1 _:=hr.mono (by omega)
  have r2:Room 2 _:=hr.mono (by omega)
  have r4:Room 4 _:=hr.mono (by omega)
  have r5:Room 5 _:=hr.mono (by omega)
  refine ⟨_,pss_cons (ps_set (i:=2) sc_read_last.nd rfl (Or.inl rfl) (pe_ix ix_tup (pe_meth0 (pv 0) T.cl mL GL r1 bL .nil pass0) pe_int (fun _ _=>rfl)))
   (pss_one (ps_if (pt_cmpR op_eq (pv 2) (pe_glob (by rfl) n1 (v:=.str "name") ⟨_,rfl⟩) (nomark _))
    (pss_cons (ps_set (i:=3) sc_read_last.nd rfl (Or.inl rfl) (pe_meth0 (pv 0) T.cl mN GN r5 bN .nil passV))
     (pss_one (ps_expr (pe_bm PySem.F.plainAttrs_list PySem.F.slot_list_append PySem.F.type_list_append mt_append (pv 1) (pa_cons (pe_tup (pa_cons (pe_glob (by rfl) n5 (v:=.str "column") ⟨_,rfl⟩) (pa_cons (pe_ix ix_tup (pv 3) pe_int (fun _ _=>rfl)) (pa_cons (pe_ix ix_tup (pv 3) pe_int (fun _ _=>rfl)) pa_nil)))) pa_nil)))))
    (pss_one (ps_if (pt_cmpR op_in_seq (pv 2) (pe_tup (pa_cons (pe_glob (by rfl) n2 (v:=.str "number") ⟨_,rfl⟩) (pa_cons (pe_glob (by rfl) n3 (v:=.str "text") ⟨_,rfl⟩) pa_nil))) (by rfl))
     (pss_one (ps_expr (pe_bm PySem.F.plainAttrs_list PySem.F.slot_list_append PySem.F.type_list_append mt_append (pv 1) (pa_cons (pe_tup (pa_cons (pe_glob (by rfl) n4 (v:=.str "value") ⟨_,rfl⟩) (pa_cons (pe_meth0 (pv 0) T.cl mT GT r2 bT .nil pass0) (pa_cons pe_int pa_nil)))) pa_nil))))
     (pss_one (ps_if (pt_val (pe_meth (pv 0) T.cl mS GS r2 bS .nil pass0 (pa_cons (pe_tup (pa_cons pe_str pa_nil)) pa_nil)))
      (pss_cons (ps_expr (pe_meth0 (pv 0) T.cl mE GE r4 bE .nil passV))
       (pss_cons (ps_expr (pe_call GO hr (by rfl) mO kO bO .nil passV (pa_cons (pv 0) (pa_cons (pv 1) pa_nil))))
       (pss_cons (ps_expr (pe_meth (pv 0) T.cl mA GA r4 bA .nil passV (pa_cons (pe_tup (pa_cons pe_str pa_nil)) pa_nil)))
       (pss_one (ps_expr (pe_meth (pv 0) T.cl mV GV r1 bV .nil pass0 (pa_cons pe_int pa_nil)))))))
      (pss_cons (ps_expr (pe_meth (pv 0) T.cl mA GA r4 bA .nil passV (pa_cons (pe_tup (pa_cons pe_str pa_nil)) pa_nil)))
       (pss_one (ps_expr (pe_bm PySem.F.plainAttrs_list PySem.F.slot_list_append PySem.F.type_list_append mt_append (pv 1) (pa_cons (pe_tup (pa_cons (pe_glob (by rfl) n4 (v:=.str "value") ⟨_,rfl⟩) (pa_cons pe_non (pa_cons pe_int pa_nil)))) pa_nil))))))))))),?_⟩
  have M0:=Mid.start (xs:=xs) R hst
  have hw0:n ≤ 1000000:=Nat.le_trans hn R.len
  have hw:n ≤ 1000100:=by omega
  obtain ⟨dx,g1⟩:=R.ob
  refine ⟨_,rfl,p,dx,_,rfl,g1,nm _ (by decide +kernel) (by decide +kernel) (by decide +kernel) ..,p,l,ws,n,k,rfl,R,fun t H1 s1 ht=>?_⟩
  have M1:=M0.same s1
  obtain ⟨dy,g2⟩:=M1.rd.ob
  refine ⟨t,_,0,_,rfl,rfl,SqT.of ht,rfl,?_⟩
  refine ⟨_,rfl,rfl,_,rfl,iteEq (fun e=>?_) (fun ne=>?_)⟩
  ·unfold pLast at q
   rw [if_pos e] at q
   refine ⟨_,rfl,p,dy,_,rfl,g2,nm _ (by decide +kernel) (by decide +kernel) (by decide +kernel) ..,p,l,ws,n,k,rfl,hw,M1.rd,fun _ t2 H2 s2 R2 ht2=>?_,fun z=>absurd e z⟩
   have M2:=M1.goes s2 R2
   obtain ⟨ys,h1,h2⟩:=M2.at_
   refine ⟨_,rfl,.inl ⟨rfl,_,SqL.of h1⟩,_,rfl,t2,_,0,_,rfl,rfl,SqT.of ht2,rfl,_,rfl,t2,_,1,_,rfl,rfl,SqT.of ht2,rfl,by show 3 ≤ sizeLine; decide,fun t3 ht3=>?_⟩
   have s3:=same_upd (o:=.tup [.str "column",(lookW ws n).2,.int ((n + 1:Nat):Int)]) ht3
   have M3:=M2.same s3
   have h2':=L2.Paired.imp' (fun _ _ z=>StAt.same s3 z) h2
   exact ⟨st,xs ++ ys,_,rfl,rfl,s3 _ _ h1,M3.room h2' hxs hn (Nat.zero_le _),(M3.put hne ("column",(lookW ws n).2,((n + 1:Nat):Int)) upd_same (s3 _ _ h1) h2').fin q⟩
  ·unfold pLast at q
   rw [if_neg ne] at q
   refine ⟨_,rfl,by show 2 ≤ sizeLine; decide,fun t2 ht2=>⟨t2,_,rfl,.inr (SqT.of upd_same),rfl,rfl,_,rfl,?_⟩⟩
   have s2:=same_upd (o:=.tup [V.str "number",V.str "text"]) ht2
   have M2:=M1.same s2
   have g3:=s2 _ _ g2
   show if (inV (.str (lookW ws n).1) [.str "number",.str "text"]) = true then _ else _
   refine iteB (fun hi=>?_) (fun hi=>?_)
   ·rw [if_pos hi] at q
    obtain ⟨ys0,k1,_⟩:=M2.at_
    refine ⟨_,rfl,.inl ⟨rfl,_,SqL.of k1⟩,_,rfl,p,dy,_,rfl,g3,nm _ (by decide +kernel) (by decide +kernel) (by decide +kernel) ..,p,l,ws,n,k,rfl,M2.rd,fun H3 s3 R3=>?_⟩
    have M3:=M2.goes s3 R3
    obtain ⟨ys,h1,h2⟩:=M3.at_
    refine ⟨by show 3 ≤ sizeLine; decide,fun t4 ht4=>?_⟩
    have s4:=same_upd (o:=.tup [.str "value",(lookW ws n).2,.int 0]) ht4
    have M4:=M3.same s4
    have h2':=L2.Paired.imp' (fun _ _ z=>StAt.same s4 z) h2
    exact ⟨st,xs ++ ys,_,rfl,rfl,s4 _ _ h1,M4.room h2' hxs hn (Nat.zero_le _),(M4.put hne ("value",(lookW ws n).2,0) upd_same (s4 _ _ h1) h2').fin q⟩
   ·rw [if_neg (by rw [hi]; decide)] at q
    refine ⟨_,rfl,p,dy,_,rfl,g3,nm _ (by decide +kernel) (by decide +kernel) (by decide +kernel) ..,by show 1 ≤ sizeLine; decide,fun t3 ht3=>?_⟩
    have s3:=same_upd (o:=.tup [V.str "("]) ht3
    have M3:=M2.same s3
    refine ⟨p,l,t3,ws,n,k,[.str "("],rfl,M3.rd,.inr (SqT.of upd_same),rfl,fun H4 s4=>⟨_,rfl,?_⟩⟩
    have M4:=M3.same s4
    obtain ⟨dz,g4⟩:=M4.rd.ob
    refine iteB (fun hs=>?_) (fun hs=>?_)
    ·rw [if_pos hs] at q
     refine ⟨_,rfl,p,dz,_,rfl,g4,nm _ (by decide +kernel) (by decide +kernel) (by decide +kernel) ..,p,l,ws,n,k,rfl,hw,M4.rd,fun hk24 H5 s5 R5=>?_,fun hk24=>?_⟩
     ·rw [if_pos hk24] at q
      have M5:=M4.goes s5 R5
      obtain ⟨ys,h1,h2⟩:=M5.at_
      have yl:=M5.len h2
      refine ⟨_,rfl,_,rfl,p,l,st,ws,n + 1,k + 1,xs ++ ys,rfl,R5,h1,hne,by rw [List.length_append,yl]; show _ + 0 ≤ _; omega,sees_lt hs,hk24,by omega,?_⟩
      cases eb:pOr d ws (n + 1) (k + 1) with
      | error e =>
       rw [eb] at q
       exact fail_mono q M5.step fun _ m=>m
      | ok a =>
       obtain ⟨ss,n'⟩:=a
       rw [eb] at q
       intro H6 zs s6 R6 h6 k6
       have M6:Mid C p l st ws xs H H6 ([] ++ ss) n' (k + 1):=M5.more s6 R6 h1 h2 h6 k6
       obtain ⟨gx1,gx2,gx3⟩:=good_or d ws (n + 1) (k + 1) ss n' (sees_lt hs) eb
       obtain ⟨du,g6⟩:=R6.ob
       refine ⟨_,rfl,p,du,_,rfl,g6,nm _ (by decide +kernel) (by decide +kernel) (by decide +kernel) ..,by show 1 ≤ sizeLine; decide,fun t7 ht7=>?_⟩
       have s7:=same_upd (o:=.tup [V.str ")"]) ht7
       have M7:=M6.same s7
       refine ⟨p,l,t7,ws,n',k + 1,[")"],rfl,by show n' + 1 ≤ 1000100; have:=R.len; omega,M7.rd,SqT.of upd_same,?_⟩
       cases ea:tAll ws n' [")"] with
       | error e =>
        dsimp only at q
        rw [ea] at q
        exact fail_mono q M7.step fun a m=>by rcases List.mem_singleton.mp m with rfl; exact .head _
       | ok n2 =>
        dsimp only at q
        rw [ea] at q
        intro H8 s8 R8
        have M8:=M7.goes s8 R8
        obtain ⟨dv,g8⟩:=R8.ob
        exact ⟨_,rfl,p,dv,_,rfl,g8,nm _ (by decide +kernel) (by decide +kernel) (by decide +kernel) ..,p,l,ws,n2,k,1,rfl,R8,fun H9 s9 R9=>(M8.goes s9 R9).fin q⟩
     ·rw [if_neg (by omega)] at q
      exact fail_mono q M4.step fun _ m=>nomatch m
    ·rw [if_neg (by rw [hs]; decide)] at q
     refine ⟨_,rfl,p,dz,_,rfl,g4,nm _ (by decide +kernel) (by decide +kernel) (by decide +kernel) ..,by show 1 ≤ sizeLine; decide,fun t5 ht5=>?_⟩
     have s5:=same_upd (o:=.tup [V.str "null"]) ht5
     have M5:=M4.same s5
     refine ⟨p,l,t5,ws,n,k,["null"],rfl,by show n + 1 ≤ 1000100; omega,M5.rd,SqT.of upd_same,?_⟩
     cases ea:tAll ws n ["null"] with
     | error e =>
      rw [ea] at q
      exact fail_mono q M5.step fun a m=>by rcases List.mem_singleton.mp m with rfl; exact .head _
     | ok n2 =>
      rw [ea] at q
      intro H6 s6 R6
      have M6:=M5.goes s6 R6
      obtain ⟨ys,h1,h2⟩:=M6.at_
      refine ⟨_,rfl,.inl ⟨rfl,_,SqL.of h1⟩,by show 3 ≤ sizeLine; decide,fun t7 ht7=>?_⟩
      have s7:=same_upd (o:=.tup [.str "value",.non,.int 0]) ht7
      have M7:=M6.same s7
      have h2':=L2.Paired.imp' (fun _ _ z=>StAt.same s7 z) h2
      exact ⟨st,xs ++ ys,_,rfl,rfl,s7 _ _ h1,M7.room h2' hxs hn (Nat.zero_le _),(M7.put hne ("value",.non,0) upd_same (s7 _ _ h1) h2').fin q⟩
end
section
variable {P:Program} {w:World} {K:PySem.W.Frag} {mg:Str→Option Value} {base:Heap}
theorem loopP_err {op:Nat→Option V} {one:Nat→RR (List Stp × Nat)} {m n e:Nat} {acc:List Stp} {v:V} (hv:op n = some v) (h:one (n + 1) = .error e):loopP op one (m + 1) acc n = .error e:=by
 rw [loopP,hv]
 dsimp only
 rw [h]
theorem loopP_ok {op:Nat→Option V} {one:Nat→RR (List Stp × Nat)} {m n n':Nat} {acc ss:List Stp} {v:V} (hv:op n = some v) (h:one (n + 1) = .ok (ss,n')):loopP op one (m + 1) acc n = loopP op one m (acc ++ ss ++ [stTwo v]) n':=by
 rw [loopP,hv]
 dsimp only
 rw [h]
theorem loopP_end {op:Nat→Option V} {one:Nat→RR (List Stp × Nat)} {m n:Nat} {acc:List Stp} (hv:op n = none):loopP op one (m + 1) acc n = .ok (acc,n):=by
 rw [loopP,hv]
theorem sc_read_minus:FnScope ["reader","steps","many"] ["reader","steps"] (defScope s_read_minus):=⟨rfl,rfl,rfl,by decide +kernel,rfl,by decide +kernel,by decide +kernel⟩
theorem ok_read_minus {f C CW:Addr} {fd:FuncData} {L d:Nat} {g:PF} (F:Fun K "read_minus" "read_minus" s_read_minus f fd) (hL:5 ≤ L) (GE:FnV P w K mg base (CX2 P w) 5 "enter_all" ["reader","written"] (spEnterAll CW C)) (GV:FnV P w K mg base CX0 2 "leave_all" ["reader","steps","many","operator"] (spLeaveAll C))
  (G:FnV P w K mg base (CX2 P w) L "read_last" ["reader","steps"] (spExp CW C g d)) (gd:Good g):FnOk P w K mg base (CX2 P w) (L + 1) f fd ["reader","steps"] (spExp CW C (pPre "-" "minus" g) d):=by
 obtain ⟨fE,fdE,mE,kE,GE,bE⟩:=GE.ex
 obtain ⟨fV,fdV,mV,kV,GV,bV⟩:=GV.ex
 obtain ⟨fO,fdO,mO,kO,GO,bO⟩:=G.ex
 refine F.okV sc_read_minus (fun vs H Q E h=>?_) (fun cdv A outer s H vs Q E hr h=>?_)
 ·obtain ⟨p,l,st,ws,n,k,xs,rfl,_⟩:=h
  rfl
 ·obtain ⟨p,l,st,ws,n,k,xs,rfl,R,hst,hne,hxs,hn,hk,hd,q⟩:=h
  have r2:Room 2 _:=hr.mono (by omega)
  have r5:Room 5 _:=hr.mono (by omega)
  refine ⟨_,pss_cons (ps_set (i:=2) sc_read_minus.nd rfl (Or.inl rfl) (pe_call GE r5 (by rfl) mE kE bE .nil passV (pa_cons (pv 0) (pa_cons pe_str pa_nil))))
   (pss_cons (ps_expr (pe_call GO hr (by rfl) mO kO bO .nil passV (pa_cons (pv 0) (pa_cons (pv 1) pa_nil))))
   (pss_one (ps_expr (pe_call GV r2 (by rfl) mV kV bV .nil pass0 (pa_cons (pv 0) (pa_cons (pv 1) (pa_cons (pv 2) (pa_cons pe_str pa_nil)))))))),?_⟩
  have M0:=Mid.start (xs:=xs) R hst
  unfold pPre at q
  refine ⟨_,rfl,p,l,ws,n,k,"-",rfl,R,hn,hk,?_⟩
  cases ee:enterP ws "-" 25 n k with
  | error e =>
   rw [ee] at q
   exact fail_mono q M0.step fun a m=>by rcases List.mem_singleton.mp m with rfl; exact .head _
  | ok a =>
   obtain ⟨n1,k1⟩:=a
   rw [ee] at q
   dsimp only at q
   obtain ⟨a1,a2,a3,a4⟩:=enterP_ok hn ee
   have k24:=a4 hk
   intro H1 s1 R1
   have M1:=M0.goes s1 R1
   obtain ⟨ys,h1,h2⟩:=M1.at_
   have yl:=M1.len h2
   refine ⟨_,rfl,_,rfl,p,l,st,ws,n1,k1,xs ++ ys,rfl,R1,h1,hne,by rw [List.length_append,yl]; show _ + 0 ≤ _; omega,a3,k24,by omega,?_⟩
   cases eb:g ws n1 k1 with
   | error e =>
    rw [eb] at q
    exact fail_mono q M1.step fun _ m=>m
   | ok b =>
    obtain ⟨ss,n2⟩:=b
    rw [eb] at q
    obtain ⟨b1,b2,b3⟩:=gd ws n1 k1 ss n2 a3 eb
    intro H2 zs s2 R2 h3 k3
    have M2:Mid C p l st ws xs H H2 ([] ++ ss) n2 k1:=M1.more s2 R2 h1 h2 h3 k3
    obtain ⟨us,h5,h6⟩:=M2.at_
    have ul:=M2.len h6
    have wl:=R.len
    have ek:k + (k1 - k) = k1:=by omega
    refine ⟨_,rfl,_,rfl,_,rfl,p,l,st,ws,n2,k,k1 - k,xs ++ us,"minus",rfl,by rw [ek]; exact R2,h5,hne,by rw [List.length_append,ul]; show _ + ss.length ≤ _; omega,by omega,fun H3 vs s3 R3 h7 k7=>(M2.more s3 R3 h5 h6 h7 k7).fin q⟩
theorem sc_read_not:FnScope ["reader","steps","many"] ["reader","steps"] (defScope s_read_not):=⟨rfl,rfl,rfl,by decide +kernel,rfl,by decide +kernel,by decide +kernel⟩
theorem ok_read_not {f C CW:Addr} {fd:FuncData} {L d:Nat} {g:PF} (F:Fun K "read_not" "read_not" s_read_not f fd) (hL:5 ≤ L) (GE:FnV P w K mg base (CX2 P w) 5 "enter_all" ["reader","written"] (spEnterAll CW C)) (GV:FnV P w K mg base CX0 2 "leave_all" ["reader","steps","many","operator"] (spLeaveAll C))
  (G:FnV P w K mg base (CX2 P w) L "read_comparison" ["reader","steps"] (spExp CW C g d)) (gd:Good g):FnOk P w K mg base (CX2 P w) (L + 1) f fd ["reader","steps"] (spExp CW C (pPre "not" "not" g) d):=by
 obtain ⟨fE,fdE,mE,kE,GE,bE⟩:=GE.ex
 obtain ⟨fV,fdV,mV,kV,GV,bV⟩:=GV.ex
 obtain ⟨fO,fdO,mO,kO,GO,bO⟩:=G.ex
 refine F.okV sc_read_not (fun vs H Q E h=>?_) (fun cdv A outer s H vs Q E hr h=>?_)
 ·obtain ⟨p,l,st,ws,n,k,xs,rfl,_⟩:=h
  rfl
 ·obtain ⟨p,l,st,ws,n,k,xs,rfl,R,hst,hne,hxs,hn,hk,hd,q⟩:=h
  have r2:Room 2 _:=hr.mono (by omega)
  have r5:Room 5 _:=hr.mono (by omega)
  refine ⟨_,pss_cons (ps_set (i:=2) sc_read_not.nd rfl (Or.inl rfl) (pe_call GE r5 (by rfl) mE kE bE .nil passV (pa_cons (pv 0) (pa_cons pe_str pa_nil))))
   (pss_cons (ps_expr (pe_call GO hr (by rfl) mO kO bO .nil passV (pa_cons (pv 0) (pa_cons (pv 1) pa_nil))))
   (pss_one (ps_expr (pe_call GV r2 (by rfl) mV kV bV .nil pass0 (pa_cons (pv 0) (pa_cons (pv 1) (pa_cons (pv 2) (pa_cons pe_str pa_nil)))))))),?_⟩
  have M0:=Mid.start (xs:=xs) R hst
  unfold pPre at q
  refine ⟨_,rfl,p,l,ws,n,k,"not",rfl,R,hn,hk,?_⟩
  cases ee:enterP ws "not" 25 n k with
  | error e =>
   rw [ee] at q
   exact fail_mono q M0.step fun a m=>by rcases List.mem_singleton.mp m with rfl; exact .head _
  | ok a =>
   obtain ⟨n1,k1⟩:=a
   rw [ee] at q
   dsimp only at q
   obtain ⟨a1,a2,a3,a4⟩:=enterP_ok hn ee
   have k24:=a4 hk
   intro H1 s1 R1
   have M1:=M0.goes s1 R1
   obtain ⟨ys,h1,h2⟩:=M1.at_
   have yl:=M1.len h2
   refine ⟨_,rfl,_,rfl,p,l,st,ws,n1,k1,xs ++ ys,rfl,R1,h1,hne,by rw [List.length_append,yl]; show _ + 0 ≤ _; omega,a3,k24,by omega,?_⟩
   cases eb:g ws n1 k1 with
   | error e =>
    rw [eb] at q
    exact fail_mono q M1.step fun _ m=>m
   | ok b =>
    obtain ⟨ss,n2⟩:=b
    rw [eb] at q
    obtain ⟨b1,b2,b3⟩:=gd ws n1 k1 ss n2 a3 eb
    intro H2 zs s2 R2 h3 k3
    have M2:Mid C p l st ws xs H H2 ([] ++ ss) n2 k1:=M1.more s2 R2 h1 h2 h3 k3
    obtain ⟨us,h5,h6⟩:=M2.at_
    have ul:=M2.len h6
    have wl:=R.len
    have ek:k + (k1 - k) = k1:=by omega
    refine ⟨_,rfl,_,rfl,_,rfl,p,l,st,ws,n2,k,k1 - k,xs ++ us,"not",rfl,by rw [ek]; exact R2,h5,hne,by rw [List.length_append,ul]; show _ + ss.length ≤ _; omega,by omega,fun H3 vs s3 R3 h7 k7=>(M2.more s3 R3 h5 h6 h7 k7).fin q⟩
theorem sc_read_product:FnScope ["reader","steps"] ["reader","steps"] (defScope s_read_product):=⟨rfl,rfl,rfl,by decide +kernel,rfl,by decide +kernel,by decide +kernel⟩
theorem ok_read_product {f C CW:Addr} {fd:FuncData} {L d:Nat} {g:PF} (F:Fun K "read_product" "read_product" s_read_product f fd) (T:TxR K mg C) (X:TxX K mg) (S:RdS P w K mg base C CW) (hL:5 ≤ L)
  (G:FnV P w K mg base (CX2 P w) L "read_minus" ["reader","steps"] (spExp CW C g d)) (gd:Good g):FnOk P w K mg base (CX2 P w) (L + 1) f fd ["reader","steps"] (spExp CW C (pBin (opIf "*") g) d):=by
 obtain ⟨fI,fdI,mI,GI,bI⟩:=S.takeIf.ex
 obtain ⟨fS,fdS,mS,GS,bS⟩:=S.sees.ex
 obtain ⟨fT,fdT,mT,GT,bT⟩:=S.take.ex
 obtain ⟨fO,fdO,mO,kO,GO,bO⟩:=G.ex
 obtain ⟨t2,n2⟩:=X.two
 refine F.okV sc_read_product (fun vs H Q E h=>?_) (fun cdv A outer s H vs Q E hr h=>?_)
 ·obtain ⟨p,l,st,ws,n,k,xs,rfl,_⟩:=h
  rfl
 ·obtain ⟨p,l,st,ws,n,k,xs,rfl,R,hst,hne,hxs,hn,hk,hd,q⟩:=h
  have r2:Room 2 _:=hr.mono (by omega)
  have r3:Room 3 _:=hr.mono (by omega)
  refine ⟨_,pss_cons (ps_expr (pe_call GO hr (by rfl) mO kO bO .nil passV (pa_cons (pv 0) (pa_cons (pv 1) pa_nil))))
   (pss_one (ps_while PassesOwn.leaving (pt_val (pe_meth (pv 0) T.cl mI GI r3 bI .nil pass0 (pa_cons pe_str pa_nil)))
    ((pss_cons (ps_expr (pe_call GO hr (by rfl) mO kO bO .nil passV (pa_cons (pv 0) (pa_cons (pv 1) pa_nil))))
     (pss_one (ps_expr (pe_bm PySem.F.plainAttrs_list PySem.F.slot_list_append PySem.F.type_list_append mt_append (pv 1) (pa_cons (pe_tup (pa_cons (pe_glob (by rfl) n2 (v:=.str "two") ⟨_,rfl⟩) (pa_cons pe_str (pa_cons pe_int pa_nil)))) pa_nil)))))))),?_⟩
  have M0:=Mid.start (xs:=xs) R hst
  have wl:=R.len
  unfold pBin at q
  refine ⟨_,rfl,_,rfl,p,l,st,ws,n,k,xs,rfl,R,hst,hne,hxs,hn,hk,hd,?_⟩
  cases e1:g ws n k with
  | error e =>
   rw [e1] at q
   exact fail_mono q M0.step fun _ m=>m
  | ok a =>
   obtain ⟨ss,n1⟩:=a
   rw [e1] at q
   dsimp only at q
   obtain ⟨a1,a2,a3⟩:=gd ws n k ss n1 hn e1
   intro H1 ys s1 R1 h1 k1
   have M1:Mid C p l st ws xs H H1 ([] ++ ss) n1 k:=M0.more (ys:=[]) s1 R1 (by rw [List.append_nil]; exact hst) .nil (by rw [List.append_nil]; exact h1) k1
   refine ⟨fun m σ Hc=>∃ (n2:Nat) (ss2:List Stp),Mid C p l st ws xs H Hc ss2 n2 k∧n2 ≤ ws.length∧ss2.length + n ≤ n2∧ws.length + 1 ≤ m + n2∧loopP (opIf "*" ws) (fun j=>g ws j k) (ws.length + 1) ss n1 = loopP (opIf "*" ws) (fun j=>g ws j k) m ss2 n2∧σ = [some (V.ref p),some (V.ref st)],⟨ws.length + 1,n1,ss,M1,a2,a3,by omega,rfl,rfl⟩,?_⟩
   rintro m σ Hc ⟨n2,ss2,Mc,hn2,hs2,hm,el,rfl⟩
   obtain ⟨dx,g1⟩:=Mc.rd.ob
   have more:∀ (v:V),opIf "*" ws n2 = some v→∃ m',m = m' + 1:=fun v hv=>by
    have:=opIf_lt hv
    exact ⟨m - 1,by omega⟩
   have stop:opIf "*" ws n2 = none→Q .non = Q .non∧loopP (opIf "*" ws) (fun j=>g ws j k) m ss2 n2 = .ok (ss2,n2):=fun hv=>by
    refine ⟨rfl,?_⟩
    cases m with
    | zero=>rfl
    | succ m' =>
     exact loopP_end hv
   have turn:∀ (v:V) (H2:Hp),opIf "*" ws n2 = some v→Mid C p l st ws xs H H2 ss2 (n2 + 1) k→∃ N:St→Hp→Prop,(∀ σ' H',N σ' H'→∃ m',m' < m∧∃ (n2:Nat) (ss2:List Stp),Mid C p l st ws xs H H' ss2 n2 k∧n2 ≤ ws.length∧ss2.length + n ≤ n2∧ws.length + 1 ≤ m' + n2∧loopP (opIf "*" ws) (fun j=>g ws j k) (ws.length + 1) ss n1 = loopP (opIf "*" ws) (fun j=>g ws j k) m' ss2 n2∧σ' = [some (V.ref p),some (V.ref st)]) ∧
     spExp CW C g d [.ref p,.ref st] H2 (fun _ H3=>∃ ys,H3 st = some (.lst (xs ++ ys))∧(xs ++ ys).length < sizeLine∧∀ t,H3 t = none→N [some (V.ref p),some (V.ref st)] (upd (upd H3 t (.tup [.str "two",v,.int 0])) st (.lst (xs ++ ys ++ [.ref t])))) E:=fun v H2 hv M2=>by
    obtain ⟨m',rfl⟩:=more v hv
    have lt:=opIf_lt hv
    obtain ⟨ys2,h3,k3⟩:=M2.at_
    have yl:=M2.len k3
    cases eb:g ws (n2 + 1) k with
    | error e =>
     rw [el,loopP_err (one:=fun j=>g ws j k) hv eb] at q
     exact ⟨fun _ _=>False,fun _ _ z=>z.elim,p,l,st,ws,n2 + 1,k,xs ++ ys2,rfl,M2.rd,h3,hne,by rw [List.length_append,yl]; omega,lt,hk,hd,by rw [eb]; exact fail_mono q M2.step fun _ m=>m⟩
    | ok b =>
     obtain ⟨ss3,n3⟩:=b
     have em:=loopP_ok (m:=m') (acc:=ss2) (one:=fun j=>g ws j k) hv eb
     obtain ⟨b1,b2,b3⟩:=gd ws (n2 + 1) k ss3 n3 lt eb
     refine ⟨fun σ' H'=>Mid C p l st ws xs H H' (ss2 ++ ss3 ++ [stTwo v]) n3 k∧σ' = [some (V.ref p),some (V.ref st)],?_,p,l,st,ws,n2 + 1,k,xs ++ ys2,rfl,M2.rd,h3,hne,by rw [List.length_append,yl]; omega,lt,hk,hd,?_⟩
     ·rintro σ' H' ⟨M,rfl⟩
      refine ⟨m',Nat.lt_succ_self _,n3,_,M,b2,?_,by omega,el.trans em,rfl⟩
      rw [List.length_append,List.length_append]
      show ss2.length + ss3.length + 1 + n ≤ n3
      omega
     ·rw [eb]
      intro H3 zs s3 R3 h4 k4
      have M3:=M2.more s3 R3 h3 k3 h4 k4
      obtain ⟨us,h5,k5⟩:=M3.at_
      refine ⟨us,h5,M3.room k5 hxs hn (by rw [List.length_append]; omega),fun t ht=>⟨?_,rfl⟩⟩
      have s4:=same_upd (o:=.tup [.str "two",v,.int 0]) ht
      exact (M3.same s4).put hne (stTwo v) upd_same (s4 _ _ h5) (L2.Paired.imp' (fun _ _ z=>StAt.same s4 z) k5)
   refine ⟨_,rfl,p,dx,_,rfl,g1,nm _ (by decide +kernel) (by decide +kernel) (by decide +kernel) ..,p,l,ws,n2,k,"*",rfl,Mc.rd,fun hs H2 s2 R2=>⟨_,rfl,iteT ?_⟩,fun hs H2 s2=>⟨_,rfl,iteF ?_⟩⟩
   ·have hv:opIf "*" ws n2 = some (.str "*"):=by unfold opIf; rw [if_pos hs]
    obtain ⟨N,hN,sp⟩:=turn (.str "*") H2 hv (Mc.goes s2 R2)
    refine ⟨N,hN,_,rfl,_,rfl,?_⟩
    obtain ⟨p',l',st',ws',n',k',xs',e0,c1,c2,c3,c4,c5,c6,c7,c8⟩:=sp
    refine ⟨p',l',st',ws',n',k',xs',e0,c1,c2,c3,c4,c5,c6,c7,?_⟩
    cases eg:g ws' n' k' with
    | error e=>rw [eg] at c8; exact c8
    | ok b =>
     rw [eg] at c8
     intro H3 zs s3 R3 h4 k4
     obtain ⟨us,h5,h6,h7⟩:=c8 H3 zs s3 R3 h4 k4
     exact ⟨_,rfl,.inl ⟨rfl,_,SqL.of h5⟩,by show 3 ≤ sizeLine; decide,fun t ht=>⟨st,xs ++ us,_,rfl,rfl,(same_upd ht) _ _ h5,h6,h7 t ht⟩⟩
   ·have hv:opIf "*" ws n2 = none:=by unfold opIf; rw [if_neg (by rw [hs]; decide)]
    rw [el,(stop hv).2] at q
    exact (Mc.same s2).fin q
theorem sc_read_and:FnScope ["reader","steps"] ["reader","steps"] (defScope s_read_and):=⟨rfl,rfl,rfl,by decide +kernel,rfl,by decide +kernel,by decide +kernel⟩
theorem ok_read_and {f C CW:Addr} {fd:FuncData} {L d:Nat} {g:PF} (F:Fun K "read_and" "read_and" s_read_and f fd) (T:TxR K mg C) (X:TxX K mg) (S:RdS P w K mg base C CW) (hL:5 ≤ L)
  (G:FnV P w K mg base (CX2 P w) L "read_not" ["reader","steps"] (spExp CW C g d)) (gd:Good g):FnOk P w K mg base (CX2 P w) (L + 1) f fd ["reader","steps"] (spExp CW C (pBin (opIf "and") g) d):=by
 obtain ⟨fI,fdI,mI,GI,bI⟩:=S.takeIf.ex
 obtain ⟨fS,fdS,mS,GS,bS⟩:=S.sees.ex
 obtain ⟨fT,fdT,mT,GT,bT⟩:=S.take.ex
 obtain ⟨fO,fdO,mO,kO,GO,bO⟩:=G.ex
 obtain ⟨t2,n2⟩:=X.two
 refine F.okV sc_read_and (fun vs H Q E h=>?_) (fun cdv A outer s H vs Q E hr h=>?_)
 ·obtain ⟨p,l,st,ws,n,k,xs,rfl,_⟩:=h
  rfl
 ·obtain ⟨p,l,st,ws,n,k,xs,rfl,R,hst,hne,hxs,hn,hk,hd,q⟩:=h
  have r2:Room 2 _:=hr.mono (by omega)
  have r3:Room 3 _:=hr.mono (by omega)
  refine ⟨_,pss_cons (ps_expr (pe_call GO hr (by rfl) mO kO bO .nil passV (pa_cons (pv 0) (pa_cons (pv 1) pa_nil))))
   (pss_one (ps_while PassesOwn.leaving (pt_val (pe_meth (pv 0) T.cl mI GI r3 bI .nil pass0 (pa_cons pe_str pa_nil)))
    ((pss_cons (ps_expr (pe_call GO hr (by rfl) mO kO bO .nil passV (pa_cons (pv 0) (pa_cons (pv 1) pa_nil))))
     (pss_one (ps_expr (pe_bm PySem.F.plainAttrs_list PySem.F.slot_list_append PySem.F.type_list_append mt_append (pv 1) (pa_cons (pe_tup (pa_cons (pe_glob (by rfl) n2 (v:=.str "two") ⟨_,rfl⟩) (pa_cons pe_str (pa_cons pe_int pa_nil)))) pa_nil)))))))),?_⟩
  have M0:=Mid.start (xs:=xs) R hst
  have wl:=R.len
  unfold pBin at q
  refine ⟨_,rfl,_,rfl,p,l,st,ws,n,k,xs,rfl,R,hst,hne,hxs,hn,hk,hd,?_⟩
  cases e1:g ws n k with
  | error e =>
   rw [e1] at q
   exact fail_mono q M0.step fun _ m=>m
  | ok a =>
   obtain ⟨ss,n1⟩:=a
   rw [e1] at q
   dsimp only at q
   obtain ⟨a1,a2,a3⟩:=gd ws n k ss n1 hn e1
   intro H1 ys s1 R1 h1 k1
   have M1:Mid C p l st ws xs H H1 ([] ++ ss) n1 k:=M0.more (ys:=[]) s1 R1 (by rw [List.append_nil]; exact hst) .nil (by rw [List.append_nil]; exact h1) k1
   refine ⟨fun m σ Hc=>∃ (n2:Nat) (ss2:List Stp),Mid C p l st ws xs H Hc ss2 n2 k∧n2 ≤ ws.length∧ss2.length + n ≤ n2∧ws.length + 1 ≤ m + n2∧loopP (opIf "and" ws) (fun j=>g ws j k) (ws.length + 1) ss n1 = loopP (opIf "and" ws) (fun j=>g ws j k) m ss2 n2∧σ = [some (V.ref p),some (V.ref st)],⟨ws.length + 1,n1,ss,M1,a2,a3,by omega,rfl,rfl⟩,?_⟩
   rintro m σ Hc ⟨n2,ss2,Mc,hn2,hs2,hm,el,rfl⟩
   obtain ⟨dx,g1⟩:=Mc.rd.ob
   have more:∀ (v:V),opIf "and" ws n2 = some v→∃ m',m = m' + 1:=fun v hv=>by
    have:=opIf_lt hv
    exact ⟨m - 1,by omega⟩
   have stop:opIf "and" ws n2 = none→Q .non = Q .non∧loopP (opIf "and" ws) (fun j=>g ws j k) m ss2 n2 = .ok (ss2,n2):=fun hv=>by
    refine ⟨rfl,?_⟩
    cases m with
    | zero=>rfl
    | succ m' =>
     exact loopP_end hv
   have turn:∀ (v:V) (H2:Hp),opIf "and" ws n2 = some v→Mid C p l st ws xs H H2 ss2 (n2 + 1) k→∃ N:St→Hp→Prop,(∀ σ' H',N σ' H'→∃ m',m' < m∧∃ (n2:Nat) (ss2:List Stp),Mid C p l st ws xs H H' ss2 n2 k∧n2 ≤ ws.length∧ss2.length + n ≤ n2∧ws.length + 1 ≤ m' + n2∧loopP (opIf "and" ws) (fun j=>g ws j k) (ws.length + 1) ss n1 = loopP (opIf "and" ws) (fun j=>g ws j k) m' ss2 n2∧σ' = [some (V.ref p),some (V.ref st)]) ∧
     spExp CW C g d [.ref p,.ref st] H2 (fun _ H3=>∃ ys,H3 st = some (.lst (xs ++ ys))∧(xs ++ ys).length < sizeLine∧∀ t,H3 t = none→N [some (V.ref p),some (V.ref st)] (upd (upd H3 t (.tup [.str "two",v,.int 0])) st (.lst (xs ++ ys ++ [.ref t])))) E:=fun v H2 hv M2=>by
    obtain ⟨m',rfl⟩:=more v hv
    have lt:=opIf_lt hv
    obtain ⟨ys2,h3,k3⟩:=M2.at_
    have yl:=M2.len k3
    cases eb:g ws (n2 + 1) k with
    | error e =>
     rw [el,loopP_err (one:=fun j=>g ws j k) hv eb] at q
     exact ⟨fun _ _=>False,fun _ _ z=>z.elim,p,l,st,ws,n2 + 1,k,xs ++ ys2,rfl,M2.rd,h3,hne,by rw [List.length_append,yl]; omega,lt,hk,hd,by rw [eb]; exact fail_mono q M2.step fun _ m=>m⟩
    | ok b =>
     obtain ⟨ss3,n3⟩:=b
     have em:=loopP_ok (m:=m') (acc:=ss2) (one:=fun j=>g ws j k) hv eb
     obtain ⟨b1,b2,b3⟩:=gd ws (n2 + 1) k ss3 n3 lt eb
     refine ⟨fun σ' H'=>Mid C p l st ws xs H H' (ss2 ++ ss3 ++ [stTwo v]) n3 k∧σ' = [some (V.ref p),some (V.ref st)],?_,p,l,st,ws,n2 + 1,k,xs ++ ys2,rfl,M2.rd,h3,hne,by rw [List.length_append,yl]; omega,lt,hk,hd,?_⟩
     ·rintro σ' H' ⟨M,rfl⟩
      refine ⟨m',Nat.lt_succ_self _,n3,_,M,b2,?_,by omega,el.trans em,rfl⟩
      rw [List.length_append,List.length_append]
      show ss2.length + ss3.length + 1 + n ≤ n3
      omega
     ·rw [eb]
      intro H3 zs s3 R3 h4 k4
      have M3:=M2.more s3 R3 h3 k3 h4 k4
      obtain ⟨us,h5,k5⟩:=M3.at_
      refine ⟨us,h5,M3.room k5 hxs hn (by rw [List.length_append]; omega),fun t ht=>⟨?_,rfl⟩⟩
      have s4:=same_upd (o:=.tup [.str "two",v,.int 0]) ht
      exact (M3.same s4).put hne (stTwo v) upd_same (s4 _ _ h5) (L2.Paired.imp' (fun _ _ z=>StAt.same s4 z) k5)
   refine ⟨_,rfl,p,dx,_,rfl,g1,nm _ (by decide +kernel) (by decide +kernel) (by decide +kernel) ..,p,l,ws,n2,k,"and",rfl,Mc.rd,fun hs H2 s2 R2=>⟨_,rfl,iteT ?_⟩,fun hs H2 s2=>⟨_,rfl,iteF ?_⟩⟩
   ·have hv:opIf "and" ws n2 = some (.str "and"):=by unfold opIf; rw [if_pos hs]
    obtain ⟨N,hN,sp⟩:=turn (.str "and") H2 hv (Mc.goes s2 R2)
    refine ⟨N,hN,_,rfl,_,rfl,?_⟩
    obtain ⟨p',l',st',ws',n',k',xs',e0,c1,c2,c3,c4,c5,c6,c7,c8⟩:=sp
    refine ⟨p',l',st',ws',n',k',xs',e0,c1,c2,c3,c4,c5,c6,c7,?_⟩
    cases eg:g ws' n' k' with
    | error e=>rw [eg] at c8; exact c8
    | ok b =>
     rw [eg] at c8
     intro H3 zs s3 R3 h4 k4
     obtain ⟨us,h5,h6,h7⟩:=c8 H3 zs s3 R3 h4 k4
     exact ⟨_,rfl,.inl ⟨rfl,_,SqL.of h5⟩,by show 3 ≤ sizeLine; decide,fun t ht=>⟨st,xs ++ us,_,rfl,rfl,(same_upd ht) _ _ h5,h6,h7 t ht⟩⟩
   ·have hv:opIf "and" ws n2 = none:=by unfold opIf; rw [if_neg (by rw [hs]; decide)]
    rw [el,(stop hv).2] at q
    exact (Mc.same s2).fin q
theorem sc_read_or:FnScope ["reader","steps"] ["reader","steps"] (defScope s_read_or):=⟨rfl,rfl,rfl,by decide +kernel,rfl,by decide +kernel,by decide +kernel⟩
theorem ok_read_or {f C CW:Addr} {fd:FuncData} {L d:Nat} {g:PF} (F:Fun K "read_or" "read_or" s_read_or f fd) (T:TxR K mg C) (X:TxX K mg) (S:RdS P w K mg base C CW) (hL:5 ≤ L)
  (G:FnV P w K mg base (CX2 P w) L "read_and" ["reader","steps"] (spExp CW C g d)) (gd:Good g):FnOk P w K mg base (CX2 P w) (L + 1) f fd ["reader","steps"] (spExp CW C (pBin (opIf "or") g) d):=by
 obtain ⟨fI,fdI,mI,GI,bI⟩:=S.takeIf.ex
 obtain ⟨fS,fdS,mS,GS,bS⟩:=S.sees.ex
 obtain ⟨fT,fdT,mT,GT,bT⟩:=S.take.ex
 obtain ⟨fO,fdO,mO,kO,GO,bO⟩:=G.ex
 obtain ⟨t2,n2⟩:=X.two
 refine F.okV sc_read_or (fun vs H Q E h=>?_) (fun cdv A outer s H vs Q E hr h=>?_)
 ·obtain ⟨p,l,st,ws,n,k,xs,rfl,_⟩:=h
  rfl
 ·obtain ⟨p,l,st,ws,n,k,xs,rfl,R,hst,hne,hxs,hn,hk,hd,q⟩:=h
  have r2:Room 2 _:=hr.mono (by omega)
  have r3:Room 3 _:=hr.mono (by omega)
  refine ⟨_,pss_cons (ps_expr (pe_call GO hr (by rfl) mO kO bO .nil passV (pa_cons (pv 0) (pa_cons (pv 1) pa_nil))))
   (pss_one (ps_while PassesOwn.leaving (pt_val (pe_meth (pv 0) T.cl mI GI r3 bI .nil pass0 (pa_cons pe_str pa_nil)))
    ((pss_cons (ps_expr (pe_call GO hr (by rfl) mO kO bO .nil passV (pa_cons (pv 0) (pa_cons (pv 1) pa_nil))))
     (pss_one (ps_expr (pe_bm PySem.F.plainAttrs_list PySem.F.slot_list_append PySem.F.type_list_append mt_append (pv 1) (pa_cons (pe_tup (pa_cons (pe_glob (by rfl) n2 (v:=.str "two") ⟨_,rfl⟩) (pa_cons pe_str (pa_cons pe_int pa_nil)))) pa_nil)))))))),?_⟩
  have M0:=Mid.start (xs:=xs) R hst
  have wl:=R.len
  unfold pBin at q
  refine ⟨_,rfl,_,rfl,p,l,st,ws,n,k,xs,rfl,R,hst,hne,hxs,hn,hk,hd,?_⟩
  cases e1:g ws n k with
  | error e =>
   rw [e1] at q
   exact fail_mono q M0.step fun _ m=>m
  | ok a =>
   obtain ⟨ss,n1⟩:=a
   rw [e1] at q
   dsimp only at q
   obtain ⟨a1,a2,a3⟩:=gd ws n k ss n1 hn e1
   intro H1 ys s1 R1 h1 k1
   have M1:Mid C p l st ws xs H H1 ([] ++ ss) n1 k:=M0.more (ys:=[]) s1 R1 (by rw [List.append_nil]; exact hst) .nil (by rw [List.append_nil]; exact h1) k1
   refine ⟨fun m σ Hc=>∃ (n2:Nat) (ss2:List Stp),Mid C p l st ws xs H Hc ss2 n2 k∧n2 ≤ ws.length∧ss2.length + n ≤ n2∧ws.length + 1 ≤ m + n2∧loopP (opIf "or" ws) (fun j=>g ws j k) (ws.length + 1) ss n1 = loopP (opIf "or" ws) (fun j=>g ws j k) m ss2 n2∧σ = [some (V.ref p),some (V.ref st)],⟨ws.length + 1,n1,ss,M1,a2,a3,by omega,rfl,rfl⟩,?_⟩
   rintro m σ Hc ⟨n2,ss2,Mc,hn2,hs2,hm,el,rfl⟩
   obtain ⟨dx,g1⟩:=Mc.rd.ob
   have more:∀ (v:V),opIf "or" ws n2 = some v→∃ m',m = m' + 1:=fun v hv=>by
    have:=opIf_lt hv
    exact ⟨m - 1,by omega⟩
   have stop:opIf "or" ws n2 = none→Q .non = Q .non∧loopP (opIf "or" ws) (fun j=>g ws j k) m ss2 n2 = .ok (ss2,n2):=fun hv=>by
    refine ⟨rfl,?_⟩
    cases m with
    | zero=>rfl
    | succ m' =>
     exact loopP_end hv
   have turn:∀ (v:V) (H2:Hp),opIf "or" ws n2 = some v→Mid C p l st ws xs H H2 ss2 (n2 + 1) k→∃ N:St→Hp→Prop,(∀ σ' H',N σ' H'→∃ m',m' < m∧∃ (n2:Nat) (ss2:List Stp),Mid C p l st ws xs H H' ss2 n2 k∧n2 ≤ ws.length∧ss2.length + n ≤ n2∧ws.length + 1 ≤ m' + n2∧loopP (opIf "or" ws) (fun j=>g ws j k) (ws.length + 1) ss n1 = loopP (opIf "or" ws) (fun j=>g ws j k) m' ss2 n2∧σ' = [some (V.ref p),some (V.ref st)]) ∧
     spExp CW C g d [.ref p,.ref st] H2 (fun _ H3=>∃ ys,H3 st = some (.lst (xs ++ ys))∧(xs ++ ys).length < sizeLine∧∀ t,H3 t = none→N [some (V.ref p),some (V.ref st)] (upd (upd H3 t (.tup [.str "two",v,.int 0])) st (.lst (xs ++ ys ++ [.ref t])))) E:=fun v H2 hv M2=>by
    obtain ⟨m',rfl⟩:=more v hv
    have lt:=opIf_lt hv
    obtain ⟨ys2,h3,k3⟩:=M2.at_
    have yl:=M2.len k3
    cases eb:g ws (n2 + 1) k with
    | error e =>
     rw [el,loopP_err (one:=fun j=>g ws j k) hv eb] at q
     exact ⟨fun _ _=>False,fun _ _ z=>z.elim,p,l,st,ws,n2 + 1,k,xs ++ ys2,rfl,M2.rd,h3,hne,by rw [List.length_append,yl]; omega,lt,hk,hd,by rw [eb]; exact fail_mono q M2.step fun _ m=>m⟩
    | ok b =>
     obtain ⟨ss3,n3⟩:=b
     have em:=loopP_ok (m:=m') (acc:=ss2) (one:=fun j=>g ws j k) hv eb
     obtain ⟨b1,b2,b3⟩:=gd ws (n2 + 1) k ss3 n3 lt eb
     refine ⟨fun σ' H'=>Mid C p l st ws xs H H' (ss2 ++ ss3 ++ [stTwo v]) n3 k∧σ' = [some (V.ref p),some (V.ref st)],?_,p,l,st,ws,n2 + 1,k,xs ++ ys2,rfl,M2.rd,h3,hne,by rw [List.length_append,yl]; omega,lt,hk,hd,?_⟩
     ·rintro σ' H' ⟨M,rfl⟩
      refine ⟨m',Nat.lt_succ_self _,n3,_,M,b2,?_,by omega,el.trans em,rfl⟩
      rw [List.length_append,List.length_append]
      show ss2.length + ss3.length + 1 + n ≤ n3
      omega
     ·rw [eb]
      intro H3 zs s3 R3 h4 k4
      have M3:=M2.more s3 R3 h3 k3 h4 k4
      obtain ⟨us,h5,k5⟩:=M3.at_
      refine ⟨us,h5,M3.room k5 hxs hn (by rw [List.length_append]; omega),fun t ht=>⟨?_,rfl⟩⟩
      have s4:=same_upd (o:=.tup [.str "two",v,.int 0]) ht
      exact (M3.same s4).put hne (stTwo v) upd_same (s4 _ _ h5) (L2.Paired.imp' (fun _ _ z=>StAt.same s4 z) k5)
   refine ⟨_,rfl,p,dx,_,rfl,g1,nm _ (by decide +kernel) (by decide +kernel) (by decide +kernel) ..,p,l,ws,n2,k,"or",rfl,Mc.rd,fun hs H2 s2 R2=>⟨_,rfl,iteT ?_⟩,fun hs H2 s2=>⟨_,rfl,iteF ?_⟩⟩
   ·have hv:opIf "or" ws n2 = some (.str "or"):=by unfold opIf; rw [if_pos hs]
    obtain ⟨N,hN,sp⟩:=turn (.str "or") H2 hv (Mc.goes s2 R2)
    refine ⟨N,hN,_,rfl,_,rfl,?_⟩
    obtain ⟨p',l',st',ws',n',k',xs',e0,c1,c2,c3,c4,c5,c6,c7,c8⟩:=sp
    refine ⟨p',l',st',ws',n',k',xs',e0,c1,c2,c3,c4,c5,c6,c7,?_⟩
    cases eg:g ws' n' k' with
    | error e=>rw [eg] at c8; exact c8
    | ok b =>
     rw [eg] at c8
     intro H3 zs s3 R3 h4 k4
     obtain ⟨us,h5,h6,h7⟩:=c8 H3 zs s3 R3 h4 k4
     exact ⟨_,rfl,.inl ⟨rfl,_,SqL.of h5⟩,by show 3 ≤ sizeLine; decide,fun t ht=>⟨st,xs ++ us,_,rfl,rfl,(same_upd ht) _ _ h5,h6,h7 t ht⟩⟩
   ·have hv:opIf "or" ws n2 = none:=by unfold opIf; rw [if_neg (by rw [hs]; decide)]
    rw [el,(stop hv).2] at q
    exact (Mc.same s2).fin q
theorem sc_read_sum:FnScope ["reader","steps","sign"] ["reader","steps"] (defScope s_read_sum):=⟨rfl,rfl,rfl,by decide +kernel,rfl,by decide +kernel,by decide +kernel⟩
theorem ok_read_sum {f C CW:Addr} {fd:FuncData} {L d:Nat} {g:PF} (F:Fun K "read_sum" "read_sum" s_read_sum f fd) (T:TxR K mg C) (X:TxX K mg) (S:RdS P w K mg base C CW) (hL:5 ≤ L)
  (G:FnV P w K mg base (CX2 P w) L "read_product" ["reader","steps"] (spExp CW C g d)) (gd:Good g):FnOk P w K mg base (CX2 P w) (L + 1) f fd ["reader","steps"] (spExp CW C (pBin opSum g) d):=by
 obtain ⟨fI,fdI,mI,GI,bI⟩:=S.takeIf.ex
 obtain ⟨fS,fdS,mS,GS,bS⟩:=S.sees.ex
 obtain ⟨fT,fdT,mT,GT,bT⟩:=S.take.ex
 obtain ⟨fO,fdO,mO,kO,GO,bO⟩:=G.ex
 obtain ⟨t2,n2⟩:=X.two
 refine F.okV sc_read_sum (fun vs H Q E h=>?_) (fun cdv A outer s H vs Q E hr h=>?_)
 ·obtain ⟨p,l,st,ws,n,k,xs,rfl,_⟩:=h
  rfl
 ·obtain ⟨p,l,st,ws,n,k,xs,rfl,R,hst,hne,hxs,hn,hk,hd,q⟩:=h
  have r2:Room 2 _:=hr.mono (by omega)
  have r3:Room 3 _:=hr.mono (by omega)
  refine ⟨_,pss_cons (ps_expr (pe_call GO hr (by rfl) mO kO bO .nil passV (pa_cons (pv 0) (pa_cons (pv 1) pa_nil))))
   (pss_one (ps_while PassesOwn.leaving (pt_val (pe_meth (pv 0) T.cl mS GS r2 bS .nil pass0 (pa_cons (pe_tup (pa_cons pe_str (pa_cons pe_str pa_nil))) pa_nil)))
    (pss_cons (ps_set (i:=2) sc_read_sum.nd rfl (Or.inl rfl) (pe_meth0 (pv 0) T.cl mT GT r2 bT .nil pass0)) (pss_cons (ps_expr (pe_call GO hr (by rfl) mO kO bO .nil passV (pa_cons (pv 0) (pa_cons (pv 1) pa_nil))))
     (pss_one (ps_expr (pe_bm PySem.F.plainAttrs_list PySem.F.slot_list_append PySem.F.type_list_append mt_append (pv 1) (pa_cons (pe_tup (pa_cons (pe_glob (by rfl) n2 (v:=.str "two") ⟨_,rfl⟩) (pa_cons (pv 2) (pa_cons pe_int pa_nil)))) pa_nil)))))))),?_⟩
  have M0:=Mid.start (xs:=xs) R hst
  have wl:=R.len
  unfold pBin at q
  refine ⟨_,rfl,_,rfl,p,l,st,ws,n,k,xs,rfl,R,hst,hne,hxs,hn,hk,hd,?_⟩
  cases e1:g ws n k with
  | error e =>
   rw [e1] at q
   exact fail_mono q M0.step fun _ m=>m
  | ok a =>
   obtain ⟨ss,n1⟩:=a
   rw [e1] at q
   dsimp only at q
   obtain ⟨a1,a2,a3⟩:=gd ws n k ss n1 hn e1
   intro H1 ys s1 R1 h1 k1
   have M1:Mid C p l st ws xs H H1 ([] ++ ss) n1 k:=M0.more (ys:=[]) s1 R1 (by rw [List.append_nil]; exact hst) .nil (by rw [List.append_nil]; exact h1) k1
   refine ⟨fun m σ Hc=>∃ (n2:Nat) (ss2:List Stp) (o:Option V),Mid C p l st ws xs H Hc ss2 n2 k∧n2 ≤ ws.length∧ss2.length + n ≤ n2∧ws.length + 1 ≤ m + n2∧loopP (opSum ws) (fun j=>g ws j k) (ws.length + 1) ss n1 = loopP (opSum ws) (fun j=>g ws j k) m ss2 n2∧σ = [some (V.ref p),some (V.ref st),o],⟨ws.length + 1,n1,ss,none,M1,a2,a3,by omega,rfl,rfl⟩,?_⟩
   rintro m σ Hc ⟨n2,ss2,o,Mc,hn2,hs2,hm,el,rfl⟩
   obtain ⟨dx,g1⟩:=Mc.rd.ob
   have more:∀ (v:V),opSum ws n2 = some v→∃ m',m = m' + 1:=fun v hv=>by
    have:=opSum_lt hv
    exact ⟨m - 1,by omega⟩
   have stop:opSum ws n2 = none→Q .non = Q .non∧loopP (opSum ws) (fun j=>g ws j k) m ss2 n2 = .ok (ss2,n2):=fun hv=>by
    refine ⟨rfl,?_⟩
    cases m with
    | zero=>rfl
    | succ m' =>
     exact loopP_end hv
   have turn:∀ (v:V) (H2:Hp),opSum ws n2 = some v→Mid C p l st ws xs H H2 ss2 (n2 + 1) k→∃ N:St→Hp→Prop,(∀ σ' H',N σ' H'→∃ m',m' < m∧∃ (n2:Nat) (ss2:List Stp) (o:Option V),Mid C p l st ws xs H H' ss2 n2 k∧n2 ≤ ws.length∧ss2.length + n ≤ n2∧ws.length + 1 ≤ m' + n2∧loopP (opSum ws) (fun j=>g ws j k) (ws.length + 1) ss n1 = loopP (opSum ws) (fun j=>g ws j k) m' ss2 n2∧σ' = [some (V.ref p),some (V.ref st),o]) ∧
     spExp CW C g d [.ref p,.ref st] H2 (fun _ H3=>∃ ys,H3 st = some (.lst (xs ++ ys))∧(xs ++ ys).length < sizeLine∧∀ t,H3 t = none→N [some (V.ref p),some (V.ref st),some v] (upd (upd H3 t (.tup [.str "two",v,.int 0])) st (.lst (xs ++ ys ++ [.ref t])))) E:=fun v H2 hv M2=>by
    obtain ⟨m',rfl⟩:=more v hv
    have lt:=opSum_lt hv
    obtain ⟨ys2,h3,k3⟩:=M2.at_
    have yl:=M2.len k3
    cases eb:g ws (n2 + 1) k with
    | error e =>
     rw [el,loopP_err (one:=fun j=>g ws j k) hv eb] at q
     exact ⟨fun _ _=>False,fun _ _ z=>z.elim,p,l,st,ws,n2 + 1,k,xs ++ ys2,rfl,M2.rd,h3,hne,by rw [List.length_append,yl]; omega,lt,hk,hd,by rw [eb]; exact fail_mono q M2.step fun _ m=>m⟩
    | ok b =>
     obtain ⟨ss3,n3⟩:=b
     have em:=loopP_ok (m:=m') (acc:=ss2) (one:=fun j=>g ws j k) hv eb
     obtain ⟨b1,b2,b3⟩:=gd ws (n2 + 1) k ss3 n3 lt eb
     refine ⟨fun σ' H'=>Mid C p l st ws xs H H' (ss2 ++ ss3 ++ [stTwo v]) n3 k∧σ' = [some (V.ref p),some (V.ref st),some v],?_,p,l,st,ws,n2 + 1,k,xs ++ ys2,rfl,M2.rd,h3,hne,by rw [List.length_append,yl]; omega,lt,hk,hd,?_⟩
     ·rintro σ' H' ⟨M,rfl⟩
      refine ⟨m',Nat.lt_succ_self _,n3,_,some v,M,b2,?_,by omega,el.trans em,rfl⟩
      rw [List.length_append,List.length_append]
      show ss2.length + ss3.length + 1 + n ≤ n3
      omega
     ·rw [eb]
      intro H3 zs s3 R3 h4 k4
      have M3:=M2.more s3 R3 h3 k3 h4 k4
      obtain ⟨us,h5,k5⟩:=M3.at_
      refine ⟨us,h5,M3.room k5 hxs hn (by rw [List.length_append]; omega),fun t ht=>⟨?_,rfl⟩⟩
      have s4:=same_upd (o:=.tup [.str "two",v,.int 0]) ht
      exact (M3.same s4).put hne (stTwo v) upd_same (s4 _ _ h5) (L2.Paired.imp' (fun _ _ z=>StAt.same s4 z) k5)
   refine ⟨_,rfl,p,dx,_,rfl,g1,nm _ (by decide +kernel) (by decide +kernel) (by decide +kernel) ..,by show 2 ≤ sizeLine; decide,fun t ht=>?_⟩
   have s0:=same_upd (o:=.tup [V.str "+",V.str "-"]) ht
   have M':=Mc.same s0
   refine ⟨p,l,t,ws,n2,k,[.str "+",.str "-"],rfl,M'.rd,.inr (SqT.of upd_same),rfl,fun H2 s2=>⟨_,rfl,iteB (fun hs=>?_) (fun hs=>?_)⟩⟩
   ·have hv:opSum ws n2 = some (lookW ws n2).2:=by unfold opSum; rw [if_pos hs]
    have M'':=M'.same s2
    obtain ⟨dz,g2⟩:=M''.rd.ob
    have go:∀ H3,Step [p] H2 H3→RdAt C H3 p l ws (n2 + 1) k→_:=fun H3 s3 R3=>turn (lookW ws n2).2 H3 hv (M''.goes s3 R3)
    refine ⟨fun σ' H'=>∃ H3 s3 R3,(go H3 s3 R3).choose σ' H',fun σ' H' ⟨H3,s3,R3,z⟩=>(go H3 s3 R3).choose_spec.1 σ' H' z,_,rfl,p,dz,_,rfl,g2,nm _ (by decide +kernel) (by decide +kernel) (by decide +kernel) ..,p,l,ws,n2,k,rfl,M''.rd,fun H3 s3 R3=>?_⟩
    have sp:=(go H3 s3 R3).choose_spec.2
    refine ⟨_,rfl,_,rfl,?_⟩
    obtain ⟨p',l',st',ws',n',k',xs',e0,c1,c2,c3,c4,c5,c6,c7,c8⟩:=sp
    refine ⟨p',l',st',ws',n',k',xs',e0,c1,c2,c3,c4,c5,c6,c7,?_⟩
    cases eg:g ws' n' k' with
    | error e=>rw [eg] at c8; exact c8
    | ok b =>
     rw [eg] at c8
     intro H4 zs s4 R4 h4 k4
     obtain ⟨us,h5,h6,h7⟩:=c8 H4 zs s4 R4 h4 k4
     exact ⟨_,rfl,.inl ⟨rfl,_,SqL.of h5⟩,_,rfl,by show 3 ≤ sizeLine; decide,fun t ht=>⟨st,xs ++ us,_,rfl,rfl,(same_upd ht) _ _ h5,h6,H3,s3,R3,h7 t ht⟩⟩
   ·have hv:opSum ws n2 = none:=by unfold opSum; rw [if_neg (by rw [hs]; decide)]
    rw [el,(stop hv).2] at q
    exact (M'.same s2).fin q
end
section
variable {P:Program} {w:World} {K:PySem.W.Frag} {mg:Str→Option Value} {base:Heap}
theorem sc_read_comparison:FnScope ["reader","steps","sign","operator"] ["reader","steps"] (defScope s_read_comparison):=⟨rfl,rfl,rfl,by decide +kernel,rfl,by decide +kernel,by decide +kernel⟩
theorem ok_read_comparison {f C CW:Addr} {fd:FuncData} {L d:Nat} {g:PF} (F:Fun K "read_comparison" "read_comparison" s_read_comparison f fd) (T:TxR K mg C) (X:TxX K mg) (S:RdS P w K mg base C CW) (hL:5 ≤ L)
  (G:FnV P w K mg base (CX2 P w) L "read_sum" ["reader","steps"] (spExp CW C g d)) (gd:Good g):FnOk P w K mg base (CX2 P w) (L + 1) f fd ["reader","steps"] (spExp CW C (pCmp g) d):=by
 obtain ⟨fI,fdI,mI,GI,bI⟩:=S.takeIf.ex
 obtain ⟨fS,fdS,mS,GS,bS⟩:=S.sees.ex
 obtain ⟨fT,fdT,mT,GT,bT⟩:=S.take.ex
 obtain ⟨fA,fdA,mA,GA,bA⟩:=S.takeAll.ex
 obtain ⟨fO,fdO,mO,kO,GO,bO⟩:=G.ex
 obtain ⟨t1,m1⟩:=X.one
 obtain ⟨t2,m2⟩:=X.two
 obtain ⟨aC,mC,sC⟩:=X.cmp
 refine F.okV sc_read_comparison (fun vs H Q E h=>?_) (fun cdv A outer s H vs Q E hr h=>?_)
 ·obtain ⟨p,l,st,ws,n,k,xs,rfl,_⟩:=h
  rfl
 ·obtain ⟨p,l,st,ws,n,k,xs,rfl,R,hst,hne,hxs,hn,hk,hd,q⟩:=h
  have r2:Room 2 _:=hr.mono (by omega)
  have r3:Room 3 _:=hr.mono (by omega)
  have r4:Room 4 _:=hr.mono (by omega)
  refine ⟨_,pss_cons (ps_expr (pe_call GO hr (by rfl) mO kO bO .nil passV (pa_cons (pv 0) (pa_cons (pv 1) pa_nil))))
   (pss_one (ps_if (pt_val (pe_meth (pv 0) T.cl mS GS r2 bS .nil pass0 (pa_cons (pe_glob (by rfl) mC (v:=.ref aC) rfl) pa_nil)))
    (pss_cons (ps_set (i:=2) sc_read_comparison.nd rfl (Or.inl rfl) (pe_meth0 (pv 0) T.cl mT GT r2 bT .nil pass0))
     (pss_cons (ps_expr (pe_call GO hr (by rfl) mO kO bO .nil passV (pa_cons (pv 0) (pa_cons (pv 1) pa_nil))))
     (pss_one (ps_expr (pe_bm PySem.F.plainAttrs_list PySem.F.slot_list_append PySem.F.type_list_append mt_append (pv 1) (pa_cons (pe_tup (pa_cons (pe_glob (by rfl) m2 (v:=.str "two") ⟨_,rfl⟩) (pa_cons (pv 2) (pa_cons pe_int pa_nil)))) pa_nil))))))
    (pss_one (ps_if (pt_val (pe_meth (pv 0) T.cl mI GI r3 bI .nil pass0 (pa_cons pe_str pa_nil)))
     (pss_cons (ps_set (i:=3) sc_read_comparison.nd rfl (Or.inl rfl) (pe_ifExp (pt_val (pe_meth (pv 0) T.cl mI GI r3 bI .nil pass0 (pa_cons pe_str pa_nil))) pe_str pe_str))
      (pss_cons (ps_expr (pe_meth (pv 0) T.cl mA GA r4 bA .nil passV (pa_cons (pe_tup (pa_cons pe_str pa_nil)) pa_nil)))
      (pss_one (ps_expr (pe_bm PySem.F.plainAttrs_list PySem.F.slot_list_append PySem.F.type_list_append mt_append (pv 1) (pa_cons (pe_tup (pa_cons (pe_glob (by rfl) m1 (v:=.str "one") ⟨_,rfl⟩) (pa_cons (pv 3) (pa_cons pe_int pa_nil)))) pa_nil))))))
     pss_nil)))),?_⟩
  have M0:=Mid.start (xs:=xs) R hst
  have wl:=R.len
  unfold pCmp at q
  refine ⟨_,rfl,_,rfl,p,l,st,ws,n,k,xs,rfl,R,hst,hne,hxs,hn,hk,hd,?_⟩
  cases e1:g ws n k with
  | error e =>
   rw [e1] at q
   exact fail_mono q M0.step fun _ m=>m
  | ok a =>
   obtain ⟨ss,n1⟩:=a
   rw [e1] at q
   dsimp only at q
   obtain ⟨a1,a2,a3⟩:=gd ws n k ss n1 hn e1
   intro H1 ys s1 R1 h1 k1
   have M1:Mid C p l st ws xs H H1 ([] ++ ss) n1 k:=M0.more (ys:=[]) s1 R1 (by rw [List.append_nil]; exact hst) .nil (by rw [List.append_nil]; exact h1) k1
   obtain ⟨dx,g1⟩:=R1.ob
   refine ⟨_,rfl,p,dx,_,rfl,g1,nm _ (by decide +kernel) (by decide +kernel) (by decide +kernel) ..,p,l,aC,ws,n1,k,cmpV,rfl,R1,.inr (sC _),rfl,fun H2 s2=>⟨_,rfl,iteB (fun hs=>?_) (fun hs=>?_)⟩⟩
   ·rw [if_pos hs] at q
    have M2:=M1.same s2
    obtain ⟨dy,g2⟩:=M2.rd.ob
    have lt:=sees_lt hs
    refine ⟨_,rfl,p,dy,_,rfl,g2,nm _ (by decide +kernel) (by decide +kernel) (by decide +kernel) ..,p,l,ws,n1,k,rfl,M2.rd,fun H3 s3 R3=>?_⟩
    have M3:=M2.goes s3 R3
    obtain ⟨us,h3,k3⟩:=M3.at_
    have ul:=M3.len k3
    refine ⟨_,rfl,_,rfl,p,l,st,ws,n1 + 1,k,xs ++ us,rfl,R3,h3,hne,by rw [List.length_append,ul]; show _ + ss.length ≤ _; omega,lt,hk,hd,?_⟩
    cases eb:g ws (n1 + 1) k with
    | error e =>
     rw [eb] at q
     exact fail_mono q M3.step fun _ m=>m
    | ok b =>
     obtain ⟨ss2,n2⟩:=b
     rw [eb] at q
     dsimp only at q
     obtain ⟨b1,b2,b3⟩:=gd ws (n1 + 1) k ss2 n2 lt eb
     intro H4 zs s4 R4 h4 k4
     have M4:Mid C p l st ws xs H H4 ([] ++ ss ++ ss2) n2 k:=M3.more s4 R4 h3 k3 h4 k4
     obtain ⟨vs,h5,k5⟩:=M4.at_
     refine ⟨_,rfl,.inl ⟨rfl,_,SqL.of h5⟩,_,rfl,by show 3 ≤ sizeLine; decide,fun t ht=>?_⟩
     have s5:=same_upd (o:=.tup [.str "two",(lookW ws n1).2,.int 0]) ht
     have M5:=M4.same s5
     have k5':=L2.Paired.imp' (fun _ _ z=>StAt.same s5 z) k5
     exact ⟨st,xs ++ vs,_,rfl,rfl,s5 _ _ h5,M5.room k5' hxs hn (by show (ss ++ ss2).length ≤ _; rw [List.length_append]; omega),(M5.put hne (stTwo (lookW ws n1).2) upd_same (s5 _ _ h5) k5').fin q⟩
   ·rw [if_neg (by rw [hs]; decide)] at q
    have M2:=M1.same s2
    obtain ⟨dy,g2⟩:=M2.rd.ob
    refine ⟨_,rfl,p,dy,_,rfl,g2,nm _ (by decide +kernel) (by decide +kernel) (by decide +kernel) ..,p,l,ws,n1,k,"is",rfl,M2.rd,fun hi H3 s3 R3=>⟨_,rfl,iteT ?_⟩,fun hi H3 s3=>⟨_,rfl,iteF ?_⟩⟩
    ·rw [if_pos hi] at q
     have M3:=M2.goes s3 R3
     obtain ⟨dz,g3⟩:=R3.ob
     have lt:=sees_lt hi
     have fin:∀ (H4:Hp) (n4:Nat) (z:Str),n4 ≤ ws.length→Mid C p l st ws xs H H4 ([] ++ ss) n4 k→Yields CW C p l st ws k xs H E (match tAll ws n4 ["null"] with | .error e=>.error e | .ok n3=>.ok (ss ++ [stOne z],n3)) (Q .non) →
       tSeq (tDrop (tMeth C "take_all" (spTakeAll K C CW) [] (fun _=>E) (tVar 0) (tCons (tTup (tCons (tC (.str "null")) tNil)) tNil))) (tDrop (tBM K "list" rAppend (tVar 1) (tCons (tTup (tCons (tC (.str "one")) (tCons (tVar 3) (tCons (tC (.int 0)) tNil)))) tNil)))
        { nx:=fun _ H'=>Q .non H',rt:=Q } [some (.ref p),some (.ref st),none,some (.str z)] H4:=fun H4 n4 z hn4 M4 q4=>by
      obtain ⟨du,g4⟩:=M4.rd.ob
      refine ⟨_,rfl,p,du,_,rfl,g4,nm _ (by decide +kernel) (by decide +kernel) (by decide +kernel) ..,by show 1 ≤ sizeLine; decide,fun t ht=>?_⟩
      have s5:=same_upd (o:=.tup [V.str "null"]) ht
      have M5:=M4.same s5
      refine ⟨p,l,t,ws,n4,k,["null"],rfl,by show n4 + 1 ≤ 1000100; omega,M5.rd,SqT.of upd_same,?_⟩
      cases ea:tAll ws n4 ["null"] with
      | error e =>
       rw [ea] at q4
       exact fail_mono q4 M5.step fun a m=>by rcases List.mem_singleton.mp m with rfl; exact .head _
      | ok n5 =>
       rw [ea] at q4
       intro H6 s6 R6
       have M6:=M5.goes s6 R6
       obtain ⟨vs,h5,k5⟩:=M6.at_
       refine ⟨_,rfl,.inl ⟨rfl,_,SqL.of h5⟩,_,rfl,by show 3 ≤ sizeLine; decide,fun t7 ht7=>?_⟩
       have s7:=same_upd (o:=.tup [.str "one",.str z,.int 0]) ht7
       have M7:=M6.same s7
       have k5':=L2.Paired.imp' (fun _ _ z=>StAt.same s7 z) k5
       exact ⟨st,xs ++ vs,_,rfl,rfl,s7 _ _ h5,M7.room k5' hxs hn (by show ss.length ≤ _; omega),(M7.put hne (stOne z) upd_same (s7 _ _ h5) k5').fin q4⟩
     refine ⟨_,rfl,p,dz,_,rfl,g3,nm _ (by decide +kernel) (by decide +kernel) (by decide +kernel) ..,p,l,ws,n1 + 1,k,"not",rfl,R3,fun ho H4 s4 R4=>⟨_,rfl,iteT ?_⟩,fun ho H4 s4=>⟨_,rfl,iteF ?_⟩⟩
     ·rw [if_pos ho] at q
      exact fin H4 (n1 + 2) "is not null" (sees_lt ho) (M3.goes s4 R4) q
     ·rw [if_neg (by rw [ho]; decide)] at q
      exact fin H4 (n1 + 1) "is null" lt (M3.same s4) q
    ·rw [if_neg (by rw [hi]; decide)] at q
     exact (M2.same s3).fin q
end
section
variable {P:Program} {w:World} {K:PySem.W.Frag} {mg:Str→Option Value} {base:Heap}
structure Fn1 (K:PySem.W.Frag) (mg:Str→Option Value) (x:Str) (st:Stmt) (ps:List Str):Prop where
 ex:∃ (f:Addr) (fd:FuncData),mg x = some (.ref f)∧Fun K x x st f fd∧Binds K fd ps []
theorem Fn1.v {CX:CXT} {k:Nat} {x:Str} {st:Stmt} {ps:List Str} {sp:Sp} (F:Fn1 K mg x st ps) (h:∀ f fd,Fun K x x st f fd→FnOk P w K mg base CX k f fd ps sp):FnV P w K mg base CX k x ps sp:=by
 obtain ⟨f,fd,m,F,b⟩:=F.ex
 exact ⟨f,fd,m,F.kp,h f fd F,b⟩
structure FxE (K:PySem.W.Frag) (mg:Str→Option Value):Prop where
 last:Fn1 K mg "read_last" s_read_last ["reader","steps"]
 minus:Fn1 K mg "read_minus" s_read_minus ["reader","steps"]
 product:Fn1 K mg "read_product" s_read_product ["reader","steps"]
 sum:Fn1 K mg "read_sum" s_read_sum ["reader","steps"]
 comparison:Fn1 K mg "read_comparison" s_read_comparison ["reader","steps"]
 not:Fn1 K mg "read_not" s_read_not ["reader","steps"]
 and:Fn1 K mg "read_and" s_read_and ["reader","steps"]
 or:Fn1 K mg "read_or" s_read_or ["reader","steps"]
 enterAll:Fn1 K mg "enter_all" s_enter_all ["reader","written"]
 leaveAll:Fn1 K mg "leave_all" s_leave_all ["reader","steps","many","operator"]
 expression:Fn1 K mg "read_expression" s_read_expression ["reader"]
theorem exp_all {C CW:Addr} (T:TxR K mg C) (X:TxX K mg) (S:RdS P w K mg base C CW) (Z:FxE K mg):∀ d,FnV P w K mg base (CX2 P w) (8 * d + 6) "read_or" ["reader","steps"] (spExp CW C (pOr d) d)
 | 0=>by
  have no:∀ vs H Q E,¬ spExp CW C (pOr 0) 0 vs H Q E:=fun vs H Q E h=>by
   obtain ⟨p,l,st,ws,n,k,xs,_,_,_,_,_,_,h1,h2,_⟩:=h
   omega
  exact Z.or.v fun f fd _=>⟨fun vs H Q E h=>absurd h (no vs H Q E),fun A outer s H args us vs Q E _ _ _ _ h=>absurd h (no vs H Q E)⟩
 | d + 1=>by
  have G0:=exp_all T X S Z d
  have GE:FnV P w K mg base (CX2 P w) 5 "enter_all" ["reader","written"] (spEnterAll CW C):=Z.enterAll.v fun f fd F=>ok_enter_all F T S.sees S.enter
  have GV:FnV P w K mg base CX0 2 "leave_all" ["reader","steps","many","operator"] (spLeaveAll C):=Z.leaveAll.v fun f fd F=>ok_leave_all F T X S.leave
  have g0:=good_or d
  have G1:=Z.last.v (P:=P) (w:=w) (base:=base) fun f fd F=>ok_read_last F T X S (by omega) G0
  have G2:=Z.minus.v fun f fd F=>ok_read_minus F (by omega) GE GV G1 (good_last g0)
  have G3:=Z.product.v fun f fd F=>ok_read_product F T X S (by omega) G2 (good_pre (good_last g0))
  have G4:=Z.sum.v fun f fd F=>ok_read_sum F T X S (by omega) G3 (good_prod g0)
  have G5:=Z.comparison.v fun f fd F=>ok_read_comparison F T X S (by omega) G4 (good_sum g0)
  have G6:=Z.not.v fun f fd F=>ok_read_not F (by omega) GE GV G5 (good_cmp (good_sum g0))
  have G7:=Z.and.v fun f fd F=>ok_read_and F T X S (by omega) G6 (good_not g0)
  have G8:=Z.or.v fun f fd F=>ok_read_or F T X S (by omega) G7 (good_and g0)
  exact G8
def Outs {α:Type} (CW C p l:Addr) (ws:List Wd) (H:Hp) (Q:VK) (E:XK) (At:Hp→Hp→α→V→Prop) (r:RR (α × Nat)):Prop:=match r with
 | .ok (a,n')=>∀ (H':Hp) (v:V),Step [p] H H'→RdAt C H' p l ws n' 0→At H H' a v→Q v H'
 | .error e=>Fails CW [p] H E e
def spOne {α:Type} (CW C:Addr) (g:List Wd→Nat→RR (α × Nat)) (At:Hp→Hp→α→V→Prop):Sp:=fun vs H Q E=>∃ (p l:Addr) (ws:List Wd) (n:Nat),vs = [.ref p]∧RdAt C H p l ws n 0∧n ≤ ws.length∧Outs CW C p l ws H Q E At (g ws n)
def pExp (ws:List Wd) (n:Nat):RR (List Stp × Nat):=pOr 25 ws n 0
def ExpAt (H0 H:Hp) (ss:List Stp) (v:V):Prop:=∃ st ys,v = .ref st∧H0 st = none∧H st = some (.lst ys)∧StsAt H ss ys
structure NewStay (H0 H H':Hp):Prop where
 l:∀ b xs,H b = some (.lst xs)→H0 b = none→H' b = some (.lst xs)
 t:∀ b xs,H b = some (.tup xs)→H' b = some (.tup xs)
theorem NewStay.same {H0 H H':Hp} (s:Same H H'):NewStay H0 H H':=⟨fun b xs e _=>s _ _ e,fun b xs e=>s _ _ e⟩
theorem NewStay.obj {H0 H H':Hp} {A:List Addr} (s:Step A H H') (h:∀ a ∈ A,∃ C dx fs,H a = some (.ins C dx fs)):NewStay H0 H H' :=
 ⟨fun b xs e _=>s _ _ e (fun m=>by obtain ⟨_,_,_,z⟩:=h b m; rw [e] at z; cases z),fun b xs e=>s _ _ e (fun m=>by obtain ⟨_,_,_,z⟩:=h b m; rw [e] at z; cases z)⟩
structure Stab {α:Type} (At:Hp→Hp→α→V→Prop):Prop where
 keep:∀ {H0 H H':Hp} {a:α} {v:V},At H0 H a v→NewStay H0 H H'→At H0 H' a v
 old:∀ {H0 H1 H:Hp} {a:α} {v:V},At H0 H a v→(∀ b,H0 b = none→H1 b = none)→At H1 H a v
 add:∀ {H0 H:Hp} {a:α} {v:V} {x:Addr} {o:HO},At H0 H a v→H x = none→At (upd H0 x o) H a v
theorem stab_exp:Stab ExpAt where
 keep:=fun ⟨st,ys,e,h0,h1,h2⟩ k=>⟨st,ys,e,h0,k.l _ _ h1 h0,L2.Paired.imp' (fun _ _ ⟨t,e,q⟩=>⟨t,e,k.t _ _ q⟩) h2⟩
 old:=fun ⟨st,ys,e,h0,h1,h2⟩ k=>⟨st,ys,e,k _ h0,h1,h2⟩
 add:=fun ⟨st,ys,e,h0,h1,h2⟩ k=>⟨st,ys,e,by rw [upd_ne (ne_of_none h1 k)]; exact h0,h1,h2⟩
theorem sc_read_expression:FnScope ["reader","steps"] ["reader"] (defScope s_read_expression):=⟨rfl,rfl,rfl,by decide +kernel,rfl,by decide +kernel,by decide +kernel⟩
theorem ok_read_expression {f C CW:Addr} {fd:FuncData} (F:Fun K "read_expression" "read_expression" s_read_expression f fd) (G:FnV P w K mg base (CX2 P w) 206 "read_or" ["reader","steps"] (spExp CW C (pOr 25) 25)) :
  FnOk P w K mg base (CX2 P w) 207 f fd ["reader"] (spOne CW C pExp ExpAt):=by
 obtain ⟨fO,fdO,mO,kO,GO,bO⟩:=G.ex
 refine F.okV sc_read_expression (fun vs H Q E h=>?_) (fun cdv A outer s H vs Q E hr h=>?_)
 ·obtain ⟨p,l,ws,n,rfl,_⟩:=h
  rfl
 ·obtain ⟨p,l,ws,n,rfl,R,hn,q⟩:=h
  refine ⟨_,pss_cons (ps_set (i:=1) sc_read_expression.nd rfl (Or.inl rfl) (pe_lst pa_nil))
   (pss_cons (ps_expr (pe_call GO hr (by rfl) mO kO bO .nil passV (pa_cons (pv 0) (pa_cons (pv 1) pa_nil))))
   (pss_one (ps_ret (pv 1)))),?_⟩
  refine ⟨by show 0 ≤ sizeLine; decide,fun st hst=>?_⟩
  have s1:=same_upd (o:=.lst []) hst
  obtain ⟨rs,hl,_⟩:=R.li
  have lift:∀ H',Step [p,st] (upd H st (.lst [])) H'→Step [p] H H':=fun H' s b o e m=>s b o (s1 _ _ e) fun z=>by
   rcases List.mem_cons.mp z with z | z
   ·exact m (by rw [z]; exact .head _)
   ·rcases List.mem_singleton.mp z with rfl
    rw [hst] at e
    cases e
  refine ⟨_,rfl,_,rfl,p,l,st,ws,n,0,[],rfl,R.same s1,upd_same,Ne.symm (ne_of_none hl hst),Nat.zero_le _,hn,by decide,by decide,?_⟩
  show Yields CW C p l st ws 0 [] (upd H st (.lst [])) E (pOr 25 ws n 0) _
  unfold pExp at q
  cases e:pOr 25 ws n 0 with
  | error e2 =>
   rw [e] at q
   exact fun d H' s' hd'=>q d H' (lift H' s') hd'
  | ok a =>
   obtain ⟨ss,n'⟩:=a
   rw [e] at q
   intro H' ys s' R' h' k'
   exact ⟨_,rfl,q H' (.ref st) (lift H' s') R' ⟨st,ys,rfl,hst,h',k'⟩⟩
end
def loopL {α:Type} (g:List Wd→Nat→RR (α × Nat)) (ws:List Wd):Nat→List α→Nat→RR (List α × Nat)
 | 0,acc,n=>.ok (acc,n)
 | m + 1,acc,n=>if seesW ws n [.str ","] = true then (match g ws (n + 1) with
   | .error e=>.error e
   | .ok (a,n')=>loopL g ws m (acc ++ [a]) n')
  else .ok (acc,n)
def pList {α:Type} (g:List Wd→Nat→RR (α × Nat)) (ws:List Wd) (n:Nat):RR (List α × Nat):=match g ws n with
 | .error e=>.error e
 | .ok (a,n1)=>loopL g ws (ws.length + 1) [a] n1
def Goes1 {α:Type} (g:List Wd→Nat→RR (α × Nat)):Prop:=∀ ws n a n',n ≤ ws.length→g ws n = .ok (a,n')→n < n'∧n' ≤ ws.length
theorem loopL_err {α:Type} {g:List Wd→Nat→RR (α × Nat)} {ws:List Wd} {m n e:Nat} {acc:List α} (hs:seesW ws n [.str ","] = true) (h:g ws (n + 1) = .error e):loopL g ws (m + 1) acc n = .error e:=by
 rw [loopL,if_pos hs,h]
theorem loopL_ok {α:Type} {g:List Wd→Nat→RR (α × Nat)} {ws:List Wd} {m n n':Nat} {acc:List α} {a:α} (hs:seesW ws n [.str ","] = true) (h:g ws (n + 1) = .ok (a,n')):loopL g ws (m + 1) acc n = loopL g ws m (acc ++ [a]) n':=by
 rw [loopL,if_pos hs,h]
theorem loopL_end {α:Type} {g:List Wd→Nat→RR (α × Nat)} {ws:List Wd} {m n:Nat} {acc:List α} (hs:seesW ws n [.str ","] = false):loopL g ws m acc n = .ok (acc,n):=by
 cases m with
 | zero=>rfl
 | succ m=>rw [loopL,if_neg (by rw [hs]; decide)]
theorem goes_loopL {α:Type} {g:List Wd→Nat→RR (α × Nat)} (G:Goes1 g) {ws:List Wd}:∀ {m:Nat} {acc as:List α} {n n':Nat},n ≤ ws.length→loopL g ws m acc n = .ok (as,n')→n ≤ n'∧n' ≤ ws.length∧as.length + n ≤ acc.length + n'
 | 0,acc,as,n,n',h,e=>by cases e; exact ⟨Nat.le_refl _,h,Nat.le_refl _⟩
 | m + 1,acc,as,n,n',h,e=>by
  unfold loopL at e
  split at e
  ·rename_i hs
   split at e
   ·cases e
   ·rename_i a n1 e1
    obtain ⟨a1,a2⟩:=G ws (n + 1) a n1 (sees_lt hs) e1
    obtain ⟨b1,b2,b3⟩:=goes_loopL G (m:=m) a2 e
    rw [List.length_append] at b3
    simp only [List.length_cons,List.length_nil] at b3
    exact ⟨by omega,b2,by omega⟩
  ·cases e; exact ⟨Nat.le_refl _,h,Nat.le_refl _⟩
theorem goes_list {α:Type} {g:List Wd→Nat→RR (α × Nat)} (G:Goes1 g):Goes1 (pList g):=by
 intro ws n as n' h e
 unfold pList at e
 split at e
 ·cases e
 ·rename_i a n1 e1
  obtain ⟨a1,a2⟩:=G ws n a n1 h e1
  obtain ⟨b1,b2,_⟩:=goes_loopL G a2 e
  exact ⟨by omega,b2⟩
theorem goes_exp:Goes1 pExp:=fun ws n a n' h e=>by
 obtain ⟨x,y,_⟩:=good_or 25 ws n 0 a n' h e
 exact ⟨x,y⟩
def ListAt {α:Type} (At:Hp→Hp→α→V→Prop) (H0 H:Hp) (as:List α) (v:V):Prop:=∃ pl rs,v = .ref pl∧H0 pl = none∧H pl = some (.lst rs)∧Paired (At H0 H) as rs
theorem stab_list {α:Type} {At:Hp→Hp→α→V→Prop} (S:Stab At):Stab (ListAt At) where
 keep:=fun ⟨st,ys,e,h0,h1,h2⟩ k=>⟨st,ys,e,h0,k.l _ _ h1 h0,L2.Paired.imp' (fun _ _ z=>S.keep z k) h2⟩
 old:=fun ⟨st,ys,e,h0,h1,h2⟩ k=>⟨st,ys,e,k _ h0,h1,L2.Paired.imp' (fun _ _ z=>S.old z k) h2⟩
 add:=fun ⟨st,ys,e,h0,h1,h2⟩ k=>⟨st,ys,e,by rw [upd_ne (ne_of_none h1 k)]; exact h0,h1,L2.Paired.imp' (fun _ _ z=>S.add z k) h2⟩
section
variable {P:Program} {w:World} {K:PySem.W.Frag} {mg:Str→Option Value} {base:Heap}
def spList {α:Type} (CW C fO:Addr) (g:List Wd→Nat→RR (α × Nat)) (At:Hp→Hp→α→V→Prop):Sp:=fun vs H Q E=>∃ v,vs = [v,.ref fO]∧spOne CW C (pList g) (ListAt At) [v] H Q E
theorem sc_read_list:FnScope ["reader","read_one","parts"] ["reader","read_one"] (defScope s_read_list):=⟨rfl,rfl,rfl,by decide +kernel,rfl,by decide +kernel,by decide +kernel⟩
theorem back {H0 H:Hp} {p:Addr} (s:Step [p] H0 H) (hp:∃ o,H p = some o):∀ b,H b = none→H0 b = none:=fun b h=>by
 cases e:H0 b with
 | none=>rfl
 | some o =>
  by_cases z:b = p
  ·obtain ⟨o',q⟩:=hp
   rw [z,q] at h
   cases h
  ·rw [s b o e (by simpa using z)] at h
   cases h
theorem ok_read_list {α:Type} {g:List Wd→Nat→RR (α × Nat)} {At:Hp→Hp→α→V→Prop} {f C CW fO:Addr} {fd fdO:FuncData} {L:Nat} {ps:List Str} (F:Fun K "read_list" "read_list" s_read_list f fd) (T:TxR K mg C) (S:RdS P w K mg base C CW) (hL:3 ≤ L)
  (kO:PySem.W.keepIn K (.ref fO) = true) (GO:FnOk P w K mg base (CX2 P w) L fO fdO ["reader"] (spOne CW C g At)) (bO:Binds K fdO ["reader"] []) (gd:Goes1 g) (sb:Stab At):FnOk P w K mg base (CX2 P w) (L + 1) f fd ["reader","read_one"] (spList CW C fO g At):=by
 obtain ⟨fI,fdI,mI,GI,bI⟩:=S.takeIf.ex
 refine F.okV sc_read_list (fun vs H Q E h=>?_) (fun cdv A outer s H vs Q E hr h=>?_)
 ·obtain ⟨v,rfl,p,l,ws,n,e,_⟩:=h
  cases e
  rfl
 ·obtain ⟨v,rfl,p,l,ws,n,e,R,hn,q⟩:=h
  cases e
  have r3:Room 3 _:=hr.mono (by omega)
  refine ⟨_,pss_cons (ps_set (i:=2) sc_read_list.nd rfl (Or.inl rfl) (pe_lst (pa_cons (pe_callL (pv 1) GO hr kO bO .nil passV (pa_cons (pv 0) pa_nil)) pa_nil)))
   (pss_cons (ps_while PassesOwn.leaving (pt_val (pe_meth (pv 0) T.cl mI GI r3 bI .nil pass0 (pa_cons pe_str pa_nil)))
    (pss_one (ps_expr (pe_bm PySem.F.plainAttrs_list PySem.F.slot_list_append PySem.F.type_list_append mt_append (pv 2) (pa_cons (pe_callL (pv 1) GO hr kO bO .nil passV (pa_cons (pv 0) pa_nil)) pa_nil)))))
   (pss_one (ps_ret (pv 2)))),?_⟩
  have wl:=R.len
  unfold pList at q
  refine ⟨_,rfl,rfl,_,rfl,p,l,ws,n,rfl,R,hn,?_⟩
  cases e1:g ws n with
  | error e =>
   rw [e1] at q
   exact q
  | ok a =>
   obtain ⟨a,n1⟩:=a
   rw [e1] at q
   dsimp only at q
   obtain ⟨a1,a2⟩:=gd ws n a n1 hn e1
   intro H1 v1 s1 R1 at1
   refine ⟨by show 1 ≤ sizeLine; decide,fun pl hpl=>?_⟩
   have s2:=same_upd (o:=.lst [v1]) hpl
   have hpl0:H pl = none:=back s1 (let ⟨dx,z⟩:=R1.ob; ⟨_,z⟩) pl hpl
   generalize hG:upd H pl (.lst []) = G
   have Gn:∀ b,G b = none→H b = none∧b ≠ pl:=fun b z=>by
    rw [← hG] at z
    by_cases hb:b = pl
    ·rw [hb,upd_same] at z; cases z
    ·rw [upd_ne hb] at z; exact ⟨z,hb⟩
   refine ⟨fun m σ Hc=>∃ (n2:Nat) (as:List α) (rs:List V),Step [p] H Hc∧RdAt C Hc p l ws n2 0∧n2 ≤ ws.length∧as.length ≤ n2∧ws.length + 1 ≤ m + n2∧Hc pl = some (.lst rs)∧Paired (At G Hc) as rs∧loopL g ws (ws.length + 1) [a] n1 = loopL g ws m as n2∧σ = [some (V.ref p),some (V.ref fO),some (V.ref pl)],
    ⟨ws.length + 1,n1,[a],[v1],s1.trans (Same.step s2),R1.same s2,a2,by show 1 ≤ n1; omega,by omega,upd_same,.cons ?_ .nil,rfl,rfl⟩,?_⟩
   ·rw [← hG]
    exact sb.keep (sb.add at1 hpl) (NewStay.same s2)
   rintro m σ Hc ⟨n2,as,rs,sc,Rc,hn2,hal,hm,hl,pr,el,rfl⟩
   obtain ⟨dx,g1⟩:=Rc.ob
   have hpp:pl ≠ p:=fun z=>by
    obtain ⟨dy,z0⟩:=R.ob
    rw [z,z0] at hpl0
    cases hpl0
   have prl:rs.length = as.length:=(Paired.length pr).symm
   refine ⟨_,rfl,p,dx,_,rfl,g1,nm _ (by decide +kernel) (by decide +kernel) (by decide +kernel) ..,p,l,ws,n2,0,",",rfl,Rc,fun hs H2 s3 R2=>⟨_,rfl,iteT ?_⟩,fun hs H2 s3=>⟨_,rfl,iteF ?_⟩⟩
   ·have lt:=sees_lt hs
    obtain ⟨m',rfl⟩:∃ m',m = m' + 1:=⟨m - 1,by omega⟩
    have hl2:H2 pl = some (.lst rs):=s3 _ _ hl (by simpa using hpp)
    cases eb:g ws (n2 + 1) with
    | error e =>
     rw [el,loopL_err hs eb] at q
     refine ⟨fun _ _=>False,fun _ _ z=>z.elim,_,rfl,.inl ⟨rfl,_,SqL.of hl2⟩,_,rfl,rfl,_,rfl,p,l,ws,n2 + 1,rfl,R2,lt,?_⟩
     rw [eb]
     exact fail_mono q (sc.trans s3) fun _ m=>m
    | ok b =>
     obtain ⟨b,n3⟩:=b
     obtain ⟨b1,b2⟩:=gd ws (n2 + 1) b n3 lt eb
     rw [loopL_ok hs eb] at el
     refine ⟨fun σ' H'=>∃ rs',Step [p] H H'∧RdAt C H' p l ws n3 0∧H' pl = some (.lst rs')∧Paired (At G H') (as ++ [b]) rs'∧σ' = [some (V.ref p),some (V.ref fO),some (V.ref pl)],?_,_,rfl,.inl ⟨rfl,_,SqL.of hl2⟩,_,rfl,rfl,_,rfl,p,l,ws,n2 + 1,rfl,R2,lt,?_⟩
     ·rintro σ' H' ⟨rs',sa,Ra,ha,pa,rfl⟩
      exact ⟨m',Nat.lt_succ_self _,n3,as ++ [b],rs',sa,Ra,b2,by rw [List.length_append]; show as.length + 1 ≤ n3; omega,by omega,ha,pa,el,rfl⟩
     ·rw [eb]
      intro H3 v3 s4 R3 at3
      have hl3:H3 pl = some (.lst rs):=s4 _ _ hl2 (by simpa using hpp)
      refine ⟨pl,rs,_,rfl,rfl,hl3,by rw [prl]; exact Nat.lt_of_le_of_lt hal (Nat.lt_of_le_of_lt (Nat.le_trans hn2 wl) (by decide)),rs ++ [v3],?_,?_,upd_same,pairedSnoc (L2.Paired.imp' (fun x r z=>?_) pr) ?_,rfl⟩
      ·refine fun b o z m=>?_
       rw [upd_ne (ne_of_none z hpl0)]
       exact (sc.trans (s3.trans s4)) b o z m
      ·obtain ⟨dz,g3⟩:=R3.ob
       obtain ⟨lr,ll,_⟩:=R.li
       refine R3.move (A:=[pl]) Step.at1 (fun c m=>by rcases List.mem_singleton.mp m with rfl; exact ⟨Ne.symm (ne_of_none ll hpl0),fun xs z=>by rw [hl3] at z; cases z⟩) ⟨dz,by rw [upd_ne (Ne.symm hpp)]; exact g3⟩
      ·have ob:∀ a ∈ [p],∃ C dx fs,Hc a = some (.ins C dx fs):=fun a m=>by rcases List.mem_singleton.mp m with rfl; exact ⟨_,_,_,g1⟩
       refine sb.keep (sb.keep z (NewStay.obj (s3.trans s4) ob)) ⟨fun c ys zc hc=>?_,fun c ys zc=>?_⟩
       ·rw [upd_ne (Gn _ hc).2]
        exact zc
       ·rw [upd_ne (ne_of zc hl3 (by intro z; cases z))]
        exact zc
      ·refine sb.old (sb.keep at3 ⟨fun c ys zc hc=>?_,fun c ys zc=>?_⟩) fun c zc=>?_
       ·have ncl:c ≠ pl:=fun zz=>by
         rw [zz,hl2] at hc
         cases hc
        rw [upd_ne ncl]
        exact zc
       ·rw [upd_ne (ne_of zc hl3 (by intro z; cases z))]
        exact zc
       ·have ncl:c ≠ pl:=fun zz=>by rw [zz,hl2] at zc; cases zc
        rw [← hG,upd_ne ncl]
        exact back (sc.trans s3) (let ⟨dy,z⟩:=R2.ob; ⟨_,z⟩) c zc
   ·rw [el,loopL_end hs] at q
    exact ⟨_,rfl,q H2 (.ref pl) (sc.trans (Same.step s3)) (Rc.same s3) ⟨pl,rs,rfl,hpl0,s3 _ _ hl,L2.Paired.imp' (fun _ _ z=>sb.old (sb.keep z (NewStay.same s3)) fun b zb=>(Gn b zb).1) pr⟩⟩
end
def pWhere (ws:List Wd) (n:Nat):RR (Option (List Stp) × Nat):=if seesW ws n [.str "where"] = true then (match pExp ws (n + 1) with
  | .error e=>.error e
  | .ok (ss,n')=>.ok (some ss,n'))
 else .ok (none,n)
def OptAt {α:Type} (At:Hp→Hp→α→V→Prop) (H0 H:Hp) (o:Option α) (v:V):Prop:=match o with
 | none=>v = .non
 | some a=>At H0 H a v
theorem stab_opt {α:Type} {At:Hp→Hp→α→V→Prop} (S:Stab At):Stab (OptAt At) where
 keep:=fun {H0 H H' a v} h k=>by
  cases a with
  | none=>exact h
  | some a=>exact S.keep (a:=a) h k
 old:=fun {H0 H1 H a v} h k=>by
  cases a with
  | none=>exact h
  | some a=>exact S.old (a:=a) h k
 add:=fun {H0 H a v x o} h k=>by
  cases a with
  | none=>exact h
  | some a=>exact S.add (a:=a) h k
abbrev Col:=V × Nat × V × Bool × Bool
def colEnd (ws:List Wd) (n m:Nat) (nn:Bool):Col × Nat:=if seesW ws m [.str "unique"] = true then (((lookW ws n).2,n + 1,(lookW ws (n + 1)).2,nn,true),m + 1) else (((lookW ws n).2,n + 1,(lookW ws (n + 1)).2,nn,false),m)
def pCol (ws:List Wd) (n:Nat):RR (Col × Nat):=if (lookW ws n).1 = "name" then
  (if seesW ws (n + 1) [.str "int",.str "text"] = true then
   (if seesW ws (n + 2) [.str "not"] = true then (match tAll ws (n + 3) ["null"] with
    | .error e=>.error e
    | .ok m=>.ok (colEnd ws n m true))
   else .ok (colEnd ws n (n + 2) false))
  else .error (n + 2))
 else .error (n + 1)
def ColAt (_ H:Hp) (c:Col) (v:V):Prop:=∃ t,v = .ref t∧H t = some (.tup [c.1,.int (c.2.1:Int),c.2.2.1,.bl c.2.2.2.1,.bl c.2.2.2.2])
theorem stab_col:Stab ColAt where
 keep:=fun ⟨t,e,h⟩ k=>⟨t,e,k.t _ _ h⟩
 old:=fun h _=>h
 add:=fun h _=>h
abbrev Chg:=V × Nat × List Stp
def pChg (ws:List Wd) (n:Nat):RR (Chg × Nat):=if (lookW ws n).1 = "name" then (match tAll ws (n + 1) ["="] with
  | .error e=>.error e
  | .ok m=>(match pExp ws m with
   | .error e=>.error e
   | .ok (ss,n')=>.ok (((lookW ws n).2,n + 1,ss),n')))
 else .error (n + 1)
def ChgAt (H0 H:Hp) (c:Chg) (v:V):Prop:=∃ t ev,v = .ref t∧H t = some (.tup [c.1,.int (c.2.1:Int),ev])∧ExpAt H0 H c.2.2 ev
theorem stab_chg:Stab ChgAt where
 keep:=fun ⟨t,ev,e,h,z⟩ k=>⟨t,ev,e,k.t _ _ h,stab_exp.keep z k⟩
 old:=fun ⟨t,ev,e,h,z⟩ k=>⟨t,ev,e,h,stab_exp.old z k⟩
 add:=fun ⟨t,ev,e,h,z⟩ k=>⟨t,ev,e,h,stab_exp.add z k⟩
section
variable {P:Program} {w:World} {K:PySem.W.Frag} {mg:Str→Option Value} {base:Heap}
end
section
variable {P:Program} {w:World} {K:PySem.W.Frag} {mg:Str→Option Value} {base:Heap}
def sflds (ki ta co ex ch wh od de li:V):List (Str × V):=[("kind",ki),("target",ta),("columns",co),("expressions",ex),("changes",ch),("where",wh),("order",od),("desc",de),("limit",li)]
end
section
variable (ki ta co ex ch wh od de li v:V)
end
structure TxS (K:PySem.W.Frag) (mg:Str→Option Value) (CS fS:Addr):Prop where
 cl:Cls K CS
 nKi:NoAttr K CS "kind"
 nTa:NoAttr K CS "target"
 nCo:NoAttr K CS "columns"
 nEx:NoAttr K CS "expressions"
 nCh:NoAttr K CS "changes"
 nWh:NoAttr K CS "where"
 nOd:NoAttr K CS "order"
 nDe:NoAttr K CS "desc"
 nLi:NoAttr K CS "limit"
 mgS:mg "Statement" = some (.ref CS)
 mkS:Mk K CS fS
structure SObj (CS:Addr) (H0 H:Hp) (y:Addr) (ki ta co ex ch wh od de li:V):Prop where
 new:H0 y = none
 at_:∃ dx,H y = some (.ins CS dx (sflds ki ta co ex ch wh od de li))
section
variable {P:Program} {w:World} {K:PySem.W.Frag} {mg:Str→Option Value} {base:Heap}
def spStm (CS:Addr):Sp:=fun vs H Q _=>∃ (y dx:Addr) (ki ta:V),vs = [.ref y,ki,ta]∧H y = some (.ins CS dx []) ∧
 ∀ (H':Hp) (c1 c2 c3:Addr),Step [y] H H'→H' y = some (.ins CS dx (sflds ki ta (.ref c1) (.ref c2) (.ref c3) .non .non (.bl false) .non))→H c1 = none→H c2 = none→H c3 = none→H' c1 = some (.lst [])→H' c2 = some (.lst [])→H' c3 = some (.lst [])→Q .non H'
theorem sc_Statement_init:FnScope ["self","kind","target"] ["self","kind","target"] (defScope s_Statement_init):=⟨rfl,rfl,rfl,by decide +kernel,rfl,by decide +kernel,by decide +kernel⟩
theorem ok_Statement_init {f CS fS:Addr} {fd:FuncData} (F:Fun K "__init__" "Statement.__init__" s_Statement_init f fd) (T:TxS K mg CS fS):FnOk P w K mg base CX0 1 f fd ["self","kind","target"] (spStm CS):=by
 refine F.ok sc_Statement_init (fun vs H Q E h=>?_) (fun cdv A outer s H vs Q E hr h=>?_)
 ·obtain ⟨y,dx,ki,ta,rfl,_⟩:=h
  rfl
 ·obtain ⟨y,dx,ki,ta,rfl,hy,q⟩:=h
  refine ⟨_,pss_cons (ps_fld (pv 0) (pv 1) rfl) (pss_cons (ps_fld (pv 0) (pv 2) rfl) (pss_cons (ps_fld (pv 0) (pe_lst pa_nil) rfl) (pss_cons (ps_fld (pv 0) (pe_lst pa_nil) rfl) (pss_cons (ps_fld (pv 0) (pe_lst pa_nil) rfl)
   (pss_cons (ps_fld (pv 0) pe_non rfl) (pss_cons (ps_fld (pv 0) pe_non rfl) (pss_cons (ps_fld (pv 0) pe_bl rfl) (pss_one (ps_fld (pv 0) pe_non rfl))))))))),?_⟩
  refine ⟨_,rfl,_,rfl,y,CS,dx,_,rfl,hy,T.cl,T.nKi,by show 0 < 1000; decide,?_⟩
  refine ⟨_,rfl,_,rfl,y,CS,dx,_,rfl,upd_same,T.cl,T.nTa,by show 1 < 1000; decide,?_⟩
  rw [upd_upd]
  refine ⟨by show 0 ≤ sizeLine; decide,fun c1 h1=>?_⟩
  have n1:y ≠ c1:=ne_of_none upd_same h1
  refine ⟨_,rfl,y,CS,dx,_,rfl,by rw [upd_ne n1,upd_same],T.cl,T.nCo,by show 2 < 1000; decide,?_⟩
  refine ⟨by show 0 ≤ sizeLine; decide,fun c2 h2=>?_⟩
  have n2:y ≠ c2:=ne_of_none upd_same h2
  have e12:c1 ≠ c2:=ne_of_none (o:=.lst []) (by rw [upd_ne (Ne.symm n1),upd_same]) h2
  refine ⟨_,rfl,y,CS,dx,_,rfl,by rw [upd_ne n2,upd_same],T.cl,T.nEx,by show 3 < 1000; decide,?_⟩
  refine ⟨by show 0 ≤ sizeLine; decide,fun c3 h3=>?_⟩
  have n3:y ≠ c3:=ne_of_none upd_same h3
  have e23:c2 ≠ c3:=ne_of_none (o:=.lst []) (by rw [upd_ne (Ne.symm n2),upd_same]) h3
  have e13:c1 ≠ c3:=ne_of_none (o:=.lst []) (by rw [upd_ne (Ne.symm n1),upd_ne e12,upd_ne (Ne.symm n1),upd_same]) h3
  refine ⟨_,rfl,y,CS,dx,_,rfl,by rw [upd_ne n3,upd_same],T.cl,T.nCh,by show 4 < 1000; decide,?_⟩
  refine ⟨_,rfl,y,CS,dx,_,rfl,upd_same,T.cl,T.nWh,by show 5 < 1000; decide,?_⟩
  rw [upd_upd]
  refine ⟨_,rfl,y,CS,dx,_,rfl,upd_same,T.cl,T.nOd,by show 6 < 1000; decide,?_⟩
  rw [upd_upd]
  refine ⟨_,rfl,y,CS,dx,_,rfl,upd_same,T.cl,T.nDe,by show 7 < 1000; decide,?_⟩
  rw [upd_upd]
  refine ⟨_,rfl,y,CS,dx,_,rfl,upd_same,T.cl,T.nLi,by show 8 < 1000; decide,?_⟩
  rw [upd_upd]
  have z1:H c1 = none:=by rw [upd_ne (Ne.symm n1)] at h1; exact h1
  have z2:H c2 = none:=by rw [upd_ne (Ne.symm n2),upd_ne (Ne.symm e12),upd_ne (Ne.symm n2)] at h2; exact h2
  have z3:H c3 = none:=by rw [upd_ne (Ne.symm n3),upd_ne (Ne.symm e23),upd_ne (Ne.symm n3),upd_ne (Ne.symm e13),upd_ne (Ne.symm n3)] at h3; exact h3
  refine q _ c1 c2 c3 (fun b o e m=>?_) (by rw [upd_same]; rfl) z1 z2 z3 ?_ ?_ ?_
  ·have nb:b ≠ y:=by simpa using m
   rw [upd_ne nb,upd_ne (ne_of_none e z3),upd_ne nb,upd_ne (ne_of_none e z2),upd_ne nb,upd_ne (ne_of_none e z1),upd_ne nb]
   exact e
  ·rw [upd_ne (Ne.symm n1),upd_ne e13,upd_ne (Ne.symm n1),upd_ne e12,upd_ne (Ne.symm n1),upd_same]
  ·rw [upd_ne (Ne.symm n2),upd_ne e23,upd_ne (Ne.symm n2),upd_same]
  ·rw [upd_ne (Ne.symm n3),upd_same]
end
structure Stm where
 kind:Str
 target:Option (V × Nat)
 cols:List Col:=[]
 exprs:Option (List (List Stp)):=some []
 chs:List Chg:=[]
 wher:Option (List Stp):=none
 order:Option (V × Nat):=none
 desc:Bool:=false
 limit:Option V:=none
def NmAt (H:Hp) (nm:V × Nat) (v:V):Prop:=∃ t,v = .ref t∧H t = some (.tup [nm.1,.int (nm.2:Int)])
def TgAt (H:Hp) (o:Option (V × Nat)) (v:V):Prop:=match o with
 | none=>v = .non
 | some nm=>NmAt H nm v
theorem TgAt.stay {H0 H H':Hp} (k:NewStay H0 H H') {o:Option (V × Nat)} {v:V} (h:TgAt H o v):TgAt H' o v:=by
 cases o with
 | none=>exact h
 | some nm =>
  obtain ⟨t,e,z⟩:=h
  exact ⟨t,e,k.t _ _ z⟩
def StmAt (CS:Addr) (H0 H:Hp) (s:Stm) (v:V):Prop:=∃ y ta co ex ch wh od,v = .ref y∧SObj CS H0 H y (.str s.kind) ta co ex ch wh od (.bl s.desc) (s.limit.getD .non)∧TgAt H s.target ta∧ListAt ColAt H0 H s.cols co∧OptAt (ListAt ExpAt) H0 H s.exprs ex ∧
 ListAt ChgAt H0 H s.chs ch∧OptAt ExpAt H0 H s.wher wh∧TgAt H s.order od
def pName (ws:List Wd) (n:Nat):RR ((V × Nat) × Nat):=if (lookW ws n).1 = "name" then .ok (((lookW ws n).2,n + 1),n + 1) else .error (n + 1)
theorem goes_name:Goes1 pName:=fun ws n a n' h e=>by
 unfold pName at e
 split at e
 ·rename_i hn
  have:n < ws.length:=kind_lt (by rw [hn]; decide +kernel)
  cases e
  exact ⟨by omega,by omega⟩
 ·cases e
section
variable {K:PySem.W.Frag} {C CW CS p l:Addr} {ws:List Wd} {n:Nat} {H0 H:Hp} {E:XK} {σ:St} {Kc:VK}
def ThenN (CW C p l:Addr) (ws:List Wd) (H0 H:Hp) (E:XK) (r:RR Nat) (k:Hp→Prop):Prop:=match r with
 | .ok n'=>∀ H',Step [p] H0 H'→Step [p] H H'→RdAt C H' p l ws n' 0→k H'
 | .error e=>Fails CW [p] H0 E e
def Then {α:Type} (CW C p l:Addr) (ws:List Wd) (H0 H:Hp) (E:XK) (r:RR (α × Nat)) (k:α→Hp→Prop):Prop:=match r with
 | .ok (a,n')=>∀ H',Step [p] H0 H'→Step [p] H H'→RdAt C H' p l ws n' 0→k a H'
 | .error e=>Fails CW [p] H0 E e
theorem take1 {a:Str} (h0:σ[0]? = some (some (.ref p))) (s:Step [p] H0 H) (R:RdAt C H p l ws n 0) (hn:n ≤ ws.length) (q:ThenN CW C p l ws H0 H E (tAll ws n [a]) (Kc .non)) :
  tMeth C "take_all" (spTakeAll K C CW) [] (fun _=>E) (tVar 0) (tCons (tTup (tCons (tC (.str a)) tNil)) tNil) σ H Kc:=by
 have wl:=R.len
 obtain ⟨dx,g⟩:=R.ob
 refine ⟨_,h0,p,dx,_,rfl,g,nm _ (by decide +kernel) (by decide +kernel) (by decide +kernel) ..,by show 1 ≤ sizeLine; decide,fun t ht=>?_⟩
 have s2:=same_upd (o:=.tup [V.str a]) ht
 refine ⟨p,l,t,ws,n,0,[a],rfl,by show n + 1 ≤ 1000100; omega,R.same s2,SqT.of upd_same,?_⟩
 cases ea:tAll ws n [a] with
 | error e =>
  rw [ea] at q
  exact fail_mono q (s.trans (Same.step s2)) fun _ m=>m
 | ok n' =>
  rw [ea] at q
  intro H' s3 R3
  exact q H' (s.trans (Step.trans (Same.step s2) s3)) (Step.trans (Same.step s2) s3) R3
theorem take2 {a b:Str} (h0:σ[0]? = some (some (.ref p))) (s:Step [p] H0 H) (R:RdAt C H p l ws n 0) (hn:n ≤ ws.length) (q:ThenN CW C p l ws H0 H E (tAll ws n [a,b]) (Kc .non)) :
  tMeth C "take_all" (spTakeAll K C CW) [] (fun _=>E) (tVar 0) (tCons (tTup (tCons (tC (.str a)) (tCons (tC (.str b)) tNil))) tNil) σ H Kc:=by
 have wl:=R.len
 obtain ⟨dx,g⟩:=R.ob
 refine ⟨_,h0,p,dx,_,rfl,g,nm _ (by decide +kernel) (by decide +kernel) (by decide +kernel) ..,by show 2 ≤ sizeLine; decide,fun t ht=>?_⟩
 have s2:=same_upd (o:=.tup [V.str a,V.str b]) ht
 refine ⟨p,l,t,ws,n,0,[a,b],rfl,by show n + 2 ≤ 1000100; omega,R.same s2,SqT.of upd_same,?_⟩
 cases ea:tAll ws n [a,b] with
 | error e =>
  rw [ea] at q
  exact fail_mono q (s.trans (Same.step s2)) fun _ m=>m
 | ok n' =>
  rw [ea] at q
  intro H' s3 R3
  exact q H' (s.trans (Step.trans (Same.step s2) s3)) (Step.trans (Same.step s2) s3) R3
theorem takeName (h0:σ[0]? = some (some (.ref p))) (s:Step [p] H0 H) (R:RdAt C H p l ws n 0) (hn:n ≤ ws.length) (q:Then CW C p l ws H0 H E (pName ws n) fun a H'=>∀ v,NmAt H' a v→Kc v H') :
  tMeth C "take_name" (spTakeName C CW) [] (fun _=>E) (tVar 0) tNil σ H Kc:=by
 have wl:=R.len
 obtain ⟨dx,g⟩:=R.ob
 unfold pName at q
 refine ⟨_,h0,p,dx,_,rfl,g,nm _ (by decide +kernel) (by decide +kernel) (by decide +kernel) ..,p,l,ws,n,0,rfl,by omega,R,fun e t H' s2 R2 ht=>?_,fun ne=>?_⟩
 ·rw [if_pos e] at q
  exact q H' (s.trans s2) s2 R2 _ ⟨t,rfl,ht⟩
 ·rw [if_neg ne] at q
  exact fail_mono q s fun _ m=>nomatch m
theorem takeIf {z:Str} (h0:σ[0]? = some (some (.ref p))) (s:Step [p] H0 H) (R:RdAt C H p l ws n 0) (q1:seesW ws n [.str z] = true→∀ H',Step [p] H0 H'→Step [p] H H'→RdAt C H' p l ws (n + 1) 0→Kc (.bl true) H') (q2:seesW ws n [.str z] = false→∀ H',Step [p] H0 H'→Step [p] H H'→RdAt C H' p l ws n 0→Kc (.bl false) H') :
  tMeth C "take_if" (spTakeIf C) [] E0 (tVar 0) (tCons (tC (.str z)) tNil) σ H Kc:=by
 obtain ⟨dx,g⟩:=R.ob
 exact ⟨_,h0,p,dx,_,rfl,g,nm _ (by decide +kernel) (by decide +kernel) (by decide +kernel) ..,p,l,ws,n,0,z,rfl,R,fun hs H2 s2 R2=>q1 hs H2 (s.trans s2) s2 R2,fun hs H2 s2=>q2 hs H2 (s.trans (Same.step s2)) (Same.step s2) (R.same s2)⟩
theorem rdOne {α:Type} {g:List Wd→Nat→RR (α × Nat)} {At:Hp→Hp→α→V→Prop} (sb:Stab At) (h0:σ[0]? = some (some (.ref p))) (s:Step [p] H0 H) (R:RdAt C H p l ws n 0) (hn:n ≤ ws.length) (q:Then CW C p l ws H0 H E (g ws n) fun a H'=>∀ v,At H0 H' a v→Kc v H') :
  tCall (spOne CW C g At) [] (fun _=>E) (tCons (tVar 0) tNil) σ H Kc:=by
 refine ⟨_,h0,p,l,ws,n,rfl,R,hn,?_⟩
 cases e:g ws n with
 | error e2 =>
  rw [e] at q
  exact fail_mono q s fun _ m=>m
 | ok a =>
  obtain ⟨a,n'⟩:=a
  rw [e] at q
  intro H' v s2 R2 h2
  exact q H' (s.trans s2) s2 R2 v (sb.old h2 (back s (let ⟨dx,z⟩:=R.ob; ⟨_,z⟩)))
theorem rdList {α:Type} {g:List Wd→Nat→RR (α × Nat)} {At:Hp→Hp→α→V→Prop} {fO:Addr} (sb:Stab At) (h0:σ[0]? = some (some (.ref p))) (s:Step [p] H0 H) (R:RdAt C H p l ws n 0) (hn:n ≤ ws.length) (q:Then CW C p l ws H0 H E (pList g ws n) fun a H'=>∀ v,ListAt At H0 H' a v→Kc v H') :
  tCall (spList CW C fO g At) [] (fun _=>E) (tCons (tVar 0) (tCons (tC (.ref fO)) tNil)) σ H Kc:=by
 refine ⟨_,h0,_,rfl,p,l,ws,n,rfl,R,hn,?_⟩
 cases e:pList g ws n with
 | error e2 =>
  rw [e] at q
  exact fail_mono q s fun _ m=>m
 | ok a =>
  obtain ⟨a,n'⟩:=a
  rw [e] at q
  intro H' v s2 R2 h2
  exact q H' (s.trans s2) s2 R2 v ((stab_list sb).old h2 (back s (let ⟨dx,z⟩:=R.ob; ⟨_,z⟩)))
theorem mkStmS {ki:Str} {tg:Option (V × Nat)} {tv:V} {E':XK} {D:Hp→Prop} {x dx:Addr} (hx:H x = none) (hdx:H dx = none) (hne:dx ≠ x) (s:Step [p] H0 H) (R:RdAt C H p l ws n 0) (ht:TgAt H tg tv) (q:∀ H2,Same H H2→Step [p] H0 H2→RdAt C H2 p l ws n 0→StmAt CS H0 H2 { kind:=ki,target:=tg } (.ref x)→D H2) :
  spStm CS [.ref x,.str ki,tv] (upd (upd H dx (.own x)) x (.ins CS dx [])) (fun v H2=>v = .non∧D H2) E':=by
 have s1:Same H (upd (upd H dx (.own x)) x (.ins CS dx [])):=(same_upd hdx).trans (same_upd (by rw [upd_ne (Ne.symm hne)]; exact hx))
 have bk:=back s (let ⟨dx,z⟩:=R.ob; ⟨_,z⟩)
 refine ⟨x,dx,.str ki,tv,rfl,upd_same,fun H' c1 c2 c3 s2 hy z1 z2 z3 k1 k2 k3=>⟨rfl,?_⟩⟩
 have keep:Same H H':=fun b o e=>s2 _ _ (s1 _ _ e) (by
  have:b ≠ x:=ne_of_none e hx
  simpa using this)
 have nn:∀ c,upd (upd H dx (.own x)) x (.ins CS dx []) c = none→H0 c = none:=fun c z=>bk c (by
  cases e:H c with
  | none=>rfl
  | some o=>rw [s1 _ _ e] at z; cases z)
 exact q H' keep (s.trans (Same.step keep)) (R.same keep) ⟨x,tv,.ref c1,.ref c2,.ref c3,.non,.non,rfl,⟨bk x hx,dx,hy⟩,ht.stay (NewStay.same (H0:=H0) keep),⟨c1,[],rfl,nn c1 z1,k1,.nil⟩,⟨c2,[],rfl,nn c2 z2,k2,.nil⟩,⟨c3,[],rfl,nn c3 z3,k3,.nil⟩,rfl,rfl⟩
theorem mkStm {ki:Str} {tg:Option (V × Nat)} {tv:V} {E':XK} {D:Hp→Prop} {x dx:Addr} (hx:H x = none) (hdx:H dx = none) (hne:dx ≠ x) (s:Step [p] H0 H) (R:RdAt C H p l ws n 0) (ht:TgAt H tg tv) (q:∀ H2,Step [p] H0 H2→RdAt C H2 p l ws n 0→StmAt CS H0 H2 { kind:=ki,target:=tg } (.ref x)→D H2) :
  spStm CS [.ref x,.str ki,tv] (upd (upd H dx (.own x)) x (.ins CS dx [])) (fun v H2=>v = .non∧D H2) E':=mkStmS hx hdx hne s R ht fun H2 _ a b c=>q H2 a b c
theorem StmAt.stay {H':Hp} {sm:Stm} {v:V} (s:Step [p] H H') (hp:∃ C dx fs,H p = some (.ins C dx fs)) (hp0:∃ o,H0 p = some o) (h:StmAt CS H0 H sm v):StmAt CS H0 H' sm v:=by
 obtain ⟨y,ta,co,ex,ch,wh,od,e,⟨n0,dx,hy⟩,h1,h2,h3,h4,h5,h6⟩:=h
 have k:NewStay H0 H H':=NewStay.obj s fun a m=>by rcases List.mem_singleton.mp m with rfl; exact hp
 have ny:y ≠ p:=fun z=>by obtain ⟨o,z0⟩:=hp0; rw [z,z0] at n0; cases n0
 exact ⟨y,ta,co,ex,ch,wh,od,e,⟨n0,dx,s _ _ hy (by simpa using ny)⟩,h1.stay k,(stab_list stab_col).keep h2 k,(stab_opt (stab_list stab_exp)).keep h3 k,(stab_list stab_chg).keep h4 k,(stab_opt stab_exp).keep h5 k,h6.stay k⟩
theorem obj_put {y dx:Addr} {o:HO} {fs:List (Str × V)} (hp0:∃ o,H0 p = some o) (n0:H0 y = none) (hy:H y = some (.ins CS dx fs)) (s:Step [p] H0 H) (R:RdAt C H p l ws n 0):Step [p] H0 (upd H y o)∧RdAt C (upd H y o) p l ws n 0∧NewStay H0 H (upd H y o):=by
 have ny:p ≠ y:=fun z=>by obtain ⟨o,z0⟩:=hp0; rw [z,n0] at z0; cases z0
 obtain ⟨lr,ll,_⟩:=R.li
 obtain ⟨dz,g⟩:=R.ob
 refine ⟨fun b u e m=>by rw [upd_ne (ne_of_none e n0)]; exact s b u e m,R.move (A:=[y]) Step.at1 (fun c m=>by rcases List.mem_singleton.mp m with rfl; exact ⟨ne_of hy ll (by intro z; cases z),fun xs z=>by rw [hy] at z; cases z⟩) ⟨dz,by rw [upd_ne ny]; exact g⟩,
  NewStay.obj (A:=[y]) Step.at1 fun a m=>by rcases List.mem_singleton.mp m with rfl; exact ⟨_,_,_,hy⟩⟩
end
section
variable {K:PySem.W.Frag} {mg:Str→Option Value} {C CW CS fS p l y:Addr} {ws:List Wd} {n:Nat} {H0 H:Hp} {sm:Stm} {v:V} {D:Hp→Prop}
def Sets (K:PySem.W.Frag) (f:Str) (y:Addr) (v:V) (H:Hp) (D:Hp→Prop):Prop:=∃ a C' dx fs,V.ref y = .ref a∧H a = some (.ins C' dx fs)∧Cls K C'∧NoAttr K C' f∧fs.length < 1000∧D (upd H a (.ins C' dx (putF f v fs)))
theorem set_ex {es:Option (List (List Stp))} (T:TxS K mg CS fS) (hp0:∃ o,H0 p = some o) (s:Step [p] H0 H) (R:RdAt C H p l ws n 0) (h:StmAt CS H0 H sm (.ref y)) (hv:OptAt (ListAt ExpAt) H0 H es v) (q:∀ H',Step [p] H0 H'→RdAt C H' p l ws n 0→StmAt CS H0 H' { sm with exprs:=es } (.ref y)→D H'):Sets K "expressions" y v H D:=by
 obtain ⟨y',ta,co,ex,ch,wh,od,e,⟨n0,dx,hy⟩,h1,h2,h3,h4,h5,h6⟩:=h
 cases e
 obtain ⟨s',R',k⟩:=obj_put (o:=.ins CS dx (sflds (.str sm.kind) ta co v ch wh od (.bl sm.desc) (sm.limit.getD .non))) hp0 n0 hy s R
 exact ⟨y,CS,dx,_,rfl,hy,T.cl,T.nEx,by show 9 < 1000; decide,q _ s' R' ⟨y,ta,co,v,ch,wh,od,rfl,⟨n0,dx,upd_same⟩,h1.stay k,(stab_list stab_col).keep h2 k,(stab_opt (stab_list stab_exp)).keep hv k,(stab_list stab_chg).keep h4 k,(stab_opt stab_exp).keep h5 k,h6.stay k⟩⟩
theorem RdAt.ins (R:RdAt C H p l ws n 0):∃ C dx fs,H p = some (.ins C dx fs):=let ⟨dx,z⟩:=R.ob; ⟨_,_,_,z⟩
theorem RdAt.ex (R:RdAt C H p l ws n 0):∃ o,H p = some o:=let ⟨dx,z⟩:=R.ob; ⟨_,z⟩
end
def pInsert (ws:List Wd) (n:Nat):RR (Stm × Nat):=match tAll ws n ["into"] with
 | .error e=>.error e
 | .ok n1=>match pName ws n1 with
  | .error e=>.error e
  | .ok (nm,n2)=>match tAll ws n2 ["values","("] with
   | .error e=>.error e
   | .ok n3=>match pList pExp ws n3 with
    | .error e=>.error e
    | .ok (es,n4)=>match tAll ws n4 [")"] with
     | .error e=>.error e
     | .ok n5=>.ok ({ kind := "insert",target:=some nm,exprs:=some es },n5)
section
variable {P:Program} {w:World} {K:PySem.W.Frag} {mg:Str→Option Value} {base:Heap}
structure RdT0 (P:Program) (w:World) (K:PySem.W.Frag) (mg:Str→Option Value) (base:Heap) (C CW CS fS fE:Addr):Prop where
 init:∃ fd,FnOk P w K mg base CX0 1 fS fd ["self","kind","target"] (spStm CS)∧Binds K fd ["self","kind","target"] []
 mgE:mg "read_expression" = some (.ref fE)
 lsE:FnV P w K mg base (CX2 P w) 208 "read_list" ["reader","read_one"] (spList CW C fE pExp ExpAt)
theorem sc_read_insert:FnScope ["reader","statement"] ["reader"] (defScope s_read_insert):=⟨rfl,rfl,rfl,by decide +kernel,rfl,by decide +kernel,by decide +kernel⟩
theorem ok_read_insert {f C CW CS fS fE:Addr} {fd:FuncData} (F:Fun K "read_insert" "read_insert" s_read_insert f fd) (T:TxR K mg C) (TS:TxS K mg CS fS) (S:RdS P w K mg base C CW) (U:RdT0 P w K mg base C CW CS fS fE) (gk:GS mg "INSERT" "insert") :
  FnOk P w K mg base (CX2 P w) 210 f fd ["reader"] (spOne CW C pInsert (StmAt CS)):=by
 obtain ⟨fA,fdA,mA,GA,bA⟩:=S.takeAll.ex
 obtain ⟨fN,fdN,mN,GN,bN⟩:=S.takeName.ex
 obtain ⟨fdS,GI,bI⟩:=U.init
 obtain ⟨fL,fdL,mL,kL,GL,bL⟩:=U.lsE.ex
 obtain ⟨tk,mk⟩:=gk
 refine F.okV sc_read_insert (fun vs H Q E h=>?_) (fun cdv A outer s H vs Q E hr h=>?_)
 ·obtain ⟨p,l,ws,n,rfl,_⟩:=h
  rfl
 ·obtain ⟨p,l,ws,n,rfl,R,hn,q⟩:=h
  have r2:Room 2 _:=hr.mono (by omega)
  have r4:Room 4 _:=hr.mono (by omega)
  have r5:Room 5 _:=hr.mono (by omega)
  have r8:Room 208 _:=hr.mono (by omega)
  refine ⟨_,pss_cons (ps_expr (pe_meth (pv 0) T.cl mA GA r4 bA .nil passV (pa_cons (pe_tup (pa_cons pe_str pa_nil)) pa_nil)))
   (pss_cons (ps_set (i:=1) sc_read_insert.nd rfl (Or.inl rfl) (pe_make TS.mkS GI r2 (by rfl) TS.mgS bI .nil pass0 (pa_cons (pe_glob (by rfl) mk (v:=.str "insert") ⟨_,rfl⟩) (pa_cons (pe_meth0 (pv 0) T.cl mN GN r5 bN .nil passV) pa_nil))))
   (pss_cons (ps_expr (pe_meth (pv 0) T.cl mA GA r4 bA .nil passV (pa_cons (pe_tup (pa_cons pe_str (pa_cons pe_str pa_nil))) pa_nil)))
   (pss_cons (ps_fld (pv 1) (pe_call GL r8 (by rfl) mL kL bL .nil passV (pa_cons (pv 0) (pa_cons (pe_glob (by rfl) U.mgE (v:=.ref fE) rfl) pa_nil))) rfl)
   (pss_cons (ps_expr (pe_meth (pv 0) T.cl mA GA r4 bA .nil passV (pa_cons (pe_tup (pa_cons pe_str pa_nil)) pa_nil)))
   (pss_one (ps_ret (pv 1))))))),?_⟩
  unfold pInsert at q
  have hp0:=R.ex
  refine take1 rfl (Step.refl H) R hn ?_
  cases e1:tAll ws n ["into"] with
  | error e=>rw [e1] at q; exact q
  | ok n1 =>
   rw [e1] at q
   dsimp only at q
   obtain ⟨_,b1⟩:=tAll_ok hn e1
   intro H1 s1 _ R1
   refine takeName rfl s1 R1 b1 ?_
   cases e2:pName ws n1 with
   | error e=>rw [e2] at q; exact q
   | ok a =>
    obtain ⟨nm,n2⟩:=a
    rw [e2] at q
    dsimp only at q
    obtain ⟨_,b2⟩:=goes_name ws n1 nm n2 b1 e2
    intro H2 s2 _ R2 v2 hv2
    intro y dx0 hx0 hdx0 hne0
    refine mkStm (ki := "insert") (tg:=some nm) hx0 hdx0 hne0 s2 R2 hv2 (fun H3 s3 R3 m3=>?_)
    refine take2 rfl s3 R3 b2 ?_
    cases e3:tAll ws n2 ["values","("] with
    | error e=>rw [e3] at q; exact q
    | ok n3 =>
     rw [e3] at q
     dsimp only at q
     obtain ⟨_,b3⟩:=tAll_ok b2 e3
     intro H4 s4 s4' R4
     have m4:=StmAt.stay s4' R3.ins hp0 m3
     refine rdList stab_exp rfl s4 R4 b3 ?_
     cases e4:pList pExp ws n3 with
     | error e=>rw [e4] at q; exact q
     | ok a =>
      obtain ⟨es,n4⟩:=a
      rw [e4] at q
      dsimp only at q
      obtain ⟨_,b4⟩:=goes_list goes_exp ws n3 es n4 b3 e4
      intro H5 s5 s5' R5 v5 hv5
      have m5:=StmAt.stay s5' R4.ins hp0 m4
      refine ⟨_,rfl,set_ex (es:=some es) TS hp0 s5 R5 m5 hv5 fun H6 s6 R6 m6=>?_⟩
      refine take1 rfl s6 R6 b4 ?_
      cases e5:tAll ws n4 [")"] with
      | error e=>rw [e5] at q; exact q
      | ok n5 =>
       rw [e5] at q
       intro H7 s7 s7' R7
       exact ⟨_,rfl,q H7 _ s7 R7 (StmAt.stay s7' R6.ins hp0 m6)⟩
end
def pCreate (ws:List Wd) (n:Nat):RR (Stm × Nat):=match tAll ws n ["table"] with
 | .error e=>.error e
 | .ok n1=>match pName ws n1 with
  | .error e=>.error e
  | .ok (nm,n2)=>match tAll ws n2 ["("] with
   | .error e=>.error e
   | .ok n3=>match pList pCol ws n3 with
    | .error e=>.error e
    | .ok (as,n4)=>match tAll ws n4 [")"] with
     | .error e=>.error e
     | .ok n5=>.ok ({ kind := "create table",target:=some nm,cols:=as },n5)
def pDrop (ws:List Wd) (n:Nat):RR (Stm × Nat):=match tAll ws n ["table"] with
 | .error e=>.error e
 | .ok n1=>match pName ws n1 with
  | .error e=>.error e
  | .ok (nm,n2)=>.ok ({ kind := "drop table",target:=some nm },n2)
def pUpdate (ws:List Wd) (n:Nat):RR (Stm × Nat):=match pName ws n with
 | .error e=>.error e
 | .ok (nm,n1)=>match tAll ws n1 ["set"] with
  | .error e=>.error e
  | .ok n2=>match pList pChg ws n2 with
   | .error e=>.error e
   | .ok (as,n3)=>match pWhere ws n3 with
    | .error e=>.error e
    | .ok (wh,n4)=>.ok ({ kind := "update",target:=some nm,chs:=as,wher:=wh },n4)
def pDelete (ws:List Wd) (n:Nat):RR (Stm × Nat):=match tAll ws n ["from"] with
 | .error e=>.error e
 | .ok n1=>match pName ws n1 with
  | .error e=>.error e
  | .ok (nm,n2)=>match pWhere ws n2 with
   | .error e=>.error e
   | .ok (wh,n3)=>.ok ({ kind := "delete",target:=some nm,wher:=wh },n3)
def pSavepoint (ws:List Wd) (n:Nat):RR (Stm × Nat):=match pName ws n with
 | .error e=>.error e
 | .ok (nm,n1)=>.ok ({ kind := "savepoint",target:=some nm },n1)
def pBegin (ws:List Wd) (n:Nat):RR (Stm × Nat):=.ok ({ kind := "begin",target:=none },n)
def pCommit (ws:List Wd) (n:Nat):RR (Stm × Nat):=.ok ({ kind := "commit",target:=none },n)
section
variable {P:Program} {w:World} {K:PySem.W.Frag} {mg:Str→Option Value} {base:Heap}
end
def pRollback (ws:List Wd) (n:Nat):RR (Stm × Nat):=if seesW ws n [.str "to"] = true then (match pName ws (n + 1) with
  | .error e=>.error e
  | .ok (nm,n1)=>.ok ({ kind := "rollback to",target:=some nm },n1))
 else .ok ({ kind := "rollback",target:=none },n)
def pSelA (ws:List Wd) (n:Nat):RR (Option (List (List Stp)) × Nat):=if seesW ws n [.str "*"] = true then .ok (none,n + 1) else (match pList pExp ws n with
  | .error e=>.error e
  | .ok (es,n1)=>.ok (some es,n1))
def pSelEnd (sm:Stm) (ws:List Wd) (n:Nat):RR (Stm × Nat):=if seesW ws n [.str "limit"] = true then (if (lookW ws (n + 1)).1 = "number" then .ok ({ sm with limit:=some (lookW ws (n + 1)).2 },n + 2) else .error (n + 2)) else .ok (sm,n)
def pSelOrd (sm:Stm) (ws:List Wd) (n:Nat):RR (Stm × Nat):=if seesW ws n [.str "order"] = true then (match tAll ws (n + 1) ["by"] with
  | .error e=>.error e
  | .ok n1=>(match pName ws n1 with
   | .error e=>.error e
   | .ok (nm,n2)=>if seesW ws n2 [.str "desc"] = true then pSelEnd { sm with order:=some nm,desc:=true } ws (n2 + 1) else pSelEnd { sm with order:=some nm,desc:=false } ws n2))
 else pSelEnd sm ws n
def pSelB (rs:Option (List (List Stp))) (ws:List Wd) (n1:Nat):RR (Stm × Nat):=match tAll ws n1 ["from"] with
  | .error e=>.error e
  | .ok n2=>match pName ws n2 with
   | .error e=>.error e
   | .ok (nm,n3)=>match pWhere ws n3 with
    | .error e=>.error e
    | .ok (wh,n4)=>pSelOrd { kind := "select",target:=some nm,exprs:=rs,wher:=wh } ws n4
def pSelect (ws:List Wd) (n:Nat):RR (Stm × Nat):=match pSelA ws n with
 | .error e=>.error e
 | .ok (rs,n1)=>pSelB rs ws n1
section
variable {P:Program} {w:World} {K:PySem.W.Frag} {mg:Str→Option Value} {base:Heap}
end
def firstV:List V:=[.str "create",.str "drop",.str "insert",.str "update",.str "delete",.str "select",.str "begin",.str "commit",.str "rollback",.str "savepoint"]
def pFirst (v:V):List Wd→Nat→RR (Stm × Nat) :=
 if v = .str "create" then pCreate else if v = .str "drop" then pDrop else if v = .str "insert" then pInsert else if v = .str "update" then pUpdate else if v = .str "delete" then pDelete else if v = .str "select" then pSelect
 else if v = .str "begin" then pBegin else if v = .str "commit" then pCommit else if v = .str "rollback" then pRollback else pSavepoint
def pStm (ws:List Wd):RR Stm:=if seesW ws 0 firstV = true then (match pFirst (lookW ws 0).2 ws 1 with
  | .error e=>.error e
  | .ok (s,n)=>if (lookW ws n).1 = "end" then .ok s else .error (n + 1))
 else .error 1
theorem StmAt.old {CS:Addr} {H0 H1 H:Hp} {sm:Stm} {v:V} (h:StmAt CS H0 H sm v) (k:∀ b,H0 b = none→H1 b = none):StmAt CS H1 H sm v:=by
 obtain ⟨y,ta,co,ex,ch,wh,od,e,⟨n0,dx,hy⟩,h1,h2,h3,h4,h5,h6⟩:=h
 exact ⟨y,ta,co,ex,ch,wh,od,e,⟨k _ n0,dx,hy⟩,h1,(stab_list stab_col).old h2 k,(stab_opt (stab_list stab_exp)).old h3 k,(stab_list stab_chg).old h4 k,(stab_opt stab_exp).old h5 k,h6⟩
theorem StmAt.same {CS:Addr} {H0 H H':Hp} {sm:Stm} {v:V} (h:StmAt CS H0 H sm v) (s:Same H H'):StmAt CS H0 H' sm v:=by
 obtain ⟨y,ta,co,ex,ch,wh,od,e,⟨n0,dx,hy⟩,h1,h2,h3,h4,h5,h6⟩:=h
 have k:NewStay H0 H H':=NewStay.same s
 exact ⟨y,ta,co,ex,ch,wh,od,e,⟨n0,dx,s _ _ hy⟩,h1.stay k,(stab_list stab_col).keep h2 k,(stab_opt (stab_list stab_exp)).keep h3 k,(stab_list stab_chg).keep h4 k,(stab_opt stab_exp).keep h5 k,h6.stay k⟩
theorem pieces_len:∀ (k:Nat) (cs:List Nat),(pieces k cs).length ≤ k
 | 0,_=>Nat.le_refl _
 | k + 1,cs=>by
  unfold pieces
  split
  ·exact Nat.zero_le _
  ·have:=pieces_len k
   simp only [List.length_cons]
   exact Nat.succ_le_succ (this _)
theorem word_flat (z:Str):flatV (wordOf z).2 = true:=by
 unfold wordOf numW textW
 split
 ·rfl
 ·repeat (first | rfl | split)
theorem words_flat (z:Str):∀ w ∈ wordsOf z,flatV w.2 = true:=fun w hw=>by
 unfold wordsOf at hw
 obtain ⟨l,_,rfl⟩:=List.mem_map.mp hw
 exact word_flat _
theorem words_len (z:Str):(wordsOf z).length ≤ z.length:=by
 unfold wordsOf
 rw [List.length_map]
 exact pieces_len _ _
section
variable {P:Program} {w:World} {K:PySem.W.Frag} {mg:Str→Option Value} {base:Heap}
def spRdI (C:Addr):Sp:=fun vs H Q _=>∃ (y dx l:Addr),vs = [.ref y,.ref l]∧H y = some (.ins C dx [])∧Q .non (upd H y (.ins C dx (rflds l 0 0)))
theorem sc_Reader_init:FnScope ["self","words"] ["self","words"] (defScope s_Reader_init):=⟨rfl,rfl,rfl,by decide +kernel,rfl,by decide +kernel,by decide +kernel⟩
theorem ok_Reader_init {f C:Addr} {fd:FuncData} (F:Fun K "__init__" "Reader.__init__" s_Reader_init f fd) (T:TxR K mg C):FnOk P w K mg base CX0 1 f fd ["self","words"] (spRdI C):=by
 refine F.ok sc_Reader_init (fun vs H Q E h=>?_) (fun cdv A outer s H vs Q E hr h=>?_)
 ·obtain ⟨y,dx,l,rfl,_⟩:=h
  rfl
 ·obtain ⟨y,dx,l,rfl,hy,q⟩:=h
  refine ⟨_,pss_cons (ps_fld (pv 0) (pv 1) rfl) (pss_cons (ps_fld (pv 0) pe_int rfl) (pss_one (ps_fld (pv 0) pe_int rfl))),?_⟩
  refine ⟨_,rfl,_,rfl,y,C,dx,_,rfl,hy,T.cl,T.nWo,by show 0 < 1000; decide,?_⟩
  refine ⟨_,rfl,y,C,dx,_,rfl,upd_same,T.cl,T.nPa,by show 1 < 1000; decide,?_⟩
  rw [upd_upd]
  refine ⟨_,rfl,y,C,dx,_,rfl,upd_same,T.cl,T.nWi,by show 2 < 1000; decide,?_⟩
  rw [upd_upd]
  exact q
structure Rd10 (A:V→Prop) (P:Program) (w:World) (K:PySem.W.Frag) (mg:Str→Option Value) (base:Heap) (C CW CS:Addr) (f:Fin 10→Addr):Prop where
 sd:∃ a,mg "STATEMENT_READERS" = some (.ref a)∧SD P w K a [(.inr "create",.ref (f 0)),(.inr "drop",.ref (f 1)),(.inr "insert",.ref (f 2)),(.inr "update",.ref (f 3)),(.inr "delete",.ref (f 4)),(.inr "select",.ref (f 5)),(.inr "begin",.ref (f 6)),(.inr "commit",.ref (f 7)),(.inr "rollback",.ref (f 8)),(.inr "savepoint",.ref (f 9))]
 ok:∀ (i:Fin 10) (g:List Wd→Nat→RR (Stm × Nat)),A (firstV.getD i.val .non)→[pCreate,pDrop,pInsert,pUpdate,pDelete,pSelect,pBegin,pCommit,pRollback,pSavepoint][i.val]? = some g→∃ fd,FnOk P w K mg base (CX2 P w) 210 (f i) fd ["reader"] (spOne CW C g (StmAt CS))∧PySem.W.keepIn K (.ref (f i)) = true∧Binds K fd ["reader"] []
theorem inV_mem {v:V} {xs:List V} (h:inV v xs = true) (hs:∀ x ∈ xs,∃ z,x = .str z):v ∈ xs:=by
 unfold inV at h
 obtain ⟨x,hx,e⟩:=List.any_eq_true.mp h
 obtain ⟨z,rfl⟩:=hs x hx
 cases v with
 | str y =>
  have:z = y:=eq_of_beq e
  rw [← this]
  exact hx
 | _=>cases e
theorem first_of {v:V} (h:inV v firstV = true) (f:Fin 10→Addr):∃ (k:Key) (i:Fin 10) (g:List Wd→Nat→RR (Stm × Nat)),v = kV k ∧
  valV [(.inr "create",.ref (f 0)),(.inr "drop",.ref (f 1)),(.inr "insert",.ref (f 2)),(.inr "update",.ref (f 3)),(.inr "delete",.ref (f 4)),(.inr "select",.ref (f 5)),(.inr "begin",.ref (f 6)),(.inr "commit",.ref (f 7)),(.inr "rollback",.ref (f 8)),(.inr "savepoint",.ref (f 9))] k = some (.ref (f i)) ∧
  [pCreate,pDrop,pInsert,pUpdate,pDelete,pSelect,pBegin,pCommit,pRollback,pSavepoint][i.val]? = some g∧pFirst v = g∧v = firstV.getD i.val .non:=by
 have hm:=inV_mem h (fun x hx=>by
  unfold firstV at hx
  simp only [List.mem_cons,List.not_mem_nil,or_false] at hx
  rcases hx with rfl | rfl | rfl | rfl | rfl | rfl | rfl | rfl | rfl | rfl <;> exact ⟨_,rfl⟩)
 unfold firstV at hm
 simp only [List.mem_cons,List.not_mem_nil,or_false] at hm
 rcases hm with rfl | rfl | rfl | rfl | rfl | rfl | rfl | rfl | rfl | rfl
 ·exact ⟨.inr "create",0,pCreate,rfl,rfl,rfl,rfl,rfl⟩
 ·exact ⟨.inr "drop",1,pDrop,rfl,rfl,rfl,rfl,rfl⟩
 ·exact ⟨.inr "insert",2,pInsert,rfl,rfl,rfl,rfl,rfl⟩
 ·exact ⟨.inr "update",3,pUpdate,rfl,rfl,rfl,rfl,rfl⟩
 ·exact ⟨.inr "delete",4,pDelete,rfl,rfl,rfl,rfl,rfl⟩
 ·exact ⟨.inr "select",5,pSelect,rfl,rfl,rfl,rfl,rfl⟩
 ·exact ⟨.inr "begin",6,pBegin,rfl,rfl,rfl,rfl,rfl⟩
 ·exact ⟨.inr "commit",7,pCommit,rfl,rfl,rfl,rfl,rfl⟩
 ·exact ⟨.inr "rollback",8,pRollback,rfl,rfl,rfl,rfl,rfl⟩
 ·exact ⟨.inr "savepoint",9,pSavepoint,rfl,rfl,rfl,rfl,rfl⟩
def spRead (A:V→Prop) (C CW CS:Addr):Sp:=fun vs H Q E=>∃ z:Str,vs = [.str z]∧z.length ≤ 1000000∧(∀ l ∈ pieces z.length z.cps.toList,preW (mkS l))∧(seesW (wordsOf z) 0 firstV = true→A (lookW (wordsOf z) 0).2) ∧
 match pStm (wordsOf z) with
 | .ok sm=>∀ (H':Hp) (v:V),Same H H'→StmAt CS H H' sm v→Q v H'
 | .error e=>Fails CW [] H E e
theorem sc_read_statement:FnScope ["text","reader","statement"] ["text"] (defScope s_read_statement):=⟨rfl,rfl,rfl,by decide +kernel,rfl,by decide +kernel,by decide +kernel⟩
theorem ok_read_statement {Aw:V→Prop} {f C CW CS fI:Addr} {fd fdI:FuncData} {fs:Fin 10→Addr} (F:Fun K "read_statement" "read_statement" s_read_statement f fd) (T:TxR K mg C) (S:RdS P w K mg base C CW) (M:Mk K C fI) (GI:FnOk P w K mg base CX0 1 fI fdI ["self","words"] (spRdI C)) (bI:Binds K fdI ["self","words"] [])
  (GW:FnS P w K mg base 5 "split_words" ["text"] spSplit) (N:Rd10 Aw P w K mg base C CW CS fs):FnOk P w K mg base (CX2 P w) 211 f fd ["text"] (spRead Aw C CW CS):=by
 obtain ⟨fL,fdL,mL,GL,bL⟩:=S.look.ex
 obtain ⟨fS,fdS,mS,GS,bS⟩:=S.sees.ex
 obtain ⟨fT,fdT,mT,GT,bT⟩:=S.take.ex
 obtain ⟨fR,fdR,mR,GR,bR⟩:=S.refuse.ex
 obtain ⟨fW,fdW,mW,kW,GW,bW⟩:=GW.ex
 obtain ⟨aD,mD,D⟩:=N.sd
 obtain ⟨tE,mE⟩:=T.fin
 refine F.okV sc_read_statement (fun vs H Q E h=>?_) (fun cdv A outer s H vs Q E hr h=>?_)
 ·obtain ⟨z,rfl,_⟩:=h
  rfl
 ·obtain ⟨z,rfl,hz,hp,hA,q⟩:=h
  have r1:Room 1 _:=hr.mono (by omega)
  have r2:Room 2 _:=hr.mono (by omega)
  have r3:Room 3 _:=hr.mono (by omega)
  have r5:Room 5 _:=hr.mono (by omega)
  refine ⟨_,pss_cons (ps_set (i:=1) sc_read_statement.nd rfl (Or.inl rfl) (pe_make M GI r2 (by rfl) T.mgC bI .nil pass0 (pa_cons (pe_call GW r5 (by rfl) mW kW bW .nil pass0 (pa_cons (pv 0) pa_nil)) pa_nil)))
   (pss_cons (ps_if (pt_not (pt_val (pe_meth (pv 1) T.cl mS GS r2 bS .nil pass0 (pa_cons (pe_callTy (call_listSD rfl D) (by rfl) T.list PyProof.Rows.boot_list (pa_cons (pe_glob (by rfl) mD (v:=.ref aD) rfl) pa_nil)) pa_nil)))) (pss_one (ps_expr (pe_meth0 (pv 1) T.cl mR GR r3 bR .nil passV))) pss_nil)
   (pss_cons (ps_set (i:=2) sc_read_statement.nd rfl (Or.inl rfl) (pe_callSX (k:=210) (ps:=["reader"]) (pe_sdget D (pe_glob (by rfl) mD (v:=.ref aD) rfl) (pe_meth0 (pv 1) T.cl mT GT r2 bT .nil pass0) (fun _ _=>rfl)) hr passV (pa_cons (pv 1) pa_nil)))
   (pss_cons (ps_if (pt_cmpR op_ne (pe_ix ix_tup (pe_meth0 (pv 1) T.cl mL GL r1 bL .nil pass0) pe_int (fun _ _=>rfl)) (pe_glob (by rfl) mE (v:=.str "end") ⟨_,rfl⟩) (nomark _)) (pss_one (ps_expr (pe_meth0 (pv 1) T.cl mR GR r3 bR .nil passV))) pss_nil)
   (pss_one (ps_ret (pv 2)))))),?_⟩
  refine ⟨_,rfl,z,rfl,hz,hp,fun l rs H1 hl s1 h1 w1=>?_⟩
  intro x dx hx hdx hne
  refine ⟨x,dx,l,rfl,upd_same,rfl,?_⟩
  rw [upd_upd]
  generalize hws:wordsOf z = ws at q w1 hA
  have fl:∀ u ∈ ws,flatV u.2 = true:=by rw [← hws]; exact words_flat z
  have wl:ws.length ≤ 1000000:=by rw [← hws]; exact Nat.le_trans (words_len z) hz
  have s2:Same H1 (upd (upd H1 dx (.own x)) x (.ins C dx (rflds l 0 0))):=(same_upd hdx).trans (same_upd (by rw [upd_ne (Ne.symm hne)]; exact hx))
  generalize hH2:upd (upd H1 dx (.own x)) x (.ins C dx (rflds l 0 0)) = H2 at s2
  have g2:H2 x = some (.ins C dx (rflds l 0 0)):=by rw [← hH2,upd_same]
  have R2:RdAt C H2 x l ws 0 0:=⟨⟨dx,g2⟩,⟨rs,s2 _ _ h1,L2.Paired.imp' (fun _ _ u=>u.same s2) w1⟩,fl,wl⟩
  have sH:Same H H2:=s1.trans s2
  have hx0:H x = none:=by
   cases e:H x with
   | none=>rfl
   | some o=>rw [s1 _ _ e] at hx; cases hx
  have lift:∀ {H':Hp},Step [x] H2 H'→Same H H':=fun st b o e=>st _ _ (sH _ _ e) (by simpa using ne_of_none e hx0)
  refine ⟨_,rfl,x,dx,_,rfl,g2,nm _ (by decide +kernel) (by decide +kernel) (by decide +kernel) ..,rfl,fun l2 hl2=>?_⟩
  have s3:Same H2 (upd H2 l2 (.lst firstV)):=same_upd hl2
  refine ⟨x,l,l2,ws,0,0,firstV,rfl,R2.same s3,.inl (SqL.of upd_same),rfl,fun H4 s4=>⟨_,rfl,?_⟩⟩
  have R4:=(R2.same s3).same s4
  have s24:Step [x] H2 H4:=Same.step (s3.trans s4)
  obtain ⟨d4,g4⟩:=R4.ob
  unfold pStm at q
  cases hs:seesW ws 0 firstV with
  | false =>
   rw [if_neg (by rw [hs]; decide)] at q
   exact iteT ⟨_,rfl,x,d4,_,rfl,g4,nm _ (by decide +kernel) (by decide +kernel) (by decide +kernel) ..,x,l,ws,0,0,rfl,by decide,R4,fun d H' st hd=>q d H' (Same.step (lift (s24.trans (st.mono fun _ m=>nomatch m)))) hd⟩
  | true =>
   rw [if_pos hs] at q
   refine iteF ?_
   have lt:=sees_lt hs
   have hin:inV (lookW ws 0).2 firstV = true:=by
    unfold seesW at hs
    exact (Bool.and_eq_true_iff.mp hs).2
   obtain ⟨k,i,g,ek,ev,eg,ep,e0⟩:=first_of hin fs
   obtain ⟨fdG,GG,kG,bG⟩:=N.ok i g (by rw [← e0]; exact hA hs) eg
   rw [ep] at q
   refine ⟨_,rfl,x,d4,_,rfl,g4,nm _ (by decide +kernel) (by decide +kernel) (by decide +kernel) ..,x,l,ws,0,0,rfl,R4,fun H5 s5 R5=>⟨k,.ref (fs i),rfl,ek,ev,fs i,fdG,_,rfl,GG,kG,bG,_,rfl,x,l,ws,1,rfl,R5,lt,?_⟩⟩
   have s25:=s24.trans s5
   cases e1:g ws 1 with
   | error e =>
    rw [e1] at q
    exact fun d H' st hd=>q d H' (Same.step (lift (s25.trans st))) hd
   | ok a =>
    obtain ⟨sm,n⟩:=a
    rw [e1] at q
    dsimp only at q
    intro H6 v s6 R6 m6
    obtain ⟨d6,g6⟩:=R6.ob
    have s26:=s25.trans s6
    refine ⟨_,rfl,x,d6,_,rfl,g6,nm _ (by decide +kernel) (by decide +kernel) (by decide +kernel) ..,x,l,ws,n,0,rfl,R6,fun t H7 s7 ht=>?_⟩
    refine ⟨t,_,0,_,rfl,rfl,SqT.of ht,rfl,rfl,_,rfl,iteNe (fun ne=>?_) (fun e=>?_)⟩
    ·rw [if_neg ne] at q
     have R7:=R6.same s7
     obtain ⟨d7,g7⟩:=R7.ob
     have hn:n < ws.length:=kind_lt ne
     exact ⟨_,rfl,x,d7,_,rfl,g7,nm _ (by decide +kernel) (by decide +kernel) (by decide +kernel) ..,x,l,ws,n,0,rfl,by omega,R7,fun d H' st hd=>q d H' (Same.step (lift (s26.trans (Step.trans (Same.step s7) (st.mono fun _ m=>nomatch m))))) hd⟩
    ·rw [if_pos e] at q
     refine ⟨_,rfl,q H7 v (lift (s26.trans (Same.step s7))) ((m6.same s7).old fun b zb=>?_)⟩
     have zb2:=back s25 R5.ex b zb
     cases eb:H b with
     | none=>rfl
     | some o=>rw [sH _ _ eb] at zb2; cases zb2
end
structure Solid (l:List Nat):Prop where
 ne:∃ c r,l = c :: r∧isBl c = false
 ed:wEnd l = l.length
 bl:∀ r,wEnd (l ++ 32 :: r) = l.length
def joinB:List (List Nat)→List Nat
 | []=>[]
 | [l]=>l
 | l :: m :: r=>l ++ 32 :: joinB (m :: r)
theorem pieces_blank (k:Nat) (r:List Nat):pieces k (32 :: r) = pieces k r:=by
 rw [← pieces_skip k (32 :: r),← pieces_skip k r]
 rfl
theorem lead0 {c:Nat} {r:List Nat} (h:isBl c = false):lead isBl (c :: r) = 0:=by
 show (if isBl c = true then lead isBl r + 1 else 0) = 0
 rw [h]; rfl
theorem pieces_join:∀ (ls:List (List Nat)),(∀ l ∈ ls,Solid l)→∀ k,ls.length ≤ k→pieces k (joinB ls) = ls
 | [],_,k,_=>pieces_nil k
 | [l],h,0,hk=>by cases hk
 | [l],h,k + 1,hk=>by
  have S:=h l (List.mem_cons_self ..)
  obtain ⟨c,r,rfl,hb⟩:=S.ne
  show pieces (k + 1) (c :: r) = _
  rw [pieces_on k c r (lead0 hb),S.ed,List.take_length,List.drop_length,pieces_nil]
 | l :: m :: r,h,0,hk=>by cases hk
 | l :: m :: r,h,k + 1,hk=>by
  have S:=h l (List.mem_cons_self ..)
  obtain ⟨c,t,rfl,hb⟩:=S.ne
  show pieces (k + 1) (c :: (t ++ 32 :: joinB (m :: r))) = _
  have e:=S.bl (joinB (m :: r))
  rw [List.cons_append] at e
  rw [pieces_on k c _ (lead0 hb),e,← List.cons_append,List.take_left,List.drop_left,pieces_blank,pieces_join (m :: r) (fun x hx=>h x (List.mem_cons_of_mem _ hx)) k (by simp only [List.length_cons] at hk ⊢; omega)]
theorem join_len:∀ (ls:List (List Nat)),(∀ l ∈ ls,Solid l)→ls.length ≤ (joinB ls).length
 | [],_=>Nat.le_refl _
 | [l],h=>by
  obtain ⟨c,r,rfl,_⟩:=(h l (List.mem_cons_self ..)).ne
  show 1 ≤ r.length + 1
  omega
 | l :: m :: r,h=>by
  have:=join_len (m :: r) (fun x hx=>h x (List.mem_cons_of_mem _ hx))
  show (m :: r).length + 1 ≤ (l ++ 32 :: joinB (m :: r)).length
  have e:(l ++ 32 :: joinB (m :: r)).length = l.length + ((joinB (m :: r)).length + 1):=by rw [List.length_append,List.length_cons (as:=joinB (m :: r))]
  rw [e]
  omega
theorem words_join (ls:List (List Nat)) (h:∀ l ∈ ls,Solid l):wordsOf (mkS (joinB ls)) = ls.map fun l=>wordOf (mkS l):=by
 unfold wordsOf
 have e:(mkS (joinB ls)).length = (joinB ls).length:=by simp [Str.length,mkS]
 rw [e]
 show (pieces (joinB ls).length (joinB ls)).map _ = _
 rw [pieces_join ls h _ (join_len ls h)]
abbrev wNot:Wd:=("kept",.str "not")
abbrev wMin:Wd:=("sign",.str "-")
abbrev wOpn:Wd:=("sign",.str "(")
abbrev wCls:Wd:=("sign",.str ")")
abbrev wOne:Wd:=("number",.int 1)
def shW:List (Nat × Nat)→List Wd
 | []=>[wOne]
 | [(a,b)]=>List.replicate a wNot ++ (List.replicate b wMin ++ [wOne])
 | (a,b) :: r=>List.replicate a wNot ++ (List.replicate b wMin ++ (wOpn :: (shW r ++ [wCls])))
def shN:List (Nat × Nat)→Nat
 | []=>0
 | [(a,b)]=>a + b
 | (a,b) :: r=>a + b + 1 + shN r
theorem look_drop {ws:List Wd} {n:Nat} {x:Wd} {r:List Wd} (h:ws.drop n = x :: r):lookW ws n = x:=by
 unfold lookW
 have:ws[n]? = some x:=by
  have:=congrArg (fun l=>l[0]?) h
  simpa [List.getElem?_drop] using this
 rw [this]; rfl
theorem drop_add {ws:List Wd} {n:Nat} {x y:List Wd} (h:ws.drop n = x ++ y):ws.drop (n + x.length) = y:=by
 rw [← List.drop_drop,h,List.drop_left]
theorem drop_one {ws:List Wd} {n:Nat} {x:Wd} {y:List Wd} (h:ws.drop n = x :: y):ws.drop (n + 1) = y:=drop_add (x:=[x]) h
theorem sees_of {ws:List Wd} {n:Nat} {x:Wd} {cs:List V} {b:Bool} (h:lookW ws n = x) (e:(inV (.str x.1) [.str "kept",.str "sign"] && inV x.2 cs) = b):seesW ws n cs = b:=by
 unfold seesW; rw [h]; exact e
theorem enter_run {ws:List Wd} {z:Str} {x:Wd} (hx:(inV (.str x.1) [.str "kept",.str "sign"] && inV x.2 [.str z]) = true):∀ (a m n k:Nat) {y:Wd} {r:List Wd},ws.drop n = List.replicate a x ++ y :: r→(inV (.str y.1) [.str "kept",.str "sign"] && inV y.2 [.str z]) = false→k ≤ 24→25 ≤ m + k →
  enterP ws z m n k = if k + a ≤ 24 then .ok (n + a,k + a) else .error (n + (24 - k) + 1)
 | 0,0,n,k,y,r,h,hy,hk,hm=>by omega
 | 0,m + 1,n,k,y,r,h,hy,hk,hm=>by
  rw [if_pos (by omega)]
  unfold enterP
  rw [if_neg (by rw [sees_of (look_drop h) hy]; decide)]
  rfl
 | a + 1,0,n,k,y,r,h,hy,hk,hm=>by omega
 | a + 1,m + 1,n,k,y,r,h,hy,hk,hm=>by
  unfold enterP
  rw [List.replicate_succ,List.cons_append] at h
  rw [if_pos (sees_of (look_drop h) hx)]
  by_cases k24:k < 24
  ·rw [if_pos k24,enter_run hx a m (n + 1) (k + 1) (drop_one h) hy (by omega) (by omega)]
   by_cases q:k + (a + 1) ≤ 24
   ·rw [if_pos q,if_pos (by omega)]
    congr 2 <;> omega
   ·rw [if_neg q,if_neg (by omega)]
    congr 1; omega
  ·rw [if_neg k24,if_neg (by omega)]
   congr 1; omega
theorem loop_cls {op:Nat→Option V} {one:Nat→RR (List Stp × Nat)} {m n:Nat} {acc:List Stp} (h:op n = none):loopP op one m acc n = .ok (acc,n):=by
 cases m with
 | zero=>rfl
 | succ m=>rw [loopP,h]
section
variable {ws:List Wd} {n n' k:Nat}
theorem cls_if {z:Str} (h:lookW ws n = wCls) (hz:inV (.str ")") [.str z] = false):opIf z ws n = none:=by
 unfold opIf
 rw [if_neg (by rw [sees_of h (b:=false) (by show (_ && inV (.str ")") [.str z]) = false; rw [hz,Bool.and_false])]; decide)]
theorem cls_sum (h:lookW ws n = wCls):opSum ws n = none:=by
 unfold opSum
 rw [if_neg (by rw [sees_of h (b:=false) (by decide +kernel)]; decide)]
theorem bin_cls {op:List Wd→Nat→Option V} {one:PF} {ss:List Stp} (h:one ws n k = .ok (ss,n')) (ho:op ws n' = none):pBin op one ws n k = .ok (ss,n'):=by
 unfold pBin; rw [h]; exact loop_cls ho
theorem bin_err {op:List Wd→Nat→Option V} {one:PF} {e:Nat} (h:one ws n k = .error e):pBin op one ws n k = .error e:=by
 unfold pBin; rw [h]
theorem cmp_cls {one:PF} {ss:List Stp} (h:one ws n k = .ok (ss,n')) (ho:lookW ws n' = wCls):pCmp one ws n k = .ok (ss,n'):=by
 unfold pCmp; rw [h]
 show (if seesW ws n' cmpV = true then _ else if seesW ws n' [.str "is"] = true then _ else _) = _
 rw [if_neg (by rw [sees_of ho (b:=false) (by decide +kernel)]; decide),if_neg (by rw [sees_of ho (b:=false) (by decide +kernel)]; decide)]
theorem cmp_err {one:PF} {e:Nat} (h:one ws n k = .error e):pCmp one ws n k = .error e:=by
 unfold pCmp; rw [h]
theorem pre_ok {z op:Str} {inner:PF} {n1 k1:Nat} {ss:List Stp} (h:enterP ws z 25 n k = .ok (n1,k1)) (h2:inner ws n1 k1 = .ok (ss,n')):∃ ss',pPre z op inner ws n k = .ok (ss',n'):=by
 unfold pPre; rw [h]
 dsimp only
 rw [h2]
 exact ⟨_,rfl⟩
theorem pre_err {z op:Str} {inner:PF} {e:Nat} (h:enterP ws z 25 n k = .error e):pPre z op inner ws n k = .error e:=by
 unfold pPre; rw [h]
theorem pre_err2 {z op:Str} {inner:PF} {n1 k1 e:Nat} (h:enterP ws z 25 n k = .ok (n1,k1)) (h2:inner ws n1 k1 = .error e):pPre z op inner ws n k = .error e:=by
 unfold pPre; rw [h]
 dsimp only
 rw [h2]
theorem last_one {br:PF} (h:lookW ws n = wOne):pLast br ws n k = .ok ([("value",.int 1,0)],n + 1):=by
 unfold pLast
 rw [h,if_neg (by decide +kernel),if_pos (by decide +kernel)]
theorem last_opn {br:PF} (h:lookW ws n = wOpn):pLast br ws n k = (if k < 24 then (match br ws (n + 1) (k + 1) with
   | .error e=>.error e
   | .ok (ss,n')=>(match tAll ws n' [")"] with
    | .error e=>.error e
    | .ok n2=>.ok (ss,n2)))
  else .error (n + 1)):=by
 have hs:seesW ws n [.str "("] = true:=sees_of h (by decide +kernel)
 unfold pLast
 rw [h,if_neg (by decide +kernel),if_neg (by decide +kernel),if_pos hs]
 all_goals rfl
theorem tAll_cls (h:lookW ws n = wCls):tAll ws n [")"] = .ok (n + 1):=by
 unfold tAll
 rw [if_pos (sees_of h (by decide +kernel))]
 rfl
end
def OutD (r:RR (List Stp × Nat)) (n k c m:Nat):Prop:=if k + c ≤ 24 then ∃ ss,r = .ok (ss,n + m) else r = .error (n + (24 - k) + 1)
theorem up_all {br:PF} {ws:List Wd} {n k a b c m:Nat} {y:Wd} {r:List Wd} (hd:ws.drop n = List.replicate a wNot ++ (List.replicate b wMin ++ y :: r)) (hy:(inV (.str y.1) [.str "kept",.str "sign"] && inV y.2 [.str "not"]) = false) (hy2:(inV (.str y.1) [.str "kept",.str "sign"] && inV y.2 [.str "-"]) = false) (hk:k ≤ 24)
  (hL:k + a + b ≤ 24→OutD (pLast br ws (n + a + b) (k + a + b)) (n + a + b) (k + a + b) c m) (hc:k + (a + b + c) ≤ 24→lookW ws (n + (a + b + m)) = wCls) :
  OutD (pOrB br ws n k) n k (a + b + c) (a + b + m):=by
 have e1:enterP ws "not" 25 n k = if k + a ≤ 24 then .ok (n + a,k + a) else .error (n + (24 - k) + 1):=by
  cases b with
  | zero=>exact enter_run (x:=wNot) (by decide +kernel) a 25 n k (y:=y) (r:=r) hd hy hk (by omega)
  | succ b=>exact enter_run (x:=wNot) (by decide +kernel) a 25 n k (y:=wMin) (r:=List.replicate b wMin ++ y :: r) hd (by decide +kernel) hk (by omega)
 unfold OutD
 by_cases ka:k + a ≤ 24
 ·rw [if_pos ka] at e1
  have d1:ws.drop (n + a) = List.replicate b wMin ++ y :: r:=by
   have:=drop_add hd
   rwa [List.length_replicate] at this
  have e2:=enter_run (z := "-") (x:=wMin) (by decide +kernel) b 25 (n + a) (k + a) (y:=y) (r:=r) d1 hy2 ka (by omega)
  by_cases kb:k + a + b ≤ 24
  ·rw [if_pos kb] at e2
   have L:=hL kb
   unfold OutD at L
   by_cases kc:k + a + b + c ≤ 24
   ·rw [if_pos kc] at L
    rw [if_pos (by omega)]
    obtain ⟨ss,L⟩:=L
    have C:=hc (by omega)
    have en:n + a + b + m = n + (a + b + m):=by omega
    rw [en] at L
    obtain ⟨s1,q1⟩:=pre_ok (op := "minus") e2 L
    have q2:pProd br ws (n + a) (k + a) = .ok (s1,n + (a + b + m)):=bin_cls q1 (cls_if C (by decide +kernel))
    have q3:pSum br ws (n + a) (k + a) = .ok (s1,n + (a + b + m)):=bin_cls q2 (cls_sum C)
    obtain ⟨s2,q5⟩:=pre_ok (op := "not") e1 (cmp_cls q3 C)
    have q6:pAnd br ws n k = .ok (s2,n + (a + b + m)):=bin_cls q5 (cls_if C (by decide +kernel))
    exact ⟨s2,bin_cls q6 (cls_if C (by decide +kernel))⟩
   ·rw [if_neg kc] at L
    rw [if_neg (by omega)]
    have en:n + a + b + (24 - (k + a + b)) + 1 = n + (24 - k) + 1:=by omega
    rw [en] at L
    have q2:pProd br ws (n + a) (k + a) = .error (n + (24 - k) + 1):=bin_err (pre_err2 e2 L)
    have q3:pSum br ws (n + a) (k + a) = .error (n + (24 - k) + 1):=bin_err q2
    have q5:pNot br ws n k = .error (n + (24 - k) + 1):=pre_err2 e1 (cmp_err q3)
    have q6:pAnd br ws n k = .error (n + (24 - k) + 1):=bin_err q5
    exact bin_err q6
  ·rw [if_neg kb] at e2
   rw [if_neg (by omega)]
   have en:n + a + (24 - (k + a)) + 1 = n + (24 - k) + 1:=by omega
   rw [en] at e2
   have q2:pProd br ws (n + a) (k + a) = .error (n + (24 - k) + 1):=bin_err (pre_err e2)
   have q3:pSum br ws (n + a) (k + a) = .error (n + (24 - k) + 1):=bin_err q2
   have q5:pNot br ws n k = .error (n + (24 - k) + 1):=pre_err2 e1 (cmp_err q3)
   have q6:pAnd br ws n k = .error (n + (24 - k) + 1):=bin_err q5
   exact bin_err q6
 ·rw [if_neg ka] at e1
  rw [if_neg (by omega)]
  have q5:pNot br ws n k = .error (n + (24 - k) + 1):=pre_err e1
  have q6:pAnd br ws n k = .error (n + (24 - k) + 1):=bin_err q5
  exact bin_err q6
theorem deep_or:∀ (p:Nat × Nat) (sh:List (Nat × Nat)) (d:Nat) (ws:List Wd) (n k:Nat) (rest:List Wd),k ≤ 24→25 ≤ d + k→ws.drop n = shW (p :: sh) ++ wCls :: rest →
  OutD (pOr d ws n k) n k (shN (p :: sh)) (shW (p :: sh)).length
 | p,sh,0,ws,n,k,rest,hk,hd,h=>by omega
 | (a,b),[],d + 1,ws,n,k,rest,hk,hd,h=>by
  have h':ws.drop n = List.replicate a wNot ++ (List.replicate b wMin ++ wOne :: wCls :: rest):=by
   rw [h]
   show List.replicate a wNot ++ (List.replicate b wMin ++ [wOne]) ++ wCls :: rest = _
   rw [List.append_assoc,List.append_assoc]; rfl
  have d2:ws.drop (n + a + b) = wOne :: wCls :: rest:=by
   have q1:=drop_add h'
   have q2:=drop_add q1
   rwa [List.length_replicate,List.length_replicate] at q2
  have:=up_all (br:=pOr d) (c:=0) (m:=1) h' (by decide +kernel) (by decide +kernel) hk (fun kb=>by
   unfold OutD
   rw [if_pos (by omega),last_one (look_drop d2)]
   exact ⟨_,rfl⟩) (fun kb=>by
    have:=look_drop (drop_one d2)
    rw [← this]
    congr 1; omega)
  have el:(shW [(a,b)]).length = a + b + 1:=by
   show (List.replicate a wNot ++ (List.replicate b wMin ++ [wOne])).length = _
   simp only [List.length_append,List.length_replicate,List.length_cons,List.length_nil]; omega
  rw [el]
  exact this
 | (a,b),q :: sh,d + 1,ws,n,k,rest,hk,hd,h=>by
  have h':ws.drop n = List.replicate a wNot ++ (List.replicate b wMin ++ wOpn :: (shW (q :: sh) ++ wCls :: wCls :: rest)):=by
   rw [h]
   show List.replicate a wNot ++ (List.replicate b wMin ++ (wOpn :: (shW (q :: sh) ++ [wCls]))) ++ wCls :: rest = _
   rw [List.append_assoc,List.append_assoc,List.cons_append,List.append_assoc]; rfl
  have d2:ws.drop (n + a + b) = wOpn :: (shW (q :: sh) ++ wCls :: wCls :: rest):=by
   have q1:=drop_add h'
   have q2:=drop_add q1
   rwa [List.length_replicate,List.length_replicate] at q2
  have d3:=drop_one d2
  have d4:=drop_add d3
  have IH:=fun (kb:k + a + b < 24)=>deep_or q sh d ws (n + a + b + 1) (k + a + b + 1) (wCls :: rest) (by omega) (by omega) d3
  have:=up_all (br:=pOr d) (c:=1 + shN (q :: sh)) (m:=1 + (shW (q :: sh)).length + 1) h' (by decide +kernel) (by decide +kernel) hk (fun kb=>by
   unfold OutD
   rw [last_opn (look_drop d2)]
   by_cases k24:k + a + b < 24
   ·rw [if_pos k24]
    have I:=IH k24
    unfold OutD at I
    by_cases kc:k + a + b + 1 + shN (q :: sh) ≤ 24
    ·rw [if_pos kc] at I
     obtain ⟨ss,I⟩:=I
     rw [if_pos (by omega),I]
     dsimp only
     rw [tAll_cls (look_drop d4)]
     exact ⟨ss,by show Except.ok _ = Except.ok _; congr 2; omega⟩
    ·rw [if_neg kc] at I
     rw [if_neg (by omega),I]
     show Except.error _ = Except.error _
     congr 1; omega
   ·rw [if_neg k24,if_neg (by omega)]
    congr 1; omega) (fun kb=>by
    have:=look_drop (drop_one d4)
    rw [← this]
    congr 1; omega)
  have el:(shW ((a,b) :: q :: sh)).length = a + b + (1 + (shW (q :: sh)).length + 1):=by
   show (List.replicate a wNot ++ (List.replicate b wMin ++ (wOpn :: (shW (q :: sh) ++ [wCls])))).length = _
   simp only [List.length_append,List.length_replicate,List.length_cons,List.length_nil]; omega
  have en:shN ((a,b) :: q :: sh) = a + b + (1 + shN (q :: sh)):=by
   show a + b + 1 + shN (q :: sh) = _
   omega
  rw [el,en]
  exact this
inductive Sg3 | opn | nt | mn
 deriving DecidableEq
def sgW:Sg3→Wd
 | .opn=>wOpn
 | .nt=>wNot
 | .mn=>wMin
def wfS:Bool→List Sg3→Prop
 | _,[]=>True
 | _,.opn :: r=>wfS false r
 | m,.nt :: r=>m = false∧wfS m r
 | _,.mn :: r=>wfS true r
def opnN:List Sg3→Nat
 | []=>0
 | .opn :: r=>opnN r + 1
 | .nt :: r=>opnN r
 | .mn :: r=>opnN r
theorem rep_comm (x:Wd) (c:Nat):List.replicate c x ++ [x] = List.replicate (c + 1) x:=by
 rw [List.replicate_succ']
theorem shape_of:∀ (m:Bool) (p:List Sg3),wfS m p→∃ a b r,(m = true→a = 0)∧shW ((a,b) :: r) = p.map sgW ++ (wOne :: List.replicate (opnN p) wCls)∧shN ((a,b) :: r) = p.length
 | m,[],_=>⟨0,0,[],fun _=>rfl,rfl,rfl⟩
 | m,.opn :: p,h=>by
  obtain ⟨a,b,r,_,e,en⟩:=shape_of false p h
  refine ⟨0,0,(a,b) :: r,fun _=>rfl,?_,?_⟩
  ·show wOpn :: (shW ((a,b) :: r) ++ [wCls]) = wOpn :: (p.map sgW ++ (wOne :: List.replicate (opnN p + 1) wCls))
   rw [e,List.append_assoc,List.cons_append,rep_comm]
  ·show 0 + 0 + 1 + shN ((a,b) :: r) = p.length + 1
   rw [en]; omega
 | m,.nt :: p,h=>by
  obtain ⟨hm,h⟩:=h
  obtain ⟨a,b,r,_,e,en⟩:=shape_of m p h
  refine ⟨a + 1,b,r,(fun z=>by rw [hm] at z; cases z),?_,?_⟩
  ·have:shW ((a + 1,b) :: r) = wNot :: shW ((a,b) :: r):=by
    cases r <;> rfl
   rw [this,e]; rfl
  ·have:shN ((a + 1,b) :: r) = shN ((a,b) :: r) + 1:=by
    cases r with
    | nil=>show a + 1 + b = a + b + 1; omega
    | cons q r=>show a + 1 + b + 1 + shN (q :: r) = a + b + 1 + shN (q :: r) + 1; omega
   rw [this,en]; rfl
 | m,.mn :: p,h=>by
  obtain ⟨a,b,r,ha,e,en⟩:=shape_of true p h
  cases ha rfl
  refine ⟨0,b + 1,r,fun _=>rfl,?_,?_⟩
  ·have:shW ((0,b + 1) :: r) = wMin :: shW ((0,b) :: r):=by
    cases r <;> rfl
   rw [this,e]; rfl
  ·have:shN ((0,b + 1) :: r) = shN ((0,b) :: r) + 1:=by
    cases r with
    | nil=>show 0 + (b + 1) = 0 + b + 1; omega
    | cons q r=>show 0 + (b + 1) + 1 + shN (q :: r) = 0 + b + 1 + shN (q :: r) + 1; omega
   rw [this,en]; rfl
def deepW (p:List Sg3):List Wd:=("kept",.str "insert") :: ("kept",.str "into") :: ("name",.str "a") :: ("kept",.str "values") :: wOpn :: (p.map sgW ++ (wOne :: (List.replicate (opnN p) wCls ++ [wCls])))
theorem deep_stm (p:List Sg3) (h:wfS false p):if p.length ≤ 24 then ∃ es,pStm (deepW p) = .ok { kind := "insert",target:=some (.str "a",3),exprs:=some es } else pStm (deepW p) = .error 30:=by
 obtain ⟨a,b,r,_,e,en⟩:=shape_of false p h
 have hd:(deepW p).drop 5 = shW ((a,b) :: r) ++ wCls :: []:=by
  rw [e,List.append_assoc,List.cons_append]; rfl
 have D:=deep_or (a,b) r 25 (deepW p) 5 0 [] (by omega) (by omega) hd
 have h0:seesW (deepW p) 0 firstV = true:=sees_of (x:=("kept",.str "insert")) rfl (by decide +kernel)
 have h1:pFirst (lookW (deepW p) 0).2 = pInsert:=rfl
 have t1:tAll (deepW p) 1 ["into"] = .ok 2:=by
  unfold tAll
  rw [if_pos (sees_of (x:=("kept",.str "into")) rfl (by decide +kernel))]; rfl
 have t2:pName (deepW p) 2 = .ok ((.str "a",3),3):=by
  unfold pName
  rw [if_pos (by rfl)]; rfl
 have t3:tAll (deepW p) 3 ["values","("] = .ok 5:=by
  unfold tAll
  rw [if_pos (sees_of (x:=("kept",.str "values")) rfl (by decide +kernel))]
  unfold tAll
  rw [if_pos (sees_of (x:=wOpn) rfl (by decide +kernel))]; rfl
 unfold OutD at D
 rw [en] at D
 unfold pStm
 rw [if_pos h0,h1]
 unfold pInsert
 rw [t1]
 dsimp only
 rw [t2]
 dsimp only
 rw [t3]
 dsimp only
 unfold pList pExp
 by_cases k:p.length ≤ 24
 ·rw [if_pos (by omega)] at D
  obtain ⟨ss,D⟩:=D
  rw [if_pos k,D]
  dsimp only
  have C:=drop_add hd
  rw [loopL_end (sees_of (look_drop C) (by decide +kernel))]
  dsimp only
  rw [tAll_cls (look_drop C)]
  dsimp only
  have z:(deepW p).length ≤ 5 + (shW ((a,b) :: r)).length + 1:=by
   have:=drop_one C
   exact List.drop_eq_nil_iff.mp this
  rw [if_pos (by rw [look_end z])]
  exact ⟨_,rfl⟩
 ·rw [if_neg (by omega)] at D
  rw [if_neg k,D]
def cellL (ns:List Int) (k:Int):Int:=if ns = [] then 0 else ns.getD (k % (ns.length:Int)).toNat 0
def mixA (ns:List Int) (k:Int):Int:=(cellL ns k + 104729 * (k + 1)) % 4294967291
def mixB (ns:List Int) (k:Int):Int:=mixA ns k * 48271 % 4294967279
def mix (ns:List Int) (k:Int):Int:=(mixB ns k / 64 * 69621 + mixB ns k) % 4294967231
structure TxL (mg:Str→Option Value):Prop where
 isi:mg "isinstance" = none
 int:mg "int" = none
 len:mg "len" = none
 bool:mg "bool" = none
 str:mg "str" = none
 list:mg "list" = none
 tuple:mg "tuple" = none
 range:mg "range" = none
def spCell (K:PySem.W.Frag):Sp:=fun vs H Q _=>∃ (a:Addr) (ns:List Int) (k:Int),vs = [.ref a,.int k]∧SqL K H a (ns.map V.int)∧ns.length ≤ 63∧Q (.int (cellL ns k)) H
def spMix (K:PySem.W.Frag):Sp:=fun vs H Q _=>∃ (a:Addr) (ns:List Int) (k:Int),vs = [.ref a,.int k]∧SqL K H a (ns.map V.int)∧ns.length ≤ 63∧Q (.int (mix ns k)) H
section
variable {P:Program} {w:World} {K:PySem.W.Frag} {mg:Str→Option Value} {base:Heap}
theorem sc_law_cell:FnScope ["_law_script","_law_k"] ["_law_script","_law_k"] (defScope s_law_cell):=⟨rfl,rfl,rfl,by decide +kernel,rfl,by decide +kernel,by decide +kernel⟩
theorem ok_law_cell {f:Addr} {fd:FuncData} (F:Fun K "_law_cell" "_law_cell" s_law_cell f fd) (T:TxL mg):FnOk P w K mg base CX0 1 f fd ["_law_script","_law_k"] (spCell K):=by
 refine F.ok sc_law_cell (fun vs H Q E h=>?_) (fun cdv A outer s H vs Q E hr h=>?_)
 ·obtain ⟨a,ns,k,rfl,_⟩:=h
  rfl
 ·obtain ⟨a,ns,k,rfl,hS,hl,q⟩:=h
  refine ⟨_,pss_cons (ps_if (pt_truth (pv 0) (fun _=>rfl)) (pss_one (ps_ret (pe_ix ix_list (pv 0) (pe_op op_mod (pv 1) (pe_callB call_len_seq (by rfl) T.len PySem.boot_len (pa_cons (pv 0) pa_nil))) (fun _ _=>rfl)))) pss_nil)
   (pss_one (ps_ret pe_int)),?_⟩
  refine ⟨_,rfl,_,.inl ⟨_,hS,rfl⟩,?_⟩
  cases ns with
  | nil=>exact iteF q
  | cons n ns =>
   have h0:(0:Int) < ((((n :: ns).map V.int).length:Nat):Int):=by rw [List.length_map,List.length_cons]; omega
   refine iteT ⟨_,rfl,_,rfl,_,rfl,a,_,rfl,.inl hS,_,_,rfl,rfl,h0,a,_,_,_,rfl,rfl,hS,?_,q⟩
   have e:(((n :: ns).map V.int).length:Int) = ((n :: ns).length:Int):=by rw [List.length_map]
   have r0:=Int.emod_nonneg k (show ((n :: ns).length:Int) ≠ 0 by rw [List.length_cons]; omega)
   have r1:=Int.emod_lt_of_pos k (show (0:Int) < ((n :: ns).length:Int) by rw [List.length_cons]; omega)
   rw [e]
   have e2:k % ((n :: ns).length:Int) = ((k % ((n :: ns).length:Int)).toNat:Int):=by omega
   have hlt:(k % ((n :: ns).length:Int)).toNat < (n :: ns).length:=by omega
   rw [e2]
   refine atI_nat ?_
   rw [List.getElem?_map,List.getElem?_eq_getElem hlt]
   unfold cellL
   rw [if_neg (by simp),List.getD_eq_getElem?_getD,List.getElem?_eq_getElem hlt]
   rfl
theorem sc_law_mix:FnScope ["_law_script","_law_k","_law_number"] ["_law_script","_law_k"] (defScope s_law_mix):=⟨rfl,rfl,rfl,by decide +kernel,rfl,by decide +kernel,by decide +kernel⟩
theorem ok_law_mix {f:Addr} {fd:FuncData} (F:Fun K "_law_mix" "_law_mix" s_law_mix f fd) (GC:FnS P w K mg base 1 "_law_cell" ["_law_script","_law_k"] (spCell K)) :
  FnOk P w K mg base CX0 2 f fd ["_law_script","_law_k"] (spMix K):=by
 obtain ⟨fC,fdC,mC,kC,GC,bC⟩:=GC.ex
 refine F.ok sc_law_mix (fun vs H Q E h=>?_) (fun cdv A outer s H vs Q E hr h=>?_)
 ·obtain ⟨a,ns,k,rfl,_⟩:=h
  rfl
 ·obtain ⟨a,ns,k,rfl,hS,hl,q⟩:=h
  refine ⟨_,pss_cons (ps_set (i:=2) sc_law_mix.nd rfl (Or.inl rfl) (pe_op op_mod (pe_op op_add (pe_call GC hr (by rfl) mC kC bC .nil pass0 (pa_cons (pv 0) (pa_cons (pv 1) pa_nil))) (pe_op op_mul pe_int (pe_op op_add (pv 1) pe_int))) pe_int))
   (pss_cons (ps_set (i:=2) sc_law_mix.nd rfl (Or.inl rfl) (pe_op op_mod (pe_op op_mul (pv 2) pe_int) pe_int))
   (pss_one (ps_ret (pe_op op_mod (pe_op op_add (pe_op op_mul (pe_op op_fdiv (pv 2) pe_int) pe_int) (pv 2)) pe_int)))),?_⟩
  refine ⟨_,rfl,_,rfl,a,ns,k,rfl,hS,hl,_,rfl,_,_,rfl,rfl,_,_,rfl,rfl,.inl ⟨by decide,by decide⟩,_,_,rfl,rfl,_,_,rfl,rfl,(by show (0:Int) < 4294967291; decide),?_⟩
  refine ⟨_,rfl,_,_,rfl,rfl,.inr ⟨by decide,by decide⟩,_,_,rfl,rfl,(by show (0:Int) < 4294967279; decide),?_⟩
  refine ⟨_,rfl,_,_,rfl,rfl,⟨by decide,by decide⟩,_,_,rfl,rfl,.inr ⟨by decide,by decide⟩,_,rfl,_,_,rfl,rfl,_,_,rfl,rfl,(by show (0:Int) < 4294967231; decide),?_⟩
  exact q
def spWhole:Sp:=fun vs H Q _=>∃ i:Int,vs = [.int i]∧Q (.bl true) H
theorem sc_law_whole:FnScope ["_law_found"] ["_law_found"] (defScope s_law_whole):=⟨rfl,rfl,rfl,by decide +kernel,rfl,by decide +kernel,by decide +kernel⟩
theorem ok_law_whole {f:Addr} {fd:FuncData} (F:Fun K "_law_whole" "_law_whole" s_law_whole f fd) (T:TxL mg):FnOk P w K mg base CX0 1 f fd ["_law_found"] spWhole:=by
 refine F.ok sc_law_whole (fun vs H Q E h=>?_) (fun cdv A outer s H vs Q E hr h=>?_)
 ·obtain ⟨i,rfl,_⟩:=h
  rfl
 ·obtain ⟨i,rfl,q⟩:=h
  refine ⟨_,pss_one (ps_ret (pe_and (pe_callB call_isi (by rfl) T.isi PyProof.Rows.boot_isinstance (pa_cons (pv 0) (pa_cons (pe_bltn (v:=.ty "int") (by rfl) T.int PyProof.Rows.boot_int rfl) pa_nil)))
   (pe_one (pe_not (pe_callB call_isi (by rfl) T.isi PyProof.Rows.boot_isinstance (pa_cons (pv 0) (pa_cons (pe_bltn (v:=.ty "bool") (by rfl) T.bool PyProof.Rows.boot_bool rfl) pa_nil))))))),?_⟩
  refine ⟨_,rfl,_,_,_,true,rfl,.inr ⟨_,rfl⟩,.int i,rfl,_,rfl,iteT ?_⟩
  exact ⟨_,rfl,_,_,_,false,rfl,.inr ⟨_,rfl⟩,.int i,rfl,_,rfl,q⟩
def spAnsI:Sp:=fun vs H Q _=>∃ i:Int,vs = [.int i,.int i]∧Q (.bl true) H
theorem sc_law_answer:FnScope ["_law_found","_law_due","_law_k"] ["_law_found","_law_due"] (defScope s_law_answer):=⟨rfl,rfl,rfl,by decide +kernel,rfl,by decide +kernel,by decide +kernel⟩
theorem ok_law_answerI {f:Addr} {fd:FuncData} (F:Fun K "_law_answer" "_law_answer" s_law_answer f fd) (T:TxL mg) (GW:FnS P w K mg base 1 "_law_whole" ["_law_found"] spWhole):FnOk P w K mg base CX0 2 f fd ["_law_found","_law_due"] spAnsI:=by
 obtain ⟨fW,fdW,mW,kW,GW,bW⟩:=GW.ex
 refine F.ok sc_law_answer (fun vs H Q E h=>?_) (fun cdv A outer s H vs Q E hr h=>?_)
 ·obtain ⟨i,rfl,_⟩:=h
  rfl
 ·obtain ⟨i,rfl,q⟩:=h
  refine ⟨_,pss_cons (ps_if (pt_not (pt_val (pe_callB call_isi (by rfl) T.isi PyProof.Rows.boot_isinstance (pa_cons (pv 1) (pa_cons (pe_bltn (v:=.ty "list") (by rfl) T.list PyProof.Rows.boot_list rfl) pa_nil)))))
   (pss_one (ps_ret (pe_and (pe_call GW hr (by rfl) mW kW bW .nil pass0 (pa_cons (pv 0) pa_nil)) (pe_one (pe_cmpR op_eq (pv 0) (pv 1) (nomark _)))))) pss_nil) pss_never,?_⟩
  refine ⟨_,rfl,_,_,_,false,rfl,.inr ⟨_,rfl⟩,.int i,rfl,_,rfl,iteT ?_⟩
  refine ⟨_,rfl,i,rfl,_,rfl,iteT ?_⟩
  refine ⟨_,rfl,_,rfl,rfl,?_⟩
  rw [decide_eq_true rfl]
  exact q
def spRepI:Sp:=fun vs H Q _=>∃ (a b:Addr) (c:Str) (p i:Int),vs = [.ref a,.ref b]∧H a = some (.tup [.str c,.int p,.int i])∧H b = some (.tup [.str c,.int p,.int i])∧Q (.bl true) H
theorem sc_law_reply:FnScope ["_law_found","_law_due"] ["_law_found","_law_due"] (defScope s_law_reply):=⟨rfl,rfl,rfl,by decide +kernel,rfl,by decide +kernel,by decide +kernel⟩
theorem ok_law_replyI {f:Addr} {fd:FuncData} (F:Fun K "_law_reply" "_law_reply" s_law_reply f fd) (T:TxL mg) (GW:FnS P w K mg base 1 "_law_whole" ["_law_found"] spWhole) (GA:FnS P w K mg base 2 "_law_answer" ["_law_found","_law_due"] spAnsI):FnOk P w K mg base CX0 3 f fd ["_law_found","_law_due"] spRepI:=by
 obtain ⟨fW,fdW,mW,kW,GW,bW⟩:=GW.ex
 obtain ⟨fA,fdA,mA,kA,GA,bA⟩:=GA.ex
 refine F.ok sc_law_reply (fun vs H Q E h=>?_) (fun cdv A outer s H vs Q E hr h=>?_)
 ·obtain ⟨a,b,c,p,i,rfl,_⟩:=h
  rfl
 ·obtain ⟨a,b,c,p,i,rfl,ha,hb,q⟩:=h
  have r1:Room 1 _:=hr.mono (by omega)
  refine ⟨_,pss_cons (ps_if (PW.pt (pw_or (pt_not (pt_val (pe_callB call_isi (by rfl) T.isi PyProof.Rows.boot_isinstance (pa_cons (pv 0) (pa_cons (pe_bltn (v:=.ty "tuple") (by rfl) T.tuple PyProof.Rows.boot_tuple rfl) pa_nil)))))
   (pw_or (pt_cmpR op_ne (pe_callB call_len_seq (by rfl) T.len PySem.boot_len (pa_cons (pv 0) pa_nil)) pe_int (nomark _))
   (pw_or (pt_not (pt_val (pe_callB call_isi (by rfl) T.isi PyProof.Rows.boot_isinstance (pa_cons (pe_ix ix_tup (pv 0) pe_int (fun _ _=>rfl)) (pa_cons (pe_bltn (v:=.ty "str") (by rfl) T.str PyProof.Rows.boot_str rfl) pa_nil)))))
   (pw_or1 (pt_not (pt_val (pe_call GW r1 (by rfl) mW kW bW .nil pass0 (pa_cons (pe_ix ix_tup (pv 0) pe_int (fun _ _=>rfl)) pa_nil)))))))))
   (pss_one (ps_ret pe_bl)) pss_nil)
   (pss_one (ps_ret (pe_and (pe_cmpR op_eq (pe_ix ix_tup (pv 0) pe_int (fun _ _=>rfl)) (pe_ix ix_tup (pv 1) pe_int (fun _ _=>rfl)) (nomark _))
    (pe_and (pe_or (pe_cmpR op_isN (pe_ix ix_tup (pv 1) pe_int (fun _ _=>rfl)) pe_non (nomark _)) (pe_one (pe_cmpR op_eq (pe_ix ix_tup (pv 0) pe_int (fun _ _=>rfl)) (pe_ix ix_tup (pv 1) pe_int (fun _ _=>rfl)) (nomark _))))
    (pe_one (pe_call GA (hr.mono (by omega)) (by rfl) mA kA bA .nil pass0 (pa_cons (pe_ix ix_tup (pv 0) pe_int (fun _ _=>rfl)) (pa_cons (pe_ix ix_tup (pv 1) pe_int (fun _ _=>rfl)) pa_nil)))))))),?_⟩
  refine ⟨_,rfl,_,_,_,true,rfl,.inr ⟨_,rfl⟩,.tup ha,rfl,_,rfl,iteF ?_⟩
  refine ⟨_,rfl,a,_,rfl,.inr (SqT.of ha),rfl,_,rfl,iteF ?_⟩
  refine ⟨_,rfl,a,_,_,_,rfl,rfl,SqT.of ha,rfl,_,_,_,true,rfl,.inr ⟨_,rfl⟩,.str c,rfl,_,rfl,iteF ?_⟩
  refine ⟨_,rfl,a,_,_,_,rfl,rfl,SqT.of ha,rfl,p,rfl,_,rfl,iteF ?_⟩
  refine ⟨_,rfl,a,_,_,_,rfl,rfl,SqT.of ha,rfl,_,rfl,b,_,_,_,rfl,rfl,SqT.of hb,rfl,rfl,_,rfl,?_⟩
  rw [decide_eq_true rfl]
  refine iteT ⟨_,rfl,b,_,_,_,rfl,rfl,SqT.of hb,rfl,rfl,_,rfl,iteF ?_⟩
  refine ⟨_,rfl,a,_,_,_,rfl,rfl,SqT.of ha,rfl,_,rfl,b,_,_,_,rfl,rfl,SqT.of hb,rfl,rfl,_,rfl,?_⟩
  rw [decide_eq_true rfl]
  refine iteT ⟨_,rfl,a,_,_,_,rfl,rfl,SqT.of ha,rfl,_,rfl,b,_,_,_,rfl,rfl,SqT.of hb,rfl,i,rfl,?_⟩
  exact q
end
def txS:Sg3→Str
 | .opn => "("
 | .nt => "not"
 | .mn => "-"
abbrev txV (x:Sg3):V:=.str (txS x)
def pickS (j:Nat):Sg3:=if j = 0 then .opn else if j = 1 then .nt else .mn
def stepM (m:Bool) (x:Sg3):Bool:=decide (x = .mn) || (m && !decide (x = .opn))
def stM:Bool→List Sg3→Bool
 | m,[]=>m
 | m,x :: r=>stM (stepM m x) r
theorem wf_snoc:∀ (m:Bool) (p:List Sg3) (x:Sg3),wfS m p→(x = .nt→stM m p = false)→wfS m (p ++ [x])
 | m,[],x,_,h=>by
  cases x with
  | opn=>exact trivial
  | nt=>exact ⟨h rfl,trivial⟩
  | mn=>exact trivial
 | m,.opn :: p,x,w,h=>by
  have e:stepM m .opn = false:=by cases m <;> decide
  exact wf_snoc false p x w (fun z=>by have:=h z; rwa [stM,e] at this)
 | m,.nt :: p,x,w,h=>by
  obtain ⟨rfl,w⟩:=w
  exact ⟨rfl,wf_snoc false p x w (fun z=>h z)⟩
 | m,.mn :: p,x,w,h=>by
  have e:stepM m .mn = true:=by cases m <;> decide
  exact wf_snoc true p x w (fun z=>by have:=h z; rwa [stM,e] at this)
theorem stM_snoc:∀ (m:Bool) (p:List Sg3) (x:Sg3),stM m (p ++ [x]) = stepM (stM m p) x
 | m,[],x=>rfl
 | m,y :: p,x=>stM_snoc (stepM m y) p x
theorem opnN_snoc:∀ (p:List Sg3) (x:Sg3),opnN (p ++ [x]) = opnN p + if x = .opn then 1 else 0
 | [],x=>by cases x <;> rfl
 | .opn :: p,x=>by
  show opnN (p ++ [x]) + 1 = _
  rw [opnN_snoc p x]
  show _ = opnN p + 1 + _
  omega
 | .nt :: p,x=>opnN_snoc p x
 | .mn :: p,x=>opnN_snoc p x
theorem opnN_le:∀ p:List Sg3,opnN p ≤ p.length
 | []=>Nat.le_refl _
 | .opn :: p=>Nat.succ_le_succ (opnN_le p)
 | .nt :: p=>Nat.le_succ_of_le (opnN_le p)
 | .mn :: p=>Nat.le_succ_of_le (opnN_le p)
theorem tx_not (x:Sg3):decide (txV x = .str "not") = decide (x = .nt):=by cases x <;> decide +kernel
theorem tx_min (x:Sg3):decide (txV x = .str "-") = decide (x = .mn):=by cases x <;> decide +kernel
theorem tx_opn (x:Sg3):decide (txV x = .str "(") = decide (x = .opn):=by cases x <;> decide +kernel
theorem pick_at (i:Int):atI [txV .opn,txV .nt,txV .mn] (i % 3) = some (txV (pickS (i % 3).toNat)):=by
 have h0:=Int.emod_nonneg i (show (3:Int) ≠ 0 by decide)
 have h1:=Int.emod_lt_of_pos i (show (0:Int) < 3 by decide)
 obtain ⟨j,e⟩:∃ j:Nat,i % 3 = (j:Int):=⟨(i % 3).toNat,by omega⟩
 rw [e,Int.toNat_natCast]
 have hj:j < 3:=by omega
 match j,hj with
 | 0,_=>rfl
 | 1,_=>rfl
 | 2,_=>rfl
def head5:List V:=[.str "insert",.str "into",.str "a",.str "values",.str "("]
abbrev EmpP:=Hp→Hp→V→Prop
def spNewD (Tb:Hp→Prop) (Dk:EmpP):Sp:=fun vs H Q _=>vs = [.int 20]∧Tb H∧∀ H' v,SameT H H'→Dk H H' v→Q v H'
def spOpenD (Dk Em:EmpP):Sp:=fun vs H Q _=>∃ H0 v,vs = [v]∧Dk H0 H v∧SameT H0 H∧∀ H' b,SameT H0 H'→Em H0 H' b→Q b H'
def repE:RR Stm→Str × Int
 | .error e=>("language",e)
 | .ok sm=>("name",match sm.target with | some (_,n)=>(n:Int) | none=>0)
def spRunE (Em:EmpP):Sp:=fun vs H Q _=>∃ H0 b z,vs = [b,.str z]∧Em H0 H b∧SameT H0 H∧z.length ≤ 1000000∧(∀ l ∈ pieces z.length z.cps.toList,preW (mkS l))∧(seesW (wordsOf z) 0 firstV = true→(lookW (wordsOf z) 0).2 = .str "insert")∧(∀ sm,pStm (wordsOf z) = .ok sm→sm.kind = "insert"∧∃ x n,sm.target = some (.str x,n)) ∧
 ∀ t H',SameT H0 H'→H' t = some (.tup [.str (repE (pStm (wordsOf z))).1,.int (repE (pStm (wordsOf z))).2,.int 0])→Q (.ref t) H'
theorem mkS_app (l r:List Nat):mkS l ++ (" ":Str) ++ mkS r = mkS (l ++ 32 :: r):=by
 have e:(" ":Str) = mkS [32]:=by decide +kernel
 rw [e]
 show (⟨l.toArray ++ [32].toArray ++ r.toArray⟩:Str) = ⟨(l ++ 32 :: r).toArray⟩
 congr 1
 simp
theorem join_mkS:∀ ls:List (List Nat),Str.join " " (ls.map mkS) = mkS (joinB ls)
 | []=>rfl
 | [l]=>rfl
 | l :: m :: r=>by
  show mkS l ++ (" ":Str) ++ Str.join " " ((m :: r).map mkS) = mkS (l ++ 32 :: joinB (m :: r))
  rw [join_mkS (m :: r),mkS_app]
theorem joinB_len (B:Nat):∀ ls:List (List Nat),(∀ l ∈ ls,l.length ≤ B)→(joinB ls).length ≤ (B + 1) * ls.length
 | [],_=>Nat.zero_le _
 | [l],h=>by
  have:=h l (List.mem_cons_self ..)
  show l.length ≤ (B + 1) * 1
  omega
 | l :: m :: r,h=>by
  have h1:=h l (List.mem_cons_self ..)
  have h2:=joinB_len B (m :: r) (fun x hx=>h x (List.mem_cons_of_mem _ hx))
  have e:(joinB (l :: m :: r)).length = l.length + ((joinB (m :: r)).length + 1):=by
   show (l ++ 32 :: joinB (m :: r)).length = _
   rw [List.length_append,List.length_cons (as:=joinB (m :: r))]
  have e2:(B + 1) * (l :: m :: r).length = (B + 1) * (m :: r).length + (B + 1):=by
   rw [List.length_cons (as:=m :: r),Nat.mul_add,Nat.mul_one]
  rw [e,e2]
  omega
def cdS:Sg3→List Nat
 | .opn=>[40]
 | .nt=>[110,111,116]
 | .mn=>[45]
def deepC (p:List Sg3):List (List Nat):=[105,110,115,101,114,116] :: [105,110,116,111] :: [97] :: [118,97,108,117,101,115] :: [40] :: (p.map cdS ++ ([49] :: (List.replicate (opnN p) [41] ++ [[41]])))
def deepT (p:List Sg3):List Str := "insert" :: "into" :: "a" :: "values" :: "(" :: (p.map txS ++ (("1":Str) :: (List.replicate (opnN p) (")":Str) ++ [(")":Str)])))
theorem tx_cd (x:Sg3):txS x = mkS (cdS x):=by cases x <;> decide +kernel
theorem deepT_eq (p:List Sg3):deepT p = (deepC p).map mkS:=by
 have e1:("insert":Str) = mkS [105,110,115,101,114,116]:=by decide +kernel
 have e2:("into":Str) = mkS [105,110,116,111]:=by decide +kernel
 have e3:("a":Str) = mkS [97]:=by decide +kernel
 have e4:("values":Str) = mkS [118,97,108,117,101,115]:=by decide +kernel
 have e5:("(":Str) = mkS [40]:=by decide +kernel
 have e6:("1":Str) = mkS [49]:=by decide +kernel
 have e7:(")":Str) = mkS [41]:=by decide +kernel
 have e8:p.map txS = (p.map cdS).map mkS:=by
  rw [List.map_map]
  exact List.map_congr_left fun x _=>tx_cd x
 unfold deepT deepC
 rw [e1,e2,e3,e4,e5,e6,e7,e8]
 simp only [List.map_cons,List.map_append,List.map_replicate,List.map_nil]
theorem solid_1:Solid [105,110,115,101,114,116]:=⟨⟨_,_,rfl,by decide⟩,by decide,fun r=>rfl⟩
theorem solid_2:Solid [105,110,116,111]:=⟨⟨_,_,rfl,by decide⟩,by decide,fun r=>rfl⟩
theorem solid_3:Solid [97]:=⟨⟨_,_,rfl,by decide⟩,by decide,fun r=>rfl⟩
theorem solid_4:Solid [118,97,108,117,101,115]:=⟨⟨_,_,rfl,by decide⟩,by decide,fun r=>rfl⟩
theorem solid_5:Solid [40]:=⟨⟨_,_,rfl,by decide⟩,by decide,fun r=>rfl⟩
theorem solid_6:Solid [49]:=⟨⟨_,_,rfl,by decide⟩,by decide,fun r=>rfl⟩
theorem solid_7:Solid [41]:=⟨⟨_,_,rfl,by decide⟩,by decide,fun r=>rfl⟩
theorem solid_S (x:Sg3):Solid (cdS x):=by
 cases x with
 | opn=>exact solid_5
 | nt=>exact ⟨⟨_,_,rfl,by decide⟩,by decide,fun r=>rfl⟩
 | mn=>exact ⟨⟨_,_,rfl,by decide⟩,by decide,fun r=>rfl⟩
theorem deepC_all {R:List Nat→Prop} (p:List Sg3) (h1:R [105,110,115,101,114,116]) (h2:R [105,110,116,111]) (h3:R [97]) (h4:R [118,97,108,117,101,115]) (h5:R [40]) (h6:R [49]) (h7:R [41]) (hS:∀ x,R (cdS x)):∀ l ∈ deepC p,R l:=by
 intro l hl
 unfold deepC at hl
 simp only [List.mem_cons,List.mem_append,List.mem_map,List.mem_replicate,List.not_mem_nil,or_false] at hl
 rcases hl with rfl | rfl | rfl | rfl | rfl | ⟨x,_,rfl⟩ | rfl | ⟨_,rfl⟩ | rfl
 ·exact h1
 ·exact h2
 ·exact h3
 ·exact h4
 ·exact h5
 ·exact hS x
 ·exact h6
 ·exact h7
 ·exact h7
theorem deep_solid (p:List Sg3):∀ l ∈ deepC p,Solid l:=deepC_all p solid_1 solid_2 solid_3 solid_4 solid_5 solid_6 solid_7 solid_S
theorem deep_text (p:List Sg3):Str.join " " (deepT p) = mkS (joinB (deepC p)):=by rw [deepT_eq,join_mkS]
theorem deepC_len (p:List Sg3):(deepC p).length = 7 + p.length + opnN p:=by
 unfold deepC
 simp only [List.length_cons,List.length_append,List.length_map,List.length_replicate,List.length_nil]
 omega
theorem deep_words (p:List Sg3):wordsOf (Str.join " " (deepT p)) = deepW p:=by
 rw [deep_text,words_join _ (deep_solid p)]
 unfold deepC deepW
 have w1:wordOf (mkS [105,110,115,101,114,116]) = ((("kept":Str),V.str "insert"):Wd):=by decide +kernel
 have w2:wordOf (mkS [105,110,116,111]) = ((("kept":Str),V.str "into"):Wd):=by decide +kernel
 have w3:wordOf (mkS [97]) = ((("name":Str),V.str "a"):Wd):=by decide +kernel
 have w4:wordOf (mkS [118,97,108,117,101,115]) = ((("kept":Str),V.str "values"):Wd):=by decide +kernel
 have w5:wordOf (mkS [40]) = wOpn:=by decide +kernel
 have w6:wordOf (mkS [49]) = wOne:=by decide +kernel
 have w7:wordOf (mkS [41]) = wCls:=by decide +kernel
 have w8:((p.map cdS).map fun l=>wordOf (mkS l)) = p.map sgW:=by
  rw [List.map_map]
  refine List.map_congr_left fun x _=>?_
  show wordOf (mkS (cdS x)) = sgW x
  cases x <;> decide +kernel
 simp only [List.map_cons,List.map_append,List.map_replicate,List.map_nil,w1,w2,w3,w4,w5,w6,w7]
 rw [← w8]
theorem deep_pieces (p:List Sg3):∀ l ∈ pieces (Str.join " " (deepT p)).length (Str.join " " (deepT p)).cps.toList,preW (mkS l):=by
 rw [deep_text]
 have e:(mkS (joinB (deepC p))).length = (joinB (deepC p)).length:=by simp [Str.length,mkS]
 rw [e]
 show ∀ l ∈ pieces (joinB (deepC p)).length (joinB (deepC p)),preW (mkS l)
 rw [pieces_join _ (deep_solid p) _ (join_len _ (deep_solid p))]
 refine deepC_all p ?_ ?_ ?_ ?_ ?_ ?_ ?_ (fun x=>?_)
 all_goals first | (cases x <;> exact fun h=>absurd h (by decide)) | exact fun h=>absurd h (by decide)
theorem deep_len (p:List Sg3) (h:p.length ≤ 28):(Str.join " " (deepT p)).length ≤ 1000000:=by
 rw [deep_text]
 have e:(mkS (joinB (deepC p))).length = (joinB (deepC p)).length:=by simp [Str.length,mkS]
 rw [e]
 have:=joinB_len 6 (deepC p) (deepC_all p (by decide) (by decide) (by decide) (by decide) (by decide) (by decide) (by decide) (fun x=>by cases x <;> decide))
 rw [deepC_len] at this
 have:=opnN_le p
 omega
theorem deep_sum (p:List Sg3) (h:p.length ≤ 28):((deepT p).map (·.length)).sum + (deepT p).length * (" ":Str).length ≤ 16777216:=by
 have hl:∀ (ls:List (List Nat)),(∀ l ∈ ls,l.length ≤ 6)→((ls.map mkS).map (·.length)).sum ≤ 6 * ls.length:=by
  intro ls
  induction ls with
  | nil=>intro _; exact Nat.zero_le _
  | cons l r ih =>
   intro h
   have h1:=h l (List.mem_cons_self ..)
   have h2:=ih fun x hx=>h x (List.mem_cons_of_mem _ hx)
   simp only [List.map_cons,List.sum_cons,List.length_cons]
   have:(mkS l).length = l.length:=by simp [Str.length,mkS]
   omega
 have b:=hl (deepC p) (deepC_all p (by decide) (by decide) (by decide) (by decide) (by decide) (by decide) (by decide) (fun x=>by cases x <;> decide))
 rw [← deepT_eq] at b
 have e1:(deepT p).length = (deepC p).length:=by rw [deepT_eq,List.length_map]
 have e2:(" ":Str).length = 1:=by decide +kernel
 rw [e1,e2,deepC_len]
 rw [deepC_len] at b
 have:=opnN_le p
 omega
section
variable {P:Program} {w:World} {K:PySem.W.Frag} {mg:Str→Option Value} {base:Heap}
def spLaw12 (K:PySem.W.Frag) (Tb:Hp→Prop):Sp:=fun vs H Q _=>∃ (a:Addr) (ns:List Int),vs = [.ref a]∧SqL K H a (ns.map V.int)∧ns.length ≤ 63∧Tb H∧∀ H',Q (.bl true) H'
theorem sc_law:FnScope ["_law_script","_law_deep","_law_words","_law_places","_law_closing","_law_minus","_law_k","_law_some","_law_found"] ["_law_script"] (defScope s_law):=⟨rfl,rfl,rfl,by decide +kernel,rfl,by decide +kernel,by decide +kernel⟩
def Lp (a:Addr) (d:Int) (H:Hp) (l1 l2:Addr) (i:Nat) (σ:St) (H5:Hp):Prop:=∃ (p:List Sg3) (x6 x7:Option V),σ = [some (.ref a),some (.int d),some (.ref l1),some (.ref l2),some (.int (opnN p:Nat)),some (.bl (stM false p)),x6,x7,none] ∧
 p.length = i∧wfS false p∧Same H H5∧H5 l1 = some (.lst (head5 ++ p.map txV))∧H5 l2 = some (.lst ((List.range i).map fun (j:Nat)=>V.int ((6 + j:Nat):Int)))
theorem ev_minus {σ:St} {H:Hp} {Q:VK} {x:Sg3} {m:Bool} (h7:σ[7]? = some (some (txV x))) (h5:σ[5]? = some (some (.bl m))) (q:Q (.bl (stepM m x)) H) :
  tOrV (tOp rEq (tVar 7) (tC (.str "-"))) (tAndV (tVar 5) (tOp rNe (tVar 7) (tC (.str "(")))) σ H Q:=by
 refine ⟨_,h7,rfl,_,rfl,?_⟩
 rw [tx_min]
 refine ite2 (fun hc=>?_) (fun hc=>⟨_,h5,m,rfl,ite2 (fun hm=>⟨_,h7,rfl,?_⟩) (fun hm=>?_)⟩)
 ·have e:stepM m x = true:=by unfold stepM; rw [hc]; rfl
  rw [e] at q
  exact q
 ·have e:stepM m x = !decide (x = .opn):=by unfold stepM; rw [Bool.eq_false_iff.mpr hc,hm]; rfl
  rw [tx_opn,← e]
  exact q
 ·have e:stepM m x = false:=by unfold stepM; rw [Bool.eq_false_iff.mpr hc,Bool.eq_false_iff.mpr hm]; rfl
  rw [e] at q
  exact q
theorem ty1 {H:Hp} {l:Addr} {xs:List V} (h:H l = some (.lst xs)):tyV K "list" (.ref l) H:=.inl ⟨rfl,_,SqL.of h⟩
theorem ok_law {f:Addr} {fd:FuncData} {Dk Em:EmpP} {Tb:Hp→Prop} (cT:∀ H H',Same H H'→Tb H→Tb H') (F:Fun K "law" "law" s_law f fd) (T:TxL mg) (GM:FnS P w K mg base 2 "_law_mix" ["_law_script","_law_k"] (spMix K)) (GR:FnS P w K mg base 3 "_law_reply" ["_law_found","_law_due"] spRepI)
  (GN:FnS P w K mg base 218 "_law_new" ["_law_pages"] (spNewD Tb Dk)) (GO:FnS P w K mg base 217 "open_base" ["disk"] (spOpenD Dk Em)) (GX:FnS P w K mg base 217 "run" ["base","text"] (spRunE Em)) :
  FnOk P w K mg base CX0 219 f fd ["_law_script"] (spLaw12 K Tb):=by
 obtain ⟨fM,fdM,mM,kM,GM,bM⟩:=GM.ex
 obtain ⟨fR,fdR,mR,kR,GR,bR⟩:=GR.ex
 obtain ⟨fN,fdN,mN,kN,GN,bN⟩:=GN.ex
 obtain ⟨fO,fdO,mO,kO,GO,bO⟩:=GO.ex
 obtain ⟨fX,fdX,mX,kX,GX,bX⟩:=GX.ex
 refine F.ok sc_law (fun vs H Q E h=>?_) (fun cdv A outer s H vs Q E hr h=>?_)
 ·obtain ⟨a,ns,rfl,_⟩:=h
  rfl
 ·obtain ⟨a,ns,rfl,hS,hl,hT,q⟩:=h
  have r2:Room 2 _:=hr.mono (by omega)
  have r3:Room 3 _:=hr.mono (by omega)
  have r217:Room 217 _:=hr.mono (by omega)
  have r218:Room 218 _:=hr.mono (by omega)
  refine ⟨_,(pss_cons (ps_set (i:=1) sc_law.nd rfl (Or.inl rfl) (pe_op op_add pe_int (pe_op op_mod (pe_call GM r2 (by rfl) mM kM bM .nil pass0 (pa_cons (pv 0) (pa_cons pe_int pa_nil))) pe_int)))
   (pss_cons (ps_set (i:=2) sc_law.nd rfl (Or.inl rfl) (pe_lst (pa_cons pe_str (pa_cons pe_str (pa_cons pe_str (pa_cons pe_str (pa_cons pe_str pa_nil)))))))
   (pss_cons (ps_set (i:=3) sc_law.nd rfl (Or.inl rfl) (pe_lst pa_nil))
   (pss_cons (ps_set (i:=4) sc_law.nd rfl (Or.inl rfl) pe_int)
   (pss_cons (ps_set (i:=5) sc_law.nd rfl (Or.inl rfl) pe_bl)
   (pss_cons (ps_for PassesOwn.never rfl (pi_range1 (by rfl) T.range (pa_cons (pv 1) pa_nil)) (pg_name (i:=6) sc_law.nd rfl (Or.inl rfl))
   (pss_cons (ps_set (i:=7) sc_law.nd rfl (Or.inl rfl) (pe_ix ix_list (pe_lst (pa_cons pe_str (pa_cons pe_str (pa_cons pe_str pa_nil)))) (pe_op op_mod (pe_call GM r2 (by rfl) mM kM bM .nil pass0 (pa_cons (pv 0) (pa_cons (pe_op op_add pe_int (pv 6)) pa_nil))) pe_int) (fun _ _=>rfl)))
   (pss_cons (ps_if (PW.pt (pw_and (pt_val (pv 5)) (pw_and1 (pt_cmpR op_eq (pv 7) pe_str (nomark _))))) (pss_one (ps_set (i:=7) sc_law.nd rfl (Or.inl rfl) pe_str)) pss_nil)
   (pss_cons (ps_set (i:=5) sc_law.nd rfl (Or.inl rfl) (pe_or (pe_cmpR op_eq (pv 7) pe_str (nomark _)) (pe_one (pe_and (pv 5) (pe_one (pe_cmpR op_ne (pv 7) pe_str (nomark _)))))))
   (pss_cons (ps_set (i:=4) sc_law.nd rfl (Or.inl rfl) (pe_op op_add (pv 4) (pe_callTy call_int1 (by rfl) T.int PyProof.Rows.boot_int (pa_cons (pe_cmpR op_eq (pv 7) pe_str (nomark _)) pa_nil))))
   (pss_cons (ps_expr (pe_bm PySem.F.plainAttrs_list PySem.F.slot_list_append PySem.F.type_list_append mt_append (pv 2) (pa_cons (pv 7) pa_nil)))
   (pss_one (ps_expr (pe_bm PySem.F.plainAttrs_list PySem.F.slot_list_append PySem.F.type_list_append mt_append (pv 3) (pa_cons (pe_callB call_len_seq (by rfl) T.len PySem.boot_len (pa_cons (pv 2) pa_nil)) pa_nil))))))))))
   (pss_cons (ps_set (i:=2) sc_law.nd rfl (Or.inl rfl) (pe_op op_cat (pe_op op_cat (pe_op op_cat (pv 2) (pe_lst (pa_cons pe_str pa_nil))) (pe_op op_rep (pe_lst (pa_cons pe_str pa_nil)) (pv 4))) (pe_lst (pa_cons pe_str pa_nil))))
   (pss_cons (ps_set (i:=8) sc_law.nd rfl (Or.inl rfl) (pe_call GX r217 (by rfl) mX kX bX .nil pass0 (pa_cons (pe_call GO r217 (by rfl) mO kO bO .nil pass0 (pa_cons (pe_call GN r218 (by rfl) mN kN bN .nil pass0 (pa_cons pe_int pa_nil)) pa_nil)) (pa_cons (pe_bm PySem.F.plainAttrs_str PySem.F.slot_str_join PySem.F.type_str_join mt_join pe_str (pa_cons (pv 2) pa_nil)) pa_nil))))
   (pss_cons (ps_if (pt_cmpR op_gt (pv 1) pe_int (nomark _)) (pss_one (ps_ret (pe_call GR r3 (by rfl) mR kR bR .nil pass0 (pa_cons (pv 8) (pa_cons (pe_tup (pa_cons pe_str (pa_cons (pe_ix ix_list (pv 3) pe_int (fun _ _=>rfl)) (pa_cons pe_int pa_nil)))) pa_nil))))) pss_nil)
   (pss_one (ps_ret (pe_call GR r3 (by rfl) mR kR bR .nil pass0 (pa_cons (pv 8) (pa_cons (pe_tup (pa_cons pe_str (pa_cons pe_int (pa_cons pe_int pa_nil)))) pa_nil)))))))))))))),?_⟩
  refine ⟨_,rfl,a,ns,0,rfl,hS,hl,_,_,rfl,rfl,(by show (0:Int) < 9; decide),_,_,rfl,rfl,?_⟩
  have m0:=Int.emod_nonneg (mix ns 0) (show (9:Int) ≠ 0 by decide)
  have m1:=Int.emod_lt_of_pos (mix ns 0) (show (0:Int) < 9 by decide)
  obtain ⟨n,hn⟩:∃ n:Nat,20 + mix ns 0 % 9 = (n:Int):=⟨(20 + mix ns 0 % 9).toNat,by omega⟩
  have n28:n ≤ 28:=by omega
  have n20:20 ≤ n:=by omega
  refine ⟨(by show 5 ≤ sizeLine; decide),fun l1 hl1=>?_⟩
  have s1:Same H (upd H l1 (.lst head5)):=same_upd hl1
  refine ⟨Nat.zero_le _,fun l2 hl2=>?_⟩
  have h21:l1 ≠ l2:=fun e=>by
   rw [← e] at hl2
   exact absurd hl2 (by rw [upd_same]; exact fun z=>by cases z)
  have s2:Same H (upd (upd H l1 (.lst head5)) l2 (.lst [])):=s1.trans (same_upd hl2)
  have hl2':H l2 = none:=by rw [upd_ne (Ne.symm h21)] at hl2; exact hl2
  refine ⟨_,rfl,(20 + mix ns 0 % 9),rfl,by omega,(by omega),?_⟩
  have en:(20 + mix ns 0 % 9).toNat = n:=by omega
  rw [en]
  refine for_range (Lp a (20 + mix ns 0 % 9) H l1 l2) ⟨[],none,none,rfl,rfl,trivial,s2,(by rw [upd_ne h21,upd_same]; rfl),upd_same⟩ ?_ ?_
  ·rintro i σ H5 hi ⟨p,x6,x7,rfl,hp,hw,a1,a2,a3⟩
   show tSeq _ _ _ _ _
   have e0:(0 + (i:Int)) = (i:Int):=by omega
   rw [e0]
   refine ⟨(by show 3 ≤ sizeLine; decide),fun t ht=>?_⟩
   have st:Same H5 (upd H5 t (.lst [txV .opn,txV .nt,txV .mn])):=same_upd ht
   refine ⟨_,rfl,_,rfl,_,_,rfl,rfl,a,ns,_,rfl,st.seq (a1.seq hS),hl,_,_,rfl,rfl,(by show (0:Int) < 3; decide),t,_,_,_,rfl,rfl,SqL.of upd_same,pick_at _,?_⟩
   generalize pickS _ = x0
   have z1:(head5 ++ p.map txV).length < sizeLine:=by
    rw [List.length_append,List.length_map,hp]
    exact Nat.lt_of_lt_of_le (show 5 + i < 100 by omega) (by decide)
   have z2:((List.range i).map fun (j:Nat)=>V.int ((6 + j:Nat):Int)).length < sizeLine:=by
    rw [List.length_map,List.length_range]
    exact Nat.lt_of_lt_of_le (show i < 100 by omega) (by decide)
   have fin:∀ (x:Sg3),(x = .nt→stM false p = false)→∀ (σ:St) (H':Hp),σ = [some (.ref a),some (.int (20 + mix ns 0 % 9)),some (.ref l1),some (.ref l2),some (.int ((opnN p:Nat) + if decide (txV x = .str "(") = true then 1 else 0)),some (.bl (stepM (stM false p) x)),some (.int i),some (txV x),none] →
     H' = upd (upd (upd H5 t (.lst [txV .opn,txV .nt,txV .mn])) l1 (.lst (head5 ++ p.map txV ++ [txV x]))) l2 (.lst (((List.range i).map fun (j:Nat)=>V.int ((6 + j:Nat):Int)) ++ [.int ((head5 ++ p.map txV ++ [txV x]).length:Nat)])) →
     Lp a (20 + mix ns 0 % 9) H l1 l2 (i + 1) σ H':=by
    rintro x hx σ H' rfl rfl
    refine ⟨p ++ [x],some (.int i),some (txV x),?_,(by rw [List.length_append,hp]; rfl),wf_snoc false p x hw hx,?_,?_,?_⟩
    ·rw [stM_snoc,opnN_snoc,tx_opn]
     congr 6
     by_cases q:x = .opn
     ·rw [if_pos q,decide_eq_true q]; rfl
     ·rw [if_neg q,decide_eq_false q]; rfl
    ·intro b o e
     have b1:b ≠ l1:=fun z=>by rw [z,hl1] at e; cases e
     have b2:b ≠ l2:=fun z=>by rw [z,hl2'] at e; cases e
     rw [upd_ne b2,upd_ne b1]
     exact st _ _ (a1 _ _ e)
    ·rw [upd_ne h21,upd_same,List.map_append,List.append_assoc]; rfl
    ·rw [upd_same,List.range_succ,List.map_append]
     congr 3
     have:(head5 ++ p.map txV ++ [txV x]).length = 6 + i:=by
      simp only [List.length_append,List.length_map,hp,List.length_cons,List.length_nil]
      show 5 + i + 1 = 6 + i
      omega
     rw [this]; rfl
   refine ⟨_,rfl,_,rfl,ite2 (fun hm=>⟨_,rfl,rfl,_,rfl,ite2 (fun hx=>?_) (fun hx=>?_)⟩) (fun hm=>iteF ?_)⟩
   ·show tSeq _ _ _ _ _
    refine ev_minus (x:=.opn) (m:=stM false p) rfl rfl ?_
    refine ⟨_,rfl,_,rfl,rfl,.inr ⟨_,rfl,_,_,rfl,rfl,?_⟩⟩
    refine ⟨_,rfl,ty1 (st _ _ a2),_,rfl,l1,_,_,rfl,rfl,st _ _ a2,z1,?_⟩
    refine ⟨_,rfl,ty1 (by rw [upd_ne (Ne.symm h21)]; exact st _ _ a3),_,rfl,l1,_,rfl,.inl (SqL.of upd_same),l2,_,_,rfl,rfl,(by rw [upd_ne (Ne.symm h21)]; exact st _ _ a3),z2,?_⟩
    exact fin .opn (fun z=>by cases z) _ _ rfl rfl
   ·rw [tx_not] at hx
    show tSeq _ _ _ _ _
    refine ev_minus (x:=x0) (m:=stM false p) rfl rfl ?_
    refine ⟨_,rfl,_,rfl,rfl,.inr ⟨_,rfl,_,_,rfl,rfl,?_⟩⟩
    refine ⟨_,rfl,ty1 (st _ _ a2),_,rfl,l1,_,_,rfl,rfl,st _ _ a2,z1,?_⟩
    refine ⟨_,rfl,ty1 (by rw [upd_ne (Ne.symm h21)]; exact st _ _ a3),_,rfl,l1,_,rfl,.inl (SqL.of upd_same),l2,_,_,rfl,rfl,(by rw [upd_ne (Ne.symm h21)]; exact st _ _ a3),z2,?_⟩
    exact fin x0 (fun z=>absurd (decide_eq_true z) hx) _ _ rfl rfl
   ·show tSeq _ _ _ _ _
    refine ev_minus (x:=x0) (m:=stM false p) rfl rfl ?_
    refine ⟨_,rfl,_,rfl,rfl,.inr ⟨_,rfl,_,_,rfl,rfl,?_⟩⟩
    refine ⟨_,rfl,ty1 (st _ _ a2),_,rfl,l1,_,_,rfl,rfl,st _ _ a2,z1,?_⟩
    refine ⟨_,rfl,ty1 (by rw [upd_ne (Ne.symm h21)]; exact st _ _ a3),_,rfl,l1,_,rfl,.inl (SqL.of upd_same),l2,_,_,rfl,rfl,(by rw [upd_ne (Ne.symm h21)]; exact st _ _ a3),z2,?_⟩
    exact fin x0 (fun _=>Bool.eq_false_iff.mpr hm) _ _ rfl rfl
  ·rintro σ H5 ⟨p,x6,x7,rfl,hp,hw,a1,a2,a3⟩
   have hc:opnN p ≤ 28:=Nat.le_trans (opnN_le p) (by omega)
   show tSeq _ _ _ _ _
   refine ⟨_,rfl,(by show 1 ≤ sizeLine; decide),fun t1 ht1=>?_⟩
   have q1:Same H5 (upd H5 t1 (.lst [.str "1"])):=same_upd ht1
   refine ⟨l1,t1,_,_,rfl,rfl,q1 _ _ a2,upd_same,?_,fun t2 ht2=>?_⟩
   ·rw [List.length_append,List.length_map,hp]
    exact Nat.le_trans (show 5 + n + 1 ≤ 100 by omega) (by decide)
   have q2:=q1.trans (same_upd (o:=.lst (head5 ++ p.map txV ++ [.str "1"])) ht2)
   refine ⟨(by show 1 ≤ sizeLine; decide),fun t3 ht3=>?_⟩
   have n32:t2 ≠ t3:=fun e=>by rw [← e,upd_same] at ht3; cases ht3
   have q3:=q2.trans (same_upd (o:=.lst [.str ")"]) ht3)
   refine ⟨_,rfl,t3,_,_,rfl,rfl,upd_same,Int.le_trans (by decide) (Int.natCast_nonneg _),Int.lt_of_le_of_lt (show ((opnN p:Nat):Int) ≤ 28 by omega) (by decide),?_,fun t4 ht4=>?_⟩
   ·rw [Int.toNat_natCast]
    exact Nat.le_trans (show 1 * opnN p ≤ 100 by omega) (by decide)
   have q4:=q3.trans (same_upd (o:=.lst (List.replicate ((opnN p:Nat):Int).toNat [V.str ")"]).flatten) ht4)
   have er:(List.replicate ((opnN p:Nat):Int).toNat [V.str ")"]).flatten = List.replicate (opnN p) (V.str ")"):=by
    rw [Int.toNat_natCast,List.flatten_replicate_singleton]
   have n42:t2 ≠ t4:=fun e=>by rw [← e,upd_ne n32,upd_same] at ht4; cases ht4
   refine ⟨t2,t4,_,_,rfl,rfl,(by rw [upd_ne n42,upd_ne n32,upd_same]),upd_same,?_,fun t5 ht5=>?_⟩
   ·rw [er]
    simp only [List.length_append,List.length_map,List.length_replicate,hp]
    exact Nat.le_trans (show 5 + n + 1 + opnN p ≤ 100 by omega) (by decide)
   have q5:=q4.trans (same_upd (o:=.lst (head5 ++ p.map txV ++ [.str "1"] ++ (List.replicate ((opnN p:Nat):Int).toNat [V.str ")"]).flatten)) ht5)
   refine ⟨(by show 1 ≤ sizeLine; decide),fun t6 ht6=>?_⟩
   have q6:=q5.trans (same_upd (o:=.lst [.str ")"]) ht6)
   have n65:t5 ≠ t6:=fun e=>by rw [← e,upd_same] at ht6; cases ht6
   refine ⟨t5,t6,_,_,rfl,rfl,(by rw [upd_ne n65,upd_same]),upd_same,?_,fun t7 ht7=>?_⟩
   ·rw [er]
    simp only [List.length_append,List.length_map,List.length_replicate,hp]
    exact Nat.le_trans (show 5 + n + 1 + opnN p + 1 ≤ 100 by omega) (by decide)
   have q7:=q6.trans (same_upd (o:=.lst (head5 ++ p.map txV ++ [.str "1"] ++ (List.replicate ((opnN p:Nat):Int).toNat [V.str ")"]).flatten ++ [.str ")"])) ht7)
   have h7:=q7 _ _ a3
   generalize hH7:upd _ t7 _ = H7 at q7 h7 ⊢
   have hw7:H7 t7 = some (.lst ((deepT p).map V.str)):=by
    rw [← hH7,upd_same,er]
    unfold deepT head5
    simp only [List.map_cons,List.map_append,List.map_replicate,List.map_nil,List.map_map,List.append_assoc,List.cons_append,List.nil_append]
    rfl
   refine ⟨rfl,cT _ _ (a1.trans q7) hT,fun H8 dv sD dk=>⟨H7,dv,rfl,dk,sD,fun H9 b sO em=>?_⟩⟩
   refine ⟨rfl,_,rfl,_,t7,deepT p,rfl,rfl,SqL.of (sO.lst hw7),deep_sum p (by omega),?_⟩
   refine ⟨H7,b,_,rfl,em,sO,deep_len p (by omega),deep_pieces p,fun _=>(by rw [deep_words]; rfl),?_,fun t H' sX ht=>?_⟩
   ·intro sm e
    rw [deep_words] at e
    have D:=deep_stm p hw
    by_cases k:p.length ≤ 24
    ·rw [if_pos k] at D
     obtain ⟨es,D⟩:=D
     rw [D] at e
     cases e
     exact ⟨rfl,_,_,rfl⟩
    ·rw [if_neg k] at D
     rw [D] at e
     cases e
   rw [deep_words] at ht
   have D:=deep_stm p hw
   refine ⟨_,rfl,_,_,rfl,rfl,_,rfl,ite2 (fun hg=>?_) (fun hg=>?_)⟩
   ·have g:=of_decide_eq_true hg
    rw [if_neg (by omega)] at D
    rw [D] at ht
    have at24:atI ((List.range n).map fun (j:Nat)=>V.int ((6 + j:Nat):Int)) 24 = some (.int 30):=by
     refine atI_nat (j:=24) ?_
     rw [List.getElem?_map,List.getElem?_range (by omega)]
     rfl
    refine ⟨_,rfl,_,rfl,l2,_,_,_,rfl,rfl,SqL.of (sX.lst h7),at24,(by show 3 ≤ sizeLine; decide),fun tt htt=>?_⟩
    exact ⟨t,tt,"language",30,0,rfl,same_upd htt _ _ ht,upd_same,q _⟩
   ·have g:¬ (24 < 20 + mix ns 0 % 9):=fun z=>hg (decide_eq_true z)
    rw [if_pos (by omega)] at D
    obtain ⟨es,D⟩:=D
    rw [D] at ht
    refine ⟨_,rfl,(by show 3 ≤ sizeLine; decide),fun tt htt=>?_⟩
    exact ⟨t,tt,"name",3,0,rfl,same_upd htt _ _ ht,upd_same,q _⟩
end
end KL
namespace Mx
def look (w:List (Int × List Int)) (k:Int):Option (List Int):=(w.find? fun q=>decide (q.1 = k)).map (·.2)
def putW (w:List (Int × List Int)) (k:Int) (x:List Int):List (Int × List Int) :=
 if (w.any fun q=>decide (q.1 = k)) = true then w.map (fun q=>if q.1 = k then (q.1,x) else q) else w ++ [(k,x)]
def setW (s:List (Option (List Int))) (w:List (Int × List Int)):List (Option (List Int)):=w.foldl (fun s q=>s.set q.1.toNat (some q.2)) s
theorem look_nil (k:Int):look [] k = none:=rfl
theorem look_cons (q:Int × List Int) (w:List (Int × List Int)) (k:Int):look (q :: w) k = if q.1 = k then some q.2 else look w k:=by
 unfold look
 rw [List.find?_cons]
 by_cases h:q.1 = k <;> simp [h]
theorem setW_length (s:List (Option (List Int))) (w:List (Int × List Int)):(setW s w).length = s.length:=by
 induction w generalizing s with
 | nil=>rfl
 | cons q w ih=>show (setW (s.set q.1.toNat (some q.2)) w).length = s.length; rw [ih]; simp
theorem keys_map (w:List (Int × List Int)) (k:Int) (x:List Int):(w.map fun q=>if q.1 = k then (q.1,x) else q).map (·.1) = w.map (·.1):=by
 rw [List.map_map]
 apply List.map_congr_left
 intro q _
 show (if q.1 = k then (q.1,x) else q).1 = q.1
 split <;> rfl
theorem any_keys {w:List (Int × List Int)} {k:Int} (h:¬ (w.any fun q=>decide (q.1 = k)) = true):¬ k ∈ w.map (·.1):=by
 intro hm
 obtain ⟨q,hq,e⟩:=List.mem_map.mp hm
 exact h (List.any_eq_true.mpr ⟨q,hq,by simp [e]⟩)
theorem put_nodup {w:List (Int × List Int)} {k:Int} {x:List Int} (hn:(w.map (·.1)).Nodup):((putW w k x).map (·.1)).Nodup:=by
 unfold putW
 by_cases h:(w.any fun q=>decide (q.1 = k)) = true
 ·rw [if_pos h,keys_map]; exact hn
 ·rw [if_neg h,List.map_append]
  rw [List.nodup_append]
  refine ⟨hn,by simp,?_⟩
  intro a ha b hb e
  have:b = k:=by simpa using hb
  exact any_keys h (by rw [← this,← e]; exact ha)
theorem put_mem {w:List (Int × List Int)} {k:Int} {x:List Int} {q:Int × List Int} (h:q ∈ putW w k x):q.1 = k∨∃ q' ∈ w,q'.1 = q.1:=by
 unfold putW at h
 by_cases ha:(w.any fun q=>decide (q.1 = k)) = true
 ·rw [if_pos ha] at h
  obtain ⟨q',hq',e⟩:=List.mem_map.mp h
  refine .inr ⟨q',hq',?_⟩
  rw [← e]; split <;> rfl
 ·rw [if_neg ha] at h
  rcases List.mem_append.mp h with h | h
  ·exact .inr ⟨q,h,rfl⟩
  ·exact .inl (by rw [List.mem_singleton.mp h])
theorem drop_one {a:Int}:∀ {l:List Int},l.Nodup→l.length ≤ (l.filter fun x=>decide (x ≠ a)).length + 1
 | [],_=>by simp
 | x :: l,h=>by
  have hx:=List.nodup_cons.mp h
  by_cases e:x = a
  ·have hl:(l.filter fun y=>decide (y ≠ a)) = l:=List.filter_eq_self.mpr fun y hy=>by
    simp only [decide_eq_true_eq]
    intro z
    exact hx.1 (by rw [e,← z]; exact hy)
   rw [List.filter_cons_of_neg (by simp [e]),hl]
   simp
  ·rw [List.filter_cons_of_pos (by simp [e])]
   have:=drop_one (a:=a) hx.2
   simp only [List.length_cons]
   omega
theorem pigeon:∀ (n:Nat) (l:List Int),l.Nodup→(∀ x ∈ l,0 ≤ x∧x < n)→l.length ≤ n
 | 0,[],_,_=>by simp
 | 0,x :: l,_,h=>by have:=h x (by simp); omega
 | n + 1,l,hn,h=>by
  have h1:=pigeon n (l.filter fun x=>decide (x ≠ (n:Int))) (hn.filter _) (fun x hx=>by
   have hm:=List.mem_filter.mp hx
   have h2:=h x hm.1
   have h3:x ≠ (n:Int):=of_decide_eq_true hm.2
   omega)
  have h2:=drop_one (a:=(n:Int)) hn
  omega
end Mx
namespace KD
open PySem L2 Mx
structure DS where
 fuel:Option Int
 dead:Bool
 done:Int
 sure:List (Option (List Int))
 wait:List (Int × List Int)
def fuV:Option Int→V
 | none=>.non
 | some f=>.int f
def dflds (fu:Option Int) (de:Bool) (dn:Int) (sl wd:Addr):List (Str × V):=[("fuel",fuV fu),("dead",.bl de),("done",.int dn),("sure",.ref sl),("waiting",.ref wd)]
theorem n01:¬ (("fuel":Str) = "dead"):=by decide +kernel
theorem n02:¬ (("fuel":Str) = "done"):=by decide +kernel
theorem n03:¬ (("fuel":Str) = "sure"):=by decide +kernel
theorem n04:¬ (("fuel":Str) = "waiting"):=by decide +kernel
theorem n12:¬ (("dead":Str) = "done"):=by decide +kernel
theorem n13:¬ (("dead":Str) = "sure"):=by decide +kernel
theorem n14:¬ (("dead":Str) = "waiting"):=by decide +kernel
theorem n23:¬ (("done":Str) = "sure"):=by decide +kernel
theorem n24:¬ (("done":Str) = "waiting"):=by decide +kernel
theorem n34:¬ (("sure":Str) = "waiting"):=by decide +kernel
section
variable (fu:Option Int) (de:Bool) (dn:Int) (sl wd:Addr)
theorem l_fuel:(dflds fu de dn sl wd).lookup ("fuel":Str) = some (fuV fu):=by rfl
theorem l_dead:(dflds fu de dn sl wd).lookup ("dead":Str) = some (.bl de):=by rfl
theorem l_done:(dflds fu de dn sl wd).lookup ("done":Str) = some (.int dn):=by rfl
theorem l_sure:(dflds fu de dn sl wd).lookup ("sure":Str) = some (.ref sl):=by rfl
theorem l_wait:(dflds fu de dn sl wd).lookup ("waiting":Str) = some (.ref wd):=by rfl
theorem l_no {m:Str} (h0:¬ m = "fuel") (h1:¬ m = "dead") (h2:¬ m = "done") (h3:¬ m = "sure") (h4:¬ m = "waiting"):(dflds fu de dn sl wd).lookup m = none:=by
 unfold dflds
 simp [List.lookup_cons,beq_eq_false_iff_ne.mpr h0,beq_eq_false_iff_ne.mpr h1,beq_eq_false_iff_ne.mpr h2,beq_eq_false_iff_ne.mpr h3,beq_eq_false_iff_ne.mpr h4]
theorem p_fuel (f:Option Int):putF "fuel" (fuV f) (dflds fu de dn sl wd) = dflds f de dn sl wd:=by
 unfold dflds; simp only [putF,if_pos]
theorem p_dead (b:Bool):putF "dead" (.bl b) (dflds fu de dn sl wd) = dflds fu b dn sl wd:=by
 unfold dflds; simp only [putF,if_neg n01,if_pos]
theorem p_done (n:Int):putF "done" (.int n) (dflds fu de dn sl wd) = dflds fu de n sl wd:=by
 unfold dflds; simp only [putF,if_neg n02,if_neg n12,if_pos]
theorem p_wait (w:Addr):putF "waiting" (.ref w) (dflds fu de dn sl wd) = dflds fu de dn sl w:=by
 unfold dflds; simp only [putF,if_neg n04,if_neg n14,if_neg n24,if_neg n34,if_pos]
theorem p_init:putF "waiting" (.ref wd) (putF "sure" (.ref sl) (putF "done" (.int dn) (putF "dead" (.bl de) (putF "fuel" (fuV fu) [])))) = dflds fu de dn sl wd:=by
 unfold dflds; simp only [putF,if_neg n01,if_neg n02,if_neg n03,if_neg n04,if_neg n12,if_neg n13,if_neg n14,if_neg n23,if_neg n24,if_neg n34]
end
def PgAt (H:Hp):Option (List Int)→V→Prop
 | none,v=>v = .non
 | some xs,v=>∃ t,v = .ref t∧H t = some (.tup (xs.map V.int))
def WtAt (H:Hp) (q:Int × List Int) (kv:Key × V):Prop:=kv.1 = Sum.inl q.1∧PgAt H (some q.2) kv.2
structure DiskAt (C:Addr) (H:Hp) (p sl wd:Addr) (d:DS):Prop where
 ob:∃ dx,H p = some (.ins C dx (dflds d.fuel d.dead d.done sl wd))
 su:∃ vs,H sl = some (.lst vs)∧Paired (PgAt H) d.sure vs
 wa:∃ kvs,H wd = some (.dK kvs)∧Paired (WtAt H) d.wait kvs
 n:d.sure.length ≤ 4000
 w:d.wait.length ≤ 4000
 ks:∀ q ∈ d.wait,0 ≤ q.1∧q.1 < d.sure.length
 nd:(d.wait.map (·.1)).Nodup
def Step (A:List Addr) (H H':Hp):Prop:=∀ b o,H b = some o→b ∉ A→H' b = some o
theorem Same.step {A:List Addr} {H H':Hp} (s:Same H H'):Step A H H':=fun b o e _=>s b o e
def Tups (H H':Hp):Prop:=∀ b xs,H b = some (.tup xs)→H' b = some (.tup xs)
theorem PgAt.mono {H H':Hp} (t:Tups H H'):∀ {pg:Option (List Int)} {v:V},PgAt H pg v→PgAt H' pg v
 | none,_,h=>h
 | some _,_,⟨a,e,z⟩=>⟨a,e,t _ _ z⟩
theorem WtAt.mono {H H':Hp} (t:Tups H H') {q:Int × List Int} {kv:Key × V} (h:WtAt H q kv):WtAt H' q kv:=⟨h.1,h.2.mono t⟩
theorem DiskAt.same {C:Addr} {H H':Hp} {p sl wd:Addr} {d:DS} (D:DiskAt C H p sl wd d) (s:Same H H'):DiskAt C H' p sl wd d:=by
 obtain ⟨dx,h1⟩:=D.ob
 obtain ⟨vs,h2,h3⟩:=D.su
 obtain ⟨kvs,h4,h5⟩:=D.wa
 have t:Tups H H':=fun b xs e=>s b _ e
 exact ⟨⟨dx,s _ _ h1⟩,⟨vs,s _ _ h2,L2.Paired.imp' (fun _ _ z=>PgAt.mono t z) h3⟩,⟨kvs,s _ _ h4,L2.Paired.imp' (fun _ _ z=>WtAt.mono t z) h5⟩,D.n,D.w,D.ks,D.nd⟩
theorem DiskAt.apart {C:Addr} {H:Hp} {p sl wd:Addr} {d:DS} (D:DiskAt C H p sl wd d):p ≠ sl∧p ≠ wd∧sl ≠ wd:=by
 obtain ⟨dx,h1⟩:=D.ob
 obtain ⟨vs,h2,_⟩:=D.su
 obtain ⟨kvs,h4,_⟩:=D.wa
 exact ⟨ne_of h1 h2 (by intro z; cases z),ne_of h1 h4 (by intro z; cases z),ne_of h2 h4 (by intro z; cases z)⟩
abbrev VE:List Value:=[.type "ValueError",.type "Exception",.type "BaseException",.type "object"]
structure Txt (K:PySem.W.Frag) (mg:Str→Option Value) (C CN CD:Addr):Prop where
 cl:Cls K C
 nFu:NoAttr K C "fuel"
 nDe:NoAttr K C "dead"
 nDo:NoAttr K C "done"
 nSu:NoAttr K C "sure"
 nWa:NoAttr K C "waiting"
 mgC:mg "Disk" = some (.ref C)
 mgN:mg "NoPage" = some (.ref CN)
 mgD:mg "Dead" = some (.ref CD)
 exN:PySem.W.excIn K CN VE "ValueError.__new__" = true
 exD:PySem.W.excIn K CD VE "ValueError.__new__" = true
 len:mg "len" = none
 all:mg "all" = none
 range:mg "range" = none
 list:mg "list" = none
 tuple:mg "tuple" = none
 most:∃ t,mg "MOST_NUMBERS" = some (.int 40 t)
 larg:∃ t,mg "LARGEST_NUMBER" = some (.int 255 t)
def takes (xs:List Int):Bool:=decide (xs.length ≤ 40) && xs.all fun n=>decide (0 ≤ n) && decide (n ≤ 255)
def spTakes (K:PySem.W.Frag):Sp:=fun vs H Q _=>∃ (r:Addr) (xs:List Int),vs = [.ref r]∧SqL K H r (xs.map V.int)∧xs.length ≤ 1000∧∀ H',Same H H'→Q (.bl (takes xs)) H'
def spSize (C:Addr):Sp:=fun vs H Q _=>∃ (p sl wd:Addr) (d:DS),vs = [.ref p]∧DiskAt C H p sl wd d∧Q (.int d.sure.length) H
def spCheck (C CN:Addr):Sp:=fun vs H Q E=>∃ (p sl wd:Addr) (d:DS) (k:Int),vs = [.ref p,.int k]∧DiskAt C H p sl wd d∧k.natAbs.log2 < 1000∧(0 ≤ k∧k < d.sure.length→Q .non H)∧(¬ (0 ≤ k∧k < d.sure.length)→E (.ref CN) none H)
theorem fits_page {k:Int} (h:k.natAbs.log2 < 1000):(Str.ofString "there is no page ").length + (Str.ofString (toString k)).length ≤ sizeLine:=by
 have e:=int_text_length_le (k:=1000) (by decide) h
 have e2:(Str.ofString "there is no page ").length = 17:=by decide +kernel
 rw [e2,ofString_length,sizeLine_eq]
 omega
theorem iteNN {c A B:Prop} [Decidable c] (hc:¬ c) (h:A):if (!decide c) = true then A else B:=by
 rw [decide_eq_false hc]
 exact h
theorem DiskAt.setp {C:Addr} {H:Hp} {p sl wd dx:Addr} {d:DS} (D:DiskAt C H p sl wd d) (fu:Option Int) (de:Bool) (dn:Int):DiskAt C (upd H p (.ins C dx (dflds fu de dn sl wd))) p sl wd { d with fuel:=fu,dead:=de,done:=dn }:=by
 obtain ⟨n1,n2,n3⟩:=D.apart
 obtain ⟨vs,h2,h3⟩:=D.su
 obtain ⟨kvs,h4,h5⟩:=D.wa
 obtain ⟨_,h1⟩:=D.ob
 have t:Tups H (upd H p (.ins C dx (dflds fu de dn sl wd))):=fun b xs e=>by
  rw [upd_ne (ne_of e h1 (by intro z; cases z))]
  exact e
 exact ⟨⟨dx,upd_same⟩,⟨vs,by rw [upd_ne n1.symm]; exact h2,L2.Paired.imp' (fun _ _ z=>PgAt.mono t z) h3⟩,⟨kvs,by rw [upd_ne n2.symm]; exact h4,L2.Paired.imp' (fun _ _ z=>WtAt.mono t z) h5⟩,D.n,D.w,D.ks,D.nd⟩
theorem step_upd {H:Hp} {p:Addr} {o:HO} {A:List Addr} (h:p ∈ A):Step A H (upd H p o):=fun b u e hb=>by
 rw [upd_ne (fun z=>hb (by rw [z]; exact h))]
 exact e
theorem Step.trans {A:List Addr} {H H1 H2:Hp} (a:Step A H H1) (b:Step A H1 H2):Step A H H2:=fun c o e n=>b c o (a c o e n) n
theorem Step.mono {A B:List Addr} {H H':Hp} (a:Step A H H') (h:∀ x ∈ A,x ∈ B):Step B H H':=fun c o e n=>a c o e fun z=>n (h c z)
def DS.gone (d:DS):Bool:=d.dead || match d.fuel with | some f=>decide (f < 1) | none=>false
def DS.spent (d:DS):DS:={ d with fuel:=d.fuel.map (· - 1),done:=d.done + 1 }
def spSpend (C CD:Addr):Sp:=fun vs H Q E=>∃ (p sl wd:Addr) (d:DS),vs = [.ref p]∧DiskAt C H p sl wd d∧(d.gone = false→∀ H',Step [p] H H'→DiskAt C H' p sl wd d.spent→Q .non H') ∧
 (d.gone = true→∀ H',Step [p] H H'→DiskAt C H' p sl wd { d with dead:=true }→E (.ref CD) none H')
section
variable {P:Program} {w:World} {K:PySem.W.Frag} {mg:Str→Option Value} {base:Heap}
theorem scT:FnScope ["row"] ["row"] (defScope KL.s_page_takes):=⟨rfl,rfl,rfl,by decide +kernel,rfl,by decide +kernel,by decide +kernel⟩
theorem ok_takes {f C CN CD:Addr} {fd:FuncData} (F:Fun K "page_takes" "page_takes" KL.s_page_takes f fd) (T:Txt K mg C CN CD):FnOk P w K mg base CX0 1 f fd ["row"] (spTakes K):=by
 refine F.ok scT (fun vs H Q E h=>?_) (fun cdv A outer s H vs Q E hr h=>?_)
 ·obtain ⟨r,xs,rfl,_⟩:=h
  rfl
 ·obtain ⟨r,xs,rfl,hS,hl,k⟩:=h
  obtain ⟨t40,m40⟩:=T.most
  obtain ⟨t255,m255⟩:=T.larg
  refine ⟨_,pss_cons (ps_if (pt_cmpR op_gt (pe_callB call_len_seq (by rfl) T.len PySem.boot_len (pa_cons (pv 0) pa_nil)) (pe_glob (v:=.int 40) (by rfl) m40 ⟨t40,rfl⟩) (nomark _)) (pss_one (ps_ret pe_bl)) pss_nil)
   (pss_one (ps_ret (pe_callB (call_allB rfl) (by rfl) T.all PyProof.Rows.Boot.«all» (pa_cons (pe_comp (x := "number") (fv:=[]) (js:=[]) (cl:=[]) rfl
    ⟨by with_unfolding_all rfl,rfl,by decide +kernel,by decide +kernel,rfl,by decide +kernel,trivial,by exact ⟨fun z=>(by rcases z with z | z <;> cases z),fun z=>(by rcases z with z | z <;> cases z),fun z=>(by rcases z with z | z <;> cases z),trivial⟩,trivial,fun _=>rfl⟩
    (pi_list (pv 0)) (fun pins fp s H=>pe_chain op_le op_le pe_int (pv 0) (pe_glob (v:=.int 255) (by rfl) m255 ⟨t255,rfl⟩))) pa_nil)))),?_⟩
  refine ⟨_,rfl,r,_,rfl,.inl hS,_,_,rfl,rfl,_,rfl,?_⟩
  have hlen:(xs.map V.int).length = xs.length:=List.length_map ..
  refine ite2 (fun h=>?_) (fun h=>?_)
  ·have e:takes xs = false:=by
    have h1:=of_decide_eq_true h
    rw [hlen] at h1
    unfold takes
    rw [decide_eq_false (by omega)]
    rfl
   have q:=k H (Same.refl H)
   rw [e] at q
   exact q
  ·have h1:xs.length ≤ 40:=by
    have h1:=of_decide_eq_false (Bool.eq_false_iff.mpr h)
    rw [hlen] at h1
    omega
   refine ⟨_,rfl,r,rfl,⟨_,hS⟩,fun D hD=>?_⟩
   refine comp_list_pure (xs:=xs.map V.int) (fun v=>match v with | .int n=>.bl (decide (0 ≤ n) && decide (n ≤ 255)) | _=>.non) (by rw [hlen]; exact Nat.le_trans hl (by decide)) hS hD (fun i x Hc kk hi _ q=>?_) ?_
   ·obtain ⟨n,rfl⟩:∃ n,x = V.int n:=by
     rw [List.getElem?_map] at hi
     obtain ⟨n,_,e⟩:=Option.map_eq_some_iff.mp hi
     exact ⟨n,e.symm⟩
    refine ⟨_,rfl,_,_,rfl,rfl,_,rfl,?_⟩
    refine ite2 (fun h0=>⟨_,_,rfl,rfl,?_⟩) (fun h0=>?_)
    ·have e:(decide (0 ≤ n) && decide (n ≤ 255)) = decide (n ≤ 255):=by rw [h0]; rfl
     simp only [e] at q
     exact q
    ·have e:(decide (0 ≤ n) && decide (n ≤ 255)) = false:=by rw [Bool.eq_false_iff.mpr h0]; rfl
     simp only [e] at q
     exact q
   ·refine ⟨D,xs.map fun n=>decide (0 ≤ n) && decide (n ≤ 255),rfl,.inl (.inl ?_),?_⟩
    ·rw [upd_same,List.map_map,List.map_map]
     rfl
    ·have q:=k _ (same_upd (o:=.lst ((xs.map V.int).map fun v=>match v with | .int n=>.bl (decide (0 ≤ n) && decide (n ≤ 255)) | _=>.non)) hD)
     have e:takes xs = (xs.map fun n=>decide (0 ≤ n) && decide (n ≤ 255)).all id:=by
      unfold takes
      rw [decide_eq_true h1,List.all_map]
      rfl
     rw [← e]
     exact q
theorem scS:FnScope ["self"] ["self"] (defScope KL.s_Disk_size):=⟨rfl,rfl,rfl,by decide +kernel,rfl,by decide +kernel,by decide +kernel⟩
theorem ok_size {f C CN CD:Addr} {fd:FuncData} (F:Fun K "size" "Disk.size" KL.s_Disk_size f fd) (T:Txt K mg C CN CD):FnOk P w K mg base CX0 1 f fd ["self"] (spSize C):=by
 refine F.ok scS (fun vs H Q E h=>?_) (fun cdv A outer s H vs Q E hr h=>?_)
 ·obtain ⟨p,sl,wd,d,rfl,_⟩:=h
  rfl
 ·obtain ⟨p,sl,wd,d,rfl,D,q⟩:=h
  obtain ⟨dx,h1⟩:=D.ob
  obtain ⟨vs,h2,h3⟩:=D.su
  refine ⟨_,pss_one (ps_ret (pe_callB call_len_seq (by rfl) T.len PySem.boot_len (pa_cons (pe_fld (pv 0) rfl) pa_nil))),?_⟩
  refine ⟨_,rfl,p,C,dx,_,_,rfl,h1,T.cl,T.nSu,l_sure ..,sl,vs,rfl,.inl (SqL.of h2),?_⟩
  rw [← h3.length]
  exact q
theorem scCk:FnScope ["self","k"] ["self","k"] (defScope KL.s_Disk_check_page):=⟨rfl,rfl,rfl,by decide +kernel,rfl,by decide +kernel,by decide +kernel⟩
theorem ok_check {f C CN CD fS:Addr} {fd fdS:FuncData} (F:Fun K "check_page" "Disk.check_page" KL.s_Disk_check_page f fd) (T:Txt K mg C CN CD) (mS:Meth K C "size" fS) (FS:Fun K "size" "Disk.size" KL.s_Disk_size fS fdS) (bS:Binds K fdS ["self"] []) :
  FnOk P w K mg base (CX1 P w) 2 f fd ["self","k"] (spCheck C CN):=by
 have GS:FnOk P w K mg base CX0 1 fS fdS ["self"] (spSize C):=ok_size FS T
 refine F.okX scCk (fun vs H Q E h=>?_) (fun cdv A outer s H vs Q E hr h=>?_)
 ·obtain ⟨p,sl,wd,d,k,rfl,_⟩:=h
  rfl
 ·obtain ⟨p,sl,wd,d,k,rfl,D,hk,q1,q2⟩:=h
  obtain ⟨dx,h1⟩:=D.ob
  refine ⟨_,pss_one (ps_if (pt_not (pt_chain op_le op_lt pe_int (pv 1) (pe_meth0 (pv 0) T.cl mS GS hr bS .nil pass0)))
   (pss_one (ps_raise raiseX rfl (by rfl) T.mgN T.exN PySem.F.excBase_ValueError (pa_cons (pe_fstr2 (pv 1) (by decide)) pa_nil))) pss_nil),?_⟩
  refine ⟨_,rfl,_,_,rfl,rfl,_,rfl,?_⟩
  have bad:¬ (0 ≤ k∧k < d.sure.length)→tRaise (fun _=>E) CN (tCons (fun σ H Q=>tVar 1 σ H fun y H1=>∃ i,y = .int i∧i.natAbs.log2 < 1920∧(Str.ofString "there is no page ").length + (toString i:Str).length ≤ sizeLine∧Q (.str (Str.empty ++ Str.ofString "there is no page " ++ toString i)) H1) tNil) { nx:=fun _ H'=>Q .non H',rt:=Q } [some (.ref p),some (.int k)] H:=fun z=>by
   exact ⟨_,rfl,k,rfl,by omega,fits_page hk,by show 1 ≤ sizeLine; decide,q2 z⟩
  refine ite2 (fun h0=>?_) (fun h0=>?_)
  ·refine ⟨_,rfl,p,dx,_,rfl,h1,l_no _ _ _ _ _ (by decide +kernel) (by decide +kernel) (by decide +kernel) (by decide +kernel) (by decide +kernel),p,sl,wd,d,rfl,D,_,_,rfl,rfl,_,rfl,?_⟩
   by_cases h1:k < d.sure.length
   ·rw [decide_eq_true h1]
    exact q1 ⟨of_decide_eq_true h0,h1⟩
   ·rw [decide_eq_false h1]
    exact bad fun z=>h1 z.2
  ·exact ⟨_,rfl,bad fun z=>h0 (decide_eq_true z.1)⟩
theorem scSp:FnScope ["self"] ["self"] (defScope KL.s_Disk_spend):=⟨rfl,rfl,rfl,by decide +kernel,rfl,by decide +kernel,by decide +kernel⟩
theorem ok_spend {f C CN CD:Addr} {fd:FuncData} (F:Fun K "spend" "Disk.spend" KL.s_Disk_spend f fd) (T:Txt K mg C CN CD):FnOk P w K mg base (CX1 P w) 1 f fd ["self"] (spSpend C CD):=by
 refine F.okX scSp (fun vs H Q E h=>?_) (fun cdv A outer s H vs Q E hr h=>?_)
 ·obtain ⟨p,sl,wd,d,rfl,_⟩:=h
  rfl
 ·obtain ⟨p,sl,wd,⟨fu,de,dn,su,wt⟩,rfl,D,q1,q2⟩:=h
  obtain ⟨dx,h1⟩:=D.ob
  dsimp only at h1
  refine ⟨_,pss_cons (ps_if (PW.pt (pw_and (pt_cmp (pc_notN (pe_fld (pv 0) rfl))) (pw_and1 (pt_cmpR op_lt (pe_fld (pv 0) rfl) pe_int (nomark _))))) (pss_one (ps_fld (pv 0) pe_bl rfl)) pss_nil)
   (pss_cons (ps_if (pt_truth (pe_fld (pv 0) rfl) (fun _=>rfl)) (pss_one (ps_raise raiseX rfl (by rfl) T.mgD T.exD PySem.F.excBase_ValueError (pa_cons pe_str pa_nil))) pss_nil)
   (pss_cons (ps_if (pt_cmp (pc_notN (pe_fld (pv 0) rfl))) (pss_one (ps_fldaug (pv 0) pe_int in_sub)) pss_nil)
   (pss_one (ps_fldaug (pv 0) pe_int in_add)))),?_⟩
  refine ⟨_,rfl,p,C,dx,_,_,rfl,h1,T.cl,T.nFu,l_fuel ..,_,rfl,?_⟩
  have few:∀ (fu:Option Int) (de:Bool) (dn:Int),(dflds fu de dn sl wd).length < 1000:=fun _ _ _=>by show 5 < 1000; decide
  cases fu with
  | none =>
   refine iteNS rfl (iteF ?_)
   refine ⟨_,rfl,p,C,dx,_,_,rfl,h1,T.cl,T.nDe,l_dead ..,de,rfl,?_⟩
   cases de with
   | true =>
    refine iteT ⟨by show 1 ≤ sizeLine; decide,q2 rfl H (Same.step (Same.refl H)) D⟩
   | false =>
    refine iteF ?_
    refine ⟨_,rfl,p,C,dx,_,_,rfl,h1,T.cl,T.nFu,l_fuel ..,_,rfl,iteNS rfl ?_⟩
    refine ⟨_,rfl,p,C,dx,_,_,rfl,h1,T.cl,T.nDo,l_done ..,_,_,rfl,rfl,dx,_,h1,few _ _ _,?_⟩
    rw [p_done]
    exact q1 rfl _ (step_upd (.head _)) (D.setp none false (dn + 1))
  | some fv =>
   refine iteNN (by intro z; cases z) ?_
   refine ⟨_,rfl,p,C,dx,_,_,rfl,h1,T.cl,T.nFu,l_fuel ..,fv,_,rfl,rfl,_,rfl,?_⟩
   refine ite2 (fun hf=>?_) (fun hf=>?_)
   ·refine ⟨_,rfl,p,C,dx,_,rfl,h1,T.cl,T.nDe,few _ _ _,?_⟩
    rw [p_dead]
    refine ⟨_,rfl,p,C,dx,_,_,rfl,upd_same,T.cl,T.nDe,l_dead ..,true,rfl,iteT ⟨by show 1 ≤ sizeLine; decide,?_⟩⟩
    refine q2 ?_ _ (step_upd (.head _)) (D.setp (some fv) true dn)
    show (de || decide (fv < 1)) = true
    rw [hf]
    exact Bool.or_true _
   ·refine ⟨_,rfl,p,C,dx,_,_,rfl,h1,T.cl,T.nDe,l_dead ..,de,rfl,?_⟩
    cases de with
    | true =>
     refine iteT ⟨by show 1 ≤ sizeLine; decide,q2 rfl H (Same.step (Same.refl H)) D⟩
    | false =>
     refine iteF ?_
     refine ⟨_,rfl,p,C,dx,_,_,rfl,h1,T.cl,T.nFu,l_fuel ..,_,rfl,iteNN (by intro z; cases z) ?_⟩
     refine ⟨_,rfl,p,C,dx,_,_,rfl,h1,T.cl,T.nFu,l_fuel ..,fv,_,rfl,rfl,dx,_,h1,few _ _ _,?_⟩
     have e:=p_fuel (some fv) false dn sl wd (some (fv - 1))
     rw [show V.int (fv - 1) = fuV (some (fv - 1)) from rfl,e]
     refine ⟨_,rfl,p,C,dx,_,_,rfl,upd_same,T.cl,T.nDo,l_done ..,_,_,rfl,rfl,dx,_,upd_same,few _ _ _,?_⟩
     rw [p_done,upd_upd]
     refine q1 ?_ _ (step_upd (.head _)) (D.setp (some (fv - 1)) false (dn + 1))
     show (false || decide (fv < 1)) = false
     rw [Bool.eq_false_iff.mpr hf]
     rfl
end
def DS.cur (d:DS) (k:Int):Option (List Int):=match look d.wait k with | some xs=>some xs | none=>(d.sure[k.toNat]?).join
def spRead (C CN:Addr):Sp:=fun vs H Q E=>∃ (p sl wd:Addr) (d:DS) (k:Int),vs = [.ref p,.int k]∧DiskAt C H p sl wd d∧k.natAbs.log2 < 1000 ∧
 (0 ≤ k∧k < d.sure.length→match d.cur k with | none=>Q .non H | some xs=>∀ l,H l = none→Q (.ref l) (upd H l (.lst (xs.map V.int))))∧(¬ (0 ≤ k∧k < d.sure.length)→E (.ref CN) none H)
theorem wt_val {H:Hp} {k:Int}:∀ {wt:List (Int × List Int)} {kvs:List (Key × V)},Paired (WtAt H) wt kvs→match look wt k with | some xs=>∃ v,valV kvs (Sum.inl k) = some v∧PgAt H (some xs) v | none=>valV kvs (Sum.inl k) = none
 | [],[],_=>rfl
 | q :: wt,kv :: kvs,.cons h r=>by
  have ih:=wt_val (k:=k) r
  rw [look_cons]
  by_cases e:q.1 = k
  ·rw [if_pos e]
   exact ⟨kv.2,valV_pos (by rw [h.1,e]),h.2⟩
  ·rw [if_neg e,valV_neg (by rw [h.1]; exact fun z=>e (Sum.inl.inj z))]
   exact ih
theorem su_get {H:Hp}:∀ {su:List (Option (List Int))} {vs:List V} {j:Nat},Paired (PgAt H) su vs→j < su.length→∃ v,vs[j]? = some v∧PgAt H (su[j]?).join v
 | [],_,_,_,h=>absurd h (Nat.not_lt_zero _)
 | s :: su,v :: vs,0,.cons h _,_=>⟨v,rfl,h⟩
 | s :: su,v :: vs,j + 1,.cons _ r,h=>by
  obtain ⟨v',e,z⟩:=su_get (j:=j) r (by simpa using h)
  exact ⟨v',by simpa using e,by simpa using z⟩
section
variable {P:Program} {w:World} {K:PySem.W.Frag} {mg:Str→Option Value} {base:Heap}
theorem scR:FnScope ["self","k","page"] ["self","k"] (defScope KL.s_Disk_read):=⟨rfl,rfl,rfl,by decide +kernel,rfl,by decide +kernel,by decide +kernel⟩
theorem ok_read {f C CN CD fK:Addr} {fd fdK:FuncData} (F:Fun K "read" "Disk.read" KL.s_Disk_read f fd) (T:Txt K mg C CN CD) (mK:Meth K C "check_page" fK) (GK:FnOk P w K mg base (CX1 P w) 2 fK fdK ["self","k"] (spCheck C CN)) (bK:Binds K fdK ["self","k"] []) :
  FnOk P w K mg base (CX1 P w) 3 f fd ["self","k"] (spRead C CN):=by
 refine F.okX scR (fun vs H Q E h=>?_) (fun cdv A outer s H vs Q E hr h=>?_)
 ·obtain ⟨p,sl,wd,d,k,rfl,_⟩:=h
  rfl
 ·obtain ⟨p,sl,wd,d,k,rfl,D,hk,q1,q2⟩:=h
  have hu:=hu_of hr
  obtain ⟨dx,h1⟩:=D.ob
  obtain ⟨vs,h2,h3⟩:=D.su
  obtain ⟨kvs,h4,h5⟩:=D.wa
  refine ⟨_,pss_cons (ps_expr (pe_meth (pv 0) T.cl mK GK hr bK .nil passX (pa_cons (pv 1) pa_nil)))
   (pss_cons (ps_set (i:=2) scR.nd rfl (Or.inl rfl) (pe_dget2 hu (pe_fld (pv 0) rfl) (pv 1) (pe_ix ix_list (pe_fld (pv 0) rfl) (pv 1) (fun _ _=>rfl)) ⟨rfl,rfl,rfl,rfl⟩))
   (pss_one (ps_ret (pe_ifExp (pt_cmp (pc_isN (pv 2))) pe_non (pe_callTy call_list_of (by rfl) T.list PyProof.Rows.boot_list (pa_cons (pv 2) pa_nil)))))),?_⟩
  refine ⟨_,rfl,p,dx,_,rfl,h1,l_no _ _ _ _ _ (by decide +kernel) (by decide +kernel) (by decide +kernel) (by decide +kernel) (by decide +kernel),_,rfl,p,sl,wd,d,k,rfl,D,hk,fun hr=>?_,fun hr=>q2 hr⟩
  obtain ⟨v,hv,pv⟩:=su_get (j:=k.toNat) h3 (by omega)
  have q:=q1 hr
  have hat:atI vs k = some v:=by
   have e:k = (k.toNat:Int):=by omega
   rw [e]
   exact atI_nat hv
  refine ⟨_,rfl,p,C,dx,_,_,rfl,h1,T.cl,T.nWa,l_wait ..,wd,rfl,.inl ⟨kvs,.inl h4⟩,_,rfl,_,rfl,p,C,dx,_,_,rfl,h1,T.cl,T.nSu,l_sure ..,_,rfl,sl,vs,k,v,rfl,rfl,SqL.of h2,hat,_,DGet.k (k:=Sum.inl k) h4,?_⟩
  have hw:=wt_val (k:=k) h5
  have fin:∀ (v:V) (pg:Option (List Int)),PgAt H pg v→(match pg with | none=>Q .non H | some xs=>∀ l,H l = none→Q (.ref l) (upd H l (.lst (xs.map V.int)))) →
    ∃ x,(([some (V.ref p),some (V.int k),none]:St).set 2 (some v))[2]? = some (some x)∧∃ c,V.bl (decide (x = V.non)) = V.bl c∧if c = true then Q .non H else ∃ y,(([some (V.ref p),some (V.int k),none]:St).set 2 (some v))[2]? = some (some y)∧∃ t ys,[y] = [V.ref t]∧(SqL K H t ys∨SqT K H t ys)∧∀ l,H l = none→Q (.ref l) (upd H l (.lst ys)):=fun v pg hp q=>by
   refine ⟨_,rfl,_,rfl,?_⟩
   cases pg with
   | none =>
    cases hp
    exact iteT q
   | some xs =>
    obtain ⟨t,rfl,ht⟩:=hp
    exact iteF ⟨_,rfl,t,_,rfl,.inr (SqT.of ht),q⟩
  unfold DS.cur at q
  cases hl:look d.wait k with
  | some xs =>
   rw [hl] at hw q
   obtain ⟨v',e,pv'⟩:=hw
   rw [e]
   exact fin v' (some xs) pv' q
  | none =>
   rw [hl] at hw q
   rw [hw]
   exact fin v _ pv q
end
def spWrite (K:PySem.W.Frag) (C CN CD:Addr):Sp:=fun vs H Q E=>∃ (p sl wd r:Addr) (d:DS) (k:Int) (xs:List Int),vs = [.ref p,.int k,.ref r]∧DiskAt C H p sl wd d∧SqL K H r (xs.map V.int)∧xs.length ≤ 1000∧r ≠ p∧k.natAbs.log2 < 1000 ∧
 (¬ (0 ≤ k∧k < d.sure.length)∨takes xs = false→∀ H',Same H H'→E (.ref CN) none H') ∧
 (0 ≤ k∧k < d.sure.length→takes xs = true→d.gone = true→∀ H',Step [p] H H'→DiskAt C H' p sl wd { d with dead:=true }→E (.ref CD) none H') ∧
 (0 ≤ k∧k < d.sure.length→takes xs = true→d.gone = false→∀ H',Step [p,wd] H H'→DiskAt C H' p sl wd { d.spent with wait:=putW d.wait k xs }→Q .non H')
theorem pairedAppend {α β:Type} {R:α→β→Prop}:∀ {a c:List α} {b d:List β},Paired R a b→Paired R c d→Paired R (a ++ c) (b ++ d)
 | [],_,[],_,.nil,h=>h
 | _ :: _,_,_ :: _,_,.cons x r,h=>.cons x (pairedAppend r h)
theorem pk_map {H H':Hp} {k:Int} {xs:List Int} {v:V} (t:Tups H H') (hv:PgAt H' (some xs) v):∀ {wt:List (Int × List Int)} {kvs:List (Key × V)},Paired (WtAt H) wt kvs →
  Paired (WtAt H') (wt.map fun q=>if q.1 = k then (q.1,xs) else q) (kvs.map fun kv=>if kv.1 = Sum.inl k then (kv.1,v) else kv)
 | [],[],_=>.nil
 | q :: wt,kv :: kvs,.cons h r=>by
  refine .cons ?_ (pk_map t hv r)
  dsimp only
  by_cases e:q.1 = k
  ·rw [if_pos e,if_pos (by rw [h.1,e])]
   exact ⟨h.1,hv⟩
  ·rw [if_neg e,if_neg (by rw [h.1]; exact fun z=>e (Sum.inl.inj z))]
   exact WtAt.mono t h
theorem pk_any {H:Hp} {k:Int}:∀ {wt:List (Int × List Int)} {kvs:List (Key × V)},Paired (WtAt H) wt kvs→(wt.any fun q=>decide (q.1 = k)) = kvs.any fun kv=>decide (kv.1 = (Sum.inl k:Key))
 | [],[],_=>rfl
 | q :: wt,kv :: kvs,.cons h r=>by
  rw [List.any_cons,List.any_cons,pk_any r,h.1]
  congr 1
  by_cases e:q.1 = k
  ·simp [e]
  ·rw [decide_eq_false e,decide_eq_false fun z=>e (Sum.inl.inj z)]
theorem pk_put {H H':Hp} {k:Int} {xs:List Int} {v:V} (t:Tups H H') (hv:PgAt H' (some xs) v) {wt:List (Int × List Int)} {kvs:List (Key × V)} (h:Paired (WtAt H) wt kvs):Paired (WtAt H') (putW wt k xs) (putK kvs (Sum.inl k) v):=by
 unfold putW putK
 rw [pk_any h]
 by_cases e:(kvs.any fun kv=>decide (kv.1 = (Sum.inl k:Key))) = true
 ·rw [if_pos e,if_pos e]
  exact pk_map t hv h
 ·rw [if_neg e,if_neg e]
  exact pairedAppend (L2.Paired.imp' (fun _ _ z=>WtAt.mono t z) h) (.cons ⟨rfl,hv⟩ .nil)
section
variable {P:Program} {w:World} {K:PySem.W.Frag} {mg:Str→Option Value} {base:Heap}
theorem scW:FnScope ["self","k","row"] ["self","k","row"] (defScope KL.s_Disk_write):=⟨rfl,rfl,rfl,by decide +kernel,rfl,by decide +kernel,by decide +kernel⟩
theorem ok_write {f C CN CD fK fT fS:Addr} {fd fdK fdT fdS:FuncData} (F:Fun K "write" "Disk.write" KL.s_Disk_write f fd) (T:Txt K mg C CN CD)
  (mK:Meth K C "check_page" fK) (GK:FnOk P w K mg base (CX1 P w) 2 fK fdK ["self","k"] (spCheck C CN)) (bK:Binds K fdK ["self","k"] [])
  (mT:mg "page_takes" = some (.ref fT)) (FT:Fun K "page_takes" "page_takes" KL.s_page_takes fT fdT) (bT:Binds K fdT ["row"] [])
  (mS:Meth K C "spend" fS) (GS:FnOk P w K mg base (CX1 P w) 1 fS fdS ["self"] (spSpend C CD)) (bS:Binds K fdS ["self"] []) :
  FnOk P w K mg base (CX1 P w) 3 f fd ["self","k","row"] (spWrite K C CN CD):=by
 have GT:FnOk P w K mg base CX0 1 fT fdT ["row"] (spTakes K):=ok_takes FT T
 refine F.okX scW (fun vs H Q E h=>?_) (fun cdv A outer s H vs Q E hr h=>?_)
 ·obtain ⟨p,sl,wd,r,d,k,xs,rfl,_⟩:=h
  rfl
 ·obtain ⟨p,sl,wd,r,d,k,xs,rfl,D,hS,hx,hrp,hk,q1,q2,q3⟩:=h
  have hu:=hu_of hr
  have hr1:Room 1 _:=hr.mono (by decide)
  obtain ⟨dx,h1⟩:=D.ob
  have no:∀ m:Str,¬ m = "fuel"→¬ m = "dead"→¬ m = "done"→¬ m = "sure"→¬ m = "waiting"→∀ (fu:Option Int) (de:Bool) (dn:Int),(dflds fu de dn sl wd).lookup m = none:=fun m a b c e g fu de dn=>l_no fu de dn sl wd a b c e g
  refine ⟨_,pss_cons (ps_expr (pe_meth (pv 0) T.cl mK GK hr bK .nil passX (pa_cons (pv 1) pa_nil)))
   (pss_cons (ps_if (pt_not (pt_val (pe_call GT hr1 (by rfl) mT FT.kp bT .nil pass0 (pa_cons (pv 2) pa_nil)))) (pss_one (ps_raise raiseX rfl (by rfl) T.mgN T.exN PySem.F.excBase_ValueError (pa_cons pe_str pa_nil))) pss_nil)
   (pss_cons (ps_expr (pe_meth0 (pv 0) T.cl mS GS hr1 bS .nil passX))
   (pss_one (ps_dput hu (pe_fld (pv 0) rfl) (pv 1) (pe_callTy call_tuple_of (by rfl) T.tuple PyProof.Rows.boot_tuple (pa_cons (pv 2) pa_nil)) rfl)))),?_⟩
  refine ⟨_,rfl,p,dx,_,rfl,h1,no _ (by decide +kernel) (by decide +kernel) (by decide +kernel) (by decide +kernel) (by decide +kernel) ..,_,rfl,p,sl,wd,d,k,rfl,D,hk,fun hr=>?_,fun hr=>q1 (.inl hr) H (Same.refl H)⟩
  refine ⟨_,rfl,r,xs,rfl,hS,hx,fun H1 s1=>⟨_,rfl,?_⟩⟩
  cases ht:takes xs with
  | false=>exact iteT ⟨by show 1 ≤ sizeLine; decide,q1 (.inr ht) H1 s1⟩
  | true =>
   refine iteF ?_
   have D1:=D.same s1
   refine ⟨_,rfl,p,dx,_,rfl,s1 _ _ h1,no _ (by decide +kernel) (by decide +kernel) (by decide +kernel) (by decide +kernel) (by decide +kernel) ..,p,sl,wd,d,rfl,D1,fun hg H2 s2 D2=>?_,fun hg H2 s2 D2=>q2 hr ht hg H2 (fun b o e n=>s2 b o (s1 b o e) n) D2⟩
   obtain ⟨dy,g1⟩:=D2.ob
   obtain ⟨kvs,g4,g5⟩:=D2.wa
   obtain ⟨n1,n2,n3⟩:=D2.apart
   have hS2:SqL K H2 r (xs.map V.int):=by
    rcases s1.seq hS with z | z
    ·rcases z with z | ⟨o,z⟩
     ·exact .inl (.inl (s2 _ _ z (by simpa using hrp)))
     ·exact .inl (.inr ⟨o,s2 _ _ z (by simpa using hrp)⟩)
    ·exact .inr z
   refine ⟨_,rfl,r,_,rfl,.inl ⟨hS2,fun t ht'=>?_⟩⟩
   have up:∀ b o,H2 b = some o→upd H2 t (.tup (xs.map V.int)) b = some o:=fun b o e=>by
    rw [upd_ne (ne_of_none e ht')]
    exact e
   refine ⟨_,rfl,p,C,dy,_,_,rfl,up _ _ g1,T.cl,T.nWa,l_wait ..,_,rfl,wd,_,rfl,DPut.k (k:=Sum.inl k) (up _ _ g4) ?_,?_⟩
   ·have:=D2.w
    have e:=g5.length
    exact Nat.lt_of_le_of_lt (by rw [← e]; exact this) (by decide)
   ·have tt:Tups H2 (upd (upd H2 t (.tup (xs.map V.int))) wd (.dK (putK kvs (Sum.inl k) (.ref t)))):=fun b ys e=>by
     rw [upd_ne (ne_of e g4 (by intro z; cases z)),upd_ne (ne_of_none e ht')]
     exact e
    have twd:t ≠ wd:=(ne_of_none g4 ht').symm
    refine q3 hr ht hg _ (fun b o e n=>?_) ⟨⟨dy,?_⟩,?_,⟨_,upd_same,pk_put tt ⟨t,rfl,?_⟩ g5⟩,D.n,?_,fun q hq=>?_,put_nodup D.nd⟩
    ·have nb:b ≠ p:=fun z=>n (by rw [z]; exact .head _)
     have e2:=s2 b o (s1 b o e) (by simpa using nb)
     rw [upd_ne (fun z=>n (by rw [z]; exact .tail _ (.head _))),upd_ne (ne_of_none e2 ht')]
     exact e2
    ·rw [upd_ne n2,upd_ne (ne_of_none g1 ht')]
     exact g1
    ·obtain ⟨vs,g2,g3⟩:=D2.su
     exact ⟨vs,by rw [upd_ne n3,upd_ne (ne_of_none g2 ht')]; exact g2,L2.Paired.imp' (fun _ _ z=>PgAt.mono tt z) g3⟩
    ·rw [upd_ne twd,upd_same]
    ·have z:=pigeon d.sure.length ((putW d.wait k xs).map (·.1)) (put_nodup D.nd) (fun x hx=>by
      obtain ⟨q,hq,rfl⟩:=List.mem_map.mp hx
      rcases put_mem hq with z | ⟨q',hq',e⟩
      ·rw [z]; exact hr
      ·rw [← e]; exact D.ks q' hq')
     rw [List.length_map] at z
     exact Nat.le_trans z D.n
    ·rcases put_mem hq with z | ⟨q',hq',e⟩
     ·rw [z]; exact hr
     ·rw [← e]; exact D.ks q' hq'
end
end KD
namespace L2
open PySem
theorem PS.nox {X:Cx} {st:Stmt} {t:TS} (h:PS X.nox st t):PS X st t:=fun pins s σ H D I hw =>
 wpAny_mono (h pins s σ H D (I.wish _) hw) (fun _ _ q=>q.unwish) fun _ _ z=>False.elim z
end L2
namespace KD
open PySem L2 Mx
def spSync (C CD:Addr):Sp:=fun vs H Q E=>∃ (p sl wd:Addr) (d:DS),vs = [.ref p]∧DiskAt C H p sl wd d ∧
 (d.gone = false→∀ wd' H',H wd' = none→Step [p,sl] H H'→DiskAt C H' p sl wd' { d.spent with sure:=setW d.sure d.wait,wait:=[] }→Q .non H') ∧
 (d.gone = true→∀ H',Step [p] H H'→DiskAt C H' p sl wd { d with dead:=true }→E (.ref CD) none H')
def setV (vs:List V) (kvs:List (Key × V)):List V:=kvs.foldl (fun s kv=>match kv.1 with | .inl k=>s.set k.toNat kv.2 | .inr _=>s) vs
theorem setV_snoc (vs:List V) (kvs:List (Key × V)) (k:Int) (v:V):setV vs (kvs ++ [(Sum.inl k,v)]) = (setV vs kvs).set k.toNat v:=by
 unfold setV
 rw [List.foldl_append]
 rfl
theorem pairedSet {α β:Type} {R:α→β→Prop} {a:α} {b:β} (h:R a b):∀ {xs:List α} {ys:List β} (i:Nat),Paired R xs ys→Paired R (xs.set i a) (ys.set i b)
 | [],[],_,.nil=>.nil
 | _ :: _,_ :: _,0,.cons _ r=>.cons h r
 | _ :: _,_ :: _,i + 1,.cons x r=>.cons x (pairedSet h i r)
theorem setV_pair {H:Hp}:∀ {wt:List (Int × List Int)} {kvs:List (Key × V)} {su:List (Option (List Int))} {vs:List V},Paired (PgAt H) su vs→Paired (WtAt H) wt kvs→Paired (PgAt H) (setW su wt) (setV vs kvs)
 | [],[],_,_,h,.nil=>h
 | q :: wt,(key,v) :: kvs,su,vs,h,.cons x r=>by
  obtain ⟨e,z⟩:=x
  dsimp only at e
  subst e
  exact setV_pair (wt:=wt) (kvs:=kvs) (pairedSet z q.1.toNat h) r
theorem setV_length:∀ (kvs:List (Key × V)) (vs:List V),(setV vs kvs).length = vs.length
 | [],_=>rfl
 | (.inl k,v) :: kvs,vs=>by show (setV (vs.set k.toNat v) kvs).length = vs.length; rw [setV_length]; simp
 | (.inr x,v) :: kvs,vs=>by show (setV vs kvs).length = vs.length; rw [setV_length]
theorem wt_at {H:Hp} {wt:List (Int × List Int)} {kvs:List (Key × V)} (p:Paired (WtAt H) wt kvs):∀ {i:Nat} {kv:Key × V},kvs[i]? = some kv→∃ q,wt[i]? = some q∧WtAt H q kv:=by
 induction p with
 | nil=>intro i kv e; simp at e
 | cons h _ ih=>
  intro i kv e
  cases i with
  | zero=>
   simp at e
   subst e
   exact ⟨_,rfl,h⟩
  | succ i=>
   obtain ⟨q,e1,z⟩:=ih (i:=i) (by simpa using e)
   exact ⟨q,by simpa using e1,z⟩
theorem wt_keys {H:Hp}:∀ {wt:List (Int × List Int)} {kvs:List (Key × V)},Paired (WtAt H) wt kvs→kvs.map (·.1) = (wt.map (·.1)).map Sum.inl
 | [],[],.nil=>rfl
 | _ :: _,_ :: _,.cons h r=>by
  rw [List.map_cons,List.map_cons,List.map_cons,wt_keys r,h.1]
theorem nodup_inl:∀ {l:List Int},l.Nodup→(l.map (Sum.inl:Int→Key)).Nodup
 | [],_=>List.nodup_nil
 | x :: l,h=>by
  have hx:=List.nodup_cons.mp h
  rw [List.map_cons]
  refine List.nodup_cons.mpr ⟨fun z=>?_,nodup_inl hx.2⟩
  obtain ⟨y,hy,e⟩:=List.mem_map.mp z
  exact hx.1 (by rw [← Sum.inl.inj e]; exact hy)
theorem valV_at:∀ {kvs:List (Key × V)} {i:Nat} {kv:Key × V},(kvs.map (·.1)).Nodup→kvs[i]? = some kv→valV kvs kv.1 = some kv.2
 | [],_,_,_,e=>by simp at e
 | x :: kvs,0,kv,_,e=>by
  have:x = kv:=by simpa using e
  subst this
  exact valV_pos rfl
 | x :: kvs,i + 1,kv,h,e=>by
  have hx:=List.nodup_cons.mp (show (x.1 :: kvs.map (·.1)).Nodup from h)
  have e':kvs[i]? = some kv:=by simpa using e
  rw [valV_neg (fun z=>hx.1 (by rw [z]; exact List.mem_map.mpr ⟨kv,List.mem_of_getElem? e',rfl⟩))]
  exact valV_at hx.2 e'
theorem ix_nat {n:Nat} {k:Int} (h0:0 ≤ k) (h1:k < n):ixN n k = some k.toNat:=by
 unfold ixN
 rw [if_pos h0,if_pos h1]
section
variable {P:Program} {w:World} {K:PySem.W.Frag} {mg:Str→Option Value} {base:Heap}
theorem scSy:FnScope ["self","k"] ["self"] (defScope KL.s_Disk_sync):=⟨rfl,rfl,rfl,by decide +kernel,rfl,by decide +kernel,by decide +kernel⟩
theorem ok_sync {f C CN CD fS:Addr} {fd fdS:FuncData} (F:Fun K "sync" "Disk.sync" KL.s_Disk_sync f fd) (T:Txt K mg C CN CD)
  (mS:Meth K C "spend" fS) (GS:FnOk P w K mg base (CX1 P w) 1 fS fdS ["self"] (spSpend C CD)) (bS:Binds K fdS ["self"] []):FnOk P w K mg base (CX1 P w) 2 f fd ["self"] (spSync C CD):=by
 refine F.okX scSy (fun vs H Q E h=>?_) (fun cdv A outer s H vs Q E hr h=>?_)
 ·obtain ⟨p,sl,wd,d,rfl,_⟩:=h
  rfl
 ·obtain ⟨p,sl,wd,d,rfl,D,q1,q2⟩:=h
  have hu:=hu_of hr
  obtain ⟨dx,h1⟩:=D.ob
  have no:∀ m:Str,¬ m = "fuel"→¬ m = "dead"→¬ m = "done"→¬ m = "sure"→¬ m = "waiting"→∀ (fu:Option Int) (de:Bool) (dn:Int),(dflds fu de dn sl wd).lookup m = none:=fun m a b c e g fu de dn=>l_no fu de dn sl wd a b c e g
  refine ⟨_,pss_cons (ps_expr (pe_meth0 (pv 0) T.cl mS GS hr bS .nil passX))
   (pss_cons (PS.nox (ps_thaw (ps_for PassesOwn.never rfl (pi_dict (pe_fld (pv 0) rfl)) (pg_name (i:=1) scSy.nd rfl (Or.inl rfl)) (pss_one (ps_asg (pe_dget hu (pe_fld (pv 0) rfl) (pv 1) (fun _ _=>rfl)) (pg_sub (pe_fld (pv 0) rfl) (pv 1) set_list))))))
   (pss_one (ps_fld (pv 0) pe_dnewK rfl))),?_⟩
  refine ⟨_,rfl,p,dx,_,rfl,h1,no _ (by decide +kernel) (by decide +kernel) (by decide +kernel) (by decide +kernel) (by decide +kernel) ..,p,sl,wd,d,rfl,D,fun hg H2 s2 D2=>?_,q2⟩
  obtain ⟨dy,g1⟩:=D2.ob
  obtain ⟨vs,g2,g3⟩:=D2.su
  obtain ⟨kvs,g4,g5⟩:=D2.wa
  obtain ⟨n1,n2,n3⟩:=D2.apart
  have hkeys:(kvs.map (·.1)).Nodup:=by rw [wt_keys g5]; exact nodup_inl D2.nd
  refine ⟨_,rfl,p,C,dy,_,_,rfl,g1,T.cl,T.nWa,l_wait ..,wd,kvs,rfl,g4,fun L o=>?_⟩
  refine for_dict (fun i σ H3=>∃ v:Option V,σ = [some (.ref p),v]∧H3 wd = some (.frz o (.dK kvs))∧H3 sl = some (.lst (setV vs (kvs.take i)))∧Step [sl,wd] H2 H3)
   ⟨none,rfl,upd_same,by rw [upd_ne n3]; exact g2,step_upd (.tail _ (.head _))⟩ (fun i σ H3 _ ⟨_,_,z,_⟩=>z) ?_ ?_
  ·rintro i kv σ H3 hi ⟨v,rfl,a1,a2,a3⟩
   obtain ⟨q,hq,hk,pg⟩:=wt_at g5 hi
   obtain ⟨key,kval⟩:=kv
   dsimp only at hk
   subst hk
   have hq2:=D2.ks q (List.mem_of_getElem? hq)
   have b1:H3 p = some _:=a3 _ _ g1 (by simp [n1,n2])
   refine ⟨_,rfl,p,C,dy,_,_,rfl,b1,T.cl,T.nWa,l_wait ..,_,rfl,wd,kval,rfl,.inl ⟨kvs,Sum.inl q.1,.inr ⟨o,a1⟩,rfl,(valV_at hkeys hi).symm⟩,?_⟩
   refine ⟨_,rfl,p,C,dy,_,_,rfl,b1,T.cl,T.nSu,l_sure ..,_,rfl,sl,_,q.1,_,rfl,rfl,a2,ix_nat hq2.1 ?_,?_⟩
   ·rw [setV_length,← g3.length]; exact hq2.2
   ·refine ⟨_,rfl,by rw [upd_ne n3.symm]; exact a1,?_,fun b u e n=>?_⟩
    ·rw [upd_same,List.take_succ,hi]
     show _ = some (HO.lst (setV vs (kvs.take i ++ [(Sum.inl q.1,kval)])))
     rw [setV_snoc]
    ·rw [upd_ne (fun z=>n (by rw [z]; exact .head _))]
     exact a3 b u e n
  ·rintro σ H3 ⟨v,rfl,a1,a2,a3⟩
   refine ⟨wd,o,kvs,L,a1,?_⟩
   intro wd' hw'
   rw [List.take_length] at a2
   have b0:upd H3 wd (.dK kvs) p = some (.ins C dy (dflds d.spent.fuel d.spent.dead d.spent.done sl wd)):=by
    rw [upd_ne n2]
    exact a3 _ _ g1 (by simp [n1,n2])
   refine ⟨_,rfl,p,C,dy,_,rfl,by rw [upd_ne (ne_of_none b0 hw')]; exact b0,T.cl,T.nWa,by show 5 < 1000; decide,?_⟩
   rw [p_wait]
   -- what is left: the disk anew
   have st:Step [p,sl] H2 (upd (upd (upd H3 wd (.dK kvs)) wd' (.dK [])) p (.ins C dy (dflds d.spent.fuel d.spent.dead d.spent.done sl wd'))):=fun b u e n=>by
    have c1:upd H3 wd (.dK kvs) b = some u:=by
     by_cases z:b = wd
     ·subst z
      rw [g4] at e
      cases e
      exact upd_same
     ·rw [upd_ne z]
      exact a3 b u e (by
       intro m
       rcases List.mem_cons.mp m with m | m
       ·exact n (by rw [m]; exact .tail _ (.head _))
       ·exact z (List.mem_singleton.mp m))
    rw [upd_ne (fun z=>n (by rw [z]; exact .head _)),upd_ne (ne_of_none c1 hw')]
    exact c1
   have c2:upd H3 wd (.dK kvs) sl = some (.lst (setV vs kvs)):=by rw [upd_ne n3]; exact a2
   have tt:Tups H2 (upd (upd (upd H3 wd (.dK kvs)) wd' (.dK [])) p (.ins C dy (dflds d.spent.fuel d.spent.dead d.spent.done sl wd'))):=fun b xs e =>
    st b _ e (by
     intro m
     rcases List.mem_cons.mp m with m | m
     ·rw [m,g1] at e; cases e
     ·rw [List.mem_singleton.mp m,g2] at e; cases e)
   have hw0:H wd' = none:=by
    cases e:H wd' with
    | none=>rfl
    | some u =>
     exfalso
     by_cases z:wd' = p
     ·rw [z,b0] at hw'; cases hw'
     ·have e2:=s2 wd' u e (by simpa using z)
      by_cases z2:wd' = sl
      ·rw [z2,c2] at hw'; cases hw'
      ·by_cases z3:wd' = wd
       ·rw [z3,upd_same] at hw'; cases hw'
       ·rw [upd_ne z3,a3 wd' u e2 (by simp [z2,z3])] at hw'
        cases hw'
   have np:wd' ≠ p:=fun z=>by rw [z,b0] at hw'; cases hw'
   have ns:sl ≠ wd':=ne_of_none c2 hw'
   refine q1 hg wd' _ hw0 (fun b u e n=>st b u (s2 b u e (fun m=>n (by rw [List.mem_singleton.mp m]; exact .head _))) n) ⟨⟨dy,upd_same⟩,⟨_,by rw [upd_ne n1.symm,upd_ne ns]; exact c2,?_⟩,⟨[],by rw [upd_ne np,upd_same],.nil⟩,?_,Nat.zero_le _,fun q hq=>(nomatch hq),List.nodup_nil⟩
   ·exact L2.Paired.imp' (fun _ _ z=>PgAt.mono tt z) (setV_pair g3 g5)
   ·show (setW d.sure d.wait).length ≤ 4000
    rw [setW_length]
    exact D.n
end
def newD (n:Nat):DS:=⟨none,false,0,List.replicate n (some []),[]⟩
def spInit (C:Addr):Sp:=fun vs H Q _=>∃ (p dx:Addr) (n:Nat),vs = [.ref p,.int n]∧H p = some (.ins C dx [])∧n ≤ 4000∧∀ sl wd H',H sl = none→H wd = none→Step [p] H H'→DiskAt C H' p sl wd (newD n)→Q .non H'
theorem pairedRep {H:Hp}:∀ {ys:List V},(∀ y ∈ ys,∃ t,y = .ref t∧H t = some (.tup []))→Paired (PgAt H) (List.replicate ys.length (some [])) ys
 | [],_=>.nil
 | y :: ys,h=>.cons (h y (.head _)) (pairedRep fun z hz=>h z (.tail _ hz))
section
variable {P:Program} {w:World} {K:PySem.W.Frag} {mg:Str→Option Value} {base:Heap}
theorem scI:FnScope ["self","pages"] ["self","pages"] (defScope KL.s_Disk_init):=⟨rfl,rfl,rfl,by decide +kernel,rfl,by decide +kernel,by decide +kernel⟩
theorem ok_init {f C CN CD:Addr} {fd:FuncData} (F:Fun K "__init__" "Disk.__init__" KL.s_Disk_init f fd) (T:Txt K mg C CN CD):FnOk P w K mg base CX0 1 f fd ["self","pages"] (spInit C):=by
 refine F.ok scI (fun vs H Q E h=>?_) (fun cdv A outer s H vs Q E hr h=>?_)
 ·obtain ⟨p,dx,n,rfl,_⟩:=h
  rfl
 ·obtain ⟨p,dx,n,rfl,hp,hn,q⟩:=h
  refine ⟨_,pss_cons (ps_fld (pv 0) pe_non rfl) (pss_cons (ps_fld (pv 0) pe_bl rfl) (pss_cons (ps_fld (pv 0) pe_int rfl)
   (pss_cons (ps_fld (pv 0) (pe_comp (x := "k") (fv:=[]) (js:=[]) (cl:=[]) rfl
    ⟨by with_unfolding_all rfl,rfl,by decide +kernel,by decide +kernel,rfl,by decide +kernel,trivial,by exact ⟨fun z=>(by rcases z with z | z <;> cases z),fun z=>(by rcases z with z | z <;> cases z),trivial⟩,trivial,fun _=>rfl⟩
    (pi_range1 (by rfl) T.range (pa_cons (pv 1) pa_nil)) (fun pins fp s H=>pe_tup pa_nil)) rfl) (pss_one (ps_fld (pv 0) pe_dnewK rfl))))),?_⟩
  refine ⟨_,rfl,p,C,dx,_,rfl,hp,T.cl,T.nFu,by show 0 < 1000; decide,?_⟩
  refine ⟨_,rfl,p,C,dx,_,rfl,upd_same,T.cl,T.nDe,by show 1 < 1000; decide,?_⟩
  refine ⟨_,rfl,p,C,dx,_,rfl,upd_same,T.cl,T.nDo,by
   have:=length_putF "dead" (V.bl false) (putF "fuel" V.non [])
   exact Nat.lt_of_le_of_lt this (by show 2 < 1000; decide),?_⟩
  rw [upd_upd,upd_upd]
  generalize hi:putF "done" (V.int 0) (putF "dead" (V.bl false) (putF "fuel" V.non [])) = ins
  have hil:ins.length ≤ 3:=by
   rw [← hi]
   have a:=length_putF "done" (V.int 0) (putF "dead" (V.bl false) (putF "fuel" V.non []))
   have b:=length_putF "dead" (V.bl false) (putF "fuel" V.non [])
   have c:(putF ("fuel":Str) V.non []).length = 1:=rfl
   omega
  refine ⟨_,rfl,n,rfl,Int.le_trans (by decide) (Int.natCast_nonneg n),Int.lt_of_le_of_lt (Int.ofNat_le.mpr hn) (by decide),fun D hD=>?_⟩
  have nD:p ≠ D:=fun z=>by rw [← z,upd_same] at hD; cases hD
  have hD0:H D = none:=by rw [upd_ne nD.symm] at hD; exact hD
  refine comp_range (fun i ys Hc=>ys.length = i∧(∀ y ∈ ys,∃ t,y = .ref t∧Hc t = some (.tup []))∧Hc D = some (.lst ys)∧Same (upd H p (.ins C dx ins)) Hc) ?_ ⟨rfl,fun y hy=>(nomatch hy),upd_same,same_upd hD⟩ (fun i ys Hc _ ⟨a,_,b,_⟩=>⟨b,a⟩) ?_ ?_
  ·rw [Int.toNat_natCast]; exact Nat.le_trans hn (by decide)
  ·rintro i ys Hc k hi ⟨a1,a2,a3,a4⟩ kk
   refine ⟨Nat.zero_le _,fun t ht=>kk _ _ ?_ ⟨?_,?_,upd_same,?_⟩⟩
   ·rw [upd_ne (ne_of_none a3 ht)]; exact a3
   ·simp [a1]
   ·have nt:t ≠ D:=(ne_of_none a3 ht).symm
    intro y hy
    rcases List.mem_append.mp hy with hy | hy
    ·obtain ⟨t',e,z⟩:=a2 y hy
     refine ⟨t',e,?_⟩
     rw [upd_ne (fun x=>by rw [x,a3] at z; cases z),upd_ne (ne_of_none z ht)]
     exact z
    ·rw [List.mem_singleton.mp hy]
     exact ⟨t,rfl,by rw [upd_ne nt,upd_same]⟩
   ·intro b o e
    have e1:=a4 b o e
    have nb:b ≠ D:=ne_of_none e hD
    rw [upd_ne nb,upd_ne (ne_of_none e1 ht)]
    exact e1
  ·rintro ys Hc ⟨a1,a2,a3,a4⟩
   have hpc:Hc p = some (.ins C dx ins):=a4 _ _ upd_same
   refine ⟨_,rfl,p,C,dx,_,rfl,hpc,T.cl,T.nSu,by omega,?_⟩
   intro wd hw
   have nwp:wd ≠ p:=fun z=>by rw [z,upd_same] at hw; cases hw
   refine ⟨_,rfl,p,C,dx,_,rfl,by rw [upd_ne nwp.symm,upd_same],T.cl,T.nWa,by
    have:=length_putF "sure" (V.ref D) ins
    omega,?_⟩
   have e:putF "waiting" (V.ref wd) (putF "sure" (V.ref D) ins) = dflds none false 0 D wd:=by
    rw [← hi]
    exact p_init none false 0 D wd
   rw [e]
   have hwc:Hc wd = none:=by rw [upd_ne nwp] at hw; exact hw
   have hw0:H wd = none:=by
    cases e:H wd with
    | none=>rfl
    | some o =>
     have:=a4 wd o (by rw [upd_ne nwp]; exact e)
     rw [hwc] at this
     cases this
   have up:∀ b o,b ≠ p→Hc b = some o→upd (upd (upd Hc p (.ins C dx (putF "sure" (V.ref D) ins))) wd (.dK [])) p (.ins C dx (dflds none false 0 D wd)) b = some o:=fun b o n e=>by
    rw [upd_ne n,upd_ne (ne_of_none e hwc),upd_ne n]
    exact e
   refine q D wd _ hD0 hw0 (fun b o e n=>?_) ⟨⟨dx,upd_same⟩,⟨ys,up _ _ nD.symm a3,?_⟩,⟨[],by rw [upd_ne nwp,upd_same],.nil⟩,by show (List.replicate n _).length ≤ 4000; rw [List.length_replicate]; exact hn,Nat.zero_le _,fun q hq=>(nomatch hq),List.nodup_nil⟩
   ·have nb:b ≠ p:=fun z=>n (by rw [z]; exact .head _)
    exact up b o nb (a4 b o (by rw [upd_ne nb]; exact e))
   ·have z:=pairedRep (H:=upd (upd (upd Hc p (.ins C dx (putF "sure" (V.ref D) ins))) wd (.dK [])) p (.ins C dx (dflds none false 0 D wd))) (ys:=ys) fun y hy=>by
     obtain ⟨t,e,z⟩:=a2 y hy
     exact ⟨t,e,up t _ (fun x=>by rw [x,hpc] at z; cases z) z⟩
    rw [a1,Int.toNat_natCast] at z
    exact z
end
end KD
namespace KL
open PySem L2
def divs:Nat→Int→Int
 | 0,n=>n
 | i + 1,n=>divs i n / 256
def digs (w:Nat) (n:Int):List Int:=(List.range w).map fun i=>divs i n % 256
def undig:List Int→Int
 | []=>0
 | x :: xs=>undig xs * 256 + x
theorem digs_succ (w:Nat) (n:Int):digs (w + 1) n = digs w n ++ [divs w n % 256]:=by
 unfold digs
 rw [List.range_succ,List.map_append]
 rfl
theorem digs_length (w:Nat) (n:Int):(digs w n).length = w:=by unfold digs; rw [List.length_map,List.length_range]
theorem divs_cons:∀ (i:Nat) (n:Int),divs (i + 1) n = divs i (n / 256)
 | 0,_=>rfl
 | i + 1,n=>by show divs (i + 1) n / 256 = divs i (n / 256) / 256; rw [divs_cons i n]
theorem digs_cons (w:Nat) (n:Int):digs (w + 1) n = n % 256 :: digs w (n / 256):=by
 unfold digs
 rw [List.range_succ_eq_map,List.map_cons,List.map_map]
 congr 1
 exact List.map_congr_left fun i _=>by show divs (i + 1) n % 256 = _; rw [divs_cons]
theorem digs_page (w:Nat) (n:Int):∀ x ∈ digs w n,0 ≤ x∧x ≤ 255:=by
 intro x hx
 unfold digs at hx
 obtain ⟨i,_,rfl⟩:=List.mem_map.mp hx
 have h0:=Int.emod_nonneg (divs i n) (show (256:Int) ≠ 0 by decide)
 have h1:=Int.emod_lt_of_pos (divs i n) (show (0:Int) < 256 by decide)
 omega
theorem undig_digs:∀ (w:Nat) (n:Int),0 ≤ n→n < 256 ^ w→undig (digs w n) = n
 | 0,n,h0,h1=>by
  have:n = 0:=by simp at h1; omega
  subst this
  rfl
 | w + 1,n,h0,h1=>by
  rw [digs_cons]
  show undig (digs w (n / 256)) * 256 + n % 256 = n
  rw [undig_digs w (n / 256) (by omega) (by rw [Int.pow_succ] at h1; omega)]
  omega
def spWDig:Sp:=fun vs H Q _=>∃ (n:Int) (w:Nat),vs = [.int n,.int w]∧w ≤ 1000∧∀ l,H l = none→Q (.ref l) (upd H l (.lst ((digs w n).map V.int)))
def spRDig (K:PySem.W.Frag):Sp:=fun vs H Q _=>∃ (r:Addr) (xs:List Int),vs = [.ref r]∧SqL K H r (xs.map V.int)∧Q (.int (undig xs)) H
structure TxC (mg:Str→Option Value):Prop where
 range:mg "range" = none
 rev:mg "reversed" = none
 base:GI mg "BASE" 256
section
variable {P:Program} {w:World} {K:PySem.W.Frag} {mg:Str→Option Value} {base:Heap}
theorem sc_write_digits:FnScope ["number","width","digits","k"] ["number","width"] (defScope s_write_digits):=⟨rfl,rfl,rfl,by decide +kernel,rfl,by decide +kernel,by decide +kernel⟩
theorem ok_write_digits {f:Addr} {fd:FuncData} (F:Fun K "write_digits" "write_digits" s_write_digits f fd) (T:TxC mg):FnOk P w K mg base CX0 1 f fd ["number","width"] spWDig:=by
 obtain ⟨tb,mB⟩:=T.base
 refine F.ok sc_write_digits (fun vs H Q E h=>?_) (fun cdv A outer s H vs Q E hr h=>?_)
 ·obtain ⟨n,w,rfl,_⟩:=h
  rfl
 ·obtain ⟨n,w,rfl,hw,q⟩:=h
  refine ⟨_,pss_cons (ps_set (i:=2) sc_write_digits.nd rfl (Or.inl rfl) (pe_lst pa_nil))
   (pss_cons (ps_for PassesOwn.never rfl (pi_range1 (by rfl) T.range (pa_cons (pv 1) pa_nil)) (pg_name (i:=3) sc_write_digits.nd rfl (Or.inl rfl))
    (pss_cons (ps_expr (pe_bm PySem.F.plainAttrs_list PySem.F.slot_list_append PySem.F.type_list_append mt_append (pv 2) (pa_cons (pe_op op_mod (pv 0) (pe_glob (by rfl) mB (v:=.int 256) ⟨_,rfl⟩)) pa_nil)))
    (pss_one (ps_set (i:=0) sc_write_digits.nd rfl (Or.inl rfl) (pe_op op_fdiv (pv 0) (pe_glob (by rfl) mB (v:=.int 256) ⟨_,rfl⟩))))))
   (pss_one (ps_ret (pv 2)))),?_⟩
  refine ⟨Nat.zero_le _,fun l hl=>?_⟩
  refine ⟨_,rfl,(w:Int),rfl,Int.le_trans (by decide) (Int.natCast_nonneg w),Int.lt_of_le_of_lt (Int.ofNat_le.mpr hw) (by decide),?_⟩
  rw [Int.toNat_natCast]
  refine for_range (fun i σ H5=>∃ x,σ = [some (.int (divs i n)),some (.int w),some (.ref l),x]∧H5 = upd H l (.lst ((digs i n).map V.int))) ⟨none,rfl,rfl⟩ ?_ ?_
  ·rintro i σ H5 hi ⟨x,rfl,rfl⟩
   refine ⟨_,rfl,.inl ⟨rfl,_,SqL.of upd_same⟩,_,rfl,_,_,rfl,rfl,(by show (0:Int) < 256; decide),l,_,_,rfl,rfl,upd_same,?_,?_⟩
   ·rw [List.length_map,digs_length]
    exact Nat.lt_of_lt_of_le (show i < 1001 by omega) (by decide)
   ·refine ⟨_,rfl,_,_,rfl,rfl,⟨by decide,by decide⟩,_,rfl,?_⟩
    rw [upd_upd,digs_succ,List.map_append]
    rfl
  ·rintro σ H5 ⟨x,rfl,rfl⟩
   exact ⟨_,rfl,q l hl⟩
theorem sc_read_digits:FnScope ["digits","number","digit"] ["digits"] (defScope s_read_digits):=⟨rfl,rfl,rfl,by decide +kernel,rfl,by decide +kernel,by decide +kernel⟩
theorem ok_read_digits {f:Addr} {fd:FuncData} (F:Fun K "read_digits" "read_digits" s_read_digits f fd) (T:TxC mg):FnOk P w K mg base CX0 1 f fd ["digits"] (spRDig K):=by
 obtain ⟨tb,mB⟩:=T.base
 refine F.ok sc_read_digits (fun vs H Q E h=>?_) (fun cdv A outer s H vs Q E hr h=>?_)
 ·obtain ⟨r,xs,rfl,_⟩:=h
  rfl
 ·obtain ⟨r,xs,rfl,hS,q⟩:=h
  refine ⟨_,pss_cons (ps_set (i:=1) sc_read_digits.nd rfl (Or.inl rfl) pe_int)
   (pss_cons (ps_for PassesOwn.never rfl (pi_rev (by rfl) T.rev (pa_cons (pv 0) pa_nil)) (pg_name (i:=2) sc_read_digits.nd rfl (Or.inl rfl))
    (pss_one (ps_set (i:=1) sc_read_digits.nd rfl (Or.inl rfl) (pe_op op_add (pe_op op_mul (pv 1) (pe_glob (by rfl) mB (v:=.int 256) ⟨_,rfl⟩)) (pv 2)))))
   (pss_one (ps_ret (pv 1)))),?_⟩
  refine ⟨_,rfl,r,_,rfl,hS,?_⟩
  refine for_rev (fun i σ H5=>∃ x,σ = [some (.ref r),some (.int (undig (xs.drop (xs.length - i)))),x]∧H5 = H) ⟨none,by rw [Nat.sub_zero,List.drop_length]; rfl,rfl⟩ (fun i σ H5 _ ⟨_,_,z⟩=>by rw [z]; exact hS) ?_ ?_
  ·rintro i y σ H5 hi hy ⟨x,rfl,rfl⟩
   rw [List.length_map] at hi hy
   rw [List.getElem?_map] at hy
   have hlt:xs.length - 1 - i < xs.length:=by omega
   rw [List.getElem?_eq_getElem hlt] at hy
   cases hy
   refine ⟨_,rfl,_,_,rfl,rfl,.inr ⟨by decide,by decide⟩,_,rfl,_,_,rfl,rfl,some (.int xs[xs.length - 1 - i]),?_,rfl⟩
   have e1:xs.drop (xs.length - (i + 1)) = xs[xs.length - 1 - i] :: xs.drop (xs.length - i):=by
    have e2:xs.length - (i + 1) = xs.length - 1 - i:=by omega
    rw [e2,List.drop_eq_getElem_cons hlt]
    congr 2
    omega
   rw [e1]
   rfl
  ·rintro σ H5 ⟨x,rfl,rfl⟩
   rw [List.length_map,Nat.sub_self] at *
   exact ⟨_,rfl,q⟩
end
def NoAll (K:PySem.W.Frag) (C:Addr):List Str→Prop
 | []=>True
 | f :: r=>NoAttr K C f∧NoAll K C r
structure KlsS (P:Program) (w:World) (K:PySem.W.Frag) (mg:Str→Option Value) (base:Heap) (x:Str) (C:Addr) (fs:List Str) (k:Nat) (ps:List Str) (sp:Sp):Prop where
 cl:Cls K C
 no:NoAll K C fs
 gl:mg x = some (.ref C)
 ex:∃ (fI:Addr) (fdI:FuncData),Mk K C fI∧FnOk P w K mg base CX0 k fI fdI ps sp∧Binds K fdI ps []
def dI (xs:List Int):PyData:=.list (xs.map PyData.int)
theorem denInts {K:PySem.W.Frag} {H:Hp}:∀ xs:List Int,DenL K H (xs.map V.int) (xs.map PyData.int)
 | []=>.nil
 | x :: xs=>.cons (.int x) (denInts xs)
theorem denI {K:PySem.W.Frag} {H:Hp} {a:Addr} {xs:List Int} (h:SqL K H a (xs.map V.int)):Den K H (.ref a) (dI xs):=.lst h (denInts xs)
theorem shI (xs:List Int):SeqAt.shaped (dI xs) = true:=PySem.W.ke_shaped_ints xs
theorem nmI (xs ys:List Int):SeqAt.noMix (dI xs) (dI ys) = true:=SeqAt.noMix_of_shape (.list .int) rfl _ _ (PyProof.Rows.list_map_has fun _=>rfl) (PyProof.Rows.list_map_has fun _=>rfl)
theorem sameAllI:∀ xs ys:List Int,PySem.Spec.sameAll (xs.map PyData.int) (ys.map PyData.int) = decide (xs = ys)
 | [],[]=>rfl
 | [],y :: ys=>rfl
 | x :: xs,[]=>rfl
 | x :: xs,y :: ys=>by
  have ih:=sameAllI xs ys
  show (PySem.Spec.same (.int x) (.int y) && PySem.Spec.sameAll (xs.map PyData.int) (ys.map PyData.int)) = _
  rw [ih]
  show ((x == y) && decide (xs = ys)) = _
  by_cases h1:x = y
  ·by_cases h2:xs = ys
   ·simp [h1,h2]
   ·simp [h1,h2]
  ·simp [h1]
theorem sameI (xs ys:List Int):PySem.Spec.same (dI xs) (dI ys) = decide (xs = ys):=by
 show PySem.Spec.sameAll _ _ = _
 exact sameAllI xs ys
theorem cut_to (xs:List Int) (k:Nat):cutV (xs.map V.int) none (some (k:Int)) = (xs.take k).map V.int:=by
 unfold cutV
 rw [HT.sIx_none,HT.sIx_nat,List.drop_zero,Nat.sub_zero,List.length_map,← List.map_take,List.take_eq_take_iff.mpr]
 omega
theorem cut_from (xs:List Int) (k:Nat):cutV (xs.map V.int) (some (k:Int)) none = (xs.drop k).map V.int:=by
 unfold cutV
 rw [HT.sIx_none,HT.sIx_nat,List.length_map,← List.map_drop,← List.map_take]
 congr 1
 by_cases h:k ≤ xs.length
 ·rw [Nat.min_eq_left h,List.take_of_length_le (by rw [List.length_drop]; omega)]
 ·rw [Nat.min_eq_right (by omega),List.drop_length,List.drop_eq_nil_of_le (by omega),List.take_nil]
theorem cut_part (xs:List Int) (i k:Nat) (h:k ≤ xs.length) (hik:i ≤ k):cutV (xs.map V.int) (some (i:Int)) (some (k:Int)) = ((xs.drop i).take (k - i)).map V.int:=by
 unfold cutV
 rw [HT.sIx_nat,HT.sIx_nat,List.length_map,Nat.min_eq_left h,Nat.min_eq_left (by omega),← List.map_drop,← List.map_take]
section
variable {P:Program} {w:World} {K:PySem.W.Frag} {mg:Str→Option Value} {base:Heap}
def flTape (v0:V):List (Str × V):=[("numbers",v0),("passed",.int 0)]
def spTapeI (C:Addr):Sp:=fun vs H Q _=>∃ (y dx:Addr) (v0:V),vs = [.ref y,v0]∧H y = some (.ins C dx [])∧Q .non (upd H y (.ins C dx (flTape v0)))
theorem sc_Tape_init:FnScope ["self","numbers"] ["self","numbers"] (defScope s_Tape_init):=⟨rfl,rfl,rfl,by decide +kernel,rfl,by decide +kernel,by decide +kernel⟩
theorem ok_Tape_init {f C:Addr} {fd:FuncData} (F:Fun K "__init__" "Tape.__init__" s_Tape_init f fd) (cl:Cls K C) (no:NoAll K C ["numbers","passed"]):FnOk P w K mg base CX0 1 f fd ["self","numbers"] (spTapeI C):=by
 refine F.ok sc_Tape_init (fun vs H Q E h=>?_) (fun cdv A outer s H vs Q E hr h=>?_)
 ·obtain ⟨y,dx,v0,rfl,_⟩:=h
  rfl
 ·obtain ⟨y,dx,v0,rfl,hy,q⟩:=h
  refine ⟨_,(pss_cons (ps_fld (pv 0) (pv 1) rfl) (pss_one (ps_fld (pv 0) pe_int rfl))),?_⟩
  refine ⟨_,rfl,_,rfl,y,C,dx,_,rfl,hy,cl,no.1,by show 0 < 1000; decide,?_⟩
  refine ⟨_,rfl,y,C,dx,_,rfl,upd_same,cl,no.2.1,by show 1 < 1000; decide,?_⟩
  rw [upd_upd]
  exact q
def flHead (v0 v1 v2:V):List (Str × V):=[("place",v0),("turn",v1),("first",v2)]
def spHeadI (C:Addr):Sp:=fun vs H Q _=>∃ (y dx:Addr) (v0 v1 v2:V),vs = [.ref y,v0,v1,v2]∧H y = some (.ins C dx [])∧Q .non (upd H y (.ins C dx (flHead v0 v1 v2)))
theorem sc_Head_init:FnScope ["self","place","turn","first"] ["self","place","turn","first"] (defScope s_Head_init):=⟨rfl,rfl,rfl,by decide +kernel,rfl,by decide +kernel,by decide +kernel⟩
theorem ok_Head_init {f C:Addr} {fd:FuncData} (F:Fun K "__init__" "Head.__init__" s_Head_init f fd) (cl:Cls K C) (no:NoAll K C ["place","turn","first"]):FnOk P w K mg base CX0 1 f fd ["self","place","turn","first"] (spHeadI C):=by
 refine F.ok sc_Head_init (fun vs H Q E h=>?_) (fun cdv A outer s H vs Q E hr h=>?_)
 ·obtain ⟨y,dx,v0,v1,v2,rfl,_⟩:=h
  rfl
 ·obtain ⟨y,dx,v0,v1,v2,rfl,hy,q⟩:=h
  refine ⟨_,(pss_cons (ps_fld (pv 0) (pv 1) rfl) (pss_cons (ps_fld (pv 0) (pv 2) rfl) (pss_one (ps_fld (pv 0) (pv 3) rfl)))),?_⟩
  refine ⟨_,rfl,_,rfl,y,C,dx,_,rfl,hy,cl,no.1,by show 0 < 1000; decide,?_⟩
  refine ⟨_,rfl,_,rfl,y,C,dx,_,rfl,upd_same,cl,no.2.1,by show 1 < 1000; decide,?_⟩
  rw [upd_upd]
  refine ⟨_,rfl,_,rfl,y,C,dx,_,rfl,upd_same,cl,no.2.2.1,by show 2 < 1000; decide,?_⟩
  rw [upd_upd]
  exact q
def flVerdict (v0 v1 v2 v3:V):List (Str × V):=[("code",v0),("place",v1),("answer",v2),("state",v3)]
def spVerdictI (C:Addr):Sp:=fun vs H Q _=>∃ (y dx:Addr) (v0 v1 v2 v3:V),vs = [.ref y,v0,v1,v2,v3]∧H y = some (.ins C dx [])∧Q .non (upd H y (.ins C dx (flVerdict v0 v1 v2 v3)))
theorem sc_Verdict_init:FnScope ["self","code","place","answer","state"] ["self","code","place","answer","state"] (defScope s_Verdict_init):=⟨rfl,rfl,rfl,by decide +kernel,rfl,by decide +kernel,by decide +kernel⟩
theorem ok_Verdict_init {f C:Addr} {fd:FuncData} (F:Fun K "__init__" "Verdict.__init__" s_Verdict_init f fd) (cl:Cls K C) (no:NoAll K C ["code","place","answer","state"]):FnOk P w K mg base CX0 1 f fd ["self","code","place","answer","state"] (spVerdictI C):=by
 refine F.ok sc_Verdict_init (fun vs H Q E h=>?_) (fun cdv A outer s H vs Q E hr h=>?_)
 ·obtain ⟨y,dx,v0,v1,v2,v3,rfl,_⟩:=h
  rfl
 ·obtain ⟨y,dx,v0,v1,v2,v3,rfl,hy,q⟩:=h
  refine ⟨_,(pss_cons (ps_fld (pv 0) (pv 1) rfl) (pss_cons (ps_fld (pv 0) (pv 2) rfl) (pss_cons (ps_fld (pv 0) (pv 3) rfl) (pss_one (ps_fld (pv 0) (pv 4) rfl))))),?_⟩
  refine ⟨_,rfl,_,rfl,y,C,dx,_,rfl,hy,cl,no.1,by show 0 < 1000; decide,?_⟩
  refine ⟨_,rfl,_,rfl,y,C,dx,_,rfl,upd_same,cl,no.2.1,by show 1 < 1000; decide,?_⟩
  rw [upd_upd]
  refine ⟨_,rfl,_,rfl,y,C,dx,_,rfl,upd_same,cl,no.2.2.1,by show 2 < 1000; decide,?_⟩
  rw [upd_upd]
  refine ⟨_,rfl,_,rfl,y,C,dx,_,rfl,upd_same,cl,no.2.2.2.1,by show 3 < 1000; decide,?_⟩
  rw [upd_upd]
  exact q
end
def headB:List Int:=[76,101,100,103,101,114]
def headOf:Option (List Int)→Option (Int × Int)
 | none=>none
 | some xs=>if xs.take 6 = headB∧xs.length = 17 then some (undig ((xs.drop 6).take 8),undig (xs.drop 14)) else none
def HeadAt (C:Addr) (H:Hp) (p:Addr) (k t f:Int):Prop:=∃ dx,H p = some (.ins C dx (flHead (.int k) (.int t) (.int f)))
theorem HeadAt.same {C:Addr} {H H':Hp} {p:Addr} {k t f:Int} (h:HeadAt C H p k t f) (s:Same H H'):HeadAt C H' p k t f:=let ⟨dx,e⟩:=h; ⟨dx,s _ _ e⟩
structure TxSt (K:PySem.W.Frag) (mg:Str→Option Value):Prop where
 len:mg "len" = none
 list:mg "list" = none
 max:mg "max" = none
 heads:GT K mg "HEADS" [.int 0,.int 1]
 begin:GT K mg "HEAD_BEGIN" (headB.map V.int)
 tw:GI mg "TURN_WIDTH" 8
 pw:GI mg "PAGE_WIDTH" 3
 np:GI mg "NO_PAGE" 0
 few:GI mg "FEWEST_PAGES" 8
structure DkM (P:Program) (w:World) (K:PySem.W.Frag) (mg:Str→Option Value) (base:Heap) (CD CN CE:Addr):Prop where
 cl:Cls K CD
 nDe:NoAttr K CD "dead"
 size:MtS P w K mg base CX0 CD 1 "size" ["self"] (KD.spSize CD)
 read:MtS P w K mg base CX0 CD 3 "read" ["self","k"] (fun vs H Q _=>KD.spRead CD CN vs H Q fun _ _ _=>False)
 write:MtS P w K mg base CX0 CD 3 "write" ["self","k","row"] (fun vs H Q _=>KD.spWrite K CD CN CE vs H Q fun _ _ _=>False)
 sync:MtS P w K mg base CX0 CD 2 "sync" ["self"] (fun vs H Q _=>KD.spSync CD CE vs H Q fun _ _ _=>False)
theorem noD {fu:Option Int} {de:Bool} {dn:Int} {sl wd:Addr} {m:Str} (h0:¬ m = "fuel") (h1:¬ m = "dead") (h2:¬ m = "done") (h3:¬ m = "sure") (h4:¬ m = "waiting"):(KD.dflds fu de dn sl wd).lookup m = none:=KD.l_no fu de dn sl wd h0 h1 h2 h3 h4
theorem log_page {k:Int} (h0:0 ≤ k) (h1:k < 5000):k.natAbs.log2 < 1000:=by
 by_cases h:k.natAbs = 0
 ·rw [h]; decide
 ·rw [Nat.log2_lt h]
  exact Nat.lt_of_lt_of_le (show k.natAbs < 2 ^ 13 by omega) (Nat.pow_le_pow_right (by decide) (by decide))
def spRdHd (CD CH:Addr):Sp:=fun vs H Q _=>∃ (p sl wd:Addr) (d:KD.DS) (k:Int),vs = [.ref p,.int k]∧KD.DiskAt CD H p sl wd d∧0 ≤ k∧k < d.sure.length ∧
 match headOf (d.cur k) with
 | none=>∀ H',Same H H'→Q .non H'
 | some tf=>∀ a H',H a = none→Same H H'→HeadAt CH H' a k tf.1 tf.2→Q (.ref a) H'
theorem hu64_of {k:Nat} {A:Around} (r:Room k A):A.units + 64 < cLine:=by have:=r.un; omega
theorem headOf_some (xs:List Int):headOf (some xs) = if xs.take 6 = headB∧xs.length = 17 then some (undig ((xs.drop 6).take 8),undig (xs.drop 14)) else none:=rfl
section
variable {P:Program} {w:World} {K:PySem.W.Frag} {mg:Str→Option Value} {base:Heap}
theorem sc_read_head:FnScope ["disk","place","row","begin","behind_turn"] ["disk","place"] (defScope s_read_head):=⟨rfl,rfl,rfl,by decide +kernel,rfl,by decide +kernel,by decide +kernel⟩
theorem ok_read_head {f CD CN CE CH:Addr} {fd:FuncData} (F:Fun K "read_head" "read_head" s_read_head f fd) (T:TxSt K mg) (M:DkM P w K mg base CD CN CE)
  (GD:FnS P w K mg base 1 "read_digits" ["digits"] (spRDig K)) (HK:KlsS P w K mg base "Head" CH ["place","turn","first"] 1 ["self","place","turn","first"] (spHeadI CH)):FnOk P w K mg base CX0 4 f fd ["disk","place"] (spRdHd CD CH):=by
 obtain ⟨fR,fdR,mR,GR,bR⟩:=M.read.ex
 obtain ⟨fG,fdG,mG,kG,GG,bG⟩:=GD.ex
 obtain ⟨fI,fdI,MI,GI,bI⟩:=HK.ex
 obtain ⟨aB,mB,hB⟩:=T.begin
 obtain ⟨t8,m8⟩:=T.tw
 obtain ⟨t3,m3⟩:=T.pw
 refine F.ok sc_read_head (fun vs H Q E h=>?_) (fun cdv A outer s H vs Q E hr h=>?_)
 ·obtain ⟨p,sl,wd,d,k,rfl,_⟩:=h
  rfl
 ·obtain ⟨p,sl,wd,d,k,rfl,D,h0,h1,q⟩:=h
  have hu:=hu64_of hr
  have r1:Room 1 _:=hr.mono (by omega)
  have r2:Room 2 _:=hr.mono (by omega)
  refine ⟨_,pss_cons (ps_set (i:=2) sc_read_head.nd rfl (Or.inl rfl) (pe_meth (pv 0) M.cl mR GR hr bR .nil pass0 (pa_cons (pv 1) pa_nil)))
   (pss_cons (ps_set (i:=3) sc_read_head.nd rfl (Or.inl rfl) (pe_callTy call_list_of (by rfl) T.list PyProof.Rows.boot_list (pa_cons (pe_glob (by rfl) mB (v:=.ref aB) rfl) pa_nil)))
   (pss_cons (ps_set (i:=4) sc_read_head.nd rfl (Or.inl rfl) (pe_op op_add (pe_callB call_len_seq (by rfl) T.len PySem.boot_len (pa_cons (pv 3) pa_nil)) (pe_glob (by rfl) m8 (v:=.int 8) ⟨_,rfl⟩)))
   (pss_cons (ps_if (pw_or (pt_cmp (pc_isN (pv 2))) (pw_or (pt_cmpR (op_ne_data hu) (pe_slice sl_list (pv 2) po_none (po_some (pe_callB call_len_seq (by rfl) T.len PySem.boot_len (pa_cons (pv 3) pa_nil)))) (pv 3) (nomark _))
     (pw_or1 (pt_cmpR op_ne (pe_callB call_len_seq (by rfl) T.len PySem.boot_len (pa_cons (pv 2) pa_nil)) (pe_op op_add (pv 4) (pe_glob (by rfl) m3 (v:=.int 3) ⟨_,rfl⟩)) (nomark _))))).pt (pss_one (ps_ret pe_non)) pss_nil)
   (pss_one (ps_ret (pe_make MI GI r2 (by rfl) HK.gl bI .nil pass0 (pa_cons (pv 1) (pa_cons (pe_call GG r1 (by rfl) mG kG bG .nil pass0 (pa_cons (pe_slice sl_list (pv 2) (po_some (pe_callB call_len_seq (by rfl) T.len PySem.boot_len (pa_cons (pv 3) pa_nil))) (po_some (pv 4))) pa_nil))
    (pa_cons (pe_call GG r1 (by rfl) mG kG bG .nil pass0 (pa_cons (pe_slice sl_list (pv 2) (po_some (pv 4)) po_none) pa_nil)) pa_nil))))))))),?_⟩
  obtain ⟨dx,g1⟩:=D.ob
  have n4:=D.n
  refine ⟨_,rfl,p,dx,_,rfl,g1,noD (by decide +kernel) (by decide +kernel) (by decide +kernel) (by decide +kernel) (by decide +kernel),_,rfl,p,sl,wd,d,k,rfl,D,log_page h0 (by omega),fun _=>?_,fun z=>absurd ⟨h0,h1⟩ z⟩
  cases hc:d.cur k with
  | none =>
   rw [hc] at q
   refine ⟨aB,_,rfl,.inr (hB _),fun l hl=>?_⟩
   refine ⟨_,rfl,l,_,rfl,.inl (SqL.of upd_same),_,_,rfl,rfl,?_⟩
   exact ⟨_,rfl,_,rfl,iteT (iteT (q _ (same_upd hl)))⟩
  | some xs =>
   rw [hc] at q
   intro r hr0
   refine ⟨aB,_,rfl,.inr (hB _),fun l hl=>?_⟩
   have s1:Same H (upd H r (.lst (xs.map V.int))):=same_upd hr0
   have s2:=s1.trans (same_upd (o:=.lst (headB.map V.int)) hl)
   have nrl:r ≠ l:=fun z=>by rw [← z,upd_same] at hl; cases hl
   have g2:(upd (upd H r (.lst (xs.map V.int))) l (.lst (headB.map V.int))) r = some (.lst (xs.map V.int)):=by rw [upd_ne nrl,upd_same]
   generalize hH2:upd (upd H r (.lst (xs.map V.int))) l (.lst (headB.map V.int)) = H2 at s2 g2 ⊢
   have g3:H2 l = some (.lst (headB.map V.int)):=by rw [← hH2,upd_same]
   refine ⟨_,rfl,l,_,rfl,.inl (SqL.of g3),_,_,rfl,rfl,?_⟩
   refine ⟨_,rfl,_,rfl,iteF ?_⟩
   refine ⟨_,rfl,_,rfl,l,_,rfl,.inl (SqL.of g3),_,rfl,r,_,rfl,SqL.of g2,fun c hc0=>?_⟩
   have e6:cutV (xs.map V.int) none (some ((((headB.map V.int).length:Nat)):Int)) = (xs.take 6).map V.int:=cut_to xs 6
   rw [e6]
   have s3:=same_upd (o:=.lst ((xs.take 6).map V.int)) hc0
   refine ⟨_,rfl,dI (xs.take 6),dI headB,denI (SqL.of upd_same),denI (SqL.of (s3 _ _ g3)),shI _,shI _,nmI _ _,_,rfl,?_⟩
   rw [sameI]
   rw [headOf_some] at q
   by_cases hb:xs.take 6 = headB
   ·rw [decide_eq_true hb]
    refine iteF ?_
    refine ⟨_,rfl,r,_,rfl,.inl (SqL.of (s3 _ _ g2)),_,rfl,_,_,rfl,rfl,rfl,_,rfl,?_⟩
    by_cases hl17:xs.length = 17
    ·rw [if_pos ⟨hb,hl17⟩] at q
     refine iteN (by rw [List.length_map,hl17]; rfl) ?_
     generalize hH3:upd H2 c (.lst ((xs.take 6).map V.int)) = H3 at s3 ⊢
     refine ⟨_,rfl,_,rfl,_,rfl,l,_,rfl,.inl (SqL.of (s3 _ _ g3)),_,rfl,_,rfl,_,rfl,r,_,rfl,SqL.of (s3 _ _ g2),fun c1 hc1=>?_⟩
     have e8:cutV (xs.map V.int) (some (((headB.map V.int).length:Nat):Int)) (some ((((headB.map V.int).length:Nat):Int) + 8)) = ((xs.drop 6).take 8).map V.int:=cut_part xs 6 14 (by omega) (by decide)
     rw [e8]
     have s4:=same_upd (o:=.lst (((xs.drop 6).take 8).map V.int)) hc1
     refine ⟨c1,_,rfl,SqL.of upd_same,?_⟩
     refine ⟨_,rfl,_,rfl,_,rfl,r,_,rfl,SqL.of (s4 _ _ (s3 _ _ g2)),fun c2 hc2=>?_⟩
     have e14:cutV (xs.map V.int) (some ((((headB.map V.int).length:Nat):Int) + 8)) none = (xs.drop 14).map V.int:=cut_from xs 14
     rw [e14]
     have s5:=same_upd (o:=.lst ((xs.drop 14).map V.int)) hc2
     refine ⟨c2,_,rfl,SqL.of upd_same,?_⟩
     intro x dx hx hdx hne
     refine ⟨x,dx,_,_,_,rfl,upd_same,rfl,?_⟩
     rw [upd_upd]
     have s25:=s2.trans (s3.trans (s4.trans s5))
     have hx0:H x = none:=by
      cases e:H x with
      | none=>rfl
      | some o=>rw [s25 _ _ e] at hx; cases hx
     exact q x _ hx0 (s25.trans ((same_upd hdx).trans (same_upd (by rw [upd_ne (Ne.symm hne)]; exact hx)))) ⟨dx,upd_same⟩
    ·rw [if_neg (fun z=>hl17 z.2)] at q
     refine iteY ?_ (q _ (s2.trans s3))
     show (!decide (V.int ((xs.map V.int).length:Nat) = V.int (((headB.map V.int).length:Nat) + 8 + 3))) = true
     rw [List.length_map,decide_eq_false (fun z=>hl17 (by injection z with z; have:(xs.length:Int) = 17:=z; omega))]
     rfl
   ·rw [decide_eq_false hb]
    rw [if_neg (fun z=>hb z.1)] at q
    exact iteT (iteT (q _ (s2.trans s3)))
end
def BestHd (CH:Addr) (H:Hp) (d:KD.DS) (v:V):Prop:=(headOf (d.cur 0) = none∧headOf (d.cur 1) = none∧v = .non) ∨
 ∃ (a:Addr) (k t f:Int),v = .ref a∧HeadAt CH H a k t f∧(k = 0∨k = 1)∧headOf (d.cur k) = some (t,f)∧∀ k',k' = 0∨k' = 1→∀ t' f',headOf (d.cur k') = some (t',f')→t' ≤ t
def lamQ:Str := "find_head" ++ ".<locals>." ++ "<lambda>"
def spFdHd (CD CH Pt:Addr):Sp:=fun vs H Q _=>∃ (p sl wd:Addr) (d:KD.DS),vs = [.ref p]∧KD.DiskAt CD H p sl wd d∧2 ≤ d.sure.length∧TabOk H Pt lamP lamQ ∧
 ∀ v H',SameT H H'→TabOk H' Pt lamP lamQ→BestHd CH H' d v→Q v H'
def HdAt (CH:Addr) (H:Hp) (d:KD.DS) (k:Int) (v:V):Prop:=match headOf (d.cur k) with
 | none=>v = .non
 | some tf=>∃ a,v = .ref a∧HeadAt CH H a k tf.1 tf.2
theorem HdAt.same {CH:Addr} {H H':Hp} {d:KD.DS} {k:Int} {v:V} (s:Same H H') (h:HdAt CH H d k v):HdAt CH H' d k v:=by
 unfold HdAt at h ⊢
 cases e:headOf (d.cur k) with
 | none=>rw [e] at h; exact h
 | some tf =>
  rw [e] at h
  obtain ⟨a,e1,h1⟩:=h
  exact ⟨a,e1,h1.same s⟩
theorem HdAt.put {CH D:Addr} {H:Hp} {d:KD.DS} {k:Int} {v:V} {ys zs:List V} (h:HdAt CH H d k v) (e:H D = some (.lst ys)):HdAt CH (upd H D (.lst zs)) d k v:=by
 unfold HdAt at h ⊢
 cases e1:headOf (d.cur k) with
 | none=>rw [e1] at h; exact h
 | some tf =>
  rw [e1] at h
  obtain ⟨a,e2,dx,h1⟩:=h
  exact ⟨a,e2,dx,by rw [upd_ne (ne_of h1 e (by intro z; cases z))]; exact h1⟩
def turnAt (H:Hp) (p:Addr):Int:=match H p with
 | some (.ins _ _ fs)=>(match fs.lookup ("turn":Str) with | some (.int t)=>t | _=>0)
 | _=>0
theorem turn_of {CH:Addr} {H:Hp} {p:Addr} {k t f:Int} (h:HeadAt CH H p k t f):turnAt H p = t:=by
 obtain ⟨dx,e⟩:=h
 unfold turnAt
 rw [e]
 rfl
theorem head_turn {K:PySem.W.Frag} {CH:Addr} {H:Hp} {p:Addr} {k t f:Int} (cH:Cls K CH) (nT:NoAttr K CH "turn") (h:HeadAt CH H p k t f):∃ C dx fs,H p = some (.ins C dx fs)∧Cls K C∧NoAttr K C "turn"∧fs.lookup ("turn":Str) = some (.int (turnAt H p)):=by
 have e1:=turn_of h
 obtain ⟨dx,e⟩:=h
 exact ⟨CH,dx,_,e,cH,nT,by rw [e1]; rfl⟩
section
variable {P:Program} {w:World} {K:PySem.W.Frag} {mg:Str→Option Value} {base:Heap}
theorem sc_find_head:FnScope ["disk","heads"] ["disk"] (defScope s_find_head):=⟨rfl,rfl,rfl,by decide +kernel,rfl,by decide +kernel,by decide +kernel⟩
theorem ok_find_head {f c Pt CD CH:Addr} {fd:FuncData} (F:Fun K "find_head" "find_head" s_find_head f fd) (hc:fd.code = .ref c) (hC:PySem.W.codeHdIn K c Pt = true) (hb:BmOk mg base) (T:TxSt K mg) (cH:Cls K CH) (nT:NoAttr K CH "turn")
  (GR:FnS P w K mg base 4 "read_head" ["disk","place"] (spRdHd CD CH)):FnOk P w K mg base CX0 5 f fd ["disk"] (spFdHd CD CH Pt):=by
 obtain ⟨fR,fdR,mR,kR,GR,bR⟩:=GR.ex
 obtain ⟨aH,mH,hH⟩:=T.heads
 refine F.okC hc sc_find_head (fun vs H Q E h=>?_) (fun A outer s H vs Q E hr h=>?_)
 ·obtain ⟨p,sl,wd,d,rfl,_⟩:=h
  rfl
 ·obtain ⟨p,sl,wd,d,rfl,D,h2,hT,q⟩:=h
  have no:∀ {k:NameKind},(k = .local∨k = .globalImplicit)→(k = .cell∨k = .free)→False:=fun h z=>by rcases h with rfl | rfl <;> rcases z with z | z <;> cases z
  refine ⟨_,pss_cons (ps_comp (x := "place") (fv:=["disk"]) (js:=[0]) (cl:=[("disk",s.heap.objs.size + 1)]) (i:=1) rfl
    ⟨by with_unfolding_all rfl,rfl,by decide +kernel,by decide +kernel,rfl,by decide +kernel,⟨rfl,trivial⟩,by exact ⟨fun z=>(no (.inl rfl) z).elim,fun z=>(no (.inl rfl) z).elim,fun z=>(no (.inr rfl) z).elim,fun _=>⟨_,rfl⟩,trivial⟩,by exact ⟨⟨rfl,.inl rfl,⟨_,rfl,rfl⟩,.inl rfl⟩,trivial⟩,fun _=>rfl⟩
    sc_find_head.nd rfl rfl (by rfl) (pi_tup (pe_glob (by rfl) mH (v:=.ref aH) rfl)) (fun pins fp s H=>pe_call GR hr (by rfl) mR kR bR .nil pass0 (pa_cons (pv 1) (pa_cons (pv 0) pa_nil))))
   (pss_one (ps_ret (pe_maxKey (c:=c) (P:=Pt) (q:=lamQ) (attr := "turn") rfl (Room.in1 (k:=3) hr).depth (by rfl) T.max
    (pa_cons (pe_compZ (xs:=["head"]) (fv:=[]) (js:=[]) (cl:=[]) rfl ⟨by with_unfolding_all rfl,rfl,by decide +kernel,by decide +kernel,trivial,by exact ⟨fun z=>(no (.inl rfl) z).elim,fun z=>(no (.inl rfl) z).elim,trivial⟩,trivial,fun _=>rfl⟩
     (pi_list (pv 1)) (fun pins fp s H=>pg_name (i:=0) (by show (["head"]:List Str).Nodup; decide +kernel) rfl (Or.inl rfl)) (fun pins fp s H=>tsts_one (pt_cmp (pc_notN (pv 0)))) (fun pins fp s H=>pv 0)) pa_nil)
    rfl (by with_unfolding_all rfl) rfl hC hb (by with_unfolding_all rfl) rfl rfl rfl (by decide +kernel) rfl (by decide +kernel) (fun _ _ _ _=>rfl)))),?_⟩
  refine ⟨aH,rfl,⟨_,hH _⟩,fun D1 hD1=>?_⟩
  refine comp_tup (xs:=[.int 0,.int 1]) (fun i ys Hc=>Hc D1 = some (.lst ys)∧Same H Hc∧Paired (fun (k:Int) v=>HdAt CH Hc d k v) (([0,1]:List Int).take i) ys) (by show 2 ≤ sizeLine; decide) ⟨upd_same,same_upd hD1,.nil⟩ ?_ ?_ ?_
  ·rintro i ys Hc hi ⟨a1,a2,a3⟩
   refine ⟨a1,?_,hH _⟩
   rw [← a3.length,List.length_take]
   exact Nat.min_eq_left hi
  ·rintro i x ys Hc kk hx ⟨a1,a2,a3⟩ done
   have fin:∀ (k:Int) (v:V) (H3:Hp),([0,1]:List Int)[i]? = some k→Same Hc H3→HdAt CH H3 d k v→kk v H3:=fun k v H3 hk s3 hv=>by
    refine done v H3 (s3 _ _ a1) ⟨upd_same,fun b o e=>?_,?_⟩
    ·rw [upd_ne (ne_of_none e hD1)]
     exact s3 _ _ (a2 _ _ e)
    ·rw [List.take_succ,hk]
     exact KD.pairedAppend (L2.Paired.imp' (fun _ _ z=>(HdAt.same s3 z).put (s3 _ _ a1)) a3) (.cons (hv.put (s3 _ _ a1)) .nil)
   obtain ⟨k,hk,ex,k0,k2⟩:∃ k:Int,([0,1]:List Int)[i]? = some k∧x = .int k∧0 ≤ k∧k < 2:=by
    match i,hx with
    | 0,hx=>cases hx; exact ⟨0,rfl,rfl,by decide,by decide⟩
    | 1,hx=>cases hx; exact ⟨1,rfl,rfl,by decide,by decide⟩
   subst ex
   refine ⟨_,rfl,_,rfl,p,sl,wd,d,k,rfl,D.same a2,k0,by omega,?_⟩
   cases e:headOf (d.cur k) with
   | none=>exact fun H3 s3=>fin k .non H3 hk s3 (by unfold HdAt; rw [e])
   | some tf=>exact fun a H3 ha s3 hA=>fin k (.ref a) H3 hk s3 (by unfold HdAt; rw [e]; exact ⟨a,rfl,hA⟩)
  ·rintro ys Hc ⟨a1,a2,a3⟩
   obtain ⟨v0,v1,rfl,b0,b1⟩:∃ v0 v1,ys = [v0,v1]∧HdAt CH Hc d 0 v0∧HdAt CH Hc d 1 v1:=by
    cases a3 with
    | cons h0 r =>
     cases r with
     | cons h1 r=>cases r; exact ⟨_,_,rfl,h0,h1⟩
   refine ⟨_,rfl,D1,rfl,⟨_,SqL.of a1⟩,fun D2 hD2=>?_⟩
   refine compZ_list (xs:=[v0,v1]) (fun i ys H5=>H5 = upd Hc D2 (.lst ys)∧ys = ([v0,v1].take i).filter fun v=>!decide (v = .non)) (by show 2 ≤ sizeLine; decide) ⟨rfl,rfl⟩ ?_ ?_ ?_
   ·rintro i ys H5 hi ⟨rfl,rfl⟩
    refine ⟨upd_same,Nat.le_trans (List.length_filter_le ..) (by rw [List.length_take]; exact Nat.min_le_left ..),SqL.of ?_⟩
    rw [upd_ne (ne_of_none a1 hD2)]
    exact a1
   ·rintro i x ys H5 k1 k2 hx ⟨rfl,rfl⟩ d1 d2
    refine ⟨kp_one,_,rfl,_,rfl,?_⟩
    have e1:([v0,v1].take (i + 1)) = [v0,v1].take i ++ [x]:=by rw [List.take_succ,hx]; rfl
    cases hb:(!decide (x = V.non)) with
    | true =>
     refine iteT ⟨_,rfl,d1 _ _ upd_same ⟨by rw [upd_upd],?_⟩⟩
     rw [e1,List.filter_append]
     congr 1
     show [x] = [x].filter _
     rw [List.filter_cons,hb]; rfl
    | false =>
     refine iteF (d2 _ ⟨?_,?_⟩)
     ·rfl
     ·rw [e1,List.filter_append]
      rw [show ([x].filter fun v=>!decide (v = V.non)) = [] by rw [List.filter_cons,hb]; rfl,List.append_nil]
   ·rintro ys H5 ⟨rfl,rfl⟩
    obtain ⟨hs,ehs,hin,hall⟩:∃ hs:List Addr,([v0,v1].filter fun v=>!decide (v = V.non)) = hs.map V.ref∧(∀ p ∈ hs,∃ k t f,(k = 0∨k = 1)∧headOf (d.cur k) = some (t,f)∧HeadAt CH Hc p k t f) ∧
      (∀ k:Int,(k = 0∨k = 1)→∀ t f,headOf (d.cur k) = some (t,f)→∃ p ∈ hs,HeadAt CH Hc p k t f):=by
     unfold HdAt at b0 b1
     cases e0:headOf (d.cur 0) with
     | none =>
      rw [e0] at b0
      cases e1:headOf (d.cur 1) with
      | none =>
       rw [e1] at b1
       subst b0 b1
       refine ⟨[],rfl,fun p hp=>(nomatch hp),fun k hk t f e=>?_⟩
       rcases hk with rfl | rfl
       ·rw [e0] at e; cases e
       ·rw [e1] at e; cases e
      | some tf =>
       rw [e1] at b1
       obtain ⟨p1,rfl,hA1⟩:=b1
       subst b0
       refine ⟨[p1],rfl,fun p hp=>?_,fun k hk t f e=>?_⟩
       ·rw [List.mem_singleton.mp hp]; exact ⟨1,tf.1,tf.2,.inr rfl,e1,hA1⟩
       ·rcases hk with rfl | rfl
        ·rw [e0] at e; cases e
        ·rw [e1] at e; cases e; exact ⟨p1,.head _,hA1⟩
     | some tf0 =>
      rw [e0] at b0
      obtain ⟨p0,rfl,hA0⟩:=b0
      cases e1:headOf (d.cur 1) with
      | none =>
       rw [e1] at b1
       subst b1
       refine ⟨[p0],rfl,fun p hp=>?_,fun k hk t f e=>?_⟩
       ·rw [List.mem_singleton.mp hp]; exact ⟨0,tf0.1,tf0.2,.inl rfl,e0,hA0⟩
       ·rcases hk with rfl | rfl
        ·rw [e0] at e; cases e; exact ⟨p0,.head _,hA0⟩
        ·rw [e1] at e; cases e
      | some tf =>
       rw [e1] at b1
       obtain ⟨p1,rfl,hA1⟩:=b1
       refine ⟨[p0,p1],rfl,fun p hp=>?_,fun k hk t f e=>?_⟩
       ·rcases List.mem_cons.mp hp with rfl | hp
        ·exact ⟨0,tf0.1,tf0.2,.inl rfl,e0,hA0⟩
        ·rw [List.mem_singleton.mp hp]; exact ⟨1,tf.1,tf.2,.inr rfl,e1,hA1⟩
       ·rcases hk with rfl | rfl
        ·rw [e0] at e; cases e; exact ⟨p0,.head _,hA0⟩
        ·rw [e1] at e; cases e; exact ⟨p1,.tail _ (.head _),hA1⟩
    have s5:Same Hc (upd Hc D2 (.lst (([v0,v1].take [v0,v1].length).filter fun v=>!decide (v = V.non)))):=same_upd hD2
    generalize hH5:upd Hc D2 (.lst (([v0,v1].take [v0,v1].length).filter fun v=>!decide (v = V.non))) = H5 at s5 ⊢
    have g5:H5 D2 = some (.lst (hs.map V.ref)):=by rw [← hH5,upd_same,← ehs]; rfl
    refine ⟨D2,hs,turnAt H5,rfl,SqL.of g5,fun p hp=>?_,(a2.trans s5).tab hT,fun H6 v sT hT6 hM=>q v H6 ((a2.trans s5).t.trans sT) hT6 ?_⟩
    ·obtain ⟨k,t,f,_,_,hA⟩:=hin p hp
     exact head_turn cH nT (hA.same s5)
    ·rcases hM with ⟨rfl,rfl⟩ | ⟨p,hp,rfl,hmax⟩
     ·refine .inl ⟨?_,?_,rfl⟩
      ·cases e:headOf (d.cur 0) with
       | none=>rfl
       | some tf=>obtain ⟨p,hp,_⟩:=hall 0 (.inl rfl) tf.1 tf.2 e; cases hp
      ·cases e:headOf (d.cur 1) with
       | none=>rfl
       | some tf=>obtain ⟨p,hp,_⟩:=hall 1 (.inr rfl) tf.1 tf.2 e; cases hp
     ·obtain ⟨k,t,f,hk,ek,hA⟩:=hin p hp
      obtain ⟨dx,g⟩:=hA.same s5
      refine .inr ⟨p,k,t,f,rfl,⟨dx,sT.ins g⟩,hk,ek,fun k' hk' t' f' e'=>?_⟩
      obtain ⟨p',hp',hA'⟩:=hall k' hk' t' f' e'
      have:=hmax p' hp'
      rw [turn_of (hA'.same s5),turn_of (hA.same s5)] at this
      exact this
end
def Live (d:KD.DS):Prop:=d.fuel = none∧d.dead = false
theorem Live.gone {d:KD.DS} (h:Live d):d.gone = false:=by unfold KD.DS.gone; rw [h.1,h.2]; rfl
def spSize8 (CD:Addr):Sp:=fun vs H Q _=>∃ (p sl wd:Addr) (d:KD.DS),vs = [.ref p]∧KD.DiskAt CD H p sl wd d∧8 ≤ d.sure.length∧Q .non H
def nextH:Option (Int × Int)→Int × Int
 | none=>(0,1)
 | some (k,t)=>(1 - k,t + 1)
def spNxHd (CH:Addr):Sp:=fun vs H Q _=>∃ (v:V) (o:Option (Int × Int)) (f:Int),vs = [v,.int f]∧(match o with | none=>v = .non | some (k,t)=>(k = 0∨k = 1)∧∃ a f0,v = .ref a∧HeadAt CH H a k t f0) ∧
 ∀ a H',H a = none→Same H H'→HeadAt CH H' a (nextH o).1 (nextH o).2 f→Q (.ref a) H'
def headRow (t f:Int):List Int:=headB ++ digs 8 t ++ digs 3 f
theorem headRow_takes (t f:Int):KD.takes (headRow t f) = true:=by
 unfold KD.takes headRow
 have h1:(headB ++ digs 8 t ++ digs 3 f).length = 17:=by rw [List.length_append,List.length_append,digs_length,digs_length]; rfl
 rw [h1]
 simp only [Bool.and_eq_true,List.all_eq_true,decide_eq_true_eq]
 refine ⟨by decide,fun x hx=>?_⟩
 rcases List.mem_append.mp hx with hx | hx
 ·rcases List.mem_append.mp hx with hx | hx
  ·have all:∀ y ∈ headB,0 ≤ y∧y ≤ 255:=by decide
   exact all x hx
  ·exact digs_page _ _ _ hx
 ·exact digs_page _ _ _ hx
theorem headRow_length (t f:Int):(headRow t f).length = 17:=by
 unfold headRow
 rw [List.length_append,List.length_append,digs_length,digs_length]; rfl
theorem headOf_row (t f:Int) (ht:0 ≤ t) (ht2:t < 256 ^ 8) (hf:0 ≤ f) (hf2:f < 256 ^ 3):headOf (some (headRow t f)) = some (t,f):=by
 have e0:(headRow t f).take 6 = headB:=by
  unfold headRow
  rw [List.append_assoc,List.take_append_of_le_length (by decide)]
  rfl
 have e1:((headRow t f).drop 6).take 8 = digs 8 t:=by
  unfold headRow
  have:(6:Nat) = headB.length:=rfl
  rw [List.append_assoc,this,List.drop_left,List.take_append_of_le_length (by rw [digs_length]; exact Nat.le_refl _),List.take_of_length_le (by rw [digs_length]; exact Nat.le_refl _)]
 have e2:(headRow t f).drop 14 = digs 3 f:=by
  unfold headRow
  have:(14:Nat) = (headB ++ digs 8 t).length:=by rw [List.length_append,digs_length]; rfl
  rw [this,List.drop_left]
 rw [headOf_some,if_pos ⟨e0,headRow_length t f⟩,e1,e2,undig_digs 8 t ht ht2,undig_digs 3 f hf hf2]
def putPg (d:KD.DS) (k:Int) (xs:List Int):KD.DS:={ d with sure:=d.sure.set k.toNat (some xs),wait:=[],done:=d.done + 1 + 1 }
def spPtHd (CD CH:Addr):Sp:=fun vs H Q _=>∃ (p sl wd h:Addr) (d:KD.DS) (k t f:Int),vs = [.ref p,.ref h]∧KD.DiskAt CD H p sl wd d∧Live d∧d.wait = []∧HeadAt CH H h k t f∧0 ≤ k∧k < d.sure.length ∧
 ∀ wd' H',H wd' = none→KD.Step [p,sl,wd] H H'→KD.DiskAt CD H' p sl wd' (putPg d k (headRow t f))→Q .non H'
section
variable {P:Program} {w:World} {K:PySem.W.Frag} {mg:Str→Option Value} {base:Heap}
theorem sc_check_size:FnScope ["disk"] ["disk"] (defScope s_check_size):=⟨rfl,rfl,rfl,by decide +kernel,rfl,by decide +kernel,by decide +kernel⟩
theorem ok_check_size {f CD CN CE:Addr} {fd:FuncData} (F:Fun K "check_size" "check_size" s_check_size f fd) (T:TxSt K mg) (M:DkM P w K mg base CD CN CE):FnOk P w K mg base CX0 2 f fd ["disk"] (spSize8 CD):=by
 obtain ⟨fZ,fdZ,mZ,GZ,bZ⟩:=M.size.ex
 obtain ⟨t8,m8⟩:=T.few
 refine F.ok sc_check_size (fun vs H Q E h=>?_) (fun cdv A outer s H vs Q E hr h=>?_)
 ·obtain ⟨p,sl,wd,d,rfl,_⟩:=h
  rfl
 ·obtain ⟨p,sl,wd,d,rfl,D,h8,q⟩:=h
  obtain ⟨dx,g1⟩:=D.ob
  refine ⟨_,pss_one (ps_if (pt_cmpR op_lt (pe_meth0 (pv 0) M.cl mZ GZ hr bZ .nil pass0) (pe_glob (by rfl) m8 (v:=.int 8) ⟨_,rfl⟩) (nomark _)) pss_never pss_nil),?_⟩
  refine ⟨_,rfl,p,dx,_,rfl,g1,noD (by decide +kernel) (by decide +kernel) (by decide +kernel) (by decide +kernel) (by decide +kernel),p,sl,wd,d,rfl,D,_,_,rfl,rfl,_,rfl,iteN (decide_eq_false (by omega)) q⟩
theorem sc_next_head:FnScope ["head","first"] ["head","first"] (defScope s_next_head):=⟨rfl,rfl,rfl,by decide +kernel,rfl,by decide +kernel,by decide +kernel⟩
theorem ok_next_head {f CH:Addr} {fd:FuncData} (F:Fun K "next_head" "next_head" s_next_head f fd) (T:TxSt K mg) (HK:KlsS P w K mg base "Head" CH ["place","turn","first"] 1 ["self","place","turn","first"] (spHeadI CH)) :
  FnOk P w K mg base CX0 3 f fd ["head","first"] (spNxHd CH):=by
 obtain ⟨fI,fdI,MI,GI,bI⟩:=HK.ex
 obtain ⟨aH,mH,hH⟩:=T.heads
 refine F.ok sc_next_head (fun vs H Q E h=>?_) (fun cdv A outer s H vs Q E hr h=>?_)
 ·obtain ⟨v,o,f,rfl,_⟩:=h
  rfl
 ·obtain ⟨v,o,f,rfl,hv,q⟩:=h
  refine ⟨_,pss_cons (ps_if (pt_cmp (pc_isN (pv 0))) (pss_one (ps_ret (pe_make MI GI hr (by rfl) HK.gl bI .nil pass0 (pa_cons (pe_ix ix_tup (pe_glob (by rfl) mH (v:=.ref aH) rfl) pe_int (fun _ _=>rfl)) (pa_cons pe_int (pa_cons (pv 1) pa_nil)))))) pss_nil)
   (pss_one (ps_ret (pe_make MI GI hr (by rfl) HK.gl bI .nil pass0 (pa_cons (pe_ix ix_tup (pe_glob (by rfl) mH (v:=.ref aH) rfl) (pe_op op_sub pe_int (pe_fld (pv 0) rfl)) (fun _ _=>rfl)) (pa_cons (pe_op op_add (pe_fld (pv 0) rfl) pe_int) (pa_cons (pv 1) pa_nil)))))),?_⟩
  have fin:∀ {x dx:Addr} (k t:Int),H x = none→H dx = none→dx ≠ x→(nextH o) = (k,t)→Q (.ref x) (upd (upd H dx (.own x)) x (.ins CH dx (flHead (.int k) (.int t) (.int f)))):=fun {x dx} k t hx hdx hne e=>by
   refine q x _ hx ((same_upd hdx).trans (same_upd (by rw [upd_ne (Ne.symm hne)]; exact hx))) ⟨dx,?_⟩
   rw [e]
   exact upd_same
  cases o with
  | none =>
   cases hv
   refine ⟨_,rfl,_,rfl,iteT ?_⟩
   refine ⟨aH,_,_,_,rfl,rfl,hH _,rfl,_,rfl,?_⟩
   intro x dx hx hdx hne
   refine ⟨x,dx,_,_,_,rfl,upd_same,rfl,?_⟩
   rw [upd_upd]
   exact fin 0 1 hx hdx hne rfl
  | some kt =>
   obtain ⟨k,t⟩:=kt
   obtain ⟨hk,a,f0,rfl,da,ha⟩:=hv
   refine ⟨_,rfl,_,rfl,iteF ?_⟩
   have hat:atI [V.int 0,V.int 1] (1 - k) = some (.int (1 - k)):=by rcases hk with rfl | rfl <;> rfl
   refine ⟨_,rfl,a,CH,da,_,_,rfl,ha,HK.cl,HK.no.1,rfl,_,_,rfl,rfl,aH,_,_,_,rfl,rfl,hH _,hat,?_⟩
   refine ⟨_,rfl,a,CH,da,_,_,rfl,ha,HK.cl,HK.no.2.1,rfl,_,_,rfl,rfl,_,rfl,?_⟩
   intro x dx hx hdx hne
   refine ⟨x,dx,_,_,_,rfl,upd_same,rfl,?_⟩
   rw [upd_upd]
   exact fin (1 - k) (t + 1) hx hdx hne rfl
end
structure StepT (A:List Addr) (H H':Hp):Prop where
 o:∀ b o,(∀ ps,o ≠ .tbl ps)→H b = some o→b ∉ A→H' b = some o
 t:∀ b ps,H b = some (.tbl ps)→∃ ps',H' b = some (.tbl ps')
theorem stepT_same {A:List Addr} {H H':Hp} (s:SameT H H'):StepT A H H':=⟨fun b o n e _=>s.o b o n e,s.t⟩
theorem StepT.trans {A:List Addr} {H H1 H2:Hp} (a:StepT A H H1) (b:StepT A H1 H2):StepT A H H2:=⟨fun c o n e m=>b.o c o n (a.o c o n e m) m,fun c ps e=>let ⟨ps',e'⟩:=a.t c ps e; b.t c ps' e'⟩
theorem stepT_of {A:List Addr} {H H':Hp} (s:KD.Step A H H') (hA:∀ b ∈ A,∀ ps,H b ≠ some (.tbl ps)):StepT A H H':=⟨fun b o _ e m=>s b o e m,fun b ps e=>⟨ps,s b _ e fun m=>hA b m ps e⟩⟩
def spReady (CD Pt:Addr):Sp:=fun vs H Q _=>∃ (p sl wd:Addr) (d:KD.DS),vs = [.ref p]∧KD.DiskAt CD H p sl wd d∧Live d∧d.wait = []∧8 ≤ d.sure.length∧headOf (d.cur 0) = none∧headOf (d.cur 1) = none∧TabOk H Pt lamP lamQ ∧
 ∀ wd' H',H wd' = none→StepT [p,sl,wd] H H'→TabOk H' Pt lamP lamQ→KD.DiskAt CD H' p sl wd' (putPg d 0 (headRow 1 0))→Q .non H'
theorem disk_sameT {CD:Addr} {H H':Hp} {p sl wd:Addr} {d:KD.DS} (D:KD.DiskAt CD H p sl wd d) (s:SameT H H'):KD.DiskAt CD H' p sl wd d:=by
 obtain ⟨dx,h1⟩:=D.ob
 obtain ⟨vs,h2,h3⟩:=D.su
 obtain ⟨kvs,h4,h5⟩:=D.wa
 have t:KD.Tups H H':=fun b xs e=>s.tup e
 exact ⟨⟨dx,s.ins h1⟩,⟨vs,s.lst h2,L2.Paired.imp' (fun _ _ z=>KD.PgAt.mono t z) h3⟩,⟨kvs,s.dK h4,L2.Paired.imp' (fun _ _ z=>KD.WtAt.mono t z) h5⟩,D.n,D.w,D.ks,D.nd⟩
theorem tab_step {A:List Addr} {H H':Hp} {Pt:Addr} (s:KD.Step A H H') (hA:∀ b ∈ A,∀ ps,H b ≠ some (.tbl ps)) (hA2:∀ b ∈ A,∀ φ,H b ≠ some (.ext φ)) (t:TabOk H Pt lamP lamQ):TabOk H' Pt lamP lamQ:=by
 rcases t with t | ⟨c,t1,t2⟩
 ·exact .inl (s _ _ t fun m=>hA _ m _ t)
 ·exact .inr ⟨c,s _ _ t1 fun m=>hA _ m _ t1,s _ _ t2 fun m=>hA2 _ m _ t2⟩
section
variable {P:Program} {w:World} {K:PySem.W.Frag} {mg:Str→Option Value} {base:Heap}
theorem sc_put_head:FnScope ["disk","head","row"] ["disk","head"] (defScope s_put_head):=⟨rfl,rfl,rfl,by decide +kernel,rfl,by decide +kernel,by decide +kernel⟩
theorem ok_put_head {f CD CN CE CH:Addr} {fd:FuncData} (F:Fun K "put_head" "put_head" s_put_head f fd) (T:TxSt K mg) (M:DkM P w K mg base CD CN CE) (cH:Cls K CH) (nH:NoAll K CH ["place","turn","first"])
  (GW:FnS P w K mg base 1 "write_digits" ["number","width"] spWDig):FnOk P w K mg base CX0 4 f fd ["disk","head"] (spPtHd CD CH):=by
 obtain ⟨fW,fdW,mW,kW,GW,bW⟩:=GW.ex
 obtain ⟨fR,fdR,mR,GR,bR⟩:=M.write.ex
 obtain ⟨fS,fdS,mS,GS,bS⟩:=M.sync.ex
 obtain ⟨aB,mB,hB⟩:=T.begin
 obtain ⟨t8,m8⟩:=T.tw
 obtain ⟨t3,m3⟩:=T.pw
 refine F.ok sc_put_head (fun vs H Q E h=>?_) (fun cdv A outer s H vs Q E hr h=>?_)
 ·obtain ⟨p,sl,wd,h,d,k,t,f,rfl,_⟩:=h
  rfl
 ·obtain ⟨p,sl,wd,h,d,k,t,f,rfl,D,hv,hw0,⟨dh,hh⟩,k0,k1,q⟩:=h
  have r1:Room 1 _:=hr.mono (by omega)
  have r2:Room 2 _:=hr.mono (by omega)
  refine ⟨_,pss_cons (ps_set (i:=2) sc_put_head.nd rfl (Or.inl rfl) (pe_op op_cat (pe_op op_cat (pe_callTy call_list_of (by rfl) T.list PyProof.Rows.boot_list (pa_cons (pe_glob (by rfl) mB (v:=.ref aB) rfl) pa_nil))
    (pe_call GW r1 (by rfl) mW kW bW .nil pass0 (pa_cons (pe_fld (pv 1) rfl) (pa_cons (pe_glob (by rfl) m8 (v:=.int 8) ⟨_,rfl⟩) pa_nil))))
    (pe_call GW r1 (by rfl) mW kW bW .nil pass0 (pa_cons (pe_fld (pv 1) rfl) (pa_cons (pe_glob (by rfl) m3 (v:=.int 3) ⟨_,rfl⟩) pa_nil)))))
   (pss_cons (ps_expr (pe_meth (pv 0) M.cl mR GR hr bR .nil pass0 (pa_cons (pe_fld (pv 1) rfl) (pa_cons (pv 2) pa_nil))))
   (pss_one (ps_expr (pe_meth0 (pv 0) M.cl mS GS r2 bS .nil pass0)))),?_⟩
  refine ⟨aB,_,rfl,.inr (hB _),fun l0 hl0=>?_⟩
  have s0:=same_upd (o:=.lst (headB.map V.int)) hl0
  refine ⟨_,rfl,h,CH,dh,_,_,rfl,s0 _ _ hh,cH,nH.2.1,rfl,t,8,rfl,by decide,fun l1 hl1=>?_⟩
  have s1:=same_upd (o:=.lst ((digs 8 t).map V.int)) hl1
  refine ⟨l0,l1,_,_,rfl,rfl,s1 _ _ upd_same,upd_same,?_,fun l2 hl2=>?_⟩
  ·rw [List.length_map,List.length_map,digs_length]
   show 6 + 8 ≤ sizeLine
   decide
  have s2:=same_upd (o:=.lst (headB.map V.int ++ (digs 8 t).map V.int)) hl2
  have s02:=s0.trans (s1.trans s2)
  refine ⟨_,rfl,h,CH,dh,_,_,rfl,s02 _ _ hh,cH,nH.2.2.1,rfl,f,3,rfl,by decide,fun l3 hl3=>?_⟩
  have s3:=same_upd (o:=.lst ((digs 3 f).map V.int)) hl3
  refine ⟨l2,l3,_,_,rfl,rfl,s3 _ _ upd_same,upd_same,?_,fun l4 hl4=>?_⟩
  ·rw [List.length_append,List.length_map,List.length_map,List.length_map,digs_length,digs_length]
   show 6 + 8 + 3 ≤ sizeLine
   decide
  have er:headB.map V.int ++ (digs 8 t).map V.int ++ (digs 3 f).map V.int = (headRow t f).map V.int:=by unfold headRow; rw [List.map_append,List.map_append]
  rw [er]
  have s4:=same_upd (o:=.lst ((headRow t f).map V.int)) hl4
  have s04:=s02.trans (s3.trans s4)
  generalize hH4:upd _ l4 (.lst ((headRow t f).map V.int)) = H4 at s4 s04 ⊢
  have g4:H4 l4 = some (.lst ((headRow t f).map V.int)):=by rw [← hH4]; exact upd_same
  have D4:=D.same s04
  obtain ⟨dx,g1⟩:=D4.ob
  have n4:=D.n
  refine ⟨_,rfl,p,dx,_,rfl,g1,noD (by decide +kernel) (by decide +kernel) (by decide +kernel) (by decide +kernel) (by decide +kernel),_,rfl,h,CH,dh,_,_,rfl,s04 _ _ hh,cH,nH.1,rfl,_,rfl,p,sl,wd,l4,d,k,headRow t f,rfl,D4,SqL.of g4,by rw [headRow_length]; decide,(ne_of g1 g4 (by intro z; cases z)).symm,log_page k0 (by omega),?_,?_,?_⟩
  ·rintro (z | z)
   ·exact absurd ⟨k0,k1⟩ z
   ·rw [headRow_takes] at z; cases z
  ·intro _ _ z
   rw [hv.gone] at z; cases z
  ·intro _ _ _ H5 s5 D5
   obtain ⟨fu,de,dn,su,wt⟩:=d
   obtain ⟨rfl,rfl⟩:fu = none∧de = false:=hv
   obtain rfl:wt = []:=hw0
   obtain ⟨dy,g5⟩:=D5.ob
   refine ⟨_,rfl,p,dy,_,rfl,g5,noD (by decide +kernel) (by decide +kernel) (by decide +kernel) (by decide +kernel) (by decide +kernel),p,sl,wd,_,rfl,D5,fun _ wd' H6 hw6 s6 D6=>?_,fun z=>(by cases z)⟩
   have nw:H wd' = none:=by
    cases e:H wd' with
    | none=>rfl
    | some o =>
     exfalso
     by_cases z:wd' ∈ [p,wd]
     ·rcases List.mem_cons.mp z with z | z
      ·rw [z,g5] at hw6; cases hw6
      ·obtain ⟨kvs,gw,_⟩:=D5.wa
       rw [List.mem_singleton.mp z,gw] at hw6; cases hw6
     ·rw [s5 _ _ (s04 _ _ e) z] at hw6; cases hw6
   refine q wd' H6 nw (fun b o e n=>s6 _ _ (s5 _ _ (s04 _ _ e) (fun m=>n ?_)) fun m=>n ?_) D6
   ·rcases List.mem_cons.mp m with m | m
    ·rw [m]; exact .head _
    ·rw [List.mem_singleton.mp m]; exact .tail _ (.tail _ (.head _))
   ·rcases List.mem_cons.mp m with m | m
    ·rw [m]; exact .head _
    ·rw [List.mem_singleton.mp m]; exact .tail _ (.head _)
theorem sc_make_ready:FnScope ["disk"] ["disk"] (defScope s_make_ready):=⟨rfl,rfl,rfl,by decide +kernel,rfl,by decide +kernel,by decide +kernel⟩
theorem ok_make_ready {f CD CH Pt:Addr} {fd:FuncData} (F:Fun K "make_ready" "make_ready" s_make_ready f fd) (T:TxSt K mg) (GC:FnS P w K mg base 2 "check_size" ["disk"] (spSize8 CD)) (GF:FnS P w K mg base 5 "find_head" ["disk"] (spFdHd CD CH Pt))
  (GN:FnS P w K mg base 3 "next_head" ["head","first"] (spNxHd CH)) (GP:FnS P w K mg base 4 "put_head" ["disk","head"] (spPtHd CD CH)):FnOk P w K mg base CX0 6 f fd ["disk"] (spReady CD Pt):=by
 obtain ⟨fC,fdC,mC,kC,GC,bC⟩:=GC.ex
 obtain ⟨fF,fdF,mF,kF,GF,bF⟩:=GF.ex
 obtain ⟨fN,fdN,mN,kN,GN,bN⟩:=GN.ex
 obtain ⟨fP,fdP,mP,kP,GP,bP⟩:=GP.ex
 obtain ⟨t0,m0⟩:=T.np
 refine F.ok sc_make_ready (fun vs H Q E h=>?_) (fun cdv A outer s H vs Q E hr h=>?_)
 ·obtain ⟨p,sl,wd,d,rfl,_⟩:=h
  rfl
 ·obtain ⟨p,sl,wd,d,rfl,D,hv,hw,h8,e0,e1,hT,q⟩:=h
  have r2:Room 2 _:=hr.mono (by omega)
  have r3:Room 3 _:=hr.mono (by omega)
  have r4:Room 4 _:=hr.mono (by omega)
  refine ⟨_,pss_cons (ps_expr (pe_call GC r2 (by rfl) mC kC bC .nil pass0 (pa_cons (pv 0) pa_nil)))
   (pss_one (ps_expr (pe_call GP r4 (by rfl) mP kP bP .nil pass0 (pa_cons (pv 0) (pa_cons (pe_call GN r3 (by rfl) mN kN bN .nil pass0 (pa_cons (pe_call GF hr (by rfl) mF kF bF .nil pass0 (pa_cons (pv 0) pa_nil)) (pa_cons (pe_glob (by rfl) m0 (v:=.int 0) ⟨_,rfl⟩) pa_nil))) pa_nil))))),?_⟩
  refine ⟨_,rfl,p,sl,wd,d,rfl,D,h8,?_⟩
  refine ⟨_,rfl,_,rfl,p,sl,wd,d,rfl,D,by omega,hT,fun v H1 s1 hT1 hB=>?_⟩
  have ev:v = .non:=by
   rcases hB with ⟨_,_,e⟩ | ⟨a,k,t,f,_,_,hk,ek,_⟩
   ·exact e
   ·rcases hk with rfl | rfl
    ·rw [e0] at ek; cases ek
    ·rw [e1] at ek; cases ek
  subst ev
  refine ⟨.non,none,0,rfl,rfl,fun a H2 ha s2 hA=>?_⟩
  have D2:=(disk_sameT D s1).same s2
  refine ⟨p,sl,wd,a,d,0,1,0,rfl,D2,hv,hw,hA,Int.le_refl _,by omega,fun wd' H3 hw3 s3 D3=>?_⟩
  obtain ⟨dx,g1⟩:=D2.ob
  obtain ⟨vs2,g2,_⟩:=D2.su
  obtain ⟨kvs,g3,_⟩:=D2.wa
  have nw:H wd' = none:=s1.none (s2.t.none hw3)
  have hA3:∀ b ∈ [p,sl,wd],(∃ C dx fs,H2 b = some (.ins C dx fs))∨(∃ xs,H2 b = some (.lst xs))∨∃ kvs,H2 b = some (.dK kvs):=fun b m=>by
   rcases List.mem_cons.mp m with rfl | m
   ·exact .inl ⟨_,_,_,g1⟩
   ·rcases List.mem_cons.mp m with rfl | m
    ·exact .inr (.inl ⟨_,g2⟩)
    ·rw [List.mem_singleton.mp m]; exact .inr (.inr ⟨_,g3⟩)
  have noT:∀ b ∈ [p,sl,wd],∀ ps,H2 b ≠ some (.tbl ps):=fun b m ps z=>by
   rcases hA3 b m with ⟨_,_,_,e⟩ | ⟨_,e⟩ | ⟨_,e⟩ <;> rw [e] at z <;> cases z
  have noX:∀ b ∈ [p,sl,wd],∀ φ,H2 b ≠ some (.ext φ):=fun b m φ z=>by
   rcases hA3 b m with ⟨_,_,_,e⟩ | ⟨_,e⟩ | ⟨_,e⟩ <;> rw [e] at z <;> cases z
  exact q wd' H3 nw ((stepT_same (s1.trans s2.t)).trans (stepT_of s3 noT)) (tab_step s3 noT noX (s2.tab hT1)) D3
end
def spMore0 (CT:Addr):Sp:=fun vs H Q _=>∃ (p dx r:Addr),vs = [.ref p]∧H p = some (.ins CT dx (flTape (.ref r)))∧H r = some (.lst [])∧Q (.bl false) H
def spRState0:Sp:=fun vs H Q _=>∃ (r:Addr),vs = [.ref r]∧H r = some (.lst [])∧∀ d H',Same H H'→H' d = some (.dK [])→H d = none→Q (.ref d) H'
def flStore (a b c d e:V):List (Str × V):=[("disk",a),("head",b),("pages",c),("numbers",d),("kept",e)]
def spStoreI0 (C:Addr):Sp:=fun vs H Q _=>∃ (y dx r:Addr) (a b c:V),vs = [.ref y,a,b,c,.ref r]∧H y = some (.ins C dx [])∧H r = some (.lst []) ∧
 ∀ d H',KD.Step [y] H H'→H' y = some (.ins C dx (flStore a b c (.ref r) (.ref d)))→H' d = some (.dK [])→H d = none→Q .non H'
def flBase (a b c d:V):List (Str × V):=[("store",a),("state",b),("marks",c),("dead",d)]
def spBaseI (C CSt:Addr):Sp:=fun vs H Q _=>∃ (y dx st ds:Addr) (a b c d e:V),vs = [.ref y,.ref st]∧H y = some (.ins C dx [])∧H st = some (.ins CSt ds (flStore a b c d e))∧st ≠ y∧Q .non (upd H y (.ins C dx (flBase (.ref st) e .non (.bl false))))
def StoreE (CSt:Addr) (H:Hp) (v:V):Prop:=∃ (st ds d:Addr) (a b c e:V),v = .ref st∧H st = some (.ins CSt ds (flStore a b c e (.ref d)))∧H d = some (.dK [])
def BaseE (CB:Addr) (H:Hp) (v:V):Prop:=∃ (y dx d:Addr) (st:V),v = .ref y∧H y = some (.ins CB dx (flBase st (.ref d) .non (.bl false)))∧H d = some (.dK [])
def spFStore0 (CD CSt Pt:Addr):Sp:=fun vs H Q _=>∃ (p sl wd:Addr) (d:KD.DS) (t:Int),vs = [.ref p]∧KD.DiskAt CD H p sl wd d∧8 ≤ d.sure.length∧headOf (d.cur 0) = some (t,0)∧headOf (d.cur 1) = none∧TabOk H Pt lamP lamQ ∧
 ∀ v H',SameT H H'→TabOk H' Pt lamP lamQ→StoreE CSt H' v→Q v H'
def spOpen0 (CD CB Pt:Addr):Sp:=fun vs H Q _=>∃ (p sl wd:Addr) (d:KD.DS) (t:Int),vs = [.ref p]∧KD.DiskAt CD H p sl wd d∧8 ≤ d.sure.length∧headOf (d.cur 0) = some (t,0)∧headOf (d.cur 1) = none∧TabOk H Pt lamP lamQ ∧
 ∀ v H',SameT H H'→TabOk H' Pt lamP lamQ→BaseE CB H' v→Q v H'
section
variable {P:Program} {w:World} {K:PySem.W.Frag} {mg:Str→Option Value} {base:Heap}
theorem sc_has_more:FnScope ["self"] ["self"] (defScope s_Tape_has_more):=⟨rfl,rfl,rfl,by decide +kernel,rfl,by decide +kernel,by decide +kernel⟩
theorem ok_has_more0 {f CT:Addr} {fd:FuncData} (F:Fun K "has_more" "Tape.has_more" s_Tape_has_more f fd) (cl:Cls K CT) (no:NoAll K CT ["numbers","passed"]) (hlen:mg "len" = none):FnOk P w K mg base CX0 1 f fd ["self"] (spMore0 CT):=by
 refine F.ok sc_has_more (fun vs H Q E h=>?_) (fun cdv A outer s H vs Q E hr h=>?_)
 ·obtain ⟨p,dx,r,rfl,_⟩:=h
  rfl
 ·obtain ⟨p,dx,r,rfl,hp,hr0,q⟩:=h
  refine ⟨_,pss_one (ps_ret (pe_cmpR op_lt (pe_fld (pv 0) rfl) (pe_callB call_len_seq (by rfl) hlen PySem.boot_len (pa_cons (pe_fld (pv 0) rfl) pa_nil)) (nomark _))),?_⟩
  exact ⟨_,rfl,p,CT,dx,_,_,rfl,hp,cl,no.2.1,rfl,_,rfl,p,CT,dx,_,_,rfl,hp,cl,no.1,rfl,r,_,rfl,.inl (SqL.of hr0),_,_,rfl,rfl,q⟩
theorem sc_read_state:FnScope ["numbers","tape","state","name"] ["numbers"] (defScope s_read_state):=⟨rfl,rfl,rfl,by decide +kernel,rfl,by decide +kernel,by decide +kernel⟩
theorem ok_read_state0 {f CT:Addr} {fd:FuncData} (F:Fun K "read_state" "read_state" s_read_state f fd) (TK:KlsS P w K mg base "Tape" CT ["numbers","passed"] 1 ["self","numbers"] (spTapeI CT)) (HM:MtS P w K mg base CX0 CT 1 "has_more" ["self"] (spMore0 CT)) :
  FnOk P w K mg base CX0 3 f fd ["numbers"] spRState0:=by
 obtain ⟨fI,fdI,MI,GI,bI⟩:=TK.ex
 obtain ⟨fM,fdM,mM,GM,bM⟩:=HM.ex
 refine F.ok sc_read_state (fun vs H Q E h=>?_) (fun cdv A outer s H vs Q E hr h=>?_)
 ·obtain ⟨r,rfl,_⟩:=h
  rfl
 ·obtain ⟨r,rfl,hr0,q⟩:=h
  have r1:Room 1 _:=hr.mono (by omega)
  refine ⟨_,pss_cons (ps_set (i:=1) sc_read_state.nd rfl (Or.inl rfl) (pe_make MI GI hr (by rfl) TK.gl bI .nil pass0 (pa_cons (pv 0) pa_nil)))
   (pss_cons (ps_set (i:=2) sc_read_state.nd rfl (Or.inl rfl) pe_dnewK)
   (pss_cons (ps_while PassesOwn.never (pt_val (pe_meth0 (pv 1) TK.cl mM GM r1 bM .nil pass0)) pss_never)
   (pss_one (ps_ret (pv 2))))),?_⟩
  refine ⟨_,rfl,?_⟩
  intro x dx hx hdx hne
  refine ⟨x,dx,_,rfl,upd_same,rfl,?_⟩
  rw [upd_upd]
  have s1:Same H (upd (upd H dx (.own x)) x (.ins CT dx (flTape (.ref r)))):=(same_upd hdx).trans (same_upd (by rw [upd_ne (Ne.symm hne)]; exact hx))
  generalize hH1:upd (upd H dx (.own x)) x (.ins CT dx (flTape (.ref r))) = H1 at s1
  have g1:H1 x = some (.ins CT dx (flTape (.ref r))):=by rw [← hH1,upd_same]
  intro d hd
  have s2:Same H1 (upd H1 d (.dK [])):=same_upd hd
  refine ⟨fun m σ H'=>σ = [some (.ref r),some (.ref x),some (.ref d),none]∧H' = upd H1 d (.dK []),⟨0,rfl,rfl⟩,?_⟩
  rintro m σ H' ⟨rfl,rfl⟩
  refine ⟨_,rfl,x,dx,_,rfl,s2 _ _ g1,rfl,x,dx,r,rfl,s2 _ _ g1,s2 _ _ (s1 _ _ hr0),_,rfl,iteF ⟨_,rfl,?_⟩⟩
  refine q d _ (s1.trans s2) upd_same ?_
  cases e:H d with
  | none=>rfl
  | some o=>rw [s1 _ _ e] at hd; cases hd
theorem sc_Store_init:FnScope ["self","disk","head","pages","numbers"] ["self","disk","head","pages","numbers"] (defScope s_Store_init):=⟨rfl,rfl,rfl,by decide +kernel,rfl,by decide +kernel,by decide +kernel⟩
theorem ok_Store_init0 {f C:Addr} {fd:FuncData} (F:Fun K "__init__" "Store.__init__" s_Store_init f fd) (cl:Cls K C) (no:NoAll K C ["disk","head","pages","numbers","kept"]) (GR:FnS P w K mg base 3 "read_state" ["numbers"] spRState0) :
  FnOk P w K mg base CX0 4 f fd ["self","disk","head","pages","numbers"] (spStoreI0 C):=by
 obtain ⟨fR,fdR,mR,kR,GR,bR⟩:=GR.ex
 refine F.ok sc_Store_init (fun vs H Q E h=>?_) (fun cdv A outer s H vs Q E hr h=>?_)
 ·obtain ⟨y,dx,r,a,b,c,rfl,_⟩:=h
  rfl
 ·obtain ⟨y,dx,r,a,b,c,rfl,hy,hr0,q⟩:=h
  refine ⟨_,pss_cons (ps_fld (pv 0) (pv 1) rfl) (pss_cons (ps_fld (pv 0) (pv 2) rfl) (pss_cons (ps_fld (pv 0) (pv 3) rfl) (pss_cons (ps_fld (pv 0) (pv 4) rfl)
   (pss_one (ps_fld (pv 0) (pe_call GR hr (by rfl) mR kR bR .nil pass0 (pa_cons (pv 4) pa_nil)) rfl))))),?_⟩
  refine ⟨_,rfl,_,rfl,y,C,dx,_,rfl,hy,cl,no.1,by show 0 < 1000; decide,?_⟩
  refine ⟨_,rfl,_,rfl,y,C,dx,_,rfl,upd_same,cl,no.2.1,by show 1 < 1000; decide,?_⟩
  rw [upd_upd]
  refine ⟨_,rfl,_,rfl,y,C,dx,_,rfl,upd_same,cl,no.2.2.1,by show 2 < 1000; decide,?_⟩
  rw [upd_upd]
  refine ⟨_,rfl,_,rfl,y,C,dx,_,rfl,upd_same,cl,no.2.2.2.1,by show 3 < 1000; decide,?_⟩
  rw [upd_upd]
  have nr:r ≠ y:=ne_of hr0 hy (by intro z; cases z)
  refine ⟨_,rfl,r,rfl,by rw [upd_ne nr]; exact hr0,fun d H1 s1 hd hd0=>?_⟩
  have g1:=s1 _ _ (upd_same (H:=H) (a:=y))
  refine ⟨_,rfl,y,C,dx,_,rfl,g1,cl,no.2.2.2.2.1,by show 4 < 1000; decide,?_⟩
  have ny:d ≠ y:=fun z=>by rw [z,upd_same] at hd0; cases hd0
  refine q d _ (fun b' o e n=>?_) upd_same (by rw [upd_ne ny]; exact hd) (by rw [upd_ne ny] at hd0; exact hd0)
  have nb:b' ≠ y:=by simpa using n
  rw [upd_ne nb]
  exact s1 _ _ (by rw [upd_ne nb]; exact e)
theorem sc_find_store:FnScope ["disk","head","pages","numbers","k","row"] ["disk"] (defScope s_find_store):=⟨rfl,rfl,rfl,by decide +kernel,rfl,by decide +kernel,by decide +kernel⟩
theorem ok_find_store0 {f CD CH CSt Pt:Addr} {fd:FuncData} (F:Fun K "find_store" "find_store" s_find_store f fd) (T:TxSt K mg) (cH:Cls K CH) (nH:NoAll K CH ["place","turn","first"]) (GC:FnS P w K mg base 2 "check_size" ["disk"] (spSize8 CD)) (GF:FnS P w K mg base 5 "find_head" ["disk"] (spFdHd CD CH Pt))
  (SK:KlsS P w K mg base "Store" CSt ["disk","head","pages","numbers","kept"] 4 ["self","disk","head","pages","numbers"] (spStoreI0 CSt)):FnOk P w K mg base CX0 6 f fd ["disk"] (spFStore0 CD CSt Pt):=by
 obtain ⟨fC,fdC,mC,kC,GC,bC⟩:=GC.ex
 obtain ⟨fF,fdF,mF,kF,GF,bF⟩:=GF.ex
 obtain ⟨fI,fdI,MI,GI,bI⟩:=SK.ex
 obtain ⟨t0,m0⟩:=T.np
 refine F.ok sc_find_store (fun vs H Q E h=>?_) (fun cdv A outer s H vs Q E hr h=>?_)
 ·obtain ⟨p,sl,wd,d,t,rfl,_⟩:=h
  rfl
 ·obtain ⟨p,sl,wd,d,t,rfl,D,h8,e0,e1,hT,q⟩:=h
  have r2:Room 2 _:=hr.mono (by omega)
  refine ⟨_,pss_cons (ps_expr (pe_call GC r2 (by rfl) mC kC bC .nil pass0 (pa_cons (pv 0) pa_nil)))
   (pss_cons (ps_set (i:=1) sc_find_store.nd rfl (Or.inl rfl) (pe_call GF hr (by rfl) mF kF bF .nil pass0 (pa_cons (pv 0) pa_nil)))
   (pss_cons (ps_if (pt_cmp (pc_isN (pv 1))) pss_never pss_nil)
   (pss_cons (ps_set (i:=2) sc_find_store.nd rfl (Or.inl rfl) (pe_lst pa_nil))
   (pss_cons (ps_set (i:=3) sc_find_store.nd rfl (Or.inl rfl) (pe_lst pa_nil))
   (pss_cons (ps_set (i:=4) sc_find_store.nd rfl (Or.inl rfl) (pe_fld (pv 1) rfl))
   (pss_cons (ps_while PassesOwn.never (pt_cmpR op_ne (pv 4) (pe_glob (by rfl) m0 (v:=.int 0) ⟨_,rfl⟩) (nomark _)) pss_never)
   (pss_one (ps_ret (pe_make MI GI hr (by rfl) SK.gl bI .nil pass0 (pa_cons (pv 0) (pa_cons (pv 1) (pa_cons (pv 2) (pa_cons (pv 3) pa_nil))))))))))))),?_⟩
  refine ⟨_,rfl,p,sl,wd,d,rfl,D,h8,?_⟩
  refine ⟨_,rfl,p,sl,wd,d,rfl,D,by omega,hT,fun v H1 s1 hT1 hB=>?_⟩
  rcases hB with ⟨z,_⟩ | ⟨a,k,t',f',rfl,hA,hk,ek,_⟩
  ·rw [e0] at z; cases z
  have ef:f' = 0:=by
   rcases hk with rfl | rfl
   ·rw [e0] at ek; cases ek; rfl
   ·rw [e1] at ek; cases ek
  subst ef
  obtain ⟨da,ga⟩:=hA
  refine ⟨_,rfl,_,rfl,iteF ?_⟩
  refine ⟨Nat.zero_le _,fun l1 hl1=>?_⟩
  have s2:=same_upd (o:=.lst []) hl1
  refine ⟨Nat.zero_le _,fun l2 hl2=>?_⟩
  have s3:=same_upd (o:=.lst []) hl2
  have s13:=s2.trans s3
  generalize hH3:upd (upd H1 l1 (.lst [])) l2 (.lst []) = H3 at s3 s13 ⊢
  have g3:H3 l2 = some (.lst []):=by rw [← hH3,upd_same]
  refine ⟨_,rfl,a,CH,da,_,_,rfl,s13 _ _ ga,cH,nH.2.2.1,rfl,?_⟩
  refine ⟨fun m σ H'=>σ = [some (.ref p),some (.ref a),some (.ref l1),some (.ref l2),some (.int 0),none]∧H' = H3,⟨0,rfl,rfl⟩,?_⟩
  rintro m σ H' ⟨rfl,rfl⟩
  refine ⟨_,rfl,rfl,_,rfl,iteF ?_⟩
  refine ⟨_,rfl,_,rfl,_,rfl,_,rfl,?_⟩
  intro x dx hx hdx hne
  have s4:Same H' (upd (upd H' dx (.own x)) x (.ins CSt dx [])):=(same_upd hdx).trans (same_upd (by rw [upd_ne (Ne.symm hne)]; exact hx))
  refine ⟨x,dx,l2,_,_,_,rfl,upd_same,s4 _ _ g3,fun dd H5 s5 hx5 hd5 hd0=>⟨rfl,?_⟩⟩
  have s45:Same H' H5:=fun b o e=>s5 _ _ (s4 _ _ e) (by simpa using ne_of_none e hx)
  exact q _ H5 (s1.trans (s13.trans s45).t) ((s13.trans s45).tab hT1) ⟨x,dx,dd,_,_,_,_,rfl,hx5,hd5⟩
theorem sc_Base_init:FnScope ["self","store"] ["self","store"] (defScope s_Base_init):=⟨rfl,rfl,rfl,by decide +kernel,rfl,by decide +kernel,by decide +kernel⟩
theorem ok_Base_init {f C CSt:Addr} {fd:FuncData} (F:Fun K "__init__" "Base.__init__" s_Base_init f fd) (cl:Cls K C) (no:NoAll K C ["store","state","marks","dead"]) (cS:Cls K CSt) (nS:NoAttr K CSt "kept"):FnOk P w K mg base CX0 1 f fd ["self","store"] (spBaseI C CSt):=by
 refine F.ok sc_Base_init (fun vs H Q E h=>?_) (fun cdv A outer s H vs Q E hr h=>?_)
 ·obtain ⟨y,dx,st,ds,a,b,c,d,e,rfl,_⟩:=h
  rfl
 ·obtain ⟨y,dx,st,ds,a,b,c,d,e,rfl,hy,hs,ns,q⟩:=h
  refine ⟨_,pss_cons (ps_fld (pv 0) (pv 1) rfl) (pss_cons (ps_fld (pv 0) (pe_fld (pv 1) rfl) rfl) (pss_cons (ps_fld (pv 0) pe_non rfl) (pss_one (ps_fld (pv 0) pe_bl rfl)))),?_⟩
  refine ⟨_,rfl,_,rfl,y,C,dx,_,rfl,hy,cl,no.1,by show 0 < 1000; decide,?_⟩
  refine ⟨_,rfl,st,CSt,ds,_,_,rfl,by rw [upd_ne ns]; exact hs,cS,nS,rfl,_,rfl,y,C,dx,_,rfl,upd_same,cl,no.2.1,by show 1 < 1000; decide,?_⟩
  rw [upd_upd]
  refine ⟨_,rfl,y,C,dx,_,rfl,upd_same,cl,no.2.2.1,by show 2 < 1000; decide,?_⟩
  rw [upd_upd]
  refine ⟨_,rfl,y,C,dx,_,rfl,upd_same,cl,no.2.2.2.1,by show 3 < 1000; decide,?_⟩
  rw [upd_upd]
  exact q
theorem sc_open_base:FnScope ["disk"] ["disk"] (defScope s_open_base):=⟨rfl,rfl,rfl,by decide +kernel,rfl,by decide +kernel,by decide +kernel⟩
theorem ok_open_base0 {f CD CSt CB Pt:Addr} {fd:FuncData} (F:Fun K "open_base" "open_base" s_open_base f fd) (GF:FnS P w K mg base 6 "find_store" ["disk"] (spFStore0 CD CSt Pt)) (BK:KlsS P w K mg base "Base" CB ["store","state","marks","dead"] 1 ["self","store"] (spBaseI CB CSt)) :
  FnOk P w K mg base CX0 7 f fd ["disk"] (spOpen0 CD CB Pt):=by
 obtain ⟨fF,fdF,mF,kF,GF,bF⟩:=GF.ex
 obtain ⟨fI,fdI,MI,GI,bI⟩:=BK.ex
 refine F.ok sc_open_base (fun vs H Q E h=>?_) (fun cdv A outer s H vs Q E hr h=>?_)
 ·obtain ⟨p,sl,wd,d,t,rfl,_⟩:=h
  rfl
 ·obtain ⟨p,sl,wd,d,t,rfl,D,h8,e0,e1,hT,q⟩:=h
  have r2:Room 2 _:=hr.mono (by omega)
  refine ⟨_,pss_one (ps_ret (pe_make MI GI r2 (by rfl) BK.gl bI .nil pass0 (pa_cons (pe_call GF hr (by rfl) mF kF bF .nil pass0 (pa_cons (pv 0) pa_nil)) pa_nil))),?_⟩
  refine ⟨_,rfl,p,sl,wd,d,t,rfl,D,h8,e0,e1,hT,fun v H1 s1 hT1 hS=>?_⟩
  obtain ⟨st,ds,dd,a,b,c,e,rfl,hs,hd⟩:=hS
  intro x dx hx hdx hne
  have s2:Same H1 (upd (upd H1 dx (.own x)) x (.ins CB dx [])):=(same_upd hdx).trans (same_upd (by rw [upd_ne (Ne.symm hne)]; exact hx))
  refine ⟨x,dx,st,ds,a,b,c,e,.ref dd,rfl,upd_same,s2 _ _ hs,ne_of_none hs hx,rfl,?_⟩
  rw [upd_upd]
  have s3:Same H1 (upd (upd H1 dx (.own x)) x (.ins CB dx (flBase (.ref st) (.ref dd) .non (.bl false)))):=(same_upd hdx).trans (same_upd (by rw [upd_ne (Ne.symm hne)]; exact hx))
  exact q _ _ (s1.trans s3.t) (s3.tab hT1) ⟨x,dx,dd,_,rfl,upd_same,s3 _ _ hd⟩
end
theorem StmAt.keep {CS:Addr} {H0 H H':Hp} {sm:Stm} {v:V} (s:Same H H') (h:StmAt CS H0 H sm v):StmAt CS H0 H' sm v:=by
 obtain ⟨y,ta,co,ex,ch,wh,od,e,⟨n0,dx,hy⟩,h1,h2,h3,h4,h5,h6⟩:=h
 have k:NewStay H0 H H':=NewStay.same s
 exact ⟨y,ta,co,ex,ch,wh,od,e,⟨n0,dx,s _ _ hy⟩,h1.stay k,(stab_list stab_col).keep h2 k,(stab_opt (stab_list stab_exp)).keep h3 k,(stab_list stab_chg).keep h4 k,(stab_opt stab_exp).keep h5 k,h6.stay k⟩
structure TxJ (K:PySem.W.Frag) (mg:Str→Option Value):Prop where
 len:mg "len" = none
 min:mg "min" = none
 create:GS mg "CREATE" "create table"
 insert:GS mg "INSERT" "insert"
 begin:GS mg "BEGIN" "begin"
 commit:GS mg "COMMIT" "commit"
 rollback:GS mg "ROLLBACK" "rollback"
 rollbackTo:GS mg "ROLLBACK_TO" "rollback to"
 savepoint:GS mg "SAVEPOINT" "savepoint"
def spTell0:Sp:=fun vs H Q _=>∃ (l t d:Addr) (z:Str) (n:Int),vs = [.ref l,.ref d]∧H l = some (.lst [.ref t])∧H t = some (.tup [.str z,.int n])∧H d = some (.dK []) ∧
 ∀ r u H',Same H H'→H' r = some (.lst [.ref u])→H' u = some (.tup [.int n,.str "name"])→Q (.ref r) H'
def spWrong0 (CS:Addr):Sp:=fun vs H Q _=>∃ (y d:Addr) (H0:Hp) (sm:Stm) (z:Str) (n:Nat),vs = [.ref y,.ref d,.non]∧StmAt CS H0 H sm (.ref y)∧sm.kind = "insert"∧sm.target = some (.str z,n)∧H d = some (.dK []) ∧
 ∀ r u H',Same H H'→H' r = some (.lst [.ref u])→H' u = some (.tup [.int n,.str "name"])→Q (.ref r) H'
def spRefuse0 (CS:Addr):Sp:=fun vs H Q _=>∃ (y d:Addr) (H0:Hp) (sm:Stm) (z:Str) (n:Nat),vs = [.ref y,.ref d,.non]∧StmAt CS H0 H sm (.ref y)∧sm.kind = "insert"∧sm.target = some (.str z,n)∧H d = some (.dK []) ∧
 ∀ u H',Same H H'→H' u = some (.tup [.str "name",.int n])→Q (.ref u) H'
def spJudge0 (CS CV:Addr):Sp:=fun vs H Q _=>∃ (y d:Addr) (H0:Hp) (sm:Stm) (z:Str) (n:Nat),vs = [.ref y,.ref d,.non]∧StmAt CS H0 H sm (.ref y)∧sm.kind = "insert"∧sm.target = some (.str z,n)∧H d = some (.dK []) ∧
 ∀ u dx H',Same H H'→H' u = some (.ins CV dx (flVerdict (.str "name") (.int n) (.int 0) (.ref d)))→Q (.ref u) H'
def spFitsI:Sp:=fun vs H Q _=>vs = [.str "insert",.bl false]∧∀ H',Same H H'→Q (.bl true) H'
section
variable {P:Program} {w:World} {K:PySem.W.Frag} {mg:Str→Option Value} {base:Heap}
theorem sc_tell_missing:FnScope ["named","known"] ["named","known"] (defScope s_tell_missing):=⟨rfl,rfl,rfl,by decide +kernel,rfl,by decide +kernel,by decide +kernel⟩
theorem ok_tell_missing0 {f:Addr} {fd:FuncData} (F:Fun K "tell_missing" "tell_missing" s_tell_missing f fd):FnOk P w K mg base CX0 1 f fd ["named","known"] spTell0:=by
 refine F.ok sc_tell_missing (fun vs H Q E h=>?_) (fun cdv A outer s H vs Q E hr h=>?_)
 ·obtain ⟨l,t,d,z,n,rfl,_⟩:=h
  rfl
 ·obtain ⟨l,t,d,z,n,rfl,hl,ht,hd,q⟩:=h
  have hu:=hu_of hr
  have no:∀ {k:NameKind},(k = .local∨k = .globalImplicit)→(k = .cell∨k = .free)→False:=fun h z=>by rcases h with rfl | rfl <;> rcases z with z | z <;> cases z
  refine ⟨_,pss_one (ps_ret (pe_compZ (g:=gTup K 2 (gCons (gName 0) (gCons (gName 1) gNil))) (xs:=["name","place"]) (fv:=["known"]) (js:=[1]) (cl:=[("known",s.heap.objs.size + 1)]) rfl
   ⟨by with_unfolding_all rfl,rfl,by decide +kernel,by decide +kernel,⟨rfl,trivial⟩,by exact ⟨fun z=>(no (.inl rfl) z).elim,fun z=>(no (.inl rfl) z).elim,fun z=>(no (.inl rfl) z).elim,fun _=>⟨_,rfl⟩,trivial⟩,by exact ⟨⟨rfl,.inl rfl,⟨_,rfl,rfl⟩,.inl rfl⟩,trivial⟩,fun _=>rfl⟩
   (pi_list (pv 0)) (fun pins fp s H=>by exact pg_tup rfl (pgs_cons (pg_name (i:=0) (by show (["name","place","known"]:List Str).Nodup; decide +kernel) rfl (Or.inl rfl)) (pgs_cons (pg_name (i:=1) (by show (["name","place","known"]:List Str).Nodup; decide +kernel) rfl (Or.inl rfl)) pgs_nil)))
   (fun pins fp s H=>tsts_one (pt_cmp (pc_dnotin hu (pv 0) (pv 2)))) (fun pins fp s H=>pe_tup (pa_cons (pv 1) (pa_cons pe_str pa_nil))))),?_⟩
  refine ⟨_,rfl,l,rfl,⟨_,SqL.of hl⟩,fun D hD=>?_⟩
  refine compZ_list (xs:=[.ref t]) (fun i ys Hc=>Same H Hc∧Hc D = some (.lst ys)∧((i = 0∧ys = [])∨(i = 1∧∃ u,ys = [.ref u]∧Hc u = some (.tup [.int n,.str "name"])))) (by show 1 ≤ sizeLine; decide) ⟨same_upd hD,upd_same,.inl ⟨rfl,rfl⟩⟩ ?_ ?_ ?_
  ·rintro i ys Hc hi ⟨a1,a2,a3⟩
   refine ⟨a2,?_,SqL.of (a1 _ _ hl)⟩
   rcases a3 with ⟨rfl,rfl⟩ | ⟨rfl,u,rfl,_⟩
   ·exact Nat.le_refl _
   ·exact Nat.le_refl _
  ·rintro i x ys Hc k1 k2 hx ⟨a1,a2,a3⟩ d1 d2
   rcases a3 with ⟨rfl,rfl⟩ | ⟨rfl,u,rfl,_⟩
   ·cases hx
    refine ⟨t,_,rfl,SqT.of (a1 _ _ ht),rfl,_,_,rfl,_,_,rfl,rfl,?_⟩
    refine ⟨⟨rfl,fun k v e=>?_⟩,?_⟩
    ·match k,e with
     | 2,e=>exact e
    ·refine ⟨_,rfl,_,rfl,d,none,rfl,DGet.k (k:=Sum.inr z) (a1 _ _ hd),_,rfl,iteT ?_⟩
     refine ⟨_,rfl,by show 2 ≤ sizeLine; decide,fun u hu0=>?_⟩
     have s3:=same_upd (o:=.tup [.int n,.str "name"]) hu0
     refine d1 _ _ (s3 _ _ a2) ⟨fun b o e=>?_,upd_same,.inr ⟨rfl,u,rfl,?_⟩⟩
     ·rw [upd_ne (ne_of_none e hD)]
      exact s3 _ _ (a1 _ _ e)
     ·rw [upd_ne (ne_of_none a2 hu0).symm,upd_same]
   ·simp at hx
  ·rintro ys Hc ⟨a1,a2,a3⟩
   rcases a3 with ⟨z,_⟩ | ⟨_,u,rfl,hu⟩
   ·cases z
   ·exact q D u Hc a1 a2 hu
theorem sc_fits_transaction:FnScope ["kind","within"] ["kind","within"] (defScope s_fits_transaction):=⟨rfl,rfl,rfl,by decide +kernel,rfl,by decide +kernel,by decide +kernel⟩
theorem ok_fits_transactionI {f:Addr} {fd:FuncData} (F:Fun K "fits_transaction" "fits_transaction" s_fits_transaction f fd) (T:TxJ K mg):FnOk P w K mg base CX0 1 f fd ["kind","within"] spFitsI:=by
 obtain ⟨t1,mb⟩:=T.begin
 obtain ⟨t2,mc⟩:=T.commit
 obtain ⟨t3,mr⟩:=T.rollback
 obtain ⟨t4,mt⟩:=T.rollbackTo
 obtain ⟨t5,ms⟩:=T.savepoint
 refine F.ok sc_fits_transaction (fun vs H Q E h=>?_) (fun cdv A outer s H vs Q E hr h=>?_)
 ·obtain ⟨rfl,_⟩:=h
  rfl
 ·obtain ⟨rfl,q⟩:=h
  refine ⟨_,pss_cons (ps_if (pt_cmpR op_eq (pv 0) (pe_glob (by rfl) mb (v:=.str "begin") ⟨_,rfl⟩) (nomark _)) pss_never pss_nil)
   (pss_one (ps_ret (pe_or (pv 1) (pe_one (pe_cmpR op_notIn_seq (pv 0) (pe_tup (pa_cons (pe_glob (by rfl) mc (v:=.str "commit") ⟨_,rfl⟩) (pa_cons (pe_glob (by rfl) mr (v:=.str "rollback") ⟨_,rfl⟩) (pa_cons (pe_glob (by rfl) mt (v:=.str "rollback to") ⟨_,rfl⟩) (pa_cons (pe_glob (by rfl) ms (v:=.str "savepoint") ⟨_,rfl⟩) pa_nil))))) (by rfl)))))),?_⟩
  refine ⟨_,rfl,rfl,_,rfl,iteN (by decide +kernel) ?_⟩
  refine ⟨_,rfl,_,rfl,iteF ⟨_,rfl,by show 4 ≤ sizeLine; decide,fun t ht=>?_⟩⟩
  refine ⟨t,_,rfl,.inr (SqT.of upd_same),rfl,rfl,?_⟩
  have e:(!inV (V.str "insert") [.str "commit",.str "rollback",.str "rollback to",.str "savepoint"]) = true:=by decide +kernel
  simp only [if_true]
  rw [e]
  exact q _ (same_upd ht)
theorem sc_find_wrong_names:FnScope ["statement","state","marks","kind","missing_table","columns","changed"] ["statement","state","marks"] (defScope s_find_wrong_names):=⟨rfl,rfl,rfl,by decide +kernel,rfl,by decide +kernel,by decide +kernel⟩
theorem ok_find_wrong_names0 {f CS fS:Addr} {fd:FuncData} (F:Fun K "find_wrong_names" "find_wrong_names" s_find_wrong_names f fd) (T:TxJ K mg) (TS:TxS K mg CS fS) (GT:FnS P w K mg base 1 "tell_missing" ["named","known"] spTell0) :
  FnOk P w K mg base CX0 2 f fd ["statement","state","marks"] (spWrong0 CS):=by
 obtain ⟨fT,fdT,mT,kT,GT,bT⟩:=GT.ex
 obtain ⟨t1,mc⟩:=T.create
 obtain ⟨t2,mt⟩:=T.rollbackTo
 obtain ⟨t3,ms⟩:=T.savepoint
 refine F.ok sc_find_wrong_names (fun vs H Q E h=>?_) (fun cdv A outer s H vs Q E hr h=>?_)
 ·obtain ⟨y,d,H0,sm,z,n,rfl,_⟩:=h
  rfl
 ·obtain ⟨y,d,H0,sm,z,n,rfl,hS,hk,htg,hd,q⟩:=h
  obtain ⟨y',ta,co,ex,ch,wh,od,e,⟨_,dx,hy⟩,hT,_⟩:=hS
  cases e
  rw [htg] at hT
  obtain ⟨t,rfl,ht⟩:=hT
  rw [hk] at hy
  refine ⟨_,pss_cons (ps_set (i:=3) sc_find_wrong_names.nd rfl (Or.inl rfl) (pe_fld (pv 0) rfl))
   (pss_cons (ps_if (pt_cmpR op_eq (pv 3) (pe_glob (by rfl) mc (v:=.str "create table") ⟨_,rfl⟩) (nomark _)) pss_never pss_nil)
   (pss_cons (ps_if (pt_cmpR op_eq (pv 3) (pe_glob (by rfl) mt (v:=.str "rollback to") ⟨_,rfl⟩) (nomark _)) pss_never pss_nil)
   (pss_cons (ps_if (pw_or (pt_cmpR op_eq (pv 3) (pe_glob (by rfl) ms (v:=.str "savepoint") ⟨_,rfl⟩) (nomark _)) (pw_or1 (pt_cmp (pc_isN (pe_fld (pv 0) rfl))))).pt pss_never pss_nil)
   (pss_cons (ps_set (i:=4) sc_find_wrong_names.nd rfl (Or.inl rfl) (pe_call GT hr (by rfl) mT kT bT .nil pass0 (pa_cons (pe_lst (pa_cons (pe_fld (pv 0) rfl) pa_nil)) (pa_cons (pv 1) pa_nil))))
   (pss_cons (ps_if (pt_cmpR op_gt (pe_callB call_len_seq (by rfl) T.len PySem.boot_len (pa_cons (pv 4) pa_nil)) pe_int (nomark _)) (pss_one (ps_ret (pv 4))) pss_nil)
   pss_never))))),?_⟩
  refine ⟨_,rfl,y,CS,dx,_,_,rfl,hy,TS.cl,TS.nKi,rfl,?_⟩
  refine ⟨_,rfl,rfl,_,rfl,iteN (by decide +kernel) ?_⟩
  refine ⟨_,rfl,rfl,_,rfl,iteN (by decide +kernel) ?_⟩
  refine ⟨_,rfl,rfl,_,rfl,iteN (by decide +kernel) ⟨_,rfl,y,CS,dx,_,_,rfl,hy,TS.cl,TS.nTa,rfl,_,rfl,iteF ?_⟩⟩
  refine ⟨_,rfl,y,CS,dx,_,_,rfl,hy,TS.cl,TS.nTa,rfl,by show 1 ≤ sizeLine; decide,fun l hl=>?_⟩
  have s1:=same_upd (o:=.lst [.ref t]) hl
  refine ⟨_,rfl,l,t,d,z,(n:Int),rfl,upd_same,s1 _ _ ht,s1 _ _ hd,fun r u H' s2 hr' hu'=>?_⟩
  refine ⟨_,rfl,r,_,rfl,.inl (SqL.of hr'),_,_,rfl,rfl,_,rfl,iteT ⟨_,rfl,?_⟩⟩
  exact q r u H' (s1.trans s2) hr' hu'
theorem sc_find_refusal:FnScope ["statement","state","marks","wrong_names","least"] ["statement","state","marks"] (defScope s_find_refusal):=⟨rfl,rfl,rfl,by decide +kernel,rfl,by decide +kernel,by decide +kernel⟩
theorem ok_find_refusal0 {f CS fS:Addr} {fd:FuncData} (F:Fun K "find_refusal" "find_refusal" s_find_refusal f fd) (T:TxJ K mg) (TS:TxS K mg CS fS) (GF:FnS P w K mg base 1 "fits_transaction" ["kind","within"] spFitsI)
  (GW:FnS P w K mg base 2 "find_wrong_names" ["statement","state","marks"] (spWrong0 CS)):FnOk P w K mg base CX0 3 f fd ["statement","state","marks"] (spRefuse0 CS):=by
 obtain ⟨fF,fdF,mF,kF,GF,bF⟩:=GF.ex
 obtain ⟨fW,fdW,mW,kW,GW,bW⟩:=GW.ex
 refine F.ok sc_find_refusal (fun vs H Q E h=>?_) (fun cdv A outer s H vs Q E hr h=>?_)
 ·obtain ⟨y,d,H0,sm,z,n,rfl,_⟩:=h
  rfl
 ·obtain ⟨y,d,H0,sm,z,n,rfl,hS,hk,htg,hd,q⟩:=h
  obtain ⟨y',ta,co,ex,ch,wh,od,e,⟨w0,dx,hy⟩,hT,w1,w2,w3,w4,w5⟩:=id hS
  cases e
  rw [hk] at hy
  have r1:Room 1 _:=hr.mono (by omega)
  refine ⟨_,pss_cons (ps_if (pt_not (pt_val (pe_call GF r1 (by rfl) mF kF bF .nil pass0 (pa_cons (pe_fld (pv 0) rfl) (pa_cons (pe_cmp (pc_notN (pv 2))) pa_nil))))) pss_never pss_nil)
   (pss_cons (ps_set (i:=3) sc_find_refusal.nd rfl (Or.inl rfl) (pe_call GW hr (by rfl) mW kW bW .nil pass0 (pa_cons (pv 0) (pa_cons (pv 1) (pa_cons (pv 2) pa_nil)))))
   (pss_cons (ps_if (pt_cmpR op_gt (pe_callB call_len_seq (by rfl) T.len PySem.boot_len (pa_cons (pv 3) pa_nil)) pe_int (nomark _))
    (pss_cons (ps_set (i:=4) sc_find_refusal.nd rfl (Or.inl rfl) (pe_callB (call_minOne rfl) (by rfl) T.min PyProof.Rows.boot_min (pa_cons (pv 3) pa_nil)))
    (pss_one (ps_ret (pe_tup (pa_cons (pe_ix ix_tup (pv 4) pe_int (fun _ _=>rfl)) (pa_cons (pe_ix ix_tup (pv 4) pe_int (fun _ _=>rfl)) pa_nil)))))) pss_nil)
   pss_never)),?_⟩
  refine ⟨_,rfl,y,CS,dx,_,_,rfl,hy,TS.cl,TS.nKi,rfl,_,rfl,rfl,fun H1 s1=>⟨_,rfl,iteF ?_⟩⟩
  refine ⟨_,rfl,_,rfl,_,rfl,y,d,H0,sm,z,n,rfl,StmAt.keep s1 hS,hk,htg,s1 _ _ hd,fun r u H2 s2 hr2 hu2=>?_⟩
  refine ⟨_,rfl,r,_,rfl,.inl (SqL.of hr2),_,_,rfl,rfl,_,rfl,iteT ?_⟩
  refine ⟨_,rfl,r,_,rfl,SqL.of hr2,?_⟩
  refine ⟨_,rfl,u,_,_,_,rfl,rfl,SqT.of hu2,rfl,_,rfl,u,_,_,_,rfl,rfl,SqT.of hu2,rfl,by show 2 ≤ sizeLine; decide,fun v hv=>?_⟩
  exact q v _ (s1.trans (s2.trans (same_upd hv))) upd_same
theorem sc_judge:FnScope ["statement","state","marks","refusal","behind"] ["statement","state","marks"] (defScope s_judge):=⟨rfl,rfl,rfl,by decide +kernel,rfl,by decide +kernel,by decide +kernel⟩
theorem ok_judge0 {f CS CV:Addr} {fd:FuncData} (F:Fun K "judge" "judge" s_judge f fd) (VK:KlsS P w K mg base "Verdict" CV ["code","place","answer","state"] 1 ["self","code","place","answer","state"] (spVerdictI CV))
  (GR:FnS P w K mg base 3 "find_refusal" ["statement","state","marks"] (spRefuse0 CS)):FnOk P w K mg base CX0 4 f fd ["statement","state","marks"] (spJudge0 CS CV):=by
 obtain ⟨fR,fdR,mR,kR,GR,bR⟩:=GR.ex
 obtain ⟨fI,fdI,MI,GI,bI⟩:=VK.ex
 refine F.ok sc_judge (fun vs H Q E h=>?_) (fun cdv A outer s H vs Q E hr h=>?_)
 ·obtain ⟨y,d,H0,sm,z,n,rfl,_⟩:=h
  rfl
 ·obtain ⟨y,d,H0,sm,z,n,rfl,hS,hk,htg,hd,q⟩:=h
  have r2:Room 2 _:=hr.mono (by omega)
  refine ⟨_,pss_cons (ps_set (i:=3) sc_judge.nd rfl (Or.inl rfl) (pe_call GR hr (by rfl) mR kR bR .nil pass0 (pa_cons (pv 0) (pa_cons (pv 1) (pa_cons (pv 2) pa_nil)))))
   (pss_cons (ps_if (pt_cmp (pc_notN (pv 3))) (pss_one (ps_ret (pe_make MI GI r2 (by rfl) VK.gl bI .nil pass0 (pa_cons (pe_ix ix_tup (pv 3) pe_int (fun _ _=>rfl)) (pa_cons (pe_ix ix_tup (pv 3) pe_int (fun _ _=>rfl)) (pa_cons pe_int (pa_cons (pv 1) pa_nil))))))) pss_nil)
   pss_never),?_⟩
  refine ⟨_,rfl,_,rfl,_,rfl,y,d,H0,sm,z,n,rfl,hS,hk,htg,hd,fun u H1 s1 hu=>?_⟩
  refine ⟨_,rfl,_,rfl,iteT ?_⟩
  refine ⟨_,rfl,u,_,_,_,rfl,rfl,SqT.of hu,rfl,_,rfl,u,_,_,_,rfl,rfl,SqT.of hu,rfl,_,rfl,?_⟩
  intro x dx hx hdx hne
  refine ⟨x,dx,_,_,_,_,rfl,upd_same,rfl,?_⟩
  rw [upd_upd]
  exact q x dx _ (s1.trans ((same_upd hdx).trans (same_upd (by rw [upd_ne (Ne.symm hne)]; exact hx)))) upd_same
end
def repE0:RR Stm→Str × Int
 | .error e=>("language",e)
 | .ok sm=>("name",match sm.target with | some (_,n)=>(n:Int) | none=>0)
def spRun0 (Aw:V→Prop) (CB:Addr):Sp:=fun vs H Q _=>∃ (b:V) (z:Str),vs = [b,.str z]∧BaseE CB H b∧z.length ≤ 1000000∧(∀ l ∈ pieces z.length z.cps.toList,preW (mkS l))∧(seesW (wordsOf z) 0 firstV = true→Aw (lookW (wordsOf z) 0).2)∧(∀ sm,pStm (wordsOf z) = .ok sm→sm.kind = "insert"∧∃ x n,sm.target = some (.str x,n)) ∧
 ∀ t H',Same H H'→H' t = some (.tup [.str (repE0 (pStm (wordsOf z))).1,.int (repE0 (pStm (wordsOf z))).2,.int 0])→Q (.ref t) H'
section
variable {P:Program} {w:World} {K:PySem.W.Frag} {mg:Str→Option Value} {base:Heap}
structure ExC (K:PySem.W.Frag) (mg:Str→Option Value) (x:Str) (CW:Addr):Prop where
 gl:mg x = some (.ref CW)
 ty:PySem.W.typeIn K (.ref CW) = some (.type "type")
 be:PySem.W.subIn K (.ref CW) (.type "BaseException") = some true
 cl:(PySem.W.clsIn K CW).isSome = true
 self:PySem.W.subIn K (.ref CW) (.ref CW) = some true
theorem sc_run:FnScope ["base","text","statement","wrong","verdict"] ["base","text"] (defScope s_run):=⟨rfl,rfl,rfl,by decide +kernel,rfl,by decide +kernel,by decide +kernel⟩
theorem ok_run0 {Aw:V→Prop} {f C CB CS CV CW:Addr} {fd:FuncData} (F:Fun K "run" "run" s_run f fd) (XW:ExC K mg "WrongWord" CW) (YW:XCls K CW "place") (cB:Cls K CB) (nB:NoAll K CB ["store","state","marks","dead"]) (cV:Cls K CV) (nV:NoAll K CV ["code","place","answer","state"])
  (GS:FnV P w K mg base (CX2 P w) 211 "read_statement" ["text"] (spRead Aw C CW CS)) (GJ:FnS P w K mg base 4 "judge" ["statement","state","marks"] (spJudge0 CS CV)):FnOk P w K mg base CX0 212 f fd ["base","text"] (spRun0 Aw CB):=by
 obtain ⟨fS,fdS,mS,kS,GS,bS⟩:=GS.ex
 obtain ⟨fJ,fdJ,mJ,kJ,GJ,bJ⟩:=GJ.ex
 refine F.ok sc_run (fun vs H Q E h=>?_) (fun cdv A outer s H vs Q E hr h=>?_)
 ·obtain ⟨b,z,rfl,_⟩:=h
  rfl
 ·obtain ⟨b,z,rfl,hB,hz,hp,hA,hi,q⟩:=h
  obtain ⟨y,dx,d,st,rfl,hy,hd⟩:=hB
  have r4:Room 4 _:=hr.mono (by omega)
  refine ⟨_,pss_cons (ps_if (pt_val (pe_fld (pv 0) rfl)) pss_never pss_nil)
   (pss_cons (ps_tryV (C:=CW) (i:=3) (th:=fun a c o=>tRet (tTup (tCons (tC (.str "language")) (tCons (tXFld K a c o "place" (tVar 3)) (tCons (tC (.int 0)) tNil))))) sc_run.nd rfl rfl (by rfl) XW.gl XW.ty XW.be XW.cl rfl rfl
    (fun D pn E' pass=>pss_one (ps_set (i:=2) sc_run.nd rfl (Or.inl rfl) (pe_call GS hr (by rfl) mS kS bS .nil pass (pa_cons (pv 1) pa_nil))))
    (fun pn a oe c o h1 h2 h3 h4=>by exact pss_one (ps_ret (pe_tup (pa_cons pe_str (pa_cons (pe_xfld (a:=a) (oe:=oe) (c:=c) (o:=o) h1 h2 h3 h4 (pv 3)) (pa_cons pe_int pa_nil)))))))
   (pss_cons (ps_set (i:=4) sc_run.nd rfl (Or.inl rfl) (pe_call GJ r4 (by rfl) mJ kJ bJ .nil pass0 (pa_cons (pv 2) (pa_cons (pe_fld (pv 0) rfl) (pa_cons (pe_fld (pv 0) rfl) pa_nil)))))
   (pss_cons (ps_if (pt_cmpR op_ne (pe_fld (pv 4) rfl) pe_str (nomark _)) (pss_one (ps_ret (pe_tup (pa_cons (pe_fld (pv 4) rfl) (pa_cons (pe_fld (pv 4) rfl) (pa_cons pe_int pa_nil)))))) pss_nil)
   pss_never))),?_⟩
  refine ⟨_,rfl,y,CB,dx,_,_,rfl,hy,cB,nB.2.2.2.1,rfl,_,rfl,iteF ?_⟩
  refine ⟨_,rfl,z,rfl,hz,hp,hA,?_⟩
  cases hs:pStm (wordsOf z) with
  | error e =>
   rw [hs] at q
   intro dd H' s1 hd1
   refine ⟨XW.self,fun a ha=>?_⟩
   refine ⟨_,rfl,rfl,CW,dd,_,_,rfl,YW,rfl,hd1,rfl,by show 3 ≤ sizeLine; decide,fun t ht=>?_⟩
   refine q t _ (fun b o e1=>same_upd ht _ _ (s1 _ _ e1 (by simp))) upd_same
  | ok sm =>
   rw [hs] at q
   intro H1 v s1 hS
   obtain ⟨hk,x,n,ht⟩:=hi sm hs
   have e2:repE0 (.ok sm) = (("name":Str),(n:Int)):=by show (("name":Str),(match sm.target with | some (_,n)=>(n:Int) | none=>0)) = _; rw [ht]
   rw [e2] at q
   obtain ⟨yv,ev⟩:∃ yv,v = .ref yv:=by obtain ⟨yv,_,_,_,_,_,_,ev,_⟩:=hS; exact ⟨yv,ev⟩
   subst ev
   refine ⟨_,rfl,_,rfl,y,CB,dx,_,_,rfl,s1 _ _ hy,cB,nB.2.1,rfl,_,rfl,y,CB,dx,_,_,rfl,s1 _ _ hy,cB,nB.2.2.1,rfl,yv,d,H,sm,x,n,rfl,hS,hk,ht,s1 _ _ hd,fun u du H2 s2 hu=>?_⟩
   refine ⟨_,rfl,u,CV,du,_,_,rfl,hu,cV,nV.1,rfl,rfl,_,rfl,iteY (by decide +kernel) ?_⟩
   refine ⟨_,rfl,u,CV,du,_,_,rfl,hu,cV,nV.1,rfl,_,rfl,u,CV,du,_,_,rfl,hu,cV,nV.2.1,rfl,by show 3 ≤ sizeLine; decide,fun t ht=>?_⟩
   exact q t _ (s1.trans (s2.trans (same_upd ht))) upd_same
end
def readyD (n:Nat):KD.DS:=putPg (KD.newD n) 0 (headRow 1 0)
def DkE (CD Pt:Addr):EmpP:=fun _ H v=>∃ (p sl wd:Addr) (n:Nat),v = .ref p∧KD.DiskAt CD H p sl wd (readyD n)∧8 ≤ n∧TabOk H Pt lamP lamQ
def EmE (CB:Addr):EmpP:=fun _ H v=>BaseE CB H v
theorem new_cur (n:Nat) (k:Nat) (hk:k < n):(KD.newD n).cur (k:Int) = some []:=by
 unfold KD.DS.cur KD.newD
 show (match Mx.look [] (k:Int) with | some xs=>some xs | none=>((List.replicate n (some []))[(k:Int).toNat]?).join) = some []
 rw [Mx.look_nil,Int.toNat_natCast,List.getElem?_replicate,if_pos hk]
 rfl
theorem ready_cur0 (n:Nat) (h:8 ≤ n):headOf ((readyD n).cur 0) = some (1,0):=by
 have e:(readyD n).cur 0 = some (headRow 1 0):=by
  unfold KD.DS.cur readyD putPg KD.newD
  show (match Mx.look [] (0:Int) with | some xs=>some xs | none=>(((List.replicate n (some [])).set 0 (some (headRow 1 0)))[0]?).join) = some (headRow 1 0)
  rw [Mx.look_nil]
  show (((List.replicate n (some [])).set 0 (some (headRow 1 0)))[0]?).join = _
  rw [List.getElem?_set_self (by rw [List.length_replicate]; omega)]
  rfl
 rw [e]
 exact headOf_row 1 0 (by decide) (by decide) (by decide) (by decide)
theorem ready_cur1 (n:Nat) (h:8 ≤ n):headOf ((readyD n).cur 1) = none:=by
 have e:(readyD n).cur 1 = some []:=by
  unfold KD.DS.cur readyD putPg KD.newD
  show (match Mx.look [] (1:Int) with | some xs=>some xs | none=>(((List.replicate n (some [])).set 0 (some (headRow 1 0)))[1]?).join) = some []
  rw [Mx.look_nil]
  show (((List.replicate n (some [])).set 0 (some (headRow 1 0)))[1]?).join = _
  rw [List.getElem?_set_ne (by decide),List.getElem?_replicate,if_pos (by omega)]
  rfl
 rw [e]
 rfl
theorem new_headless (n:Nat) (h:8 ≤ n):headOf ((KD.newD n).cur 0) = none∧headOf ((KD.newD n).cur 1) = none:=by
 rw [show (0:Int) = ((0:Nat):Int) from rfl,show (1:Int) = ((1:Nat):Int) from rfl,new_cur n 0 (by omega),new_cur n 1 (by omega)]
 exact ⟨rfl,rfl⟩
section
variable {P:Program} {w:World} {K:PySem.W.Frag} {mg:Str→Option Value} {base:Heap}
theorem sc_format_disk:FnScope ["disk"] ["disk"] (defScope s_format_disk):=⟨rfl,rfl,rfl,by decide +kernel,rfl,by decide +kernel,by decide +kernel⟩
theorem ok_format_disk {f CD Pt:Addr} {fd:FuncData} (F:Fun K "format_disk" "format_disk" s_format_disk f fd) (GM:FnS P w K mg base 6 "make_ready" ["disk"] (spReady CD Pt)):FnOk P w K mg base CX0 7 f fd ["disk"] (spReady CD Pt):=by
 obtain ⟨fM,fdM,mM,kM,GM,bM⟩:=GM.ex
 refine F.ok sc_format_disk (fun vs H Q E h=>?_) (fun cdv A outer s H vs Q E hr h=>?_)
 ·obtain ⟨p,sl,wd,d,rfl,_⟩:=h
  rfl
 ·obtain ⟨p,sl,wd,d,rfl,h⟩:=h
  exact ⟨_,pss_one (ps_expr (pe_call GM hr (by rfl) mM kM bM .nil pass0 (pa_cons (pv 0) pa_nil))),⟨_,rfl,p,sl,wd,d,rfl,h⟩⟩
theorem sc_law_new:FnScope ["_law_pages","_law_disk"] ["_law_pages"] (defScope s_law_new):=⟨rfl,rfl,rfl,by decide +kernel,rfl,by decide +kernel,by decide +kernel⟩
def spNewN (CD Pt:Addr):Sp:=fun vs H Q _=>∃ n:Nat,vs = [.int n]∧8 ≤ n∧n ≤ 4000∧TabOk H Pt lamP lamQ∧∀ p sl wd H',H p = none→H sl = none→H wd = none→SameT H H'→TabOk H' Pt lamP lamQ→KD.DiskAt CD H' p sl wd (readyD n)→Q (.ref p) H'
theorem ok_law_new {f CD Pt:Addr} {fd:FuncData} (F:Fun K "_law_new" "_law_new" s_law_new f fd) (GF:FnS P w K mg base 7 "format_disk" ["disk"] (spReady CD Pt)) (mD:mg "Disk" = some (.ref CD)) {fI:Addr} {fdI:FuncData} (MI:Mk K CD fI) (GI:FnOk P w K mg base CX0 1 fI fdI ["self","pages"] (KD.spInit CD)) (bI:Binds K fdI ["self","pages"] []) :
  FnOk P w K mg base CX0 8 f fd ["_law_pages"] (spNewN CD Pt):=by
 obtain ⟨fF,fdF,mF,kF,GF,bF⟩:=GF.ex
 refine F.ok sc_law_new (fun vs H Q E h=>?_) (fun cdv A outer s H vs Q E hr h=>?_)
 ·obtain ⟨n,rfl,_⟩:=h
  rfl
 ·obtain ⟨n,rfl,h8,h4,hT,q⟩:=h
  have r2:Room 2 _:=hr.mono (by omega)
  refine ⟨_,pss_cons (ps_set (i:=1) sc_law_new.nd rfl (Or.inl rfl) (pe_make MI GI r2 (by rfl) mD bI .nil pass0 (pa_cons (pv 0) pa_nil)))
   (pss_cons (ps_expr (pe_call GF hr (by rfl) mF kF bF .nil pass0 (pa_cons (pv 1) pa_nil))) (pss_one (ps_ret (pv 1)))),?_⟩
  refine ⟨_,rfl,?_⟩
  intro x dx hx hdx hne
  have s0:Same H (upd (upd H dx (.own x)) x (.ins CD dx [])):=(same_upd hdx).trans (same_upd (by rw [upd_ne (Ne.symm hne)]; exact hx))
  refine ⟨x,dx,n,rfl,upd_same,h4,fun sl wd H1 hsl hwd st D1=>⟨rfl,?_⟩⟩
  have s1:Same H H1:=fun b o e=>st b o (s0 b o e) (by simpa using ne_of_none e hx)
  have nsl:H sl = none:=by
   cases e:H sl with
   | none=>rfl
   | some o=>rw [s0 _ _ e] at hsl; cases hsl
  have nwd:H wd = none:=by
   cases e:H wd with
   | none=>rfl
   | some o=>rw [s0 _ _ e] at hwd; cases hwd
  refine ⟨_,rfl,x,sl,wd,KD.newD n,rfl,D1,⟨rfl,rfl⟩,rfl,?_,(new_headless n h8).1,(new_headless n h8).2,s1.tab hT,fun wd' H2 hw2 s2 hT2 D2=>⟨_,rfl,?_⟩⟩
  ·show 8 ≤ (List.replicate n _).length
   rw [List.length_replicate]; exact h8
  refine q x sl wd' H2 hx nsl (s1.t.none hw2) ⟨fun b o no e=>s2.o b o no (s1 b o e) fun m=>?_,fun b ps e=>s2.t b ps (s1 b _ e)⟩ hT2 D2
  rcases List.mem_cons.mp m with m | m
  ·rw [m,hx] at e; cases e
  ·rcases List.mem_cons.mp m with m | m
   ·rw [m,nsl] at e; cases e
   ·rw [List.mem_singleton.mp m,nwd] at e; cases e
theorem new_of {f CD Pt:Addr} {fd:FuncData} (G:FnOk P w K mg base CX0 8 f fd ["_law_pages"] (spNewN CD Pt)):FnOk P w K mg base CX0 218 f fd ["_law_pages"] (spNewD (fun H=>TabOk H Pt lamP lamQ) (DkE CD Pt)) :=
 (G.mono (by omega)).imp fun vs H Q E ⟨e,hT,q⟩=>⟨20,e,by decide,by decide,hT,fun p sl wd H' _ _ _ s t D=>q H' _ s ⟨p,sl,wd,20,rfl,D,by decide,t⟩⟩
theorem open_of {f CD CB Pt:Addr} {fd:FuncData} (G:FnOk P w K mg base CX0 7 f fd ["disk"] (spOpen0 CD CB Pt)):FnOk P w K mg base CX0 217 f fd ["disk"] (spOpenD (DkE CD Pt) (EmE CB)) :=
 (G.mono (by omega)).imp fun vs H Q E ⟨H0,v,e,⟨p,sl,wd,n,ev,D,h8,hT⟩,s0,q⟩=>⟨p,sl,wd,readyD n,1,by rw [e,ev],D,by
  show 8 ≤ ((List.replicate n (some [])).set _ _).length
  rw [List.length_set,List.length_replicate]; exact h8,ready_cur0 n h8,ready_cur1 n h8,hT,fun v H' s t B=>q H' v (s0.trans s) B⟩
theorem rep_eq (r:RR Stm):repE0 r = repE r:=by cases r <;> rfl
theorem run_of {f CB:Addr} {fd:FuncData} (G:FnOk P w K mg base CX0 212 f fd ["base","text"] (spRun0 (fun v=>v = .str "insert") CB)):FnOk P w K mg base CX0 217 f fd ["base","text"] (spRunE (EmE CB)) :=
 (G.mono (by omega)).imp fun vs H Q E ⟨H0,b,z,e,hB,s0,hz,hp,hA,hi,q⟩=>⟨b,z,e,hB,hz,hp,hA,hi,fun t H' s ht=>q t H' (s0.trans s.t) (by rw [← rep_eq]; exact ht)⟩
end
theorem keep_of {K:PySem.W.Frag} {f:Addr} {oc:Value} {od:Option Addr} {fd:FuncData} {sl:Array (Option Value)} (h:K.lookup f = some ⟨oc,od,.func fd,sl⟩):PySem.W.keepIn K (.ref f) = true:=by
 unfold PySem.W.keepIn
 dsimp only
 rw [h]
theorem isFn_of {K:PySem.W.Frag} {f:Addr} {od:Option Addr} {fd:FuncData} {sl:Array (Option Value)} (h:K.lookup f = some ⟨.type "function",od,.func fd,sl⟩):PySem.W.isFn K (.ref f) = true:=by
 unfold PySem.W.isFn PySem.W.typeIn
 dsimp only
 rw [h]
 rfl
structure GFn (K:PySem.W.Frag) (g x q:Str) (st:Stmt) (f:Addr):Prop where
 ns:PySem.W.nsIn K mainGlobals g = some (some (.ref f))
 ex:∃ (oc:Value) (od:Option Addr) (kV doc pm:Value) (an:Option Addr) (cdv ct:Value) (sl:Array (Option Value)),K.lookup f = some ⟨oc,od,.func (PySem.W.fnOf x q (defArgs st) (defBody st) (defScope st) .none kV doc pm an cdv ct),sl⟩∧PySem.W.codeIn K cdv q = true
structure GFnC (K:PySem.W.Frag) (g x q:Str) (st:Stmt) (f c:Addr):Prop where
 ns:PySem.W.nsIn K mainGlobals g = some (some (.ref f))
 ex:∃ (oc:Value) (od:Option Addr) (kV doc pm:Value) (an:Option Addr) (ct:Value) (sl:Array (Option Value)),K.lookup f = some ⟨oc,od,.func (PySem.W.fnOf x q (defArgs st) (defBody st) (defScope st) .none kV doc pm an (.ref c) ct),sl⟩∧PySem.W.codeIn K (.ref c) q = true
structure MFn (K:PySem.W.Frag) (C:Addr) (m q:Str) (st:Stmt) (f:Addr):Prop where
 at_:PySem.W.findIn K (.ref C) m = some (some (.ref f))
 ex:∃ (od:Option Addr) (kV doc pm:Value) (an:Option Addr) (cdv ct:Value) (sl:Array (Option Value)),K.lookup f = some ⟨.type "function",od,.func (PySem.W.fnOf m q (defArgs st) (defBody st) (defScope st) .none kV doc pm an cdv ct),sl⟩∧PySem.W.codeIn K cdv q = true
section
variable {K:PySem.W.Frag} {g x q m:Str} {st:Stmt} {f c C:Addr} {ps:List Str}
theorem GFn.get (h:GFn K g x q st f) (hb:∀ (kV doc pm:Value) (an:Option Addr) (cdv ct:Value) (us:List Value),us.length = ps.length→bindArgs (PySem.W.fnOf x q (defArgs st) (defBody st) (defScope st) .none kV doc pm an cdv ct) ⟨us,[]⟩ = pure (ps.zip us)) :
  ∃ fd,Fun K x q st f fd∧Binds K fd ps []:=by
 obtain ⟨oc,od,kV,doc,pm,an,cdv,ct,sl,l,c⟩:=h.ex
 have F:=fun_mk l c (keep_of l)
 exact ⟨_,F,F.binds hb⟩
theorem GFnC.get (h:GFnC K g x q st f c) (hb:∀ (kV doc pm:Value) (an:Option Addr) (cdv ct:Value) (us:List Value),us.length = ps.length→bindArgs (PySem.W.fnOf x q (defArgs st) (defBody st) (defScope st) .none kV doc pm an cdv ct) ⟨us,[]⟩ = pure (ps.zip us)) :
  ∃ fd,Fun K x q st f fd∧Binds K fd ps []∧fd.code = .ref c:=by
 obtain ⟨oc,od,kV,doc,pm,an,ct,sl,l,c⟩:=h.ex
 have F:=fun_mk l c (keep_of l)
 exact ⟨_,F,F.binds hb,rfl⟩
theorem MFn.get (h:MFn K C m q st f) (hb:∀ (kV doc pm:Value) (an:Option Addr) (cdv ct:Value) (us:List Value),us.length = ps.length→bindArgs (PySem.W.fnOf m q (defArgs st) (defBody st) (defScope st) .none kV doc pm an cdv ct) ⟨us,[]⟩ = pure (ps.zip us)) :
  ∃ fd,Fun K m q st f fd∧Binds K fd ps []:=by
 obtain ⟨od,kV,doc,pm,an,cdv,ct,sl,l,c⟩:=h.ex
 have F:=fun_mk l c (keep_of l)
 exact ⟨_,F,F.binds hb⟩
theorem MFn.fn (h:MFn K C m q st f):PySem.W.isFn K (.ref f) = true:=by
 obtain ⟨_,_,_,_,_,_,_,_,l,_⟩:=h.ex
 exact isFn_of l
theorem MFn.meth (h:MFn K C m q st f):Meth K C m f:=by
 obtain ⟨_,_,_,_,_,_,_,_,l,_⟩:=h.ex
 exact ⟨h.at_,isFn_of l,keep_of l⟩
theorem MFn.mk_ {C:Addr} (h:MFn K C "__init__" q st f) (mk:PySem.W.makesIn K C = true) (kc:PySem.W.keepIn K (.ref C) = true):Mk K C f:=⟨mk,h.at_,h.fn,kc⟩
end
def NsS (K:PySem.W.Frag) (x z:Str):Prop:=∃ t,PySem.W.nsIn K mainGlobals x = some (some (.str z t))
def NsI (K:PySem.W.Frag) (x:Str) (i:Int):Prop:=∃ t,PySem.W.nsIn K mainGlobals x = some (some (.int i t))
def NsN (K:PySem.W.Frag) (x:Str):Prop:=PySem.W.nsIn K mainGlobals x = some none
def NsT (K:PySem.W.Frag) (x:Str) (xs:List V):Prop:=∃ (a:Addr) (od:Option Addr) (its:Array Value) (n:Nat) (sl:Array (Option Value)),PySem.W.nsIn K mainGlobals x = some (some (.ref a))∧K.lookup a = some ⟨.type "tuple",od,.seq its n,sl⟩∧Vals xs its.toList∧its.size ≤ sizeLine
section
variable {K:PySem.W.Frag} {h:Heap} {mg:Str→Option Value} {x z:Str} {i:Int} {xs:List V}
theorem NsS.gs (s:NsS K x z) (X:K.In h) (G:h.Ns mainGlobals mg):GS mg x z:=let ⟨t,e⟩:=s; ⟨t,PySem.W.mg_of X G e⟩
theorem NsI.gi (s:NsI K x i) (X:K.In h) (G:h.Ns mainGlobals mg):GI mg x i:=let ⟨t,e⟩:=s; ⟨t,PySem.W.mg_of X G e⟩
theorem NsN.none (s:NsN K x) (X:K.In h) (G:h.Ns mainGlobals mg):mg x = none:=PySem.W.mg_none_of X G s
theorem NsT.gt (s:NsT K x xs) (X:K.In h) (G:h.Ns mainGlobals mg):GT K mg x xs:=let ⟨a,od,its,n,sl,e,l,v,z⟩:=s; ⟨a,PySem.W.mg_of X G e,fun H=>.inr ⟨_,its,n,l,rfl,rfl,z,v⟩⟩
end
section
variable {P:Program} {w:World} {K:PySem.W.Frag} {mg:Str→Option Value} {base:Heap} {k:Nat} {f C:Addr} {fd:FuncData} {x m:Str} {ps:List Str} {sp:Sp} {CX:CXT}
theorem mk_S (h:mg x = some (.ref f)) (kp:PySem.W.keepIn K (.ref f) = true) (G:FnOk P w K mg base CX0 k f fd ps sp) (b:Binds K fd ps []):FnS P w K mg base k x ps sp:=⟨f,fd,h,kp,G,b⟩
theorem mk_V (h:mg x = some (.ref f)) (kp:PySem.W.keepIn K (.ref f) = true) (G:FnOk P w K mg base CX k f fd ps sp) (b:Binds K fd ps []):FnV P w K mg base CX k x ps sp:=⟨f,fd,h,kp,G,b⟩
theorem mk_M (h:Meth K C m f) (G:FnOk P w K mg base CX k f fd ps sp) (b:Binds K fd ps []):MtS P w K mg base CX C k m ps sp:=⟨f,fd,h,G,b⟩
end
theorem keys10:([.inr "create",.inr "drop",.inr "insert",.inr "update",.inr "delete",.inr "select",.inr "begin",.inr "commit",.inr "rollback",.inr "savepoint"]:List Key).Nodup:=by decide +kernel
structure TopF (w:World) (K:PySem.W.Frag):Prop where
 z_len:NsN K "len"
 z_all:NsN K "all"
 z_int:NsN K "int"
 s_NAME:NsS K "NAME" "name"
 s_KEPT:NsS K "KEPT" "kept"
 s_NUMBER_words:NsS K "NUMBER_words" "number"
 s_TEXT_words:NsS K "TEXT_words" "text"
 s_SIGN:NsS K "SIGN" "sign"
 s_WRONG:NsS K "WRONG" "wrong"
 s_QUOTE:NsS K "QUOTE" "'"
 i_MOST_FIGURES:NsI K "MOST_FIGURES" 30
 t_KEPT_WORDS:NsT K "KEPT_WORDS" (keptV)
 t_LONG_SIGNS:NsT K "LONG_SIGNS" (longV)
 t_SHORT_SIGNS:NsT K "SHORT_SIGNS" (shortV)
 t_BETWEEN_WORDS:NsT K "BETWEEN_WORDS" ([.str " ",.str "\n"])
 h_is_letter:GFn K "is_letter" "is_letter" "is_letter" s_is_letter 185
 h_is_figure:GFn K "is_figure" "is_figure" "is_figure" s_is_figure 192
 h_is_name_sign:GFn K "is_name_sign" "is_name_sign" "is_name_sign" s_is_name_sign 178
 h_skip_blanks:GFn K "skip_blanks" "skip_blanks" "skip_blanks" s_skip_blanks 131
 h_skip_name_signs:GFn K "skip_name_signs" "skip_name_signs" "skip_name_signs" s_skip_name_signs 145
 h_find_text_end:GFn K "find_text_end" "find_text_end" "find_text_end" s_find_text_end 152
 h_find_end:GFn K "find_end" "find_end" "find_end" s_find_end 138
 h_make_number:GFn K "make_number" "make_number" "make_number" s_make_number 164
 h_make_text:GFn K "make_text" "make_text" "make_text" s_make_text 171
 h_make_word:GFn K "make_word" "make_word" "make_word" s_make_word 159
 h_split_words:GFn K "split_words" "split_words" "split_words" s_split_words 124
 g_LedgerError:PySem.W.nsIn K mainGlobals "LedgerError" = some (some (.ref 31))
 g_WrongWord:PySem.W.nsIn K mainGlobals "WrongWord" = some (some (.ref 87))
 h_WrongWord_init:MFn K 87 "__init__" "WrongWord.__init__" s_WrongWord_init 84
 bi:BaseI K 31 "ValueError.__init__"
 exW:excI K 87 VE "ValueError.__new__" 84 = true
 vc:VCls K 87 "place"
 kpW:PySem.W.keepIn K (.ref 87) = true
 xc:XCls K 87 "place"
 tyW:PySem.W.typeIn K (.ref 87) = some (.type "type")
 beW:PySem.W.subIn K (.ref 87) (.type "BaseException") = some true
 clW:∃ kd,PySem.W.clsIn K 87 = some kd
 sfW:PySem.W.subIn K (.ref 87) (.ref 87) = some true
 g_Reader:PySem.W.nsIn K mainGlobals "Reader" = some (some (.ref 301))
 cl_Reader:Cls K 301
 no_Reader:NoAll K 301 ["words","passed","within"]
 mk_Reader:PySem.W.makesIn K 301 = true
 kc_Reader:PySem.W.keepIn K (.ref 301) = true
 z_list:NsN K "list"
 s_END:NsS K "END" "end"
 i_MOST_WITHIN:NsI K "MOST_WITHIN" 24
 h_Reader_look:MFn K 301 "look" "Reader.look" s_Reader_look 242
 h_Reader_sees:MFn K 301 "sees" "Reader.sees" s_Reader_sees 249
 h_Reader_take:MFn K 301 "take" "Reader.take" s_Reader_take 256
 h_Reader_take_if:MFn K 301 "take_if" "Reader.take_if" s_Reader_take_if 263
 h_Reader_leave:MFn K 301 "leave" "Reader.leave" s_Reader_leave 298
 h_Reader_refuse:MFn K 301 "refuse" "Reader.refuse" s_Reader_refuse 235
 h_Reader_take_all:MFn K 301 "take_all" "Reader.take_all" s_Reader_take_all 270
 h_Reader_take_kind:MFn K 301 "take_kind" "Reader.take_kind" s_Reader_take_kind 277
 h_Reader_take_name:MFn K 301 "take_name" "Reader.take_name" s_Reader_take_name 284
 h_Reader_enter:MFn K 301 "enter" "Reader.enter" s_Reader_enter 291
 s_ONE:NsS K "ONE" "one"
 s_TWO:NsS K "TWO" "two"
 s_VALUE:NsS K "VALUE" "value"
 s_COLUMN:NsS K "COLUMN" "column"
 t_COMPARING_SIGNS:NsT K "COMPARING_SIGNS" (cmpV)
 h_read_last:GFn K "read_last" "read_last" "read_last" s_read_last 488
 h_read_minus:GFn K "read_minus" "read_minus" "read_minus" s_read_minus 467
 h_read_product:GFn K "read_product" "read_product" "read_product" s_read_product 460
 h_read_sum:GFn K "read_sum" "read_sum" "read_sum" s_read_sum 453
 h_read_comparison:GFn K "read_comparison" "read_comparison" "read_comparison" s_read_comparison 446
 h_read_not:GFn K "read_not" "read_not" "read_not" s_read_not 439
 h_read_and:GFn K "read_and" "read_and" "read_and" s_read_and 432
 h_read_or:GFn K "read_or" "read_or" "read_or" s_read_or 425
 h_enter_all:GFn K "enter_all" "enter_all" "enter_all" s_enter_all 474
 h_leave_all:GFn K "leave_all" "leave_all" "leave_all" s_leave_all 481
 h_read_expression:GFn K "read_expression" "read_expression" "read_expression" s_read_expression 418
 h_read_list:GFn K "read_list" "read_list" "read_list" s_read_list 404
 g_Statement:PySem.W.nsIn K mainGlobals "Statement" = some (some (.ref 210))
 cl_Statement:Cls K 210
 no_Statement:NoAll K 210 ["kind","target","columns","expressions","changes","where","order","desc","limit"]
 mk_Statement:PySem.W.makesIn K 210 = true
 kc_Statement:PySem.W.keepIn K (.ref 210) = true
 h_Statement_init:MFn K 210 "__init__" "Statement.__init__" s_Statement_init 207
 h_read_insert:GFn K "read_insert" "read_insert" "read_insert" s_read_insert 340
 s_INSERT:NsS K "INSERT" "insert"
 sr:∃ (es:Array DictEntry) (ep:Nat),PySem.W.nsIn K mainGlobals "STATEMENT_READERS" = some (some (.ref 397))∧K.lookup 397 = some ⟨.type "dict",none,.dict es ep,#[]⟩∧SEs w.params es.toList [(.inr "create",.ref 319),(.inr "drop",.ref 333),(.inr "insert",.ref 340),(.inr "update",.ref 347),(.inr "delete",.ref 361),(.inr "select",.ref 368),(.inr "begin",.ref 375),(.inr "commit",.ref 382),(.inr "rollback",.ref 389),(.inr "savepoint",.ref 396)]
 h_Reader_init:MFn K 301 "__init__" "Reader.__init__" s_Reader_init 228
 h_read_statement:GFn K "read_statement" "read_statement" "read_statement" s_read_statement 312
 g_Disk:PySem.W.nsIn K mainGlobals "Disk" = some (some (.ref 1081))
 cl_Disk:Cls K 1081
 no_Disk:NoAll K 1081 ["fuel","dead","done","sure","waiting"]
 mk_Disk:PySem.W.makesIn K 1081 = true
 kc_Disk:PySem.W.keepIn K (.ref 1081) = true
 g_NoPage:PySem.W.nsIn K mainGlobals "NoPage" = some (some (.ref 56))
 ex_NoPage:PySem.W.excIn K 56 KD.VE "ValueError.__new__" = true
 g_Dead:PySem.W.nsIn K mainGlobals "Dead" = some (some (.ref 44))
 ex_Dead:PySem.W.excIn K 44 KD.VE "ValueError.__new__" = true
 z_range:NsN K "range"
 z_tuple:NsN K "tuple"
 i_MOST_NUMBERS:NsI K "MOST_NUMBERS" 40
 i_LARGEST_NUMBER:NsI K "LARGEST_NUMBER" 255
 h_page_takes:GFn K "page_takes" "page_takes" "page_takes" s_page_takes 1003
 h_Disk_size:MFn K 1081 "size" "Disk.size" s_Disk_size 1029
 h_Disk_check_page:MFn K 1081 "check_page" "Disk.check_page" s_Disk_check_page 1071
 h_Disk_spend:MFn K 1081 "spend" "Disk.spend" s_Disk_spend 1078
 h_Disk_read:MFn K 1081 "read" "Disk.read" s_Disk_read 1036
 h_Disk_write:MFn K 1081 "write" "Disk.write" s_Disk_write 1043
 h_Disk_sync:MFn K 1081 "sync" "Disk.sync" s_Disk_sync 1050
 h_Disk_init:MFn K 1081 "__init__" "Disk.__init__" s_Disk_init 1015
 z_reversed:NsN K "reversed"
 i_BASE:NsI K "BASE" 256
 z_max:NsN K "max"
 t_HEADS:NsT K "HEADS" ([.int 0,.int 1])
 t_HEAD_BEGIN:NsT K "HEAD_BEGIN" (headB.map V.int)
 i_TURN_WIDTH:NsI K "TURN_WIDTH" 8
 i_PAGE_WIDTH:NsI K "PAGE_WIDTH" 3
 i_NO_PAGE:NsI K "NO_PAGE" 0
 i_FEWEST_PAGES:NsI K "FEWEST_PAGES" 8
 h_write_digits:GFn K "write_digits" "write_digits" "write_digits" s_write_digits 908
 h_read_digits:GFn K "read_digits" "read_digits" "read_digits" s_read_digits 915
 g_Head:PySem.W.nsIn K mainGlobals "Head" = some (some (.ref 1104))
 cl_Head:Cls K 1104
 no_Head:NoAll K 1104 ["place","turn","first"]
 mk_Head:PySem.W.makesIn K 1104 = true
 kc_Head:PySem.W.keepIn K (.ref 1104) = true
 h_Head_init:MFn K 1104 "__init__" "Head.__init__" s_Head_init 1101
 h_read_head:GFn K "read_head" "read_head" "read_head" s_read_head 1176
 h_find_head:GFnC K "find_head" "find_head" "find_head" s_find_head 1169 1168
 hC:PySem.W.codeHdIn K 1168 1166 = true
 h_next_head:GFn K "next_head" "next_head" "next_head" s_next_head 1183
 h_put_head:GFn K "put_head" "put_head" "put_head" s_put_head 1190
 h_check_size:GFn K "check_size" "check_size" "check_size" s_check_size 1164
 h_make_ready:GFn K "make_ready" "make_ready" "make_ready" s_make_ready 1136
 g_Tape:PySem.W.nsIn K mainGlobals "Tape" = some (some (.ref 897))
 cl_Tape:Cls K 897
 no_Tape:NoAll K 897 ["numbers","passed"]
 mk_Tape:PySem.W.makesIn K 897 = true
 kc_Tape:PySem.W.keepIn K (.ref 897) = true
 h_Tape_init:MFn K 897 "__init__" "Tape.__init__" s_Tape_init 873
 h_Tape_has_more:MFn K 897 "has_more" "Tape.has_more" s_Tape_has_more 880
 h_read_state:GFn K "read_state" "read_state" "read_state" s_read_state 929
 g_Store:PySem.W.nsIn K mainGlobals "Store" = some (some (.ref 1125))
 cl_Store:Cls K 1125
 no_Store:NoAll K 1125 ["disk","head","pages","numbers","kept"]
 mk_Store:PySem.W.makesIn K 1125 = true
 kc_Store:PySem.W.keepIn K (.ref 1125) = true
 h_Store_init:MFn K 1125 "__init__" "Store.__init__" s_Store_init 1122
 h_find_store:GFn K "find_store" "find_store" "find_store" s_find_store 1143
 g_Base:PySem.W.nsIn K mainGlobals "Base" = some (some (.ref 1225))
 cl_Base:Cls K 1225
 no_Base:NoAll K 1225 ["store","state","marks","dead"]
 mk_Base:PySem.W.makesIn K 1225 = true
 kc_Base:PySem.W.keepIn K (.ref 1225) = true
 h_Base_init:MFn K 1225 "__init__" "Base.__init__" s_Base_init 1222
 h_open_base:GFn K "open_base" "open_base" "open_base" s_open_base 1243
 h_format_disk:GFn K "format_disk" "format_disk" "format_disk" s_format_disk 1236
 z_min:NsN K "min"
 s_CREATE:NsS K "CREATE" "create table"
 s_BEGIN:NsS K "BEGIN" "begin"
 s_COMMIT:NsS K "COMMIT" "commit"
 s_ROLLBACK:NsS K "ROLLBACK" "rollback"
 s_ROLLBACK_TO:NsS K "ROLLBACK_TO" "rollback to"
 s_SAVEPOINT:NsS K "SAVEPOINT" "savepoint"
 h_tell_missing:GFn K "tell_missing" "tell_missing" "tell_missing" s_tell_missing 802
 h_fits_transaction:GFn K "fits_transaction" "fits_transaction" "fits_transaction" s_fits_transaction 787
 h_find_wrong_names:GFn K "find_wrong_names" "find_wrong_names" "find_wrong_names" s_find_wrong_names 792
 h_find_refusal:GFn K "find_refusal" "find_refusal" "find_refusal" s_find_refusal 780
 g_Verdict:PySem.W.nsIn K mainGlobals "Verdict" = some (some (.ref 762))
 cl_Verdict:Cls K 762
 no_Verdict:NoAll K 762 ["code","place","answer","state"]
 mk_Verdict:PySem.W.makesIn K 762 = true
 kc_Verdict:PySem.W.keepIn K (.ref 762) = true
 h_Verdict_init:MFn K 762 "__init__" "Verdict.__init__" s_Verdict_init 759
 h_judge:GFn K "judge" "judge" "judge" s_judge 773
 h_run:GFn K "run" "run" "run" s_run 1250
 z_isinstance:NsN K "isinstance"
 z_bool:NsN K "bool"
 z_str:NsN K "str"
 h_law_cell:GFn K "_law_cell" "_law_cell" "_law_cell" s_law_cell 1278
 h_law_mix:GFn K "_law_mix" "_law_mix" "_law_mix" s_law_mix 1285
 h_law_whole:GFn K "_law_whole" "_law_whole" "_law_whole" s_law_whole 1292
 h_law_answer:GFn K "_law_answer" "_law_answer" "_law_answer" s_law_answer 1309
 h_law_reply:GFn K "_law_reply" "_law_reply" "_law_reply" s_law_reply 1316
 h_law_new:GFn K "_law_new" "_law_new" "_law_new" s_law_new 1323
 h_law:GFn K "law" "law" "law" s_law 1330
theorem all_mk {l:PySem.W.OpenLaw} {w:World} {K:PySem.W.Frag} {h:Heap} {mg:Str→Option Value} {fa:Addr} (X:K.In h) (G:h.Ns mainGlobals mg) (hfa:mg "law" = some (.ref fa)) (Tp:TopF w K)
  : ∃ fd:FuncData,(∀ (s:Shared) (v:Value),BindsTo s fd ⟨[v],[]⟩ [("_law_script",v)])∧∀ base:Heap,K.In base→base.Ns mainGlobals mg→BmOk mg base→FnOk l.prog w K mg base CX0 219 fa fd ["_law_script"] (spLaw12 K (fun H=>TabOk H 1166 lamP lamQ)):=by
 obtain ⟨z_len,z_all,z_int,s_NAME,s_KEPT,s_NUMBER_words,s_TEXT_words,s_SIGN,s_WRONG,s_QUOTE,i_MOST_FIGURES,t_KEPT_WORDS,t_LONG_SIGNS,t_SHORT_SIGNS,t_BETWEEN_WORDS,h_is_letter,h_is_figure,h_is_name_sign,h_skip_blanks,h_skip_name_signs,h_find_text_end,h_find_end,h_make_number,h_make_text,h_make_word,h_split_words,g_LedgerError,g_WrongWord,h_WrongWord_init,bi,exW,vc,kpW,xc,tyW,beW,clW,sfW,g_Reader,cl_Reader,no_Reader,mk_Reader,kc_Reader,z_list,s_END,i_MOST_WITHIN,h_Reader_look,h_Reader_sees,h_Reader_take,h_Reader_take_if,h_Reader_leave,h_Reader_refuse,h_Reader_take_all,h_Reader_take_kind,h_Reader_take_name,h_Reader_enter,s_ONE,s_TWO,s_VALUE,s_COLUMN,t_COMPARING_SIGNS,h_read_last,h_read_minus,h_read_product,h_read_sum,h_read_comparison,h_read_not,h_read_and,h_read_or,h_enter_all,h_leave_all,h_read_expression,h_read_list,g_Statement,cl_Statement,no_Statement,mk_Statement,kc_Statement,h_Statement_init,h_read_insert,s_INSERT,sr,h_Reader_init,h_read_statement,g_Disk,cl_Disk,no_Disk,mk_Disk,kc_Disk,g_NoPage,ex_NoPage,g_Dead,ex_Dead,z_range,z_tuple,i_MOST_NUMBERS,i_LARGEST_NUMBER,h_page_takes,h_Disk_size,h_Disk_check_page,h_Disk_spend,h_Disk_read,h_Disk_write,h_Disk_sync,h_Disk_init,z_reversed,i_BASE,z_max,t_HEADS,t_HEAD_BEGIN,i_TURN_WIDTH,i_PAGE_WIDTH,i_NO_PAGE,i_FEWEST_PAGES,h_write_digits,h_read_digits,g_Head,cl_Head,no_Head,mk_Head,kc_Head,h_Head_init,h_read_head,h_find_head,hC,h_next_head,h_put_head,h_check_size,h_make_ready,g_Tape,cl_Tape,no_Tape,mk_Tape,kc_Tape,h_Tape_init,h_Tape_has_more,h_read_state,g_Store,cl_Store,no_Store,mk_Store,kc_Store,h_Store_init,h_find_store,g_Base,cl_Base,no_Base,mk_Base,kc_Base,h_Base_init,h_open_base,h_format_disk,z_min,s_CREATE,s_BEGIN,s_COMMIT,s_ROLLBACK,s_ROLLBACK_TO,s_SAVEPOINT,h_tell_missing,h_fits_transaction,h_find_wrong_names,h_find_refusal,g_Verdict,cl_Verdict,no_Verdict,mk_Verdict,kc_Verdict,h_Verdict_init,h_judge,h_run,z_isinstance,z_bool,z_str,h_law_cell,h_law_mix,h_law_whole,h_law_answer,h_law_reply,h_law_new,h_law⟩:=Tp
 have e:=hfa.symm.trans (PySem.W.mg_of X G h_law.ns)
 cases e
 obtain ⟨oc,od,kV,doc,pm,an,cdv,ct,sl,lL,cL⟩:=h_law.ex
 have F_law:=fun_mk (st:=s_law) lL cL (keep_of lL)
 refine ⟨PySem.W.fnOf "law" "law" (defArgs s_law) (defBody s_law) (defScope s_law) .none kV doc pm an cdv ct,fun s v=>.of_eq rfl,fun base _ _ bm=>?_⟩
 have TW:TxW K mg:=⟨(z_len.none X G),(z_all.none X G),(z_int.none X G),(s_NAME.gs X G),(s_KEPT.gs X G),(s_NUMBER_words.gs X G),(s_TEXT_words.gs X G),(s_SIGN.gs X G),(s_WRONG.gs X G),(s_QUOTE.gs X G),(i_MOST_FIGURES.gi X G),(t_KEPT_WORDS.gt X G),(t_LONG_SIGNS.gt X G),(t_SHORT_SIGNS.gt X G),(t_BETWEEN_WORDS.gt X G)⟩
 obtain ⟨fd_is_letter,F_is_letter,b_is_letter⟩:=h_is_letter.get (ps:=["sign"]) fun _ _ _ _ _ _ us hl=>match us,hl with | [_],_=>rfl
 have k_is_letter:=F_is_letter.kp
 have m_is_letter:=PySem.W.mg_of X G h_is_letter.ns
 have S_is_letter:=mk_S m_is_letter k_is_letter (ok_is_letter (P:=l.prog) (w:=w) (mg:=mg) (base:=base) F_is_letter) b_is_letter
 obtain ⟨fd_is_figure,F_is_figure,b_is_figure⟩:=h_is_figure.get (ps:=["sign"]) fun _ _ _ _ _ _ us hl=>match us,hl with | [_],_=>rfl
 have k_is_figure:=F_is_figure.kp
 have m_is_figure:=PySem.W.mg_of X G h_is_figure.ns
 have S_is_figure:=mk_S m_is_figure k_is_figure (ok_is_figure (P:=l.prog) (w:=w) (mg:=mg) (base:=base) F_is_figure) b_is_figure
 obtain ⟨fd_is_name_sign,F_is_name_sign,b_is_name_sign⟩:=h_is_name_sign.get (ps:=["sign"]) fun _ _ _ _ _ _ us hl=>match us,hl with | [_],_=>rfl
 have k_is_name_sign:=F_is_name_sign.kp
 have m_is_name_sign:=PySem.W.mg_of X G h_is_name_sign.ns
 have S_is_name_sign:=mk_S m_is_name_sign k_is_name_sign (ok_is_name_sign (P:=l.prog) (w:=w) (mg:=mg) (base:=base) F_is_name_sign S_is_letter S_is_figure) b_is_name_sign
 obtain ⟨fd_skip_blanks,F_skip_blanks,b_skip_blanks⟩:=h_skip_blanks.get (ps:=["text","place"]) fun _ _ _ _ _ _ us hl=>match us,hl with | [_,_],_=>rfl
 have k_skip_blanks:=F_skip_blanks.kp
 have m_skip_blanks:=PySem.W.mg_of X G h_skip_blanks.ns
 have S_skip_blanks:=mk_S m_skip_blanks k_skip_blanks (ok_skip_blanks (P:=l.prog) (w:=w) (mg:=mg) (base:=base) F_skip_blanks TW) b_skip_blanks
 obtain ⟨fd_skip_name_signs,F_skip_name_signs,b_skip_name_signs⟩:=h_skip_name_signs.get (ps:=["text","place"]) fun _ _ _ _ _ _ us hl=>match us,hl with | [_,_],_=>rfl
 have k_skip_name_signs:=F_skip_name_signs.kp
 have m_skip_name_signs:=PySem.W.mg_of X G h_skip_name_signs.ns
 have S_skip_name_signs:=mk_S m_skip_name_signs k_skip_name_signs (ok_skip_name_signs (P:=l.prog) (w:=w) (mg:=mg) (base:=base) F_skip_name_signs TW S_is_name_sign) b_skip_name_signs
 obtain ⟨fd_find_text_end,F_find_text_end,b_find_text_end⟩:=h_find_text_end.get (ps:=["text","start"]) fun _ _ _ _ _ _ us hl=>match us,hl with | [_,_],_=>rfl
 have k_find_text_end:=F_find_text_end.kp
 have m_find_text_end:=PySem.W.mg_of X G h_find_text_end.ns
 have S_find_text_end:=mk_S m_find_text_end k_find_text_end (ok_find_text_end (P:=l.prog) (w:=w) (mg:=mg) (base:=base) F_find_text_end TW) b_find_text_end
 obtain ⟨fd_find_end,F_find_end,b_find_end⟩:=h_find_end.get (ps:=["text","start"]) fun _ _ _ _ _ _ us hl=>match us,hl with | [_,_],_=>rfl
 have k_find_end:=F_find_end.kp
 have m_find_end:=PySem.W.mg_of X G h_find_end.ns
 have S_find_end:=mk_S m_find_end k_find_end (ok_find_end (P:=l.prog) (w:=w) (mg:=mg) (base:=base) F_find_end TW S_is_letter S_is_figure S_skip_name_signs S_find_text_end) b_find_end
 obtain ⟨fd_make_number,F_make_number,b_make_number⟩:=h_make_number.get (ps:=["written"]) fun _ _ _ _ _ _ us hl=>match us,hl with | [_],_=>rfl
 have k_make_number:=F_make_number.kp
 have m_make_number:=PySem.W.mg_of X G h_make_number.ns
 have S_make_number:=mk_S m_make_number k_make_number (ok_make_number (P:=l.prog) (w:=w) (mg:=mg) (base:=base) F_make_number TW S_is_figure) b_make_number
 obtain ⟨fd_make_text,F_make_text,b_make_text⟩:=h_make_text.get (ps:=["written"]) fun _ _ _ _ _ _ us hl=>match us,hl with | [_],_=>rfl
 have k_make_text:=F_make_text.kp
 have m_make_text:=PySem.W.mg_of X G h_make_text.ns
 have S_make_text:=mk_S m_make_text k_make_text (ok_make_text (P:=l.prog) (w:=w) (mg:=mg) (base:=base) F_make_text TW) b_make_text
 obtain ⟨fd_make_word,F_make_word,b_make_word⟩:=h_make_word.get (ps:=["written"]) fun _ _ _ _ _ _ us hl=>match us,hl with | [_],_=>rfl
 have k_make_word:=F_make_word.kp
 have m_make_word:=PySem.W.mg_of X G h_make_word.ns
 have S_make_word:=mk_S m_make_word k_make_word (ok_make_word (P:=l.prog) (w:=w) (mg:=mg) (base:=base) F_make_word TW S_is_letter S_is_figure S_make_number S_make_text) b_make_word
 obtain ⟨fd_split_words,F_split_words,b_split_words⟩:=h_split_words.get (ps:=["text"]) fun _ _ _ _ _ _ us hl=>match us,hl with | [_],_=>rfl
 have k_split_words:=F_split_words.kp
 have m_split_words:=PySem.W.mg_of X G h_split_words.ns
 have S_split_words:=mk_S m_split_words k_split_words (ok_split_words (P:=l.prog) (w:=w) (mg:=mg) (base:=base) F_split_words TW S_skip_blanks S_find_end S_make_word) b_split_words
 obtain ⟨fd_WrongWord_init,F_WrongWord_init,b_WrongWord_init⟩:=h_WrongWord_init.get (ps:=["self","place"]) fun _ _ _ _ _ _ us hl=>match us,hl with | [_,_],_=>rfl
 have M_WrongWord_init:=h_WrongWord_init.meth
 have TE:TxE K mg 31 87 84:=⟨PySem.W.mg_of X G g_LedgerError,PySem.W.mg_of X G g_WrongWord,bi,exW,vc,kpW,h_WrongWord_init.fn⟩
 have XW:ExC K mg "WrongWord" 87:=⟨PySem.W.mg_of X G g_WrongWord,tyW,beW,by obtain ⟨kd,e⟩:=clW; rw [e]; rfl,sfW⟩
 have GWI:=ok_WrongWord_init (P:=l.prog) (w:=w) (mg:=mg) (base:=base) F_WrongWord_init TE
 have gl_Reader:=PySem.W.mg_of X G g_Reader
 have TR:TxR K mg 301:=⟨cl_Reader,no_Reader.1,no_Reader.2.1,no_Reader.2.2.1,gl_Reader,(z_len.none X G),(z_list.none X G),(s_KEPT.gs X G),(s_SIGN.gs X G),(s_NAME.gs X G),(s_NUMBER_words.gs X G),(s_TEXT_words.gs X G),(s_END.gs X G),(i_MOST_WITHIN.gi X G)⟩
 obtain ⟨fd_Reader_look,F_Reader_look,b_Reader_look⟩:=h_Reader_look.get (ps:=["self"]) fun _ _ _ _ _ _ us hl=>match us,hl with | [_],_=>rfl
 have M_Reader_look:=h_Reader_look.meth
 have G_Reader_look:=ok_look (P:=l.prog) (w:=w) (mg:=mg) (base:=base) F_Reader_look TR
 have N_Reader_look:=mk_M M_Reader_look G_Reader_look b_Reader_look
 obtain ⟨fd_Reader_sees,F_Reader_sees,b_Reader_sees⟩:=h_Reader_sees.get (ps:=["self","choices"]) fun _ _ _ _ _ _ us hl=>match us,hl with | [_,_],_=>rfl
 have M_Reader_sees:=h_Reader_sees.meth
 have G_Reader_sees:=ok_sees (P:=l.prog) (w:=w) (mg:=mg) (base:=base) F_Reader_sees TR N_Reader_look
 have N_Reader_sees:=mk_M M_Reader_sees G_Reader_sees b_Reader_sees
 obtain ⟨fd_Reader_take,F_Reader_take,b_Reader_take⟩:=h_Reader_take.get (ps:=["self"]) fun _ _ _ _ _ _ us hl=>match us,hl with | [_],_=>rfl
 have M_Reader_take:=h_Reader_take.meth
 have G_Reader_take:=ok_take (P:=l.prog) (w:=w) (mg:=mg) (base:=base) F_Reader_take TR N_Reader_look
 have N_Reader_take:=mk_M M_Reader_take G_Reader_take b_Reader_take
 obtain ⟨fd_Reader_take_if,F_Reader_take_if,b_Reader_take_if⟩:=h_Reader_take_if.get (ps:=["self","written"]) fun _ _ _ _ _ _ us hl=>match us,hl with | [_,_],_=>rfl
 have M_Reader_take_if:=h_Reader_take_if.meth
 have G_Reader_take_if:=ok_take_if (P:=l.prog) (w:=w) (mg:=mg) (base:=base) F_Reader_take_if TR N_Reader_sees
 have N_Reader_take_if:=mk_M M_Reader_take_if G_Reader_take_if b_Reader_take_if
 obtain ⟨fd_Reader_leave,F_Reader_leave,b_Reader_leave⟩:=h_Reader_leave.get (ps:=["self","many"]) fun _ _ _ _ _ _ us hl=>match us,hl with | [_,_],_=>rfl
 have M_Reader_leave:=h_Reader_leave.meth
 have G_Reader_leave:=ok_leave (P:=l.prog) (w:=w) (mg:=mg) (base:=base) F_Reader_leave TR
 have N_Reader_leave:=mk_M M_Reader_leave G_Reader_leave b_Reader_leave
 obtain ⟨fd_Reader_refuse,F_Reader_refuse,b_Reader_refuse⟩:=h_Reader_refuse.get (ps:=["self"]) fun _ _ _ _ _ _ us hl=>match us,hl with | [_],_=>rfl
 have M_Reader_refuse:=h_Reader_refuse.meth
 have G_Reader_refuse:=ok_refuse (P:=l.prog) (w:=w) (mg:=mg) (base:=base) F_Reader_refuse TR TE GWI b_WrongWord_init
 have N_Reader_refuse:=mk_M M_Reader_refuse G_Reader_refuse b_Reader_refuse
 obtain ⟨fd_Reader_take_all,F_Reader_take_all,b_Reader_take_all⟩:=h_Reader_take_all.get (ps:=["self","expected"]) fun _ _ _ _ _ _ us hl=>match us,hl with | [_,_],_=>rfl
 have M_Reader_take_all:=h_Reader_take_all.meth
 have G_Reader_take_all:=ok_take_all (P:=l.prog) (w:=w) (mg:=mg) (base:=base) F_Reader_take_all TR N_Reader_take_if N_Reader_refuse
 have N_Reader_take_all:=mk_M M_Reader_take_all G_Reader_take_all b_Reader_take_all
 obtain ⟨fd_Reader_take_kind,F_Reader_take_kind,b_Reader_take_kind⟩:=h_Reader_take_kind.get (ps:=["self","kind"]) fun _ _ _ _ _ _ us hl=>match us,hl with | [_,_],_=>rfl
 have M_Reader_take_kind:=h_Reader_take_kind.meth
 have G_Reader_take_kind:=ok_take_kind (P:=l.prog) (w:=w) (mg:=mg) (base:=base) F_Reader_take_kind TR N_Reader_look N_Reader_take N_Reader_refuse
 have N_Reader_take_kind:=mk_M M_Reader_take_kind G_Reader_take_kind b_Reader_take_kind
 obtain ⟨fd_Reader_take_name,F_Reader_take_name,b_Reader_take_name⟩:=h_Reader_take_name.get (ps:=["self"]) fun _ _ _ _ _ _ us hl=>match us,hl with | [_],_=>rfl
 have M_Reader_take_name:=h_Reader_take_name.meth
 have G_Reader_take_name:=ok_take_name (P:=l.prog) (w:=w) (mg:=mg) (base:=base) F_Reader_take_name TR N_Reader_take_kind
 have N_Reader_take_name:=mk_M M_Reader_take_name G_Reader_take_name b_Reader_take_name
 obtain ⟨fd_Reader_enter,F_Reader_enter,b_Reader_enter⟩:=h_Reader_enter.get (ps:=["self"]) fun _ _ _ _ _ _ us hl=>match us,hl with | [_],_=>rfl
 have M_Reader_enter:=h_Reader_enter.meth
 have G_Reader_enter:=ok_enter (P:=l.prog) (w:=w) (mg:=mg) (base:=base) F_Reader_enter TR N_Reader_refuse
 have N_Reader_enter:=mk_M M_Reader_enter G_Reader_enter b_Reader_enter
 have RS:RdS l.prog w K mg base 301 87:=⟨N_Reader_look,N_Reader_sees,N_Reader_take,N_Reader_take_if,N_Reader_take_all,N_Reader_take_kind,N_Reader_take_name,N_Reader_enter,N_Reader_leave,N_Reader_refuse⟩
 have TX:TxX K mg:=⟨(s_ONE.gs X G),(s_TWO.gs X G),(s_VALUE.gs X G),(s_COLUMN.gs X G),(t_COMPARING_SIGNS.gt X G)⟩
 obtain ⟨fd_read_last,F_read_last,b_read_last⟩:=h_read_last.get (ps:=["reader","steps"]) fun _ _ _ _ _ _ us hl=>match us,hl with | [_,_],_=>rfl
 have k_read_last:=F_read_last.kp
 have m_read_last:=PySem.W.mg_of X G h_read_last.ns
 obtain ⟨fd_read_minus,F_read_minus,b_read_minus⟩:=h_read_minus.get (ps:=["reader","steps"]) fun _ _ _ _ _ _ us hl=>match us,hl with | [_,_],_=>rfl
 have k_read_minus:=F_read_minus.kp
 have m_read_minus:=PySem.W.mg_of X G h_read_minus.ns
 obtain ⟨fd_read_product,F_read_product,b_read_product⟩:=h_read_product.get (ps:=["reader","steps"]) fun _ _ _ _ _ _ us hl=>match us,hl with | [_,_],_=>rfl
 have k_read_product:=F_read_product.kp
 have m_read_product:=PySem.W.mg_of X G h_read_product.ns
 obtain ⟨fd_read_sum,F_read_sum,b_read_sum⟩:=h_read_sum.get (ps:=["reader","steps"]) fun _ _ _ _ _ _ us hl=>match us,hl with | [_,_],_=>rfl
 have k_read_sum:=F_read_sum.kp
 have m_read_sum:=PySem.W.mg_of X G h_read_sum.ns
 obtain ⟨fd_read_comparison,F_read_comparison,b_read_comparison⟩:=h_read_comparison.get (ps:=["reader","steps"]) fun _ _ _ _ _ _ us hl=>match us,hl with | [_,_],_=>rfl
 have k_read_comparison:=F_read_comparison.kp
 have m_read_comparison:=PySem.W.mg_of X G h_read_comparison.ns
 obtain ⟨fd_read_not,F_read_not,b_read_not⟩:=h_read_not.get (ps:=["reader","steps"]) fun _ _ _ _ _ _ us hl=>match us,hl with | [_,_],_=>rfl
 have k_read_not:=F_read_not.kp
 have m_read_not:=PySem.W.mg_of X G h_read_not.ns
 obtain ⟨fd_read_and,F_read_and,b_read_and⟩:=h_read_and.get (ps:=["reader","steps"]) fun _ _ _ _ _ _ us hl=>match us,hl with | [_,_],_=>rfl
 have k_read_and:=F_read_and.kp
 have m_read_and:=PySem.W.mg_of X G h_read_and.ns
 obtain ⟨fd_read_or,F_read_or,b_read_or⟩:=h_read_or.get (ps:=["reader","steps"]) fun _ _ _ _ _ _ us hl=>match us,hl with | [_,_],_=>rfl
 have k_read_or:=F_read_or.kp
 have m_read_or:=PySem.W.mg_of X G h_read_or.ns
 obtain ⟨fd_enter_all,F_enter_all,b_enter_all⟩:=h_enter_all.get (ps:=["reader","written"]) fun _ _ _ _ _ _ us hl=>match us,hl with | [_,_],_=>rfl
 have k_enter_all:=F_enter_all.kp
 have m_enter_all:=PySem.W.mg_of X G h_enter_all.ns
 obtain ⟨fd_leave_all,F_leave_all,b_leave_all⟩:=h_leave_all.get (ps:=["reader","steps","many","operator"]) fun _ _ _ _ _ _ us hl=>match us,hl with | [_,_,_,_],_=>rfl
 have k_leave_all:=F_leave_all.kp
 have m_leave_all:=PySem.W.mg_of X G h_leave_all.ns
 obtain ⟨fd_read_expression,F_read_expression,b_read_expression⟩:=h_read_expression.get (ps:=["reader"]) fun _ _ _ _ _ _ us hl=>match us,hl with | [_],_=>rfl
 have k_read_expression:=F_read_expression.kp
 have m_read_expression:=PySem.W.mg_of X G h_read_expression.ns
 have FX:FxE K mg:=⟨⟨_,_,m_read_last,F_read_last,b_read_last⟩,⟨_,_,m_read_minus,F_read_minus,b_read_minus⟩,⟨_,_,m_read_product,F_read_product,b_read_product⟩,⟨_,_,m_read_sum,F_read_sum,b_read_sum⟩,⟨_,_,m_read_comparison,F_read_comparison,b_read_comparison⟩,⟨_,_,m_read_not,F_read_not,b_read_not⟩,⟨_,_,m_read_and,F_read_and,b_read_and⟩,⟨_,_,m_read_or,F_read_or,b_read_or⟩,⟨_,_,m_enter_all,F_enter_all,b_enter_all⟩,⟨_,_,m_leave_all,F_leave_all,b_leave_all⟩,⟨_,_,m_read_expression,F_read_expression,b_read_expression⟩⟩
 have GO:FnV l.prog w K mg base (CX2 l.prog w) 206 "read_or" ["reader","steps"] (spExp 87 301 (pOr 25) 25):=exp_all TR TX RS FX 25
 have GX0:=ok_read_expression (P:=l.prog) (w:=w) (mg:=mg) (base:=base) F_read_expression GO
 have V_read_expression:=mk_V m_read_expression k_read_expression GX0 b_read_expression
 obtain ⟨fd_read_list,F_read_list,b_read_list⟩:=h_read_list.get (ps:=["reader","read_one"]) fun _ _ _ _ _ _ us hl=>match us,hl with | [_,_],_=>rfl
 have k_read_list:=F_read_list.kp
 have m_read_list:=PySem.W.mg_of X G h_read_list.ns
 have gl_Statement:=PySem.W.mg_of X G g_Statement
 obtain ⟨fd_Statement_init,F_Statement_init,b_Statement_init⟩:=h_Statement_init.get (ps:=["self","kind","target"]) fun _ _ _ _ _ _ us hl=>match us,hl with | [_,_,_],_=>rfl
 have M_Statement_init:=h_Statement_init.meth
 have TS:TxS K mg 210 207:=⟨cl_Statement,no_Statement.1,no_Statement.2.1,no_Statement.2.2.1,no_Statement.2.2.2.1,no_Statement.2.2.2.2.1,no_Statement.2.2.2.2.2.1,no_Statement.2.2.2.2.2.2.1,no_Statement.2.2.2.2.2.2.2.1,no_Statement.2.2.2.2.2.2.2.2.1,gl_Statement,h_Statement_init.mk_ mk_Statement kc_Statement⟩
 have lsE:=mk_V m_read_list k_read_list (ok_read_list (ps:=[]) F_read_list TR RS (by decide) k_read_expression GX0 b_read_expression goes_exp stab_exp) b_read_list
 have U0:RdT0 l.prog w K mg base 301 87 210 207 418:=⟨⟨_,ok_Statement_init F_Statement_init TS,b_Statement_init⟩,m_read_expression,lsE⟩
 obtain ⟨fd_read_insert,F_read_insert,b_read_insert⟩:=h_read_insert.get (ps:=["reader"]) fun _ _ _ _ _ _ us hl=>match us,hl with | [_],_=>rfl
 have k_read_insert:=F_read_insert.kp
 have m_read_insert:=PySem.W.mg_of X G h_read_insert.ns
 have T_insert:=ok_read_insert (P:=l.prog) (w:=w) (mg:=mg) (base:=base) F_read_insert TR TS RS U0 (s_INSERT.gs X G)
 have N10:Rd10 (fun v=>v = .str "insert") l.prog w K mg base 301 87 210 (fun i=>[319,333,340,347,361,368,375,382,389,396].getD i.val 0):=by
  obtain ⟨es,ep,n1,l1,s1⟩:=sr
  refine ⟨⟨397,PySem.W.mg_of X G n1,sd_mk l1 s1 keys10 (by show 10 ≤ sizeLine; decide) (by decide)⟩,fun i g hA e=>?_⟩
  match i,hA,e with
  | ⟨0,_⟩,hA,e=>exact absurd (show (fun v=>v = .str "insert") (firstV.getD 0 .non) from hA) (by decide +kernel)
  | ⟨1,_⟩,hA,e=>exact absurd (show (fun v=>v = .str "insert") (firstV.getD 1 .non) from hA) (by decide +kernel)
  | ⟨2,_⟩,_,e=>cases e; exact ⟨_,T_insert,k_read_insert,b_read_insert⟩
  | ⟨3,_⟩,hA,e=>exact absurd (show (fun v=>v = .str "insert") (firstV.getD 3 .non) from hA) (by decide +kernel)
  | ⟨4,_⟩,hA,e=>exact absurd (show (fun v=>v = .str "insert") (firstV.getD 4 .non) from hA) (by decide +kernel)
  | ⟨5,_⟩,hA,e=>exact absurd (show (fun v=>v = .str "insert") (firstV.getD 5 .non) from hA) (by decide +kernel)
  | ⟨6,_⟩,hA,e=>exact absurd (show (fun v=>v = .str "insert") (firstV.getD 6 .non) from hA) (by decide +kernel)
  | ⟨7,_⟩,hA,e=>exact absurd (show (fun v=>v = .str "insert") (firstV.getD 7 .non) from hA) (by decide +kernel)
  | ⟨8,_⟩,hA,e=>exact absurd (show (fun v=>v = .str "insert") (firstV.getD 8 .non) from hA) (by decide +kernel)
  | ⟨9,_⟩,hA,e=>exact absurd (show (fun v=>v = .str "insert") (firstV.getD 9 .non) from hA) (by decide +kernel)
 obtain ⟨fd_Reader_init,F_Reader_init,b_Reader_init⟩:=h_Reader_init.get (ps:=["self","words"]) fun _ _ _ _ _ _ us hl=>match us,hl with | [_,_],_=>rfl
 have M_Reader_init:=h_Reader_init.meth
 have GRI:=ok_Reader_init (P:=l.prog) (w:=w) (mg:=mg) (base:=base) F_Reader_init TR
 obtain ⟨fd_read_statement,F_read_statement,b_read_statement⟩:=h_read_statement.get (ps:=["text"]) fun _ _ _ _ _ _ us hl=>match us,hl with | [_],_=>rfl
 have k_read_statement:=F_read_statement.kp
 have m_read_statement:=PySem.W.mg_of X G h_read_statement.ns
 have V_read_statement:=mk_V m_read_statement k_read_statement (ok_read_statement (P:=l.prog) (w:=w) (mg:=mg) (base:=base) F_read_statement TR RS (h_Reader_init.mk_ mk_Reader kc_Reader) GRI b_Reader_init S_split_words N10) b_read_statement
 have gl_Disk:=PySem.W.mg_of X G g_Disk
 have TD:KD.Txt K mg 1081 56 44:=⟨cl_Disk,no_Disk.1,no_Disk.2.1,no_Disk.2.2.1,no_Disk.2.2.2.1,no_Disk.2.2.2.2.1,gl_Disk,PySem.W.mg_of X G g_NoPage,PySem.W.mg_of X G g_Dead,ex_NoPage,ex_Dead,(z_len.none X G),(z_all.none X G),(z_range.none X G),(z_list.none X G),(z_tuple.none X G),(i_MOST_NUMBERS.gi X G),(i_LARGEST_NUMBER.gi X G)⟩
 obtain ⟨fd_page_takes,F_page_takes,b_page_takes⟩:=h_page_takes.get (ps:=["row"]) fun _ _ _ _ _ _ us hl=>match us,hl with | [_],_=>rfl
 have k_page_takes:=F_page_takes.kp
 have m_page_takes:=PySem.W.mg_of X G h_page_takes.ns
 obtain ⟨fd_Disk_size,F_Disk_size,b_Disk_size⟩:=h_Disk_size.get (ps:=["self"]) fun _ _ _ _ _ _ us hl=>match us,hl with | [_],_=>rfl
 have M_Disk_size:=h_Disk_size.meth
 have G_Disk_size:=KD.ok_size (P:=l.prog) (w:=w) (mg:=mg) (base:=base) F_Disk_size TD
 have N_Disk_size:=mk_M M_Disk_size G_Disk_size b_Disk_size
 obtain ⟨fd_Disk_check_page,F_Disk_check_page,b_Disk_check_page⟩:=h_Disk_check_page.get (ps:=["self","k"]) fun _ _ _ _ _ _ us hl=>match us,hl with | [_,_],_=>rfl
 have M_Disk_check_page:=h_Disk_check_page.meth
 have G_Disk_check_page:=KD.ok_check (P:=l.prog) (w:=w) (mg:=mg) (base:=base) F_Disk_check_page TD M_Disk_size F_Disk_size b_Disk_size
 have N_Disk_check_page:=mk_M M_Disk_check_page G_Disk_check_page b_Disk_check_page
 obtain ⟨fd_Disk_spend,F_Disk_spend,b_Disk_spend⟩:=h_Disk_spend.get (ps:=["self"]) fun _ _ _ _ _ _ us hl=>match us,hl with | [_],_=>rfl
 have M_Disk_spend:=h_Disk_spend.meth
 have G_Disk_spend:=KD.ok_spend (P:=l.prog) (w:=w) (mg:=mg) (base:=base) F_Disk_spend TD
 have N_Disk_spend:=mk_M M_Disk_spend G_Disk_spend b_Disk_spend
 obtain ⟨fd_Disk_read,F_Disk_read,b_Disk_read⟩:=h_Disk_read.get (ps:=["self","k"]) fun _ _ _ _ _ _ us hl=>match us,hl with | [_,_],_=>rfl
 have M_Disk_read:=h_Disk_read.meth
 have G_Disk_read:=KD.ok_read (P:=l.prog) (w:=w) (mg:=mg) (base:=base) F_Disk_read TD M_Disk_check_page G_Disk_check_page b_Disk_check_page
 have N_Disk_read:=mk_M M_Disk_read G_Disk_read.down1 b_Disk_read
 obtain ⟨fd_Disk_write,F_Disk_write,b_Disk_write⟩:=h_Disk_write.get (ps:=["self","k","row"]) fun _ _ _ _ _ _ us hl=>match us,hl with | [_,_,_],_=>rfl
 have M_Disk_write:=h_Disk_write.meth
 have G_Disk_write:=KD.ok_write (P:=l.prog) (w:=w) (mg:=mg) (base:=base) F_Disk_write TD M_Disk_check_page G_Disk_check_page b_Disk_check_page m_page_takes F_page_takes b_page_takes M_Disk_spend G_Disk_spend b_Disk_spend
 have N_Disk_write:=mk_M M_Disk_write G_Disk_write.down1 b_Disk_write
 obtain ⟨fd_Disk_sync,F_Disk_sync,b_Disk_sync⟩:=h_Disk_sync.get (ps:=["self"]) fun _ _ _ _ _ _ us hl=>match us,hl with | [_],_=>rfl
 have M_Disk_sync:=h_Disk_sync.meth
 have G_Disk_sync:=KD.ok_sync (P:=l.prog) (w:=w) (mg:=mg) (base:=base) F_Disk_sync TD M_Disk_spend G_Disk_spend b_Disk_spend
 have N_Disk_sync:=mk_M M_Disk_sync G_Disk_sync.down1 b_Disk_sync
 have DM:DkM l.prog w K mg base 1081 56 44:=⟨cl_Disk,no_Disk.2.1,N_Disk_size,N_Disk_read,N_Disk_write,N_Disk_sync⟩
 obtain ⟨fd_Disk_init,F_Disk_init,b_Disk_init⟩:=h_Disk_init.get (ps:=["self","pages"]) fun _ _ _ _ _ _ us hl=>match us,hl with | [_,_],_=>rfl
 have M_Disk_init:=h_Disk_init.meth
 have GDI:=KD.ok_init (P:=l.prog) (w:=w) (mg:=mg) (base:=base) F_Disk_init TD
 have TC:TxC mg:=⟨(z_range.none X G),(z_reversed.none X G),(i_BASE.gi X G)⟩
 have TSt:TxSt K mg:=⟨(z_len.none X G),(z_list.none X G),(z_max.none X G),(t_HEADS.gt X G),(t_HEAD_BEGIN.gt X G),(i_TURN_WIDTH.gi X G),(i_PAGE_WIDTH.gi X G),(i_NO_PAGE.gi X G),(i_FEWEST_PAGES.gi X G)⟩
 obtain ⟨fd_write_digits,F_write_digits,b_write_digits⟩:=h_write_digits.get (ps:=["number","width"]) fun _ _ _ _ _ _ us hl=>match us,hl with | [_,_],_=>rfl
 have k_write_digits:=F_write_digits.kp
 have m_write_digits:=PySem.W.mg_of X G h_write_digits.ns
 have S_write_digits:=mk_S m_write_digits k_write_digits (ok_write_digits (P:=l.prog) (w:=w) (mg:=mg) (base:=base) F_write_digits TC) b_write_digits
 obtain ⟨fd_read_digits,F_read_digits,b_read_digits⟩:=h_read_digits.get (ps:=["digits"]) fun _ _ _ _ _ _ us hl=>match us,hl with | [_],_=>rfl
 have k_read_digits:=F_read_digits.kp
 have m_read_digits:=PySem.W.mg_of X G h_read_digits.ns
 have S_read_digits:=mk_S m_read_digits k_read_digits (ok_read_digits (P:=l.prog) (w:=w) (mg:=mg) (base:=base) F_read_digits TC) b_read_digits
 have gl_Head:=PySem.W.mg_of X G g_Head
 obtain ⟨fd_Head_init,F_Head_init,b_Head_init⟩:=h_Head_init.get (ps:=["self","place","turn","first"]) fun _ _ _ _ _ _ us hl=>match us,hl with | [_,_,_,_],_=>rfl
 have M_Head_init:=h_Head_init.meth
 have G_Head_init:=ok_Head_init (P:=l.prog) (w:=w) (mg:=mg) (base:=base) F_Head_init cl_Head no_Head
 have K_Head:KlsS l.prog w K mg base "Head" 1104 _ _ _ _:=⟨cl_Head,no_Head,gl_Head,_,fd_Head_init,h_Head_init.mk_ mk_Head kc_Head,G_Head_init,b_Head_init⟩
 obtain ⟨fd_read_head,F_read_head,b_read_head⟩:=h_read_head.get (ps:=["disk","place"]) fun _ _ _ _ _ _ us hl=>match us,hl with | [_,_],_=>rfl
 have k_read_head:=F_read_head.kp
 have m_read_head:=PySem.W.mg_of X G h_read_head.ns
 have S_read_head:=mk_S m_read_head k_read_head (ok_read_head (P:=l.prog) (w:=w) (mg:=mg) (base:=base) F_read_head TSt DM S_read_digits K_Head) b_read_head
 obtain ⟨fd_find_head,F_find_head,b_find_head,c_find_head⟩:=h_find_head.get (ps:=["disk"]) fun _ _ _ _ _ _ us hl=>match us,hl with | [_],_=>rfl
 have k_find_head:=F_find_head.kp
 have m_find_head:=PySem.W.mg_of X G h_find_head.ns
 have S_find_head:=mk_S m_find_head k_find_head (ok_find_head (P:=l.prog) (w:=w) (mg:=mg) (base:=base) F_find_head c_find_head hC bm TSt cl_Head no_Head.2.1 S_read_head) b_find_head
 obtain ⟨fd_next_head,F_next_head,b_next_head⟩:=h_next_head.get (ps:=["head","first"]) fun _ _ _ _ _ _ us hl=>match us,hl with | [_,_],_=>rfl
 have k_next_head:=F_next_head.kp
 have m_next_head:=PySem.W.mg_of X G h_next_head.ns
 have S_next_head:=mk_S m_next_head k_next_head (ok_next_head (P:=l.prog) (w:=w) (mg:=mg) (base:=base) F_next_head TSt K_Head) b_next_head
 obtain ⟨fd_put_head,F_put_head,b_put_head⟩:=h_put_head.get (ps:=["disk","head"]) fun _ _ _ _ _ _ us hl=>match us,hl with | [_,_],_=>rfl
 have k_put_head:=F_put_head.kp
 have m_put_head:=PySem.W.mg_of X G h_put_head.ns
 have S_put_head:=mk_S m_put_head k_put_head (ok_put_head (P:=l.prog) (w:=w) (mg:=mg) (base:=base) F_put_head TSt DM cl_Head no_Head S_write_digits) b_put_head
 obtain ⟨fd_check_size,F_check_size,b_check_size⟩:=h_check_size.get (ps:=["disk"]) fun _ _ _ _ _ _ us hl=>match us,hl with | [_],_=>rfl
 have k_check_size:=F_check_size.kp
 have m_check_size:=PySem.W.mg_of X G h_check_size.ns
 have S_check_size:=mk_S m_check_size k_check_size (ok_check_size (P:=l.prog) (w:=w) (mg:=mg) (base:=base) F_check_size TSt DM) b_check_size
 obtain ⟨fd_make_ready,F_make_ready,b_make_ready⟩:=h_make_ready.get (ps:=["disk"]) fun _ _ _ _ _ _ us hl=>match us,hl with | [_],_=>rfl
 have k_make_ready:=F_make_ready.kp
 have m_make_ready:=PySem.W.mg_of X G h_make_ready.ns
 have S_make_ready:=mk_S m_make_ready k_make_ready (ok_make_ready (P:=l.prog) (w:=w) (mg:=mg) (base:=base) F_make_ready TSt S_check_size S_find_head S_next_head S_put_head) b_make_ready
 have gl_Tape:=PySem.W.mg_of X G g_Tape
 obtain ⟨fd_Tape_init,F_Tape_init,b_Tape_init⟩:=h_Tape_init.get (ps:=["self","numbers"]) fun _ _ _ _ _ _ us hl=>match us,hl with | [_,_],_=>rfl
 have M_Tape_init:=h_Tape_init.meth
 have G_Tape_init:=ok_Tape_init (P:=l.prog) (w:=w) (mg:=mg) (base:=base) F_Tape_init cl_Tape no_Tape
 have K_Tape:KlsS l.prog w K mg base "Tape" 897 _ _ _ _:=⟨cl_Tape,no_Tape,gl_Tape,_,fd_Tape_init,h_Tape_init.mk_ mk_Tape kc_Tape,G_Tape_init,b_Tape_init⟩
 obtain ⟨fd_Tape_has_more,F_Tape_has_more,b_Tape_has_more⟩:=h_Tape_has_more.get (ps:=["self"]) fun _ _ _ _ _ _ us hl=>match us,hl with | [_],_=>rfl
 have M_Tape_has_more:=h_Tape_has_more.meth
 have G_Tape_has_more:=ok_has_more0 (P:=l.prog) (w:=w) (mg:=mg) (base:=base) F_Tape_has_more cl_Tape no_Tape (z_len.none X G)
 have N_Tape_has_more:=mk_M M_Tape_has_more G_Tape_has_more b_Tape_has_more
 obtain ⟨fd_read_state,F_read_state,b_read_state⟩:=h_read_state.get (ps:=["numbers"]) fun _ _ _ _ _ _ us hl=>match us,hl with | [_],_=>rfl
 have k_read_state:=F_read_state.kp
 have m_read_state:=PySem.W.mg_of X G h_read_state.ns
 have S_read_state:=mk_S m_read_state k_read_state (ok_read_state0 (P:=l.prog) (w:=w) (mg:=mg) (base:=base) F_read_state K_Tape N_Tape_has_more) b_read_state
 have gl_Store:=PySem.W.mg_of X G g_Store
 obtain ⟨fd_Store_init,F_Store_init,b_Store_init⟩:=h_Store_init.get (ps:=["self","disk","head","pages","numbers"]) fun _ _ _ _ _ _ us hl=>match us,hl with | [_,_,_,_,_],_=>rfl
 have M_Store_init:=h_Store_init.meth
 have G_Store_init:=ok_Store_init0 (P:=l.prog) (w:=w) (mg:=mg) (base:=base) F_Store_init cl_Store no_Store S_read_state
 have K_Store:KlsS l.prog w K mg base "Store" 1125 _ _ _ _:=⟨cl_Store,no_Store,gl_Store,_,fd_Store_init,h_Store_init.mk_ mk_Store kc_Store,G_Store_init,b_Store_init⟩
 obtain ⟨fd_find_store,F_find_store,b_find_store⟩:=h_find_store.get (ps:=["disk"]) fun _ _ _ _ _ _ us hl=>match us,hl with | [_],_=>rfl
 have k_find_store:=F_find_store.kp
 have m_find_store:=PySem.W.mg_of X G h_find_store.ns
 have S_find_store:=mk_S m_find_store k_find_store (ok_find_store0 (P:=l.prog) (w:=w) (mg:=mg) (base:=base) F_find_store TSt cl_Head no_Head S_check_size S_find_head K_Store) b_find_store
 have gl_Base:=PySem.W.mg_of X G g_Base
 obtain ⟨fd_Base_init,F_Base_init,b_Base_init⟩:=h_Base_init.get (ps:=["self","store"]) fun _ _ _ _ _ _ us hl=>match us,hl with | [_,_],_=>rfl
 have M_Base_init:=h_Base_init.meth
 have G_Base_init:=ok_Base_init (P:=l.prog) (w:=w) (mg:=mg) (base:=base) F_Base_init cl_Base no_Base cl_Store no_Store.2.2.2.2.1
 have K_Base:KlsS l.prog w K mg base "Base" 1225 _ _ _ _:=⟨cl_Base,no_Base,gl_Base,_,fd_Base_init,h_Base_init.mk_ mk_Base kc_Base,G_Base_init,b_Base_init⟩
 obtain ⟨fd_open_base,F_open_base,b_open_base⟩:=h_open_base.get (ps:=["disk"]) fun _ _ _ _ _ _ us hl=>match us,hl with | [_],_=>rfl
 have k_open_base:=F_open_base.kp
 have m_open_base:=PySem.W.mg_of X G h_open_base.ns
 have S_open:=mk_S m_open_base k_open_base (open_of (ok_open_base0 (P:=l.prog) (w:=w) (mg:=mg) (base:=base) F_open_base S_find_store K_Base)) b_open_base
 obtain ⟨fd_format_disk,F_format_disk,b_format_disk⟩:=h_format_disk.get (ps:=["disk"]) fun _ _ _ _ _ _ us hl=>match us,hl with | [_],_=>rfl
 have k_format_disk:=F_format_disk.kp
 have m_format_disk:=PySem.W.mg_of X G h_format_disk.ns
 have S_format_disk:=mk_S m_format_disk k_format_disk (ok_format_disk (P:=l.prog) (w:=w) (mg:=mg) (base:=base) F_format_disk S_make_ready) b_format_disk
 have TJ:TxJ K mg:=⟨(z_len.none X G),(z_min.none X G),(s_CREATE.gs X G),(s_INSERT.gs X G),(s_BEGIN.gs X G),(s_COMMIT.gs X G),(s_ROLLBACK.gs X G),(s_ROLLBACK_TO.gs X G),(s_SAVEPOINT.gs X G)⟩
 obtain ⟨fd_tell_missing,F_tell_missing,b_tell_missing⟩:=h_tell_missing.get (ps:=["named","known"]) fun _ _ _ _ _ _ us hl=>match us,hl with | [_,_],_=>rfl
 have k_tell_missing:=F_tell_missing.kp
 have m_tell_missing:=PySem.W.mg_of X G h_tell_missing.ns
 have S_tell_missing:=mk_S m_tell_missing k_tell_missing (ok_tell_missing0 (P:=l.prog) (w:=w) (mg:=mg) (base:=base) F_tell_missing) b_tell_missing
 obtain ⟨fd_fits_transaction,F_fits_transaction,b_fits_transaction⟩:=h_fits_transaction.get (ps:=["kind","within"]) fun _ _ _ _ _ _ us hl=>match us,hl with | [_,_],_=>rfl
 have k_fits_transaction:=F_fits_transaction.kp
 have m_fits_transaction:=PySem.W.mg_of X G h_fits_transaction.ns
 have S_fits_transaction:=mk_S m_fits_transaction k_fits_transaction (ok_fits_transactionI (P:=l.prog) (w:=w) (mg:=mg) (base:=base) F_fits_transaction TJ) b_fits_transaction
 obtain ⟨fd_find_wrong_names,F_find_wrong_names,b_find_wrong_names⟩:=h_find_wrong_names.get (ps:=["statement","state","marks"]) fun _ _ _ _ _ _ us hl=>match us,hl with | [_,_,_],_=>rfl
 have k_find_wrong_names:=F_find_wrong_names.kp
 have m_find_wrong_names:=PySem.W.mg_of X G h_find_wrong_names.ns
 have S_find_wrong_names:=mk_S m_find_wrong_names k_find_wrong_names (ok_find_wrong_names0 (P:=l.prog) (w:=w) (mg:=mg) (base:=base) F_find_wrong_names TJ TS S_tell_missing) b_find_wrong_names
 obtain ⟨fd_find_refusal,F_find_refusal,b_find_refusal⟩:=h_find_refusal.get (ps:=["statement","state","marks"]) fun _ _ _ _ _ _ us hl=>match us,hl with | [_,_,_],_=>rfl
 have k_find_refusal:=F_find_refusal.kp
 have m_find_refusal:=PySem.W.mg_of X G h_find_refusal.ns
 have S_find_refusal:=mk_S m_find_refusal k_find_refusal (ok_find_refusal0 (P:=l.prog) (w:=w) (mg:=mg) (base:=base) F_find_refusal TJ TS S_fits_transaction S_find_wrong_names) b_find_refusal
 have gl_Verdict:=PySem.W.mg_of X G g_Verdict
 obtain ⟨fd_Verdict_init,F_Verdict_init,b_Verdict_init⟩:=h_Verdict_init.get (ps:=["self","code","place","answer","state"]) fun _ _ _ _ _ _ us hl=>match us,hl with | [_,_,_,_,_],_=>rfl
 have M_Verdict_init:=h_Verdict_init.meth
 have G_Verdict_init:=ok_Verdict_init (P:=l.prog) (w:=w) (mg:=mg) (base:=base) F_Verdict_init cl_Verdict no_Verdict
 have K_Verdict:KlsS l.prog w K mg base "Verdict" 762 _ _ _ _:=⟨cl_Verdict,no_Verdict,gl_Verdict,_,fd_Verdict_init,h_Verdict_init.mk_ mk_Verdict kc_Verdict,G_Verdict_init,b_Verdict_init⟩
 obtain ⟨fd_judge,F_judge,b_judge⟩:=h_judge.get (ps:=["statement","state","marks"]) fun _ _ _ _ _ _ us hl=>match us,hl with | [_,_,_],_=>rfl
 have k_judge:=F_judge.kp
 have m_judge:=PySem.W.mg_of X G h_judge.ns
 have S_judge:=mk_S m_judge k_judge (ok_judge0 (P:=l.prog) (w:=w) (mg:=mg) (base:=base) F_judge K_Verdict S_find_refusal) b_judge
 obtain ⟨fd_run,F_run,b_run⟩:=h_run.get (ps:=["base","text"]) fun _ _ _ _ _ _ us hl=>match us,hl with | [_,_],_=>rfl
 have k_run:=F_run.kp
 have m_run:=PySem.W.mg_of X G h_run.ns
 have S_run:=mk_S m_run k_run (run_of (ok_run0 (P:=l.prog) (w:=w) (mg:=mg) (base:=base) F_run XW xc cl_Base no_Base cl_Verdict no_Verdict V_read_statement S_judge)) b_run
 have TL:TxL mg:=⟨(z_isinstance.none X G),(z_int.none X G),(z_len.none X G),(z_bool.none X G),(z_str.none X G),(z_list.none X G),(z_tuple.none X G),(z_range.none X G)⟩
 obtain ⟨fd_law_cell,F_law_cell,b_law_cell⟩:=h_law_cell.get (ps:=["_law_script","_law_k"]) fun _ _ _ _ _ _ us hl=>match us,hl with | [_,_],_=>rfl
 have k_law_cell:=F_law_cell.kp
 have m_law_cell:=PySem.W.mg_of X G h_law_cell.ns
 have S_law_cell:=mk_S m_law_cell k_law_cell (ok_law_cell (P:=l.prog) (w:=w) (mg:=mg) (base:=base) F_law_cell TL) b_law_cell
 obtain ⟨fd_law_mix,F_law_mix,b_law_mix⟩:=h_law_mix.get (ps:=["_law_script","_law_k"]) fun _ _ _ _ _ _ us hl=>match us,hl with | [_,_],_=>rfl
 have k_law_mix:=F_law_mix.kp
 have m_law_mix:=PySem.W.mg_of X G h_law_mix.ns
 have S_law_mix:=mk_S m_law_mix k_law_mix (ok_law_mix (P:=l.prog) (w:=w) (mg:=mg) (base:=base) F_law_mix S_law_cell) b_law_mix
 obtain ⟨fd_law_whole,F_law_whole,b_law_whole⟩:=h_law_whole.get (ps:=["_law_found"]) fun _ _ _ _ _ _ us hl=>match us,hl with | [_],_=>rfl
 have k_law_whole:=F_law_whole.kp
 have m_law_whole:=PySem.W.mg_of X G h_law_whole.ns
 have S_law_whole:=mk_S m_law_whole k_law_whole (ok_law_whole (P:=l.prog) (w:=w) (mg:=mg) (base:=base) F_law_whole TL) b_law_whole
 obtain ⟨fd_law_answer,F_law_answer,b_law_answer⟩:=h_law_answer.get (ps:=["_law_found","_law_due"]) fun _ _ _ _ _ _ us hl=>match us,hl with | [_,_],_=>rfl
 have k_law_answer:=F_law_answer.kp
 have m_law_answer:=PySem.W.mg_of X G h_law_answer.ns
 have S_law_answer:=mk_S m_law_answer k_law_answer (ok_law_answerI (P:=l.prog) (w:=w) (mg:=mg) (base:=base) F_law_answer TL S_law_whole) b_law_answer
 obtain ⟨fd_law_reply,F_law_reply,b_law_reply⟩:=h_law_reply.get (ps:=["_law_found","_law_due"]) fun _ _ _ _ _ _ us hl=>match us,hl with | [_,_],_=>rfl
 have k_law_reply:=F_law_reply.kp
 have m_law_reply:=PySem.W.mg_of X G h_law_reply.ns
 have S_law_reply:=mk_S m_law_reply k_law_reply (ok_law_replyI (P:=l.prog) (w:=w) (mg:=mg) (base:=base) F_law_reply TL S_law_whole S_law_answer) b_law_reply
 obtain ⟨fd_law_new,F_law_new,b_law_new⟩:=h_law_new.get (ps:=["_law_pages"]) fun _ _ _ _ _ _ us hl=>match us,hl with | [_],_=>rfl
 have k_law_new:=F_law_new.kp
 have m_law_new:=PySem.W.mg_of X G h_law_new.ns
 have S_new:=mk_S m_law_new k_law_new (new_of (ok_law_new (P:=l.prog) (w:=w) (mg:=mg) (base:=base) F_law_new S_format_disk gl_Disk (h_Disk_init.mk_ mk_Disk kc_Disk) GDI b_Disk_init)) b_law_new
 exact ok_law (fun _ _ s t=>s.tab t) F_law TL S_law_mix S_law_reply S_new S_open S_run
theorem walk {l:PySem.W.OpenLaw} {q:Program} {loose:List Str} {XP:(Str→Option Value)→Heap→Prop} {YP:World→Heap→Prop} {d:DefRec} {K:Params→PySem.W.Frag} (hn:l.most = some 63) (hdf:d.params.defaults = [])
  (hY:∀ (w:World) (h:Heap),YP w h→(K w.params).In h) (hYP:∀ (w:World) (h:Heap),YP w h→h.get? 1166 = some (PySem.W.tabObj #[])) (hPK:∀ w:World,(K w.params).lookup 1166 = none) (hC:∀ w:World,PySem.W.codeHdIn (K w.params) 1168 1166 = true)
  (F:∀ (w:World) (mg:Str→Option Value) (fa:Addr) (h:Heap),(K w.params).In h→h.Ns mainGlobals mg→mg d.name = some (.ref fa) →
   ∃ fd:FuncData,(∀ (s:Shared) (u:Value),BindsTo s fd ⟨[u],[]⟩ [("_law_script",u)])∧∀ base:Heap,(K w.params).In base→base.Ns mainGlobals mg→BmOk mg base→FnOk l.prog w (K w.params) mg base CX0 219 fa fd ["_law_script"] (spLaw12 (K w.params) (fun H=>TabOk H 1166 lamP lamQ))) :
  PySem.W.WalkO q loose XP YP l.row.toRowW d [] (fun f vs=>PySem.call f vs) :=
 L2.walk_ofT (n:=63) (k:=219) (x := "_law_script") (c:=1168) (Pt:=1166) (CX:=fun _=>CX0) (sp:=fun w=>spLaw12 (K w.params) (fun H=>TabOk H 1166 lamP lamQ)) hn (by decide) hdf ⟨rfl,by decide,by decide⟩ hY hYP hPK hC F (fun _ _ a ns hl hO hS=>⟨a,ns,rfl,hS,hl,.inl hO.1,fun _=>rfl⟩) fun _ _ _ _ _ z=>z
end KL
open KL L2 PySem PySem.W PyProof.Rows PySem.Calls
theorem HH.tops (w:World) (h:Heap) (e:PySem.Challenge.rw_ledgerdb_k12_deep.most=some 63) (KX:(HH.K w.params).In h):KL.TopF w (L2.KOf KX):=by
 revert e KX
 k_fill
 intro e KX
 dsimp only [L2.KOf]
 constructor
 all_goals first
  | k_is
  | k_exc
  | exact ⟨_,by k_is⟩
  | (show PySem.W.nsIn _ mainGlobals _=some none; k_is)
  | exact ⟨by k_is,_,_,_,_,_,_,_,_,_,by k_is,by k_is⟩
  | exact ⟨by k_is,_,_,_,_,_,_,_,_,by k_is,by k_is⟩
  | exact ⟨by k_is,by k_is,by k_is,by k_is⟩
  | exact ⟨_,_,_,_,_,by k_is,by k_is,by repeat (first | exact .nil | refine .cons ⟨_,rfl⟩ ?_),by decide⟩
  | exact ⟨_,_,by k_is,by k_is,by repeat (first | exact .nil | refine .cons rfl ?_)⟩
  | exact ⟨by k_is,⟨_,by k_is,by rfl,by rfl⟩,by k_is⟩
  | exact ⟨by k_is,by k_is,by k_is,rfl⟩
  | exact ⟨by k_is,by k_is,by k_is,by k_is,⟨_,by k_is,by rfl⟩⟩
  | ((repeat' first | exact trivial | refine ⟨?_,?_⟩ | (show PySem.W.findIn _ _ _=some none; k_is)); done)
  | kernel_rfl
theorem PySem.Challenge.cw_ledgerdb_k12_deep_holds : PySem.Challenge.rw_ledgerdb_k12_deep.Holds := by
  refine HH.law (KL.walk (l := PySem.Challenge.rw_ledgerdb_k12_deep) (K := HH.K) rfl (by kernel_rfl) (fun w h Y => PySem.W.km_in_of Y) (fun w h Y => PySem.W.km_tabs_of Y 1166 (by simp)) (fun w => by kernel_rfl) (fun w => by kernel_rfl) fun w mg fa h KX G hmg => KL.all_mk KX G (HH.dn ▸ hmg) (HH.tops w h rfl KX))
