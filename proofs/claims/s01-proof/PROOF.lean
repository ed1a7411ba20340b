import PyProof.Rows.All
import Wide.All
import OpenK.AllK
import Wide.FinOn
import PyProof.EqAt
import PyProof.EqKinds
import PyProof.TupleCall
import KE.BitLaws
import PySem.Challenge.RW_bitmill_s01_answers
import KE.KBits
import KE.OsHead
import Open.SpecLaws
import OpenK.KMake
import PyProof.ExcArgsOwn
import PyProof.ExcAttrAll.Exception
import PyProof.ExcBaseAll.Exception
import PyProof.ExcClass3
import PyProof.ExcInit
import PyProof.InstLoad
import PyProof.InstStoreFacts
import PyProof.Rows.CatchOwn
import PyProof.RulesAs
import PyProof.StationsW
import PyRa23
import PySem.Builtin.Int.W1All
import PySem.Challenge.RW0_bitmill_s01_answers
import Ra23Spec
set_option compiler.extract_closed false
set_option Elab.async false
set_option linter.all false
set_option maxRecDepth 100000
set_option maxHeartbeats 0
namespace L2
open PySem
noncomputable def Φd (s:Stmt):Arguments:=match s with
  | .FunctionDef _ a _ _ _ _ _ _ _ _=>a
  | _=>{posonlyargs:=[],args:=[],vararg:=none,kwonlyargs:=[],kw_defaults:=[],kwarg:=none,defaults:=[]}
noncomputable def θ7 (s:Stmt):List Stmt:=match s with
  | .FunctionDef _ _ b _ _ _ _ _ _ _=>b
  | _=>[]
noncomputable def ξ (s:Stmt):Scope:=match s with
  | .FunctionDef _ _ _ _ _ _ sc _ _ _=>sc
  | _=>{kind:=.function,names:=[],isGenerator:=false,isCoroutine:=false}
noncomputable def ω1 (s:Stmt) (j:Nat):Stmt:=match s with
  | .ClassDef _ _ _ body _ _ _ _ _ _ _=>body.getD j (.Pass ⟨0,0,0,0⟩)
  | _=>.Pass ⟨0,0,0,0⟩
end L2
namespace BM
open PySem
noncomputable def top (i:Nat):Stmt:=PySem.Challenge.pw_bitmill_s01_answers.main.body.getD i (.Pass ⟨0,0,0,0⟩)
end BM
open PySem PySem.W L2
namespace BM
noncomputable abbrev zso:=Str.ofString
noncomputable abbrev zvs (x:String) (t:Nat):Value:=.str (zso x) t
noncomputable abbrev zvi (n:Int) (t:Nat):Value:=.int n t
noncomputable abbrev zr (a:Nat):Value:=.ref a
noncomputable abbrev zob (c:Value) (d:Data):Obj:=⟨c,none,d,#[]⟩
noncomputable abbrev zde (P:Params) (x:String) (t:Nat) (v:Value):DictEntry:=⟨PyData.keyHash P (zso x),zvs x t,v⟩
noncomputable abbrev zfd (st:Stmt) (n q:Str) (g:Nat) (m c:Value):FuncData:=⟨n,q,Φd st,.stmts (θ7 st),ξ st,g,[],.none,.none,.none,m,none,c,.none,0⟩
noncomputable abbrev ztu (l:List Value):Obj:=zob (.type "tuple") (.seq l.toArray 0)
noncomputable abbrev znz:Value:=zvi 0 0
noncomputable abbrev zm0:Value:=zvs "bitmill.machine" 247
noncomputable abbrev zm1:Value:=zvs "bitmill.packing" 407
noncomputable abbrev zm2:Value:=zvs "bitmill.packed" 465
noncomputable abbrev zm3:Value:=zvs "bitmill.decimals" 528
noncomputable abbrev zm4:Value:=zvs "bitmill.arithmetic" 655
noncomputable abbrev zm5:Value:=zvs "bitmill.jumps" 892
noncomputable abbrev zm6:Value:=zvs "bitmill.pairs" 949
noncomputable abbrev zm7:Value:=zvs "bitmill.single" 970
noncomputable abbrev zm8:Value:=zvs "bitmill.shifts" 1062
noncomputable abbrev zm9:Value:=zvs "bitmill.spans" 1171
noncomputable abbrev zm10:Value:=zvs "bitmill.storage" 1256
noncomputable abbrev zm11:Value:=zvs "bitmill.editing" 1371
noncomputable abbrev zm12:Value:=zvs "bitmill.texts" 1483
noncomputable abbrev zm13:Value:=zvs "bitmill.steps" 1615
noncomputable abbrev zm14:Value:=zvs "bitmill.bench" 1692
noncomputable def fo (i a t l n:Nat) (x:String) (vn:List String) (m:Value):List Obj :=
  [ztu [],zob .none (.fields #[]),ztu (vn.zipIdx.map fun p=>zvs p.1 (t+3+p.2)),ztu [],zob .none (.func (zfd (top i) (zso x) (zso x) 0 .none .none)),
   zob (.type "code") (.fields #[zvs x t,zvs x (t+1),zvs "/claim/cut.py" (t+2),zvi l 0,zvi n 0,znz,znz,zvi 3 0,zr a,.bool true,zvi 181 0,zr (a+1),.none,zr (a+2),zr (a+3),zr (a+4),zvi (t+3+vn.length:Nat) 0,zvi l 0,zvs "/claim/cut.py" (t+4+vn.length)]),
   zob (.type "function") (.func (zfd (top i) (zso x) (zso x) 3 m (zr (a+5))))]
noncomputable def oL (P:Params):List Obj:=List.flatten [[boot_o_0 P,boot_o_1 P,(zob .none (.dict #[(zde P "type.__subclasses__.Exception.0" 214 (zvi 31 0)),(zde P "type.__subclasses__.Exception.n" 215 (zvi 2 0)),(zde P "type.__subclasses__.Exception.1" 243 (zvi 51 0))] 3)),zob .none .plain,boot_o_4 P,boot_o_5 P,boot_o_6 P,boot_o_7 P,boot_o_8 P,boot_o_9 P,boot_o_10 P,(zob (.type "tuple") (.seq #[] 0)),zob .none .plain,(zob (.type "code") (.fields #[(zvs "<module>" 182),(zvs "<module>" 183),(zvs "/claim/cut.py" 184),(zvi 1 0),(zvi 0 0),(zvi 0 0),(zvi 0 0),(zvi 0 0),(zr 11),(.bool false),(zvi 181 0),(zr 12),.none,.none,.none,.none,(zvi 185 0),(zvi 1 0),(zvs "/claim/cut.py" 186)])),(⟨(.type "frame"),.none,.plain,#[(some (zr 13)),(some (zr 3)),(some (zr 3)),.none,(some (zvs "__main__" 164)),.none,(some (zr 0))]⟩:Obj),(zob (.type "tuple") (.seq #[(.type "Exception")] 0)),(zob (.type "builtin_function_or_method") (.fields #[(.builtin "type.__prepare__"),(.type "type")])),(zob (.type "dict") (.dict #[(zde P "__module__" 196 (zvs "bitmill.faults" 187)),(zde P "__qualname__" 198 (zvs "Interruption" 197)),(zde P "__firstlineno__" 200 (zvi 2 199)),(zde P "__init__" 208 (zr 28)),(zde P "__static_attributes__" 210 (zr 29))] 5)),(zob (.type "tuple") (.seq #[] 0)),(zob .none (.fields #[(zvi 4 0),(zvi 4 0),(zr 27)])),(zob (.type "code") (.fields #[(zvs "Interruption" 191),(zvs "Interruption" 192),(zvs "/claim/cut.py" 193),(zvi 2 0),(zvi 0 0),(zvi 0 0),(zvi 0 0),(zvi 0 0),(zr 18),(.bool false),(zvi 181 0),(zr 19),.none,.none,.none,.none,(zvi 194 0),(zvi 2 0),(zvs "/claim/cut.py" 195)])),(⟨(.type "frame"),.none,.plain,#[(some (zr 20)),(some (zr 3)),(some (zr 17)),.none,(some (zvs "bitmill.faults" 187)),.none,(some (zr 0))]⟩:Obj),(zob (.type "tuple") (.seq #[] 0)),(zob .none (.fields #[])),(zob (.type "tuple") (.seq #[(zvs "self" 204),(zvs "number" 205)] 0)),(zob (.type "tuple") (.seq #[] 0)),(zob .none (.func (zfd (ω1 (top 1) 0) (zso "__init__") (zso "Interruption.__init__") 0 .none .none))),(zob (.type "code") (.fields #[(zvs "__init__" 201),(zvs "Interruption.__init__" 202),(zvs "/claim/cut.py" 203),(zvi 4 0),(zvi 2 0),(zvi 0 0),(zvi 0 0),(zvi 3 0),(zr 22),(.bool true),(zvi 181 0),(zr 23),.none,(zr 24),(zr 25),(zr 26),(zvi 206 0),(zvi 4 0),(zvs "/claim/cut.py" 207)])),(zob (.type "function") (.func (zfd (ω1 (top 1) 0) (zso "__init__") (zso "Interruption.__init__") 3 (zvs "bitmill.faults" 187) (zr 27)))),(zob (.type "tuple") (.seq #[(zvs "number" 209)] 0)),(zob (.type "dict") (.dict #[(zde P "__module__" 196 (zvs "bitmill.faults" 187)),(zde P "__firstlineno__" 200 (zvi 2 199)),(zde P "__init__" 208 (zr 28)),(zde P "__static_attributes__" 210 (zr 29)),(zde P "__weakref__" 212 (zr 32)),(zde P "__doc__" 213 .none)] 3)),(⟨(.type "type"),.none,(.cls ⟨(zso "Interruption"),[(.type "Exception")],[(zr 31),(.type "Exception"),(.type "BaseException"),(.type "object")],30,(zso "Interruption"),true,[],[],false,.none,false⟩),#[(some (zr 15)),.none,(some (zvs "Interruption" 189)),(some (zvs "Interruption" 197)),(some (.builtin "Exception.__new__")),(some (.bool true))]⟩:Obj),(zob (.type "getset_descriptor") (.fields #[(zvs "__weakref__" 211),(zr 31),(.builtin "ExceptionGroup.__weakref__"),.none])),(zob (.type "super") (.fields #[(zr 31),(zr 31),(zr 31)])),(zob (.type "builtin_function_or_method") (.fields #[(.builtin "object.__init_subclass__"),(zr 31)])),(zob (.type "tuple") (.seq #[(.type "Exception")] 0)),(zob (.type "builtin_function_or_method") (.fields #[(.builtin "type.__prepare__"),(.type "type")])),(zob (.type "dict") (.dict #[(zde P "__module__" 225 (zvs "bitmill.faults" 187)),(zde P "__qualname__" 227 (zvs "SupervisorCall" 226)),(zde P "__firstlineno__" 229 (zvi 7 228)),(zde P "__init__" 237 (zr 48)),(zde P "__static_attributes__" 239 (zr 49))] 5)),(zob (.type "tuple") (.seq #[] 0)),(zob .none (.fields #[(zvi 9 0),(zvi 4 0),(zr 47)])),(zob (.type "code") (.fields #[(zvs "SupervisorCall" 220),(zvs "SupervisorCall" 221),(zvs "/claim/cut.py" 222),(zvi 7 0),(zvi 0 0),(zvi 0 0),(zvi 0 0),(zvi 0 0),(zr 38),(.bool false),(zvi 181 0),(zr 39),.none,.none,.none,.none,(zvi 223 0),(zvi 7 0),(zvs "/claim/cut.py" 224)])),(⟨(.type "frame"),.none,.plain,#[(some (zr 40)),(some (zr 3)),(some (zr 37)),.none,(some (zvs "bitmill.faults" 187)),.none,(some (zr 0))]⟩:Obj),(zob (.type "tuple") (.seq #[] 0)),(zob .none (.fields #[])),(zob (.type "tuple") (.seq #[(zvs "self" 233),(zvs "number" 234)] 0)),(zob (.type "tuple") (.seq #[] 0)),(zob .none (.func (zfd (ω1 (top 2) 0) (zso "__init__") (zso "SupervisorCall.__init__") 0 .none .none))),(zob (.type "code") (.fields #[(zvs "__init__" 230),(zvs "SupervisorCall.__init__" 231),(zvs "/claim/cut.py" 232),(zvi 9 0),(zvi 2 0),(zvi 0 0),(zvi 0 0),(zvi 3 0),(zr 42),(.bool true),(zvi 181 0),(zr 43),.none,(zr 44),(zr 45),(zr 46),(zvi 235 0),(zvi 9 0),(zvs "/claim/cut.py" 236)])),(zob (.type "function") (.func (zfd (ω1 (top 2) 0) (zso "__init__") (zso "SupervisorCall.__init__") 3 (zvs "bitmill.faults" 187) (zr 47)))),(zob (.type "tuple") (.seq #[(zvs "number" 238)] 0)),(zob (.type "dict") (.dict #[(zde P "__module__" 225 (zvs "bitmill.faults" 187)),(zde P "__firstlineno__" 229 (zvi 7 228)),(zde P "__init__" 237 (zr 48)),(zde P "__static_attributes__" 239 (zr 49)),(zde P "__weakref__" 241 (zr 52)),(zde P "__doc__" 242 .none)] 3)),(⟨(.type "type"),.none,(.cls ⟨(zso "SupervisorCall"),[(.type "Exception")],[(zr 51),(.type "Exception"),(.type "BaseException"),(.type "object")],50,(zso "SupervisorCall"),true,[],[],false,.none,false⟩),#[(some (zr 35)),.none,(some (zvs "SupervisorCall" 218)),(some (zvs "SupervisorCall" 226)),(some (.builtin "Exception.__new__")),(some (.bool true))]⟩:Obj),(zob (.type "getset_descriptor") (.fields #[(zvs "__weakref__" 240),(zr 51),(.builtin "ExceptionGroup.__weakref__"),.none])),(zob (.type "super") (.fields #[(zr 51),(zr 51),(zr 51)])),(zob (.type "builtin_function_or_method") (.fields #[(.builtin "object.__init_subclass__"),(zr 51)])),(zob (.type "tuple") (.seq #[] 0)),(zob (.type "builtin_function_or_method") (.fields #[(.builtin "type.__prepare__"),(.type "type")])),(zob (.type "dict") (.dict #[(zde P "__module__" 262 (zvs "bitmill.machine" 247)),(zde P "__qualname__" 264 (zvs "Machine" 263)),(zde P "__firstlineno__" 266 (zvi 16 265)),(zde P "__init__" 273 (zr 68)),(zde P "__static_attributes__" 280 (zr 69))] 5)),(zob (.type "tuple") (.seq #[] 0)),(zob .none (.fields #[(zvi 18 0),(zvi 4 0),(zr 67)])),(zob (.type "code") (.fields #[(zvs "Machine" 257),(zvs "Machine" 258),(zvs "/claim/cut.py" 259),(zvi 16 0),(zvi 0 0),(zvi 0 0),(zvi 0 0),(zvi 0 0),(zr 58),(.bool false),(zvi 181 0),(zr 59),.none,.none,.none,.none,(zvi 260 0),(zvi 16 0),(zvs "/claim/cut.py" 261)])),(⟨(.type "frame"),.none,.plain,#[(some (zr 60)),(some (zr 3)),(some (zr 57)),.none,(some (zvs "bitmill.machine" 247)),.none,(some (zr 0))]⟩:Obj),(zob (.type "tuple") (.seq #[] 0)),(zob .none (.fields #[])),(zob (.type "tuple") (.seq #[(zvs "self" 270)] 0)),(zob (.type "tuple") (.seq #[] 0)),(zob .none (.func (zfd (ω1 (top 7) 0) (zso "__init__") (zso "Machine.__init__") 0 .none .none))),(zob (.type "code") (.fields #[(zvs "__init__" 267),(zvs "Machine.__init__" 268),(zvs "/claim/cut.py" 269),(zvi 18 0),(zvi 1 0),(zvi 0 0),(zvi 0 0),(zvi 3 0),(zr 62),(.bool true),(zvi 181 0),(zr 63),.none,(zr 64),(zr 65),(zr 66),(zvi 271 0),(zvi 18 0),(zvs "/claim/cut.py" 272)])),(zob (.type "function") (.func (zfd (ω1 (top 7) 0) (zso "__init__") (zso "Machine.__init__") 3 (zvs "bitmill.machine" 247) (zr 67)))),(zob (.type "tuple") (.seq #[(zvs "condition" 274),(zvs "following" 275),(zvs "halves" 276),(zvs "mask" 277),(zvs "memory" 278),(zvs "registers" 279)] 0)),(zob (.type "dict") (.dict #[(zde P "__module__" 262 (zvs "bitmill.machine" 247)),(zde P "__firstlineno__" 266 (zvi 16 265)),(zde P "__init__" 273 (zr 68)),(zde P "__static_attributes__" 280 (zr 69)),(zde P "__dict__" 282 (zr 72)),(zde P "__weakref__" 284 (zr 73)),(zde P "__doc__" 285 .none)] 4)),(⟨(.type "type"),.none,(.cls ⟨(zso "Machine"),[(.type "object")],[(zr 71),(.type "object")],70,(zso "Machine"),true,[],[],false,.none,false⟩),#[.none,.none,(some (zvs "Machine" 255)),(some (zvs "Machine" 263)),(some (.builtin "object.__new__")),(some (.bool true))]⟩:Obj),(zob (.type "getset_descriptor") (.fields #[(zvs "__dict__" 281),(zr 71),(.builtin "function.__dict__"),(.builtin "function.__dict__#set")])),(zob (.type "getset_descriptor") (.fields #[(zvs "__weakref__" 283),(zr 71),(.builtin "ExceptionGroup.__weakref__"),.none])),(zob (.type "super") (.fields #[(zr 71),(zr 71),(zr 71)])),(zob (.type "builtin_function_or_method") (.fields #[(.builtin "object.__init_subclass__"),(zr 71)]))],
 fo 8 76 288 25 1 "signed" ["word"] zm0,
 fo 9 83 295 27 1 "signed_double" ["double"] zm0,
 fo 10 90 302 29 2 "order" ["first","second"] zm0,
 fo 11 97 310 33 3 "conclude" ["machine","result","fits"] zm0,
 fo 12 104 319 40 1 "need_even" ["number"] zm0,
 fo 13 111 326 43 2 "need_room" ["place","size"] zm0,
 fo 14 118 334 46 2 "need_unit" ["place","size"] zm0,
 fo 15 125 342 51 2 "half_at" ["machine","place","half"] zm0,
 fo 16 132 351 55 3 "put_half" ["machine","place","word"] zm0,
 fo 17 139 360 59 2 "word_at" ["machine","place","memory"] zm0,
 fo 18 146 369 63 3 "put_word" ["machine","place","word","memory"] zm0,
 fo 19 153 379 70 2 "pair_at" ["machine","k"] zm0,
 fo 20 160 387 73 3 "put_pair" ["machine","k","double"] zm0,
 fo 21 167 396 76 2 "place_told" ["machine","at","high","place","base"] zm0,
 fo 23 174 409 84 3 "halves_at" ["machine","place","size","halves","byte"] zm1,
 fo 24 181 420 90 3 "fitted" ["values","room","filler","missing"] zm1,
 fo 25 188 430 95 3 "put_halves" ["machine","place","halves","index"] zm1,
 fo 26 195 440 98 5 "move_before_last" ["machine","first","size","second","other","halves","last"] zm1,
 [(zob (.type "tuple") (.seq #[] 0)),(zob .none (.fields #[])),(zob .none (.func (zfd (top 27) (zso "pack") (zso "pack") 0 .none .none))),(zob (.type "code") (.fields #[(zvs "pack" 453),(zvs "pack" 454),(zvs "/claim/cut.py" 455),(zvi 102 0),(zvi 5 0),(zvi 0 0),(zvi 0 0),(zvi 3 0),(zr 202),(.bool true),(zvi 181 0),(zr 203),.none,.none,.none,(zr 204),(zvi 456 0),(zvi 102 0),(zvs "/claim/cut.py" 457)])),(zob (.type "function") (.func (zfd (top 27) (zso "pack") (zso "pack") 3 (zvs "bitmill.packing" 407) (zr 205)))),(zob (.type "tuple") (.seq #[] 0)),(zob .none (.fields #[])),(zob .none (.func (zfd (top 28) (zso "unpack") (zso "unpack") 0 .none .none))),(zob (.type "code") (.fields #[(zvs "unpack" 459),(zvs "unpack" 460),(zvs "/claim/cut.py" 461),(zvi 106 0),(zvi 5 0),(zvi 0 0),(zvi 0 0),(zvi 3 0),(zr 207),(.bool true),(zvi 181 0),(zr 208),.none,.none,.none,(zr 209),(zvi 462 0),(zvi 106 0),(zvs "/claim/cut.py" 463)])),(zob (.type "function") (.func (zfd (top 28) (zso "unpack") (zso "unpack") 3 (zvs "bitmill.packing" 407) (zr 210)))),(zob (.type "tuple") (.seq #[(zvi 10 467),(zvi 12 468),(zvi 14 469),(zvi 15 470)] 0))],
 fo 31 213 472 113 3 "magnitude_at" ["machine","place","size","last","magnitude","at","byte"] zm2,
 fo 32 220 485 124 3 "minus_at" ["machine","place","size","half"] zm2,
 fo 33 227 495 129 3 "packed_at" ["machine","place","size","magnitude"] zm2,
 fo 34 234 505 132 5 "put_packed" ["machine","place","size","magnitude","minus","last","left","at"] zm2,
 fo 35 241 519 139 1 "packed_limit" ["size","limit","more"] zm2,
 fo 37 248 530 145 4 "settle_packed" ["machine","place","size","result"] zm3,
 fo 38 255 540 153 5 "put_second" ["machine","first","size","second","other"] zm3,
 fo 39 262 551 155 5 "compare" ["machine","first","size","second","other"] zm3,
 fo 41 269 563 158 5 "add" ["machine","first","size","second","other","result"] zm3,
 fo 43 276 576 162 5 "subtract" ["machine","first","size","second","other","result"] zm3,
 fo 45 283 589 166 3 "need_zeros" ["machine","place","size","at"] zm3,
 fo 46 290 599 170 5 "multiply" ["machine","first","size","second","other","product","minus"] zm3,
 fo 48 297 613 176 5 "divide" ["machine","first","size","second","other","dividend","divisor","rest_minus","minus","room"] zm3,
 [(zob (.type "dict") (.dict #[⟨248,(zvi 248 630),(zr 261)⟩,⟨249,(zvi 249 631),(zr 268)⟩,⟨250,(zvi 250 632),(zr 275)⟩,⟨251,(zvi 251 633),(zr 282)⟩,⟨252,(zvi 252 634),(zr 296)⟩,⟨253,(zvi 253 635),(zr 303)⟩] 6))],
 fo 51 305 643 188 6 "two_numbers" ["machine","operation","size","other","first","second"] zm3,
 fo 53 312 657 204 1 "fits_word" ["number"] zm4,
 fo 54 319 664 206 3 "settle" ["machine","k","result"] zm4,
 fo 55 326 673 209 3 "make_positive" ["machine","k","x"] zm4,
 fo 56 333 682 211 3 "make_negative" ["machine","k","x"] zm4,
 fo 57 340 691 213 3 "load_and_test" ["machine","k","x"] zm4,
 fo 58 347 700 215 3 "negate" ["machine","k","x"] zm4,
 fo 59 354 709 217 3 "settle_bits" ["machine","k","result"] zm4,
 fo 60 361 718 220 3 "bits_and" ["machine","k","x"] zm4,
 fo 62 368 728 223 3 "bits_or" ["machine","k","x"] zm4,
 fo 64 375 738 226 3 "bits_exclusive" ["machine","k","x"] zm4,
 fo 66 382 748 229 3 "compare_unsigned" ["machine","k","x"] zm4,
 fo 67 389 757 231 3 "compare_signed" ["machine","k","x"] zm4,
 fo 68 396 766 233 3 "load" ["machine","k","x"] zm4,
 fo 69 403 775 235 3 "add" ["machine","k","x"] zm4,
 fo 71 410 785 238 3 "subtract" ["machine","k","x"] zm4,
 fo 73 417 795 241 3 "multiply" ["machine","k","x"] zm4,
 fo 75 424 805 245 3 "divide" ["machine","k","x","dividend","divisor","quotient"] zm4,
 fo 77 431 818 258 4 "settle_unsigned" ["machine","k","result","carry"] zm4,
 fo 78 438 828 261 3 "add_unsigned" ["machine","k","x","result"] zm4,
 fo 79 445 838 264 3 "subtract_unsigned" ["machine","k","x","result"] zm4,
 [(zob (.type "dict") (.dict #[⟨16,(zvi 16 848),(zr 332)⟩,⟨17,(zvi 17 850),(zr 339)⟩,⟨18,(zvi 18 852),(zr 346)⟩,⟨19,(zvi 19 854),(zr 353)⟩,⟨20,(zvi 20 856),(zr 367)⟩,⟨21,(zvi 21 858),(zr 388)⟩,⟨22,(zvi 22 860),(zr 374)⟩,⟨23,(zvi 23 862),(zr 381)⟩,⟨24,(zvi 24 864),(zr 402)⟩,⟨25,(zvi 25 866),(zr 395)⟩,⟨26,(zvi 26 868),(zr 409)⟩,⟨27,(zvi 27 870),(zr 416)⟩,⟨28,(zvi 28 872),(zr 423)⟩,⟨29,(zvi 29 874),(zr 430)⟩,⟨30,(zvi 30 876),(zr 444)⟩,⟨31,(zvi 31 878),(zr 451)⟩] 16))],
 fo 81 453 881 268 4 "with_number" ["machine","operation","k","x","action"] zm4,
 fo 83 460 894 274 1 "link" ["machine"] zm5,
 fo 84 467 901 276 4 "jump_with_link" ["machine","k","wanted","place"] zm5,
 fo 85 474 911 280 4 "jump_with_count" ["machine","k","wanted","place"] zm5,
 fo 86 481 921 284 4 "jump_on_condition" ["machine","k","wanted","place"] zm5,
 [(zob (.type "dict") (.dict #[⟨5,(zvi 5 931),(zr 473)⟩,⟨6,(zvi 6 932),(zr 480)⟩,⟨7,(zvi 7 933),(zr 487)⟩] 3))],
 fo 88 489 938 288 5 "jump" ["machine","operation","k","wanted","place"] zm5,
 fo 90 496 951 291 2 "set_condition_and_mask" ["machine","word"] zm6,
 fo 91 503 959 294 4 "two_registers" ["machine","operation","k","j","x"] zm6,
 fo 93 510 972 307 3 "examine_bits" ["machine","given","place","common"] zm7,
 fo 94 517 982 313 3 "move" ["machine","given","place"] zm7,
 fo 96 524 992 316 3 "settle_byte" ["machine","place","result"] zm7,
 fo 97 531 1001 319 3 "byte_and" ["machine","given","place"] zm7,
 fo 98 538 1010 321 3 "compare" ["machine","given","place"] zm7,
 fo 100 545 1020 324 3 "byte_or" ["machine","given","place"] zm7,
 fo 101 552 1029 326 3 "byte_exclusive" ["machine","given","place"] zm7,
 [(zob (.type "dict") (.dict #[⟨145,(zvi 145 1038),(zr 516)⟩,⟨146,(zvi 146 1039),(zr 523)⟩,⟨148,(zvi 148 1040),(zr 537)⟩,⟨149,(zvi 149 1041),(zr 544)⟩,⟨150,(zvi 150 1042),(zr 551)⟩,⟨151,(zvi 151 1043),(zr 558)⟩] 6))],
 fo 103 560 1051 329 4 "one_byte" ["machine","operation","given","place","action"] zm7,
 fo 105 567 1064 336 3 "right" ["machine","k","count"] zm8,
 fo 106 574 1073 338 3 "left" ["machine","k","count"] zm8,
 fo 107 581 1082 340 3 "right_signed" ["machine","k","count","result"] zm8,
 fo 108 588 1092 344 3 "left_signed" ["machine","k","count","word","exact","kept"] zm8,
 fo 109 595 1104 350 3 "pair_right" ["machine","k","count"] zm8,
 fo 110 602 1113 352 3 "pair_left" ["machine","k","count"] zm8,
 fo 111 609 1122 354 3 "pair_right_signed" ["machine","k","count","result"] zm8,
 fo 112 616 1132 358 3 "pair_left_signed" ["machine","k","count","double","exact","kept"] zm8,
 [(zob (.type "dict") (.dict #[⟨136,(zvi 136 1144),(zr 573)⟩,⟨137,(zvi 137 1145),(zr 580)⟩,⟨138,(zvi 138 1146),(zr 587)⟩,⟨139,(zvi 139 1147),(zr 594)⟩,⟨140,(zvi 140 1148),(zr 601)⟩,⟨141,(zvi 141 1149),(zr 608)⟩,⟨142,(zvi 142 1150),(zr 615)⟩,⟨143,(zvi 143 1151),(zr 622)⟩] 8))],
 fo 114 624 1161 365 4 "shift" ["machine","operation","k","place"] zm8,
 fo 116 631 1173 368 3 "step_is_above" ["machine","k","j","limit"] zm9,
 fo 117 638 1183 372 4 "jump_above" ["machine","k","j","place"] zm9,
 fo 118 645 1193 375 4 "jump_not_above" ["machine","k","j","place"] zm9,
 [(zob (.type "tuple") (.seq #[] 0)),(zob .none (.fields #[])),(zob .none (.func (zfd (top 119) (zso "registers_from") (zso "registers_from") 0 .none .none))),(zob (.type "code") (.fields #[(zvs "registers_from" 1203),(zvs "registers_from" 1204),(zvs "/claim/cut.py" 1205),(zvi 378 0),(zvi 2 0),(zvi 0 0),(zvi 0 0),(zvi 3 0),(zr 652),(.bool true),(zvi 181 0),(zr 653),.none,.none,.none,(zr 654),(zvi 1206 0),(zvi 378 0),(zvs "/claim/cut.py" 1207)])),(zob (.type "function") (.func (zfd (top 119) (zso "registers_from") (zso "registers_from") 3 (zvs "bitmill.spans" 1171) (zr 655))))],
 fo 120 657 1209 380 4 "store_many" ["machine","k","j","place","numbers","index","number"] zm9,
 fo 121 664 1222 386 4 "load_many" ["machine","k","j","place","numbers","index","number"] zm9,
 [(zob (.type "dict") (.dict #[⟨134,(zvi 134 1235),(zr 644)⟩,⟨135,(zvi 135 1236),(zr 651)⟩,⟨144,(zvi 144 1237),(zr 663)⟩,⟨152,(zvi 152 1238),(zr 670)⟩] 4))],
 fo 123 672 1244 393 5 "two_and_place" ["machine","operation","k","j","place","action"] zm9,
 fo 125 679 1258 402 3 "store_half" ["machine","k","place"] zm10,
 fo 126 686 1267 404 3 "load_place" ["machine","k","place"] zm10,
 fo 127 693 1276 406 3 "store_byte" ["machine","k","place"] zm10,
 fo 128 700 1285 409 3 "load_byte" ["machine","k","place"] zm10,
 fo 129 707 1294 412 3 "multiply_half" ["machine","k","place","product"] zm10,
 fo 130 714 1304 415 3 "store_packed" ["machine","k","place","number"] zm10,
 fo 131 721 1314 419 3 "load_packed" ["machine","k","place","number"] zm10,
 fo 132 728 1324 425 3 "store_word" ["machine","k","place"] zm10,
 [(zob (.type "dict") (.dict #[⟨64,(zvi 64 1333),(zr 685)⟩,⟨65,(zvi 65 1334),(zr 692)⟩,⟨66,(zvi 66 1335),(zr 699)⟩,⟨67,(zvi 67 1336),(zr 706)⟩,⟨76,(zvi 76 1337),(zr 713)⟩,⟨78,(zvi 78 1338),(zr 720)⟩,⟨79,(zvi 79 1339),(zr 727)⟩,⟨80,(zvi 80 1340),(zr 734)⟩] 8))],
 fo 134 736 1350 428 4 "with_word" ["machine","operation","k","place"] zm10,
 fo 135 743 1360 432 4 "one_and_memory" ["machine","operation","k","place","action"] zm10,
 [(zob (.type "tuple") (.seq #[] 0)),(zob (.type "builtin_function_or_method") (.fields #[(.builtin "type.__prepare__"),(.type "type")])),(zob (.type "dict") (.dict #[(zde P "__module__" 1386 (zvs "bitmill.editing" 1371)),(zde P "__qualname__" 1388 (zvs "Editing" 1387)),(zde P "__firstlineno__" 1390 (zvi 448 1389)),(zde P "__init__" 1400 (zr 763)),(zde P "__static_attributes__" 1409 (zr 764))] 5)),(zob (.type "tuple") (.seq #[] 0)),(zob .none (.fields #[(zvi 450 0),(zvi 4 0),(zr 762)])),(zob (.type "code") (.fields #[(zvs "Editing" 1381),(zvs "Editing" 1382),(zvs "/claim/cut.py" 1383),(zvi 448 0),(zvi 0 0),(zvi 0 0),(zvi 0 0),(zvi 0 0),(zr 753),(.bool false),(zvi 181 0),(zr 754),.none,.none,.none,.none,(zvi 1384 0),(zvi 448 0),(zvs "/claim/cut.py" 1385)])),(⟨(.type "frame"),.none,.plain,#[(some (zr 755)),(some (zr 3)),(some (zr 752)),.none,(some (zvs "bitmill.editing" 1371)),.none,(some (zr 0))]⟩:Obj),(zob (.type "tuple") (.seq #[] 0)),(zob .none (.fields #[])),(zob (.type "tuple") (.seq #[(zvs "self" 1394),(zvs "memory" 1395),(zvs "source" 1396),(zvs "filling" 1397)] 0)),(zob (.type "tuple") (.seq #[] 0)),(zob .none (.func (zfd (ω1 (top 140) 0) (zso "__init__") (zso "Editing.__init__") 0 .none .none))),(zob (.type "code") (.fields #[(zvs "__init__" 1391),(zvs "Editing.__init__" 1392),(zvs "/claim/cut.py" 1393),(zvi 450 0),(zvi 4 0),(zvi 0 0),(zvi 0 0),(zvi 3 0),(zr 757),(.bool true),(zvi 181 0),(zr 758),.none,(zr 759),(zr 760),(zr 761),(zvi 1398 0),(zvi 450 0),(zvs "/claim/cut.py" 1399)])),(zob (.type "function") (.func (zfd (ω1 (top 140) 0) (zso "__init__") (zso "Editing.__init__") 3 (zvs "bitmill.editing" 1371) (zr 762)))),(zob (.type "tuple") (.seq #[(zvs "behind_plus" 1401),(zvs "filling" 1402),(zvs "marked" 1403),(zvs "memory" 1404),(zvs "on" 1405),(zvs "only_zeros" 1406),(zvs "source" 1407),(zvs "waiting" 1408)] 0)),(zob (.type "dict") (.dict #[(zde P "__module__" 1386 (zvs "bitmill.editing" 1371)),(zde P "__firstlineno__" 1390 (zvi 448 1389)),(zde P "__init__" 1400 (zr 763)),(zde P "__static_attributes__" 1409 (zr 764)),(zde P "__dict__" 1411 (zr 767)),(zde P "__weakref__" 1413 (zr 768)),(zde P "__doc__" 1414 .none)] 4)),(⟨(.type "type"),.none,(.cls ⟨(zso "Editing"),[(.type "object")],[(zr 766),(.type "object")],765,(zso "Editing"),true,[],[],false,.none,false⟩),#[.none,.none,(some (zvs "Editing" 1379)),(some (zvs "Editing" 1387)),(some (.builtin "object.__new__")),(some (.bool true))]⟩:Obj),(zob (.type "getset_descriptor") (.fields #[(zvs "__dict__" 1410),(zr 766),(.builtin "function.__dict__"),(.builtin "function.__dict__#set")])),(zob (.type "getset_descriptor") (.fields #[(zvs "__weakref__" 1412),(zr 766),(.builtin "ExceptionGroup.__weakref__"),.none])),(zob (.type "super") (.fields #[(zr 766),(zr 766),(zr 766)])),(zob (.type "builtin_function_or_method") (.fields #[(.builtin "object.__init_subclass__"),(zr 766)]))],
 fo 141 771 1417 459 1 "take_digit" ["editing","digit","byte"] zm11,
 fo 142 778 1426 475 3 "edited_digit" ["editing","pattern","place","digit","shown"] zm11,
 fo 143 785 1437 484 4 "edited_byte" ["editing","pattern","place","is_first"] zm11,
 fo 144 792 1447 492 4 "edit_text" ["machine","size","first","second","editing","result","place","index","byte"] zm11,
 fo 145 799 1462 505 4 "edit" ["machine","size","first","second"] zm11,
 fo 146 806 1472 507 4 "edit_and_mark" ["machine","size","first","second","editing"] zm11,
 fo 148 813 1485 512 2 "lower_half_moved" ["byte","other"] zm12,
 fo 149 820 1493 514 2 "higher_half_moved" ["byte","other"] zm12,
 fo 150 827 1501 516 2 "bits_and" ["byte","other"] zm12,
 fo 152 834 1510 519 2 "bits_or" ["byte","other"] zm12,
 fo 154 841 1519 522 2 "bits_exclusive" ["byte","other"] zm12,
 [(zob (.type "dict") (.dict #[⟨209,(zvi 209 1528),(zr 819)⟩,⟨211,(zvi 211 1529),(zr 826)⟩,⟨212,(zvi 212 1530),(zr 833)⟩,⟨214,(zvi 214 1531),(zr 840)⟩,⟨215,(zvi 215 1532),(zr 847)⟩] 5))],
 fo 157 849 1539 526 4 "move" ["machine","size","first","second","memory","index"] zm12,
 fo 159 856 1552 533 5 "join_texts" ["machine","operation","size","first","second","memory","joined","bits","index","byte"] zm12,
 fo 160 863 1568 545 4 "compare" ["machine","size","first","second","memory"] zm12,
 fo 162 870 1580 551 4 "translate" ["machine","size","first","table","memory","place"] zm12,
 fo 163 877 1592 557 4 "search" ["machine","size","first","table","place","found"] zm12,
 fo 164 884 1604 568 5 "two_texts" ["machine","operation","size","first","second"] zm12,
 [(zob (.type "tuple") (.seq #[(zvi 1 1619),(zvi 2 1620),(zvi 2 1621),(zvi 3 1622)] 0))],
 fo 168 892 1624 588 4 "perform_long" ["machine","operation","at","second_byte","first","second"] zm13,
 fo 169 899 1636 595 5 "perform_indexed" ["machine","operation","k","j","place"] zm13,
 fo 170 906 1647 602 3 "perform" ["machine","at","second_byte","operation","k","j"] zm13,
 fo 171 913 1659 616 3 "execute" ["machine","k","place","operation","second_byte"] zm13,
 fo 172 920 1670 626 1 "step" ["machine","at","halves"] zm13,
 fo 173 927 1679 635 2 "run_steps" ["machine","steps","done","ending","number","place","e"] zm13,
 fo 181 934 1707 660 3 "put_value" ["machine","which","value"] zm14,
 fo 182 941 1716 672 2 "told_value" ["machine","which"] zm14,
 fo 183 948 1724 682 2 "changed_bytes" ["before","now","changes","start","place"] zm14,
 fo 184 955 1735 691 3 "run_answer" ["machine","steps","told","before","answer","changes"] zm14,
 fo 185 962 1747 699 1 "answers" ["calls","machine","replies","at","call","answer","behind"] zm14]
noncomputable def nsL (P:Params):List DictEntry:=[(zde P "__name__" 165 (zvs "bitmill.bench" 1692)),(zde P "__doc__" 166 .none),(zde P "__package__" 167 .none),(zde P "__loader__" 168 (.builtin "__main__.__loader__#opaque")),(zde P "__spec__" 169 .none),(zde P "__annotations__" 170 (zr 6)),(zde P "__builtins__" 171 (zr 4)),(zde P "__file__" 173 (zvs "/claim/cut.py" 172)),(zde P "__cached__" 174 .none),(zde P "Interruption" 217 (zr 31)),(zde P "SupervisorCall" 246 (zr 51)),(zde P "MEMORY_SIZE" 250 (zvi 65536 249)),(zde P "PLACE_BITS" 252 (zvi 16777215 251)),(zde P "WORD_BITS" 254 (zvi 4294967295 253)),(zde P "Machine" 287 (zr 71)),(zde P "signed" 294 (zr 82)),(zde P "signed_double" 301 (zr 89)),(zde P "order" 309 (zr 96)),(zde P "conclude" 318 (zr 103)),(zde P "need_even" 325 (zr 110)),(zde P "need_room" 333 (zr 117)),(zde P "need_unit" 341 (zr 124)),(zde P "half_at" 350 (zr 131)),(zde P "put_half" 359 (zr 138)),(zde P "word_at" 368 (zr 145)),(zde P "put_word" 378 (zr 152)),(zde P "pair_at" 386 (zr 159)),(zde P "put_pair" 395 (zr 166)),(zde P "place_told" 406 (zr 173)),(zde P "halves_at" 419 (zr 180)),(zde P "fitted" 429 (zr 187)),(zde P "put_halves" 439 (zr 194)),(zde P "move_before_last" 452 (zr 201)),(zde P "pack" 458 (zr 206)),(zde P "unpack" 464 (zr 211)),(zde P "PLUS" 471 (zr 212)),(zde P "magnitude_at" 484 (zr 219)),(zde P "minus_at" 494 (zr 226)),(zde P "packed_at" 504 (zr 233)),(zde P "put_packed" 518 (zr 240)),(zde P "packed_limit" 527 (zr 247)),(zde P "settle_packed" 539 (zr 254)),(zde P "put_second" 550 (zr 261)),(zde P "compare" 561 (zr 869)),(zde P "compare_decimals" 562 (zr 268)),(zde P "add" 574 (zr 409)),(zde P "add_decimals" 575 (zr 275)),(zde P "subtract" 587 (zr 416)),(zde P "subtract_decimals" 588 (zr 282)),(zde P "need_zeros" 598 (zr 289)),(zde P "multiply" 611 (zr 423)),(zde P "multiply_decimals" 612 (zr 296)),(zde P "divide" 628 (zr 430)),(zde P "divide_decimals" 629 (zr 303)),(zde P "OPERATIONS_decimals" 642 (zr 304)),(zde P "two_numbers" 654 (zr 311)),(zde P "fits_word" 663 (zr 318)),(zde P "settle" 672 (zr 325)),(zde P "make_positive" 681 (zr 332)),(zde P "make_negative" 690 (zr 339)),(zde P "load_and_test" 699 (zr 346)),(zde P "negate" 708 (zr 353)),(zde P "settle_bits" 717 (zr 360)),(zde P "bits_and" 726 (zr 833)),(zde P "bits_and_arithmetic" 727 (zr 367)),(zde P "bits_or" 736 (zr 840)),(zde P "bits_or_arithmetic" 737 (zr 374)),(zde P "bits_exclusive" 746 (zr 847)),(zde P "bits_exclusive_arithmetic" 747 (zr 381)),(zde P "compare_unsigned" 756 (zr 388)),(zde P "compare_signed" 765 (zr 395)),(zde P "load" 774 (zr 402)),(zde P "add_arithmetic" 784 (zr 409)),(zde P "subtract_arithmetic" 794 (zr 416)),(zde P "multiply_arithmetic" 804 (zr 423)),(zde P "divide_arithmetic" 817 (zr 430)),(zde P "settle_unsigned" 827 (zr 437)),(zde P "add_unsigned" 837 (zr 444)),(zde P "subtract_unsigned" 847 (zr 451)),(zde P "OPERATIONS_arithmetic" 880 (zr 452)),(zde P "with_number" 891 (zr 459)),(zde P "link" 900 (zr 466)),(zde P "jump_with_link" 910 (zr 473)),(zde P "jump_with_count" 920 (zr 480)),(zde P "jump_on_condition" 930 (zr 487)),(zde P "JUMPS" 937 (zr 488)),(zde P "jump" 948 (zr 495)),(zde P "set_condition_and_mask" 958 (zr 502)),(zde P "two_registers" 969 (zr 509)),(zde P "examine_bits" 981 (zr 516)),(zde P "move" 990 (zr 855)),(zde P "move_single" 991 (zr 523)),(zde P "settle_byte" 1000 (zr 530)),(zde P "byte_and" 1009 (zr 537)),(zde P "compare_single" 1019 (zr 544)),(zde P "byte_or" 1028 (zr 551)),(zde P "byte_exclusive" 1037 (zr 558)),(zde P "OPERATIONS_single" 1050 (zr 559)),(zde P "one_byte" 1061 (zr 566)),(zde P "right" 1072 (zr 573)),(zde P "left" 1081 (zr 580)),(zde P "right_signed" 1091 (zr 587)),(zde P "left_signed" 1103 (zr 594)),(zde P "pair_right" 1112 (zr 601)),(zde P "pair_left" 1121 (zr 608)),(zde P "pair_right_signed" 1131 (zr 615)),(zde P "pair_left_signed" 1143 (zr 622)),(zde P "SHIFTS" 1160 (zr 623)),(zde P "shift" 1170 (zr 630)),(zde P "step_is_above" 1182 (zr 637)),(zde P "jump_above" 1192 (zr 644)),(zde P "jump_not_above" 1202 (zr 651)),(zde P "registers_from" 1208 (zr 656)),(zde P "store_many" 1221 (zr 663)),(zde P "load_many" 1234 (zr 670)),(zde P "OPERATIONS_spans" 1243 (zr 671)),(zde P "two_and_place" 1255 (zr 678)),(zde P "store_half" 1266 (zr 685)),(zde P "load_place" 1275 (zr 692)),(zde P "store_byte" 1284 (zr 699)),(zde P "load_byte" 1293 (zr 706)),(zde P "multiply_half" 1303 (zr 713)),(zde P "store_packed" 1313 (zr 720)),(zde P "load_packed" 1323 (zr 727)),(zde P "store_word" 1332 (zr 734)),(zde P "OPERATIONS_storage" 1349 (zr 735)),(zde P "with_word" 1359 (zr 742)),(zde P "one_and_memory" 1370 (zr 749)),(zde P "DIGIT" 1374 (zvi 32 1373)),(zde P "DIGIT_AND_ON" 1376 (zvi 33 1375)),(zde P "FIELD_END" 1378 (zvi 34 1377)),(zde P "Editing" 1416 (zr 766)),(zde P "take_digit" 1425 (zr 777)),(zde P "edited_digit" 1436 (zr 784)),(zde P "edited_byte" 1446 (zr 791)),(zde P "edit_text" 1461 (zr 798)),(zde P "edit" 1471 (zr 805)),(zde P "edit_and_mark" 1482 (zr 812)),(zde P "lower_half_moved" 1492 (zr 819)),(zde P "higher_half_moved" 1500 (zr 826)),(zde P "bits_and_texts" 1509 (zr 833)),(zde P "bits_or_texts" 1518 (zr 840)),(zde P "bits_exclusive_texts" 1527 (zr 847)),(zde P "JOINS" 1538 (zr 848)),(zde P "move_texts" 1551 (zr 855)),(zde P "join_texts" 1567 (zr 862)),(zde P "compare_texts" 1579 (zr 869)),(zde P "translate" 1591 (zr 876)),(zde P "search" 1603 (zr 883)),(zde P "two_texts" 1614 (zr 890)),(zde P "EXECUTE" 1618 (zvi 68 1617)),(zde P "HALVES_LONG" 1623 (zr 891)),(zde P "perform_long" 1635 (zr 898)),(zde P "perform_indexed" 1646 (zr 905)),(zde P "perform" 1658 (zr 912)),(zde P "execute" 1669 (zr 919)),(zde P "step" 1678 (zr 926)),(zde P "run_steps" 1691 (zr 933)),(zde P "REFUSED" 1696 (.int (-2) 1695)),(zde P "MOST_STEPS" 1698 (zvi 1000000 1697)),(zde P "NEXT_PLACE" 1700 (zvi 16 1699)),(zde P "CONDITION" 1702 (zvi 17 1701)),(zde P "MASK" 1704 (zvi 18 1703)),(zde P "PART" 1706 (zvi 256 1705)),(zde P "put_value" 1715 (zr 940)),(zde P "told_value" 1723 (zr 947)),(zde P "changed_bytes" 1734 (zr 954)),(zde P "run_answer" 1746 (zr 961)),(zde P "answers" 1759 (zr 968))]
noncomputable def lnL:List (Nat×Nat):=[(2,20),(7,40),(16,60),(25,81),(27,88),(29,95),(33,102),(40,109),(43,116),(46,123),(51,130),(55,137),(59,144),(63,151),(70,158),(73,165),(76,172),(84,179),(90,186),(95,193),(98,200),(102,205),(106,210),(113,218),(124,225),(129,232),(132,239),(139,246),(145,253),(153,260),(155,267),(158,274),(162,281),(166,288),(170,295),(176,302),(188,310),(204,317),(206,324),(209,331),(211,338),(213,345),(215,352),(217,359),(220,366),(223,373),(226,380),(229,387),(231,394),(233,401),(235,408),(238,415),(241,422),(245,429),(258,436),(261,443),(264,450),(268,458),(274,465),(276,472),(280,479),(284,486),(288,494),(291,501),(294,508),(307,515),(313,522),(316,529),(319,536),(321,543),(324,550),(326,557),(329,565),(336,572),(338,579),(340,586),(344,593),(350,600),(352,607),(354,614),(358,621),(365,629),(368,636),(372,643),(375,650),(378,655),(380,662),(386,669),(393,677),(402,684),(404,691),(406,698),(409,705),(412,712),(415,719),(419,726),(425,733),(428,741),(432,748),(448,755),(459,776),(475,783),(484,790),(492,797),(505,804),(507,811),(512,818),(514,825),(516,832),(519,839),(522,846),(526,854),(533,861),(545,868),(551,875),(557,882),(568,889),(588,897),(595,904),(602,911),(616,918),(626,925),(635,932),(660,939),(672,946),(682,953),(691,960),(699,967)]
noncomputable def bt (f:Nat→Obj) (n:Nat):Nat→Nat→Nat→BT
  | 0,_,_=>.nil
  | k+1,i,s=>if i < n then .node (f i) (bt f n k (i+s) (2*s)) (bt f n k (i+2*s) (2*s)) else .nil
noncomputable def nsO (l:List DictEntry) (n:Nat):Obj:=zob (.type "dict") (.dict l.toArray n)
noncomputable def lnO (k:Nat):Obj:=zob .none (.fields ((lnL.take k).flatMap fun p=>[zvi p.1 0,znz,zr p.2]).toArray)
noncomputable def oB (P:Params) (i:Nat):Obj:=(oL P).getD i default
noncomputable def tr (P:Params) (l:List DictEntry) (e k n:Nat):BT:=((bt (oB P) n 11 0 1).ins 3 (nsO l e)).ins 12 (lnO k)
noncomputable def tr274 (P:Params):BT:=tr P ((((nsL P).take 45).set 0 (zde P "__name__" 165 (zvs "bitmill.decimals" 528))).set 43 (zde P "compare" 561 (zr 268))) 45 31 269
noncomputable def tr569 (P:Params):BT:=tr P ((((((((nsL P).take 95).set 0 (zde P "__name__" 165 (zvs "bitmill.single" 970))).set 43 (zde P "compare" 561 (zr 544))).set 63 (zde P "bits_and" 726 (zr 367))).set 65 (zde P "bits_or" 736 (zr 374))).set 67 (zde P "bits_exclusive" 746 (zr 381))).set 90 (zde P "move" 990 (zr 523))) 95 70 545
noncomputable def tr794 (P:Params):BT:=tr P ((((((((nsL P).take 131).set 0 (zde P "__name__" 165 (zvs "bitmill.editing" 1371))).set 43 (zde P "compare" 561 (zr 544))).set 63 (zde P "bits_and" 726 (zr 367))).set 65 (zde P "bits_or" 736 (zr 374))).set 67 (zde P "bits_exclusive" 746 (zr 381))).set 90 (zde P "move" 990 (zr 523))) 131 99 750
noncomputable def tr915 (P:Params):BT:=tr P ((((nsL P).take 146).set 0 (zde P "__name__" 165 (zvs "bitmill.texts" 1483))).set 43 (zde P "compare" 561 (zr 544))) 146 113 863
noncomputable def υj (P:Params):BT:=tr P (nsL P) 169 128 969
end BM
open PySem PySem.W
namespace BM
noncomputable abbrev bp:Program:=PySem.Challenge.rw_bitmill_s01_answers.prog
noncomputable abbrev pos0:Pos:=⟨0,0,0,0⟩
noncomputable def env1:Env:={scope:=bp.main.scope,locals:=mainNs,globals:=mainNs,cells:=[],code:=.ref 13,frame:=some 14}
noncomputable def tr4 (P:Params):BT:=bt (fun i=>[boot_o_0 P,boot_o_1 P,boot_o_2 P,boot_o_3 P,boot_o_4 P,boot_o_5 P,boot_o_6 P,boot_o_7 P,boot_o_8 P,boot_o_9 P,boot_o_10 P,(zob (.type "tuple") (.seq #[] 0)),(zob .none (.fields #[])),(zob (.type "code") (.fields #[(zvs "<module>" 182),(zvs "<module>" 183),(zvs "/claim/cut.py" 184),(zvi 1 0),(zvi 0 0),(zvi 0 0),(zvi 0 0),(zvi 0 0),(zr 11),(.bool false),(zvi 181 0),(zr 12),.none,.none,.none,.none,(zvi 185 0),(zvi 1 0),(zvs "/claim/cut.py" 186)])),(⟨(.type "frame"),.none,.plain,#[(some (zr 13)),(some (zr 3)),(some (zr 3)),.none,(some (zvs "__main__" 164)),.none,(some (zr 0))]⟩:Obj)].getD i default) 15 11 0 1
noncomputable def sT (T:Params→BT) (n t:Nat) (w:World) (os:OsState):SharedT:=⟨T w.params,n,{},{toList:=[]},{},t,os⟩
noncomputable def stz (a n:Nat):List Stmt:=((behindTheImports bp).drop a).take n
noncomputable def hS0 (w:World) (os:OsState):Shared:=⟨boot_heap w.params,Array.mk [],boot_drawn,boot_toks,os⟩
noncomputable def hSb (w:World) (os:OsState):Shared:=(sT tr4 15 187 w os).abs
noncomputable def hH (P:Params):Heap:=absHeap (υj P) 969 {}
noncomputable def hSk (w:World) (os:OsState):Shared:=⟨hH w.params,{toList:=[]},{},1760,os⟩
noncomputable def Sg (N a n:Nat) (S S':World→OsState→SharedT) (p p':Pos) (w:World):Prop:=(fun (q:Program) (b:List Stmt) (os:OsState)=>segRunT treeTable q w 11 (some (Value.ref 6)) 1 N (S w os) (piecesOf (stz a n) env1 (Code.body b env1) p [topFrame pos0]))=fun q b os=>some (Flow.next,S' w os,Code.body b env1,p')
theorem sg0 (w:World):Sg 1663 0 41 (sT tr4 15 187) (sT tr274 269 563) ⟨0,0,0,0⟩ ⟨157,0,157,16⟩ w:=by unfold Sg; kernel_rfl
theorem sg1false (w:World):Sg 1798 41 59 (sT tr274 269 563) (sT tr569 545 1020) ⟨157,0,157,16⟩ ⟨323,0,323,14⟩ (w.withFollow "special-get-raises" false):=by unfold Sg; kernel_rfl
theorem sg1true (w:World):Sg 1798 41 59 (sT tr274 269 563) (sT tr569 545 1020) ⟨157,0,157,16⟩ ⟨323,0,323,14⟩ (w.withFollow "special-get-raises" true):=by unfold Sg; kernel_rfl
theorem sg1 (w:World):Sg 1798 41 59 (sT tr274 269 563) (sT tr569 545 1020) ⟨157,0,157,16⟩ ⟨323,0,323,14⟩ w:=byRow2 "special-get-raises" (P:=Sg 1798 41 59 (sT tr274 269 563) (sT tr569 545 1020) ⟨157,0,157,16⟩ ⟨323,0,323,14⟩) sg1false sg1true w
theorem sg2false (w:World):Sg 1401 100 40 (sT tr569 545 1020) (sT tr794 750 1379) ⟨323,0,323,14⟩ ⟨447,0,447,9⟩ (w.withFollow "special-get-raises" false):=by unfold Sg; kernel_rfl
theorem sg2true (w:World):Sg 1401 100 40 (sT tr569 545 1020) (sT tr794 750 1379) ⟨323,0,323,14⟩ ⟨447,0,447,9⟩ (w.withFollow "special-get-raises" true):=by unfold Sg; kernel_rfl
theorem sg2 (w:World):Sg 1401 100 40 (sT tr569 545 1020) (sT tr794 750 1379) ⟨323,0,323,14⟩ ⟨447,0,447,9⟩ w:=byRow2 "special-get-raises" (P:=Sg 1401 100 40 (sT tr569 545 1020) (sT tr794 750 1379) ⟨323,0,323,14⟩ ⟨447,0,447,9⟩) sg2false sg2true w
theorem sg3false (w:World):Sg 787 140 20 (sT tr794 750 1379) (sT tr915 863 1568) ⟨447,0,447,9⟩ ⟨533,0,544,49⟩ (w.withFollow "special-get-raises" false):=by unfold Sg; kernel_rfl
theorem sg3true (w:World):Sg 787 140 20 (sT tr794 750 1379) (sT tr915 863 1568) ⟨447,0,447,9⟩ ⟨533,0,544,49⟩ (w.withFollow "special-get-raises" true):=by unfold Sg; kernel_rfl
theorem sg3 (w:World):Sg 787 140 20 (sT tr794 750 1379) (sT tr915 863 1568) ⟨447,0,447,9⟩ ⟨533,0,544,49⟩ w:=byRow2 "special-get-raises" (P:=Sg 787 140 20 (sT tr794 750 1379) (sT tr915 863 1568) ⟨447,0,447,9⟩ ⟨533,0,544,49⟩) sg3false sg3true w
theorem sg4false (w:World):Sg 614 160 26 (sT tr915 863 1568) (sT υj 969 1760) ⟨533,0,544,49⟩ ⟨699,0,721,18⟩ (w.withFollow "special-get-raises" false):=by unfold Sg; kernel_rfl
theorem sg4true (w:World):Sg 614 160 26 (sT tr915 863 1568) (sT υj 969 1760) ⟨533,0,544,49⟩ ⟨699,0,721,18⟩ (w.withFollow "special-get-raises" true):=by unfold Sg; kernel_rfl
theorem sg4 (w:World):Sg 614 160 26 (sT tr915 863 1568) (sT υj 969 1760) ⟨533,0,544,49⟩ ⟨699,0,721,18⟩ w:=byRow2 "special-get-raises" (P:=Sg 614 160 26 (sT tr915 863 1568) (sT υj 969 1760) ⟨533,0,544,49⟩ ⟨699,0,721,18⟩) sg4false sg4true w
theorem Sg.run {N a n:Nat} {S S':World→OsState→SharedT} {p p':Pos} {w:World} (h:Sg N a n S S' p p' w) (q:Program) (b:List Stmt) (os:OsState):segRun treeTable q w 11 (some (Value.ref 6)) 1 N (S w os).abs (piecesOf (stz a n) env1 (Code.body b env1) p [topFrame pos0])=some (Flow.next,(S' w os).abs,Code.body b env1,p'):=segRun_of (congrFun (congrFun (congrFun h q) b) os)
theorem stz_all:stz 0 41++(stz 41 59++(stz 100 40++(stz 140 20++(stz 160 26++[]))))=behindTheImports bp:=by kernel_rfl
theorem h_pre (w:World) (os:OsState):topGo treeTable bp w 11 (some (Value.ref 6)) 12 (hS0 w os) (topStub bp)=some (hSb w os,⟨denote treeTable (.body (behindTheImports bp) env1),Code.body (behindTheImports bp) env1,pos0,[topFrame pos0]⟩):=by kernel_rfl
theorem h_block (w:World) (os:OsState):segRun treeTable bp w 11 (some (Value.ref 6)) 1 1 (hSb w os) (blockOf (behindTheImports bp) env1 (Code.body (behindTheImports bp) env1) pos0 [topFrame pos0])=some (.next,hSb w os,Code.body (behindTheImports bp) env1,pos0):=by kernel_rfl
theorem h_fin (w:World) (os:OsState):topRun treeTable bp w 11 (some (Value.ref 6)) 2 (hSk w os) (restOf [] env1 (Code.body (behindTheImports bp) env1) ⟨699,0,721,18⟩ [topFrame pos0])=some (hSk w os):=by kernel_rfl
theorem h_chain (w:World) (os:OsState):topRun treeTable bp w 11 (some (Value.ref 6)) (1663+(1798+(1401+(787+(614+2))))) (hSb w os) (restOf (behindTheImports bp) env1 (Code.body (behindTheImports bp) env1) pos0 [topFrame pos0])=some (hSk w os):=by
  have k:=piece_app ((sg0 w).run bp (behindTheImports bp) os) (piece_app ((sg1 w).run bp (behindTheImports bp) os) (piece_app ((sg2 w).run bp (behindTheImports bp) os) (piece_app ((sg3 w).run bp (behindTheImports bp) os) (piece_app ((sg4 w).run bp (behindTheImports bp) os) (h_fin w os)))))
  rw [stz_all] at k
  exact k
theorem h_run (w:World) (os:OsState):topRun treeTable bp w 11 (some (Value.ref 6)) 6278 (hS0 w os) (topStub bp)=some (hSk w os):=go_top (h_pre w os) (piece_block (h_block w os) (h_chain w os))
end BM
open PySem PySem.W
namespace BM
theorem h_open:∀ w:World,(fencedOpening treeTable bp w 13000).map (fun s=>(s.heap,s.gens,s.drawn,s.toks))=some (boot_heap w.params,Array.mk [],boot_drawn,boot_toks):=boot_open (by kernel_rfl) (by decide) (fun _=>by kernel_rfl)
theorem h_size:∀ w:World,((boot_heap w.params).isNs mainGlobals && (Array.mk []:Array GenState).size == 0,(boot_heap w.params).objs.size,(boot_heap w.params).nsMap mainGlobals "__annotations__")=(true,11,some (Value.ref 6)):=fun w=>by kernel_rfl
noncomputable def looseN:List Str:=(["Interruption","SupervisorCall","MEMORY_SIZE","PLACE_BITS","WORD_BITS","Machine","signed","signed_double","order","conclude","need_even","need_room","need_unit","half_at","put_half","word_at","put_word","pair_at","put_pair","place_told","halves_at","fitted","put_halves","move_before_last","pack","unpack","PLUS","magnitude_at","minus_at","packed_at","put_packed","packed_limit","settle_packed","put_second","compare","compare_decimals","add","add_decimals","subtract","subtract_decimals","need_zeros","multiply","multiply_decimals","divide","divide_decimals","OPERATIONS_decimals","two_numbers","fits_word","settle","make_positive","make_negative","load_and_test","negate","settle_bits","bits_and","bits_and_arithmetic","bits_or","bits_or_arithmetic","bits_exclusive","bits_exclusive_arithmetic","compare_unsigned","compare_signed","load","add_arithmetic","subtract_arithmetic","multiply_arithmetic","divide_arithmetic","settle_unsigned","add_unsigned","subtract_unsigned","OPERATIONS_arithmetic","with_number","link","jump_with_link","jump_with_count","jump_on_condition","JUMPS","jump","set_condition_and_mask","two_registers","examine_bits","move","move_single","settle_byte","byte_and","compare_single","byte_or","byte_exclusive","OPERATIONS_single","one_byte","right","left","right_signed","left_signed","pair_right","pair_left","pair_right_signed","pair_left_signed","SHIFTS","shift","step_is_above","jump_above","jump_not_above","registers_from","store_many","load_many","OPERATIONS_spans","two_and_place","store_half","load_place","store_byte","load_byte","multiply_half","store_packed","load_packed","store_word","OPERATIONS_storage","with_word","one_and_memory","DIGIT","DIGIT_AND_ON","FIELD_END","Editing","take_digit","edited_digit","edited_byte","edit_text","edit","edit_and_mark","lower_half_moved","higher_half_moved","bits_and_texts","bits_or_texts","bits_exclusive_texts","JOINS","move_texts","join_texts","compare_texts","translate","search","two_texts","EXECUTE","HALVES_LONG","perform_long","perform_indexed","perform","execute","step","run_steps","REFUSED","MOST_STEPS","NEXT_PLACE","CONDITION","MASK","PART","put_value","told_value","changed_bytes","run_answer"]:List String).map Str.ofString
noncomputable def bq:Program:=view bp [185]
theorem h_look1 (w:World) (os:OsState):(staticsOk (importedModules bp.main.body) (boot_heap w.params) (hH w.params) && namesBound bp (hH w.params) && gensDone (hSk w os) && laidKept (boot_heap w.params) (hH w.params))=true:=by kernel_rfl
end BM
open PySem PySem.W
namespace BM
noncomputable def gRefs:List (String×Nat):=[("Interruption",31),("SupervisorCall",51),("Machine",71),("signed",82),("signed_double",89),("order",96),("conclude",103),("need_even",110),("need_room",117),("need_unit",124),("half_at",131),("put_half",138),("word_at",145),("put_word",152),("pair_at",159),("put_pair",166),("place_told",173),("halves_at",180),("fitted",187),("put_halves",194),("move_before_last",201),("pack",206),("unpack",211),("PLUS",212),("magnitude_at",219),("minus_at",226),("packed_at",233),("put_packed",240),("packed_limit",247),("settle_packed",254),("put_second",261),("compare",869),("compare_decimals",268),("add",409),("add_decimals",275),("subtract",416),("subtract_decimals",282),("need_zeros",289),("multiply",423),("multiply_decimals",296),("divide",430),("divide_decimals",303),("OPERATIONS_decimals",304),("two_numbers",311),("fits_word",318),("settle",325),("make_positive",332),("make_negative",339),("load_and_test",346),("negate",353),("settle_bits",360),("bits_and",833),("bits_and_arithmetic",367),("bits_or",840),("bits_or_arithmetic",374),("bits_exclusive",847),("bits_exclusive_arithmetic",381),("compare_unsigned",388),("compare_signed",395),("load",402),("add_arithmetic",409),("subtract_arithmetic",416),("multiply_arithmetic",423),("divide_arithmetic",430),("settle_unsigned",437),("add_unsigned",444),("subtract_unsigned",451),("OPERATIONS_arithmetic",452),("with_number",459),("link",466),("jump_with_link",473),("jump_with_count",480),("jump_on_condition",487),("JUMPS",488),("jump",495),("set_condition_and_mask",502),("two_registers",509),("examine_bits",516),("move",855),("move_single",523),("settle_byte",530),("byte_and",537),("compare_single",544),("byte_or",551),("byte_exclusive",558),("OPERATIONS_single",559),("one_byte",566),("right",573),("left",580),("right_signed",587),("left_signed",594),("pair_right",601),("pair_left",608),("pair_right_signed",615),("pair_left_signed",622),("SHIFTS",623),("shift",630),("step_is_above",637),("jump_above",644),("jump_not_above",651),("registers_from",656),("store_many",663),("load_many",670),("OPERATIONS_spans",671),("two_and_place",678),("store_half",685),("load_place",692),("store_byte",699),("load_byte",706),("multiply_half",713),("store_packed",720),("load_packed",727),("store_word",734),("OPERATIONS_storage",735),("with_word",742),("one_and_memory",749),("Editing",766),("take_digit",777),("edited_digit",784),("edited_byte",791),("edit_text",798),("edit",805),("edit_and_mark",812),("lower_half_moved",819),("higher_half_moved",826),("bits_and_texts",833),("bits_or_texts",840),("bits_exclusive_texts",847),("JOINS",848),("move_texts",855),("join_texts",862),("compare_texts",869),("translate",876),("search",883),("two_texts",890),("HALVES_LONG",891),("perform_long",898),("perform_indexed",905),("perform",912),("execute",919),("step",926),("run_steps",933),("put_value",940),("told_value",947),("changed_bytes",954),("run_answer",961),("answers",968)]
noncomputable def gInts:List (String×Int):=[("MEMORY_SIZE",65536),("PLACE_BITS",16777215),("WORD_BITS",4294967295),("DIGIT",32),("DIGIT_AND_ON",33),("FIELD_END",34),("EXECUTE",68),("REFUSED",-2),("MOST_STEPS",1000000),("NEXT_PLACE",16),("CONDITION",17),("MASK",18),("PART",256)]
noncomputable def gNone:List String:=["abs","len","range","enumerate","list","Exception"]
noncomputable def Xg (mg:Str→Option Value):Bool:=(gRefs.all fun x=>match mg (Str.ofString x.1) with | some (.ref a)=>a == x.2 | _=>false) && (gInts.all fun x=>match mg (Str.ofString x.1) with | some (.int i _)=>i == x.2 | _=>false) && (gNone.all fun x=>(mg (Str.ofString x)).isNone)
noncomputable def Xt (s:Shared):Bool:=Xg (s.heap.nsMap mainGlobals) && recOk [] s
theorem h_look3 (w:World) (os:OsState):openSeen bq looseN (importedModules bp.main.body) Xt true (hSk w os)=openGood bq looseN:=by kernel_rfl
theorem h_left:LeftO bp bq looseN Xt (fun s=>s.heap) (fun w=>hH w.params) 13000:=LeftO.of_pieces h_open h_size h_run (by decide) (fun w=>funext fun os=>Prod.ext (h_look1 w os) (Prod.ext (h_look3 w os) rfl))
noncomputable def YPh (w:World) (h:Heap):Prop:=∀ b o,(hH w.params).get? b=some o→h.get? b=some o
end BM
open PySem PySem.W
namespace BM
noncomputable abbrev bR:OpenSpec:=PySem.Challenge.rw_bitmill_s01_answers
theorem b_some:(defOf bq bR.name).isSome=true:=by kernel_rfl
noncomputable def bD:DefRec:=((defOf bq bR.name).get b_some).1
theorem b_def:defOf bq bR.name=some (bD,[]):=by kernel_rfl
theorem b_the:bR.prog.theDef bR.name=some (bD.params,bD.body,bD.scope):=by kernel_rfl
theorem b_kw:kwWritten? bD.params.kwonlyargs bD.params.kw_defaults=some []:=by kernel_rfl
theorem b_nm:bD.name="answers":=by kernel_rfl
theorem b_said:bR.wellSaid=true:=by decide +kernel
theorem b_ok1:chainsOk bq=true:=by decide +kernel
theorem b_ok2:opensWell bR.prog=true:=by decide +kernel
theorem b_ok:(chainsOk bq && opensWell bR.prog)=true:=by rw [b_ok1,b_ok2]; rfl
theorem b_bare:bR.prog.bare:=⟨rfl,rfl,rfl,rfl,rfl,by decide +kernel⟩
theorem b_wit:∃ args,bR.pre args=true∧WData.layableAll args=true:=⟨[.list [.int 0]],by decide +kernel,by decide +kernel⟩
end BM
namespace L2
open PySem PySem.Spec PyProof.Rows
noncomputable abbrev Key:=Sum Int Str
noncomputable def keyIs:Key→Value→Bool
  | .inl k,v=>Value.isInt k v
  | .inr x,v=>Value.isStrOf x v
noncomputable def keyH (w:World):Key→Int
  | .inl k=>hashInt k
  | .inr x=>hashStr w x
theorem η2:∀ {k:Key} {v:Value},keyIs k v=true→(∃ i t,k=Sum.inl i∧v=Value.int i t)∨(∃ x t,k=Sum.inr x∧v=Value.str x t)
  | .inl i,v,h=>by
    obtain ⟨t,e⟩:=Value.isInt_shape (k:=i) (v:=v) h
    exact .inl ⟨i,t,rfl,e⟩
  | .inr x,v,h=>by
    obtain ⟨t,e⟩:=Value.isStrOf_shape (x:=x) (v:=v) h
    exact .inr ⟨x,t,rfl,e⟩
theorem keyIs_int (i:Int) (t:Tok):keyIs (.inl i) (.int i t)=true:=by simp [keyIs,Value.isInt]
theorem keyIs_str (x:Str) (t:Tok):keyIs (.inr x) (.str x t)=true:=by simp [keyIs,Value.isStrOf]
theorem key_ll (a b:Int):decide ((Sum.inl a:Key)=Sum.inl b)=(a == b):=by
  by_cases e:a=b
  · subst e; simp
  · have h:¬ (Sum.inl a:Key)=Sum.inl b:=fun q=>e (Sum.inl.inj q)
    rw [decide_eq_false h]
    exact (beq_eq_false_iff_ne.mpr e).symm
theorem key_rr (a b:Str):decide ((Sum.inr a:Key)=Sum.inr b)=decide (a=b):=by
  by_cases e:a=b
  · subst e; simp
  · have h:¬ (Sum.inr a:Key)=Sum.inr b:=fun q=>e (Sum.inr.inj q)
    rw [decide_eq_false h,decide_eq_false e]
theorem key_lr (a:Int) (b:Str):decide ((Sum.inl a:Key)=Sum.inr b)=false:=decide_eq_false (fun q=>nomatch q)
theorem key_rl (a:Str) (b:Int):decide ((Sum.inr a:Key)=Sum.inl b)=false:=decide_eq_false (fun q=>nomatch q)
noncomputable def τ5 (prog:Program) (w:World):PySem.KeyKind prog w Key where
  is:=keyIs
  hash:=keyH w
  inj:=fun v a b ha hb=>by
    rcases η2 ha with ⟨i,t,rfl,rfl⟩ | ⟨x,t,rfl,rfl⟩
    · rcases η2 hb with ⟨j,u,rfl,e⟩ | ⟨y,u,rfl,e⟩
      · injection e with e1 _; rw [e1]
      · exact nomatch e
    · rcases η2 hb with ⟨j,u,rfl,e⟩ | ⟨y,u,rfl,e⟩
      · exact nomatch e
      · injection e with e1 _; rw [e1]
  byValue:=fun k v h=>by
    rcases η2 h with ⟨i,t,rfl,rfl⟩ | ⟨x,t,rfl,rfl⟩ <;> rfl
  pyHash:=fun hv h=>by
    rcases η2 hv with ⟨i,t,rfl,rfl⟩ | ⟨x,t,rfl,rfl⟩
    · exact wpAny_pyHash_int h
    · exact wpAny_pyHash_str h
  eqBool:=fun hu hv h=>by
    rcases η2 hu with ⟨i,t,rfl,rfl⟩ | ⟨x,t,rfl,rfl⟩
    · rcases η2 hv with ⟨j,u,rfl,rfl⟩ | ⟨y,u,rfl,rfl⟩
      · rw [key_ll] at h; exact wpAny_eqBool_int h
      · rw [key_lr] at h; exact SeqAt.EqAt.int_str i t y u _ _ _ _ h
    · rcases η2 hv with ⟨j,u,rfl,rfl⟩ | ⟨y,u,rfl,rfl⟩
      · rw [key_rl] at h; exact SeqAt.EqAt.str_int x t j u _ _ _ _ h
      · rw [key_rr] at h; exact wpAny_eqBool_str h
  «strs»:=fun k x t v h=>by
    rcases η2 h with ⟨i,u,rfl,e⟩ | ⟨y,u,rfl,e⟩
    · exact nomatch e
    · injection e with e1 _
      subst e1
      cases v <;> rfl
theorem mixKind_int (prog:Program) (w:World) (i:Int) (t:Tok):(τ5 prog w).is (.inl i) (.int i t)=true:=keyIs_int i t
theorem mixKind_str (prog:Program) (w:World) (x:Str) (t:Tok):(τ5 prog w).is (.inr x) (.str x t)=true:=keyIs_str x t
end L2
namespace L2
open PySem PySem.Spec PyProof.Rows
inductive V where
  | non | bl (b:Bool) | int (i:Int) | str (x:Str) | byt (b:Array UInt8) | flt (b:UInt64) | ref (a:Addr) | ty (n:String)
  deriving DecidableEq
noncomputable def ο4:V→Value→Prop
  | .non,u=>u=Value.none
  | .bl b,u=>u=Value.bool b
  | .int i,u=>∃ t,u=Value.int i t
  | .str x,u=>∃ t,u=Value.str x t
  | .byt b,u=>∃ t,u=Value.bytes b t
  | .flt b,u=>∃ t,u=Value.float b t
  | .ref a,u=>u=Value.ref a
  | .ty n,u=>u=Value.type n
noncomputable abbrev τ2:List V→List Value→Prop:=Paired ο4
theorem τ2.length {xs:List V} {us:List Value} (r:τ2 xs us):xs.length=us.length:=Paired.length r
theorem τ2.get:∀ {xs:List V} {us:List Value} {i:Nat} {x:V},τ2 xs us→xs[i]?=some x→∃ u,us[i]?=some u∧ο4 x u
  | _,_,_,_,.nil,e=>by simp at e
  | _,_,0,_,.cons r _,e=>by simp at e; subst e; exact ⟨_,rfl,r⟩
  | _,_,i+1,x,.cons _ t,e=>by
    obtain ⟨u,h1,h2⟩:=τ2.get (i:=i) (x:=x) t (by simpa using e)
    exact ⟨u,by simpa using h1,h2⟩
theorem τ2.set {x:V} {u:Value} (r:ο4 x u):∀ {xs:List V} {us:List Value} (i:Nat),τ2 xs us→τ2 (xs.set i x) (us.set i u)
  | _,_,_,.nil=>.nil
  | _,_,0,.cons _ t=>.cons r t
  | _,_,i+1,.cons q t=>.cons q (τ2.set r i t)
theorem τ2.append:∀ {xs ys:List V} {us ws:List Value},τ2 xs us→τ2 ys ws→τ2 (xs++ys) (us++ws)
  | _,_,_,_,.nil,s=>s
  | _,_,_,_,.cons r t,s=>.cons r (τ2.append t s)
theorem τ2.take:∀ {xs:List V} {us:List Value} (n:Nat),τ2 xs us→τ2 (xs.take n) (us.take n)
  | _,_,0,_=>.nil
  | _,_,_+1,.nil=>.nil
  | _,_,n+1,.cons r t=>.cons r (τ2.take n t)
theorem τ2.drop:∀ {xs:List V} {us:List Value} (n:Nat),τ2 xs us→τ2 (xs.drop n) (us.drop n)
  | _,_,0,r=>r
  | _,_,_+1,.nil=>.nil
  | _,_,n+1,.cons _ t=>τ2.drop n t
noncomputable def RelO:Option V→Option Value→Prop
  | some v,some u=>ο4 v u
  | none,none=>True
  | _,_=>False
noncomputable def KV {κ:Type}:List (κ×V)→List (κ×Value)→Prop:=Paired fun (p:κ×V) (q:κ×Value)=>p.1=q.1∧ο4 p.2 q.2
noncomputable def kV:Key→V
  | .inl i=>.int i
  | .inr x=>.str x
inductive HO where
  | lst (xs:List V)
  | tup (xs:List V)
  | dK (kvs:List (Key×V)) | dT (kvs:List (List Key×V))
  | set (S:Int→Bool) (n:Nat)
  | ins (C dx:Addr) (fs:List (Str×V))
  | own (x:Addr)
  | xd (fs:List (Str×V))
  | met (f x:Addr)
  | rng (lo hi:Int)
  | frz (o:Obj) (u:HO)
  | tbl (ps:Array Value)
  | ext (φ:Heap→Prop)
noncomputable abbrev Hp:=Addr→Option HO
noncomputable def upd (H:Hp) (a:Addr) (o:HO):Hp:=fun b=>if b=a then some o else H b
theorem ο {H:Hp} {a:Addr} {o:HO}:upd H a o a=some o:=by unfold upd; rw [if_pos rfl]
theorem ψ {H:Hp} {a b:Addr} {o:HO} (h:b≠a):upd H a o b=H b:=by unfold upd; rw [if_neg h]
theorem ψ3 {H:Hp} {a:Addr} {o u:HO}:upd (upd H a o) a u=upd H a u:=by
  funext b; unfold upd; split <;> rfl
theorem οa {H:Hp} {a b:Addr} {o u:HO} (h:H a=some o) (h':H b=some u) (d:o≠u):a≠b:=by
  intro e; subst e; rw [h] at h'; exact d (Option.some.inj h')
theorem ρ {H:Hp} {a b:Addr} {o:HO} (h:H a=some o) (h':H b=none):a≠b:=by
  intro e; subst e; rw [h] at h'; cases h'
section
variable (P:Program) (w:World)
noncomputable def τ6 (H:Hp) (h:Heap) (a:Addr):HO→Prop
  | .lst xs=>xs.length≤sizeLine∧∃ (its:List Value) (n:Nat),τ2 xs its∧h.get? a=some {cls:=.type "list",data:=.seq its.toArray n}
  | .tup xs=>xs.length≤sizeLine∧∃ its:List Value,τ2 xs its∧IsTup h a its.toArray
  | .dK kvs=>kvs.length≤sizeLine∧(a == sysModules)=false∧∃ vs,KV kvs vs∧h.DictOf (τ5 P w) a vs
  | .dT kvs=>kvs.length≤sizeLine∧(a == sysModules)=false∧∃ xs:List (List Key×Addr×Value),
      Paired (fun (p:List Key×V) (q:List Key×Addr×Value)=>p.1=q.1∧H q.2.1=some (.tup (p.1.map kV))∧ο4 p.2 q.2.2) kvs xs ∧
      ∃ o es ep,h.get? a=some o∧o.ExactDict∧o.data=.dict es ep∧es.toList=xs.map (entryOfKey (tupleKind (τ5 P w)))∧(xs.map (·.1)).Nodup
  | .set S n=>h.SetOf (intKind P w) a S n
  | .ins C dx fs=>H dx=some (.own a)∧fs.length≤1000∧dx≠a∧h.get? a=some (PySem.W.instObj C dx) ∧
      ∃ mA,h.Ns1 dx mA∧(∀ f,RelO (fs.lookup f) (mA f))∧PySem.Within mA (fs.map (·.1))
  | .own _=>∃ o,h.get? a=some o
  | .xd fs=>∃ mA,h.Ns1 a mA∧∀ f,RelO (fs.lookup f) (mA f)
  | .rng lo hi=>∃ t u v,h.get? a=some {cls:=.type "range",data:=.fields #[.int lo t,.int hi u,.int 1 v]}
  | .frz o u=>h.get? a=some o∧τ6 H h a u
  | .tbl ps=>h.get? a=some {cls:=.none,data:=.fields ps}
  | .met f x=>h.get? a=some (PySem.W.methodObj (.ref f) (.ref x))
  | .ext φ=>φ h∧(∃ o,h.get? a=some o)∧∀ h1 h2:Heap,φ h1→(∀ o,h1.get? a=some o→h2.get? a=some o)→φ h2
noncomputable def HOk (H:Hp) (h:Heap):Prop:=∀ a o,H a=some o→τ6 P w H h a o
end
section
variable {P:Program} {w:World} {H H':Hp} {h h':Heap} {a:Addr} {o:HO}
theorem τ6.lt (x:τ6 P w H h a o):a < h.objs.size:=by
  cases o with
  | lst xs=>obtain ⟨_,_,_,_,e⟩:=x; exact Heap.lt_size e
  | tup xs=>obtain ⟨_,_,_,p⟩:=x; exact p.lt
  | dK kvs=>obtain ⟨_,_,_,_,o,_,_,e,_⟩:=x; exact Heap.lt_size e
  | dT kvs=>obtain ⟨_,_,_,_,o,_,_,e,_⟩:=x; exact Heap.lt_size e
  | set S n=>obtain ⟨o,_,_,_,e,_⟩:=x; exact Heap.lt_size e
  | ins C dx fs=>obtain ⟨_,_,_,e,_⟩:=x; exact Heap.lt_size e
  | own y=>obtain ⟨_,e⟩:=x; exact Heap.lt_size e
  | xd fs=>obtain ⟨_,⟨_,_,_,e,_⟩,_⟩:=x; exact Heap.lt_size e
  | rng lo hi=>obtain ⟨_,_,_,e⟩:=x; exact Heap.lt_size e
  | frz ob u=>obtain ⟨e,_⟩:=x; exact Heap.lt_size e
  | tbl ps=>exact Heap.lt_size (show h.get? a=some _ from x)
  | met f y=>exact Heap.lt_size (show h.get? a=some _ from x)
  | ext φ=>obtain ⟨_,⟨_,e⟩,_⟩:=x; exact Heap.lt_size e
theorem Paired.mapP {α β:Type} {F G:α→β→Prop}:∀ {l₁:List α} {l₂:List β},Paired F l₁ l₂→(∀ a b,F a b→G a b)→Paired G l₁ l₂
  | _,_,.nil,_=>.nil
  | _,_,.cons r t,f=>.cons (f _ _ r) (Paired.mapP t f)
theorem τ6.stay (x:τ6 P w H h a o) (k:∀ b u,(b=a∨H b=some (.own a))→h.get? b=some u→h'.get? b=some u)
    (ho:∀ b,H b=some (.own a)→H' b=some (.own a)) (ht:∀ b xs,H b=some (.tup xs)→H' b=some (.tup xs)):τ6 P w H' h' a o:=by
  induction o with
  | lst xs=>obtain ⟨z,its,n,r,e⟩:=x; exact ⟨z,its,n,r,k _ _ (.inl rfl) e⟩
  | tup xs=>obtain ⟨z,its,r,ob,e,c⟩:=x; exact ⟨z,its,r,ob,k _ _ (.inl rfl) e,c⟩
  | dK kvs=>obtain ⟨z,y,vs,r,ob,es,ep,e,c⟩:=x; exact ⟨z,y,vs,r,ob,es,ep,k _ _ (.inl rfl) e,c⟩
  | dT kvs =>
    obtain ⟨z,y,xs,r,ob,es,ep,e,c⟩:=x
    exact ⟨z,y,xs,Paired.mapP r fun p q z=>⟨z.1,ht _ _ z.2.1,z.2.2⟩,ob,es,ep,k _ _ (.inl rfl) e,c⟩
  | set S n=>obtain ⟨ob,es,ep,t,e,c⟩:=x; exact ⟨ob,es,ep,t,k _ _ (.inl rfl) e,c⟩
  | ins C dx fs =>
    obtain ⟨d,z,ne,e,mA,⟨od,es,ep,e2,c⟩,r⟩:=x
    exact ⟨ho _ d,z,ne,k _ _ (.inl rfl) e,mA,⟨od,es,ep,k _ _ (.inr d) e2,c⟩,r⟩
  | own y=>obtain ⟨ob,e⟩:=x; exact ⟨ob,k _ _ (.inl rfl) e⟩
  | xd fs=>obtain ⟨mA,⟨od,es,ep,e,c⟩,r⟩:=x; exact ⟨mA,⟨od,es,ep,k _ _ (.inl rfl) e,c⟩,r⟩
  | rng lo hi=>obtain ⟨t,u,v,e⟩:=x; exact ⟨t,u,v,k _ _ (.inl rfl) e⟩
  | frz ob u ih=>obtain ⟨e,q⟩:=x; exact ⟨k _ _ (.inl rfl) e,ih q⟩
  | tbl ps =>
    have e:h.get? a=some {cls:=.none,data:=.fields ps}:=x
    show h'.get? a=some {cls:=.none,data:=.fields ps}
    exact k a _ (.inl rfl) e
  | met f y =>
    have e:h.get? a=some (PySem.W.methodObj (.ref f) (.ref y)):=x
    show h'.get? a=some (PySem.W.methodObj (.ref f) (.ref y))
    exact k a _ (.inl rfl) e
  | ext φ=>obtain ⟨p,⟨o,e⟩,st⟩:=x; exact ⟨st _ _ p fun o q=>k _ _ (.inl rfl) q,⟨o,k _ _ (.inl rfl) e⟩,st⟩
theorem HOk.lt (x:HOk P w H h) (e:H a=some o):a < h.objs.size:=(x a o e).lt
theorem HOk.fresh (x:HOk P w H h) (e:h.objs.size≤a):H a=none:=by
  cases q:H a with
  | none=>rfl
  | some u=>exact absurd (Nat.lt_of_lt_of_le (x.lt q) e) (Nat.lt_irrefl _)
theorem HOk.kept (x:HOk P w H h) (k:∀ b u,h.get? b=some u→h'.get? b=some u):HOk P w H h':=fun a o e =>
  (x a o e).stay (fun b u _ q=>k b u q) (fun _ q=>q) fun _ _ q=>q
theorem HOk.laid (x:HOk P w H h) (k:∀ b u,h.get? b=some u→h'.get? b=some u) (hp:h.objs.size≤a) (new:τ6 P w (upd H a o) h' a o):HOk P w (upd H a o) h':=fun b u e=>by
  have hn:=x.fresh hp
  by_cases hb:b=a
  · subst hb; rw [ο] at e; cases e; exact new
  · rw [ψ hb] at e
    exact (x b u e).stay (fun c v _ q=>k c v q) (fun c q=>by rw [ψ (ρ q hn)]; exact q) fun c xs q=>by rw [ψ (ρ q hn)]; exact q
end
noncomputable def Rd (H:Hp) (a:Addr) (u:HO):Prop:=H a=some u∨∃ o,H a=some (.frz o u)
theorem Rd.ok {P:Program} {w:World} {H:Hp} {h:Heap} {a:Addr} {u:HO} (r:Rd H a u) (x:HOk P w H h):τ6 P w H h a u:=by
  rcases r with r | ⟨o,r⟩
  · exact x a u r
  · obtain ⟨_,q⟩:=x a _ r
    exact q
noncomputable def Mut:Option HO→Prop
  | some (.lst _)=>True
  | some (.dK _)=>True
  | some (.dT _)=>True
  | some (.set _ _)=>True
  | some (.ins _ _ _)=>True
  | some (.ext _)=>True
  | _=>False
section
variable {P:Program} {w:World} {H:Hp} {h h':Heap} {x e:Addr} {o':HO}
theorem HOk.write (ok:HOk P w H h) (mu:Mut (H x)) (he:e=x∨H e=some (.own x)) (k:∀ b u,b≠e→h.get? b=some u→h'.get? b=some u) (heo:∃ u,h'.get? e=some u)
    (new:τ6 P w (upd H x o') h' x o'):HOk P w (upd H x o') h':=fun b u q=>by
  have nown:∀ c y,H c=some (.own y)→c≠x:=fun c y r z=>by subst z; rw [r] at mu; exact mu
  have ntup:∀ c xs,H c=some (.tup xs)→c≠x:=fun c xs r z=>by subst z; rw [r] at mu; exact mu
  by_cases hb:b=x
  · subst hb; rw [ο] at q; cases q; exact new
  · rw [ψ hb] at q
    by_cases hbe:b=e
    · have q':H b=some (.own x):=by
        rcases he with z | z
        · exact absurd (hbe.trans z) hb
        · rw [hbe]; exact z
      rw [q] at q'; cases q'
      obtain ⟨v,hv⟩:=heo
      exact ⟨v,by rw [hbe]; exact hv⟩
    · refine (ok b u q).stay (fun c v hc r=>k c v ?_ r) (fun c r=>by rw [ψ (nown c b r)]; exact r) fun c xs r=>by rw [ψ (ntup c xs r)]; exact r
      rcases hc with rfl | hc
      · exact hbe
      · rintro rfl
        rcases he with z | z
        · exact nown c b hc z
        · rw [hc] at z; cases z; exact hb rfl
end
structure Un (fs ex:List Addr) (H H':Hp) (h h':Heap):Prop where
  keep:∀ b o,h.get? b=some o→H b=none→b∉fs→b∉ex→h'.get? b=some o
  slot:∀ b o,h.get? b=some o→H b=none→b∈fs→b∉ex→∃ sl,h'.get? b=some {o with slots:=sl}
  free:∀ b o,h.get? b=some o→H b=none→b∉ex→H' b=none
  there:∀ b o,h.get? b=some o→b∉ex→∃ o',h'.get? b=some o'
  tups:∀ b xs,H b=some (.tup xs)→H' b=some (.tup xs)
  frzs:∀ b o u,H b=some (.frz o u)→H' b=some (.frz o u)
  tbls:∀ b ps,H b=some (.tbl ps)→∃ more,H' b=some (.tbl (ps++more))
section
variable {fs fs' ex ex':List Addr} {H H1 H2:Hp} {h h1 h2 h':Heap} {a x e:Addr} {o:HO}
theorem Un.any (u:Un fs ex H H1 h h1) {b:Addr} {ob:Obj} (q:h.get? b=some ob) (n:H b=none) (hx:b∉ex):∃ sl,h1.get? b=some {ob with slots:=sl}:=by
  by_cases hb:b∈fs
  · exact u.slot b ob q n hb hx
  · exact ⟨ob.slots,u.keep b ob q n hb hx⟩
theorem Un.kept (k:∀ b u,h.get? b=some u→h'.get? b=some u):Un fs ex H H h h' :=
  ⟨fun b ob q _ _ _=>k b ob q,fun b ob q _ _ _=>⟨ob.slots,k b ob q⟩,fun _ _ _ n _=>n,fun b ob q _=>⟨ob,k b ob q⟩,fun _ _ q=>q,fun _ _ _ q=>q,fun _ ps q=>⟨#[],by rw [q]; simp⟩⟩
theorem Un.refl:Un fs ex H H h h:=Un.kept fun _ _ q=>q
theorem Un.laid (k:∀ b u,h.get? b=some u→h'.get? b=some u) (hp:h.objs.size≤a) (hn:H a=none):Un fs ex H (upd H a o) h h' where
  keep:=fun b u q _ _ _=>k b u q
  slot:=fun b u q _ _ _=>⟨u.slots,k b u q⟩
  free:=fun b u q n _=>by rw [ψ (Nat.ne_of_lt (Nat.lt_of_lt_of_le (Heap.lt_size q) hp))]; exact n
  there:=fun b u q _=>⟨u,k b u q⟩
  tups:=fun b xs q=>by rw [ψ (ρ q hn)]; exact q
  frzs:=fun b u xs q=>by rw [ψ (ρ q hn)]; exact q
  tbls:=fun b ps q=>⟨#[],by rw [ψ (ρ q hn),q]; simp⟩
theorem Un.write (mu:Mut (H x)) (he:e=x∨H e=some (.own x)) (k:∀ b u,b≠e→h.get? b=some u→h'.get? b=some u) (heo:∃ u,h'.get? e=some u):Un fs ex H (upd H x o) h h':=by
  have hx:∀ b,H b=none→b≠x:=fun b n z=>by subst z; rw [n] at mu; exact mu
  have hb:∀ b,H b=none→b≠e:=fun b n z=>by
    subst z
    rcases he with r | r
    · exact hx b n r
    · rw [n] at r; cases r
  have hm:∀ b u,H b=some u→¬ Mut (some u)→b≠x:=fun b u q nm z=>by subst z; rw [q] at mu; exact nm mu
  refine ⟨fun b u q n _ _=>k b u (hb b n) q,fun b u q n _ _=>⟨u.slots,k b u (hb b n) q⟩,fun b u q n _=>by rw [ψ (hx b n)]; exact n,fun b u q _=>?_,
    fun b xs q=>by rw [ψ (hm b _ q fun z=>z)]; exact q,fun b u xs q=>by rw [ψ (hm b _ q fun z=>z)]; exact q,fun b ps q=>⟨#[],by rw [ψ (hm b _ q fun z=>z),q]; simp⟩⟩
  by_cases hbe:b=e
  · subst hbe; exact heo
  · exact ⟨u,k b u hbe q⟩
end
noncomputable def trk (h:Heap) (H:Hp):List Addr:=(List.range h.objs.size).filter fun a=>(H a).isSome
noncomputable def hidT (h:Heap) (H:Hp):Heap:=PySem.W.hideAll h (trk h H)
theorem hidT_size (h:Heap) (H:Hp):(hidT h H).objs.size=h.objs.size:=PySem.W.hideAll_size _ _
theorem hidT_get {h:Heap} {H:Hp} {b:Addr} {o:Obj} (e:h.get? b=some o) (n:H b=none):(hidT h H).get? b=some o :=
  PySem.W.hideAll_get _ e fun hm=>by
    have q:(H b).isSome=true:=(List.mem_filter.mp hm).2
    rw [n] at q; simp at q
theorem of_hidT {h:Heap} {H:Hp} {b:Addr} {o:Obj} (e:(hidT h H).get? b=some o):h.get? b=some o∧H b=none:=by
  have e':h.get? b=some o:=PySem.W.of_hideAll (trk h H) e
  refine ⟨e',?_⟩
  cases q:H b with
  | none=>rfl
  | some x =>
    have hm:b∈trk h H:=List.mem_filter.mpr ⟨List.mem_range.mpr (Heap.lt_size e'),by simp [q]⟩
    have z:(hidT h H).get? b=none:=PySem.W.hideAll_none (trk h H) hm
    rw [z] at e; cases e
end L2
namespace L2
open PySem PySem.Spec PyProof.Rows
structure Mod (K:PySem.W.Frag) (mg:Str→Option Value) (base:Heap):Prop where
  kin:K.In base
  glob:base.Ns mainGlobals mg
  blt:∃ mb,base.Ns builtinsNs mb∧∀ x:Str,x≠"__name__"→mb x=bootBuiltins x
  nolimit:base.NoLimit
structure Cx where
  prog:Program
  w:World
  K:PySem.W.Frag
  mg:Str→Option Value
  base:Heap
  A:Around
  N:List Str
  s₀:Shared
  H₀:Hp
  env:Env
  outer:List Env
  stack:List Env
  ex:List Addr
  fn:Str→Bool
  calm:Bool
  pn:List (Addr×Obj)
  xe:Value→Shared→Prop
noncomputable def frs (l:List Env):List Addr:=l.filterMap (·.frame)
noncomputable abbrev Cx.fs (X:Cx):List Addr:=frs X.outer
noncomputable def Vis (sc:Scope) (x:Str):Prop:=sc.names.lookup x=some .local∨sc.names.lookup x=some .cell∨sc.names.lookup x=some .free
noncomputable def Loc (sc:Scope) (x:Str):Prop:=sc.names.lookup x=some .local∨sc.names.lookup x=some .cell
noncomputable def Look (env:Env) (h:Heap) (m:Str→Option Value) (x:Str) (u:Value):Prop :=
  (env.kindOf x=some .local∧m x=some u)∨((env.kindOf x=some .cell∨env.kindOf x=some .free)∧∃ c,env.cells.lookup x=some c∧h.IsCell c (some u))
structure Cx.Ok (X:Cx):Prop where
  mod:Mod X.K X.mg X.base
  kind:X.env.scope.kind=.function
  glob:X.env.globals=mainGlobals
  blt:X.env.builtins=builtinsNs
  above:X.s₀.heap.objs.size≤X.env.locals
  inj:∀ x y c,X.env.cells.lookup x=some c→X.env.cells.lookup y=some c→x=y
  has:∀ x,(X.env.kindOf x=some .cell∨X.env.kindOf x=some .free)→∃ c,X.env.cells.lookup x=some c
  cab:∀ x c,X.fn x=true→X.env.cells.lookup x=some c→X.s₀.heap.objs.size≤c
  hd:X.calm=true→X.A.handled=none
  frames:X.A.frames=some X.stack
  stk:X.stack=X.outer∨(X.stack=X.env::X.outer∧X.env.frame=some X.env.locals)
  exf:∀ b∈X.ex,b≠X.env.locals∧∀ x c,X.env.cells.lookup x=some c→c≠b
  bs:∀ b o,X.base.get? b=some o→X.s₀.heap.get? b=some o∧X.H₀ b=none
  bsz:X.base.objs.size≤X.s₀.heap.objs.size
  noex:∀ b o,X.base.get? b=some o→b∉X.ex
  exfs:∀ b∈X.ex,b∉X.fs
  funs:X.s₀.heap.FunFrames X.base X.outer
  frf:∀ b∈X.fs,X.H₀ b=none
structure Inv (X:Cx) (pins:List (Addr×Obj)) (σ:List (Option V)) (H:Hp) (s:Shared):Prop where
  ok:X.Ok
  os:s.os=X.s₀.os
  bare:AllBare s.gens
  base:Un X.fs X.ex X.H₀ H X.s₀.heap s.heap
  loc:∃ m,s.heap.Ns X.env.locals m∧∀ (i:Nat) (x:Str) (v:V),X.N[i]?=some x→σ[i]?=some (some v)→Vis X.env.scope x→∃ u,ο4 v u∧Look X.env s.heap m x u
  cell:∀ x c,X.env.cells.lookup x=some c→∃ v,s.heap.IsCell c v
  free:H X.env.locals=none
  freeC:∀ x c,X.env.cells.lookup x=some c→H c=none
  pin:∀ p∈X.pn++pins,s.heap.get? p.1=some p.2∧H p.1=none∧p.1≠X.env.locals∧p.1∉X.fs∧∀ v,p.2.data≠.cell v
  hok:HOk X.prog X.w H s.heap
  len:σ.length=X.N.length
section
variable {X:Cx} {pins:List (Addr×Obj)} {σ:List (Option V)} {H H':Hp} {s:Shared} {h':Heap}
theorem Cx.Ok.nofr (ok:X.Ok) {b:Addr} {o:Obj} (e:X.base.get? b=some o):b∉X.fs:=fun hb=>by
  have:=(ok.funs.mem hb).1
  rw [e] at this; cases this
theorem Inv.bs (I:Inv X pins σ H s):∀ b o,X.base.get? b=some o→s.heap.get? b=some o∧H b=none:=fun b o e =>
  ⟨I.base.keep b o (I.ok.bs b o e).1 (I.ok.bs b o e).2 (I.ok.nofr e) (I.ok.noex b o e),I.base.free b o (I.ok.bs b o e).1 (I.ok.bs b o e).2 (I.ok.noex b o e)⟩
theorem Inv.bk (I:Inv X pins σ H s):∀ b o,X.base.get? b=some o→s.heap.get? b=some o:=fun b o e=>(I.bs b o e).1
theorem Inv.mod (I:Inv X pins σ H s):Mod X.K X.mg X.base:=I.ok.mod
theorem Inv.kIn (I:Inv X pins σ H s):X.K.In s.heap:=I.ok.mod.kin.keeps I.bk
theorem Inv.fr (I:Inv X pins σ H s):∃ m,Fr X.base X.env.locals s.heap m :=
  let ⟨m,hn,_⟩:=I.loc
  ⟨m,hn,I.bk,Nat.le_trans I.ok.bsz I.ok.above⟩
theorem Inv.lt (I:Inv X pins σ H s):X.env.locals < s.heap.objs.size:=let ⟨_,hn,_⟩:=I.loc; hn.lt
theorem Inv.sz (I:Inv X pins σ H s):X.s₀.heap.objs.size≤s.heap.objs.size:=Nat.le_trans I.ok.above (Nat.le_of_lt I.lt)
theorem Inv.nofs (I:Inv X pins σ H s) {a:Addr} (h:s.heap.objs.size≤a):a∉X.fs:=fun hb=>by
  obtain ⟨_,o,ho,_⟩:=I.ok.funs.mem hb
  exact absurd (Nat.lt_of_lt_of_le (Heap.lt_size ho) (Nat.le_trans I.sz h)) (Nat.lt_irrefl _)
theorem Inv.cne (I:Inv X pins σ H s):∀ x c,X.env.cells.lookup x=some c→c≠X.env.locals:=fun x c e z=>by
  obtain ⟨v,o,ho,hd⟩:=I.cell x c e
  obtain ⟨m,⟨o',es,ep,ho',hd',_⟩,_⟩:=I.loc
  rw [z,ho'] at ho; cases ho; rw [hd'] at hd; cases hd
theorem Inv.funs (I:Inv X pins σ H s):s.heap.FunFrames X.base X.outer:=by
  have all:∀ (l:List Env),(∀ b∈frs l,b∈X.fs)→X.s₀.heap.FunFrames X.base l→s.heap.FunFrames X.base l:=by
    intro l
    induction l with
    | nil=>intro _ _; trivial
    | cons env r ih =>
      intro hs hl
      obtain ⟨hk,⟨L,o,hf,hn,ho,hd⟩,hr⟩:=hl
      have hL:L∈X.fs:=hs L (by unfold frs; rw [List.filterMap_cons,hf]; exact List.mem_cons_self)
      obtain ⟨sl,e⟩:=I.base.slot L o ho (I.ok.frf L hL) hL fun z=>I.ok.exfs L z hL
      exact ⟨hk,⟨L,_,hf,hn,e,hd⟩,ih (fun b hb=>hs b (by unfold frs; rw [List.filterMap_cons,hf]; exact List.mem_cons_of_mem _ hb)) hr⟩
  exact all X.outer (fun _ hb=>hb) I.ok.funs
theorem Inv.stack (I:Inv X pins σ H s):s.heap.FunFrames X.base X.stack:=by
  rcases I.ok.stk with e | ⟨e,hf⟩
  · rw [e]; exact I.funs
  · rw [e]
    obtain ⟨m,hn,_⟩:=I.loc
    refine .cons (by rw [I.ok.kind]; decide) hf hn ?_ I.funs
    exact Heap.get?_none_of_le (Nat.le_trans I.ok.bsz I.ok.above)
theorem Inv.stkSub (I:Inv X pins σ H s):∀ b∈frs X.stack,b∈X.env.locals::X.fs:=fun b hb=>by
  rcases I.ok.stk with e | ⟨e,hf⟩
  · rw [e] at hb; exact List.mem_cons_of_mem _ hb
  · rw [e] at hb
    unfold frs at hb
    rw [List.filterMap_cons,hf] at hb
    exact hb
theorem Inv.stkFree (I:Inv X pins σ H s):∀ b∈frs X.stack,H b=none:=fun b hb=>by
  rcases List.mem_cons.mp (I.stkSub b hb) with e | hb
  · rw [e]; exact I.free
  · obtain ⟨_,o,ho,_⟩:=I.ok.funs.mem hb
    exact I.base.free b o ho (I.ok.frf b hb) fun z=>I.ok.exfs b z hb
theorem Inv.step {g':Array GenState} {t':Nat} {d':Drawn} {ch:List Addr} (I:Inv X pins σ H s)
    (hch:∀ b∈ch,(b∈X.ex∨X.s₀.heap.objs.size≤b)∧b≠X.env.locals∧(∀ x c,X.env.cells.lookup x=some c→c≠b)∧∀ p∈X.pn++pins,p.1≠b)
    (keep:∀ b o,b≠X.env.locals→b∉X.fs→b∉ch→s.heap.get? b=some o→H b=none→h'.get? b=some o)
    (slot:∀ b o,b≠X.env.locals→b∈X.fs→b∉ch→s.heap.get? b=some o→H b=none→∃ sl,h'.get? b=some {o with slots:=sl}) (free:∀ b o,b∉ch→s.heap.get? b=some o→H b=none→H' b=none)
    (there:∀ b o,b∉ch→s.heap.get? b=some o→∃ o',h'.get? b=some o')
    (tups:∀ b xs,H b=some (.tup xs)→H' b=some (.tup xs)) (frzs:∀ b o u,H b=some (.frz o u)→H' b=some (.frz o u)) (tbls:∀ b ps,H b=some (.tbl ps)→∃ more,H' b=some (.tbl (ps++more)))
    (ns:∀ m,s.heap.Ns X.env.locals m→h'.Ns X.env.locals m) (hok:HOk X.prog X.w H' h') (hg:AllBare g') :
    Inv X pins σ H' {s with heap:=h',gens:=g',drawn:=d',toks:=t'}:=by
  have neL:∀ b o,X.s₀.heap.get? b=some o→b≠X.env.locals:=fun b o e=>Nat.ne_of_lt (Nat.lt_of_lt_of_le (Heap.lt_size e) I.ok.above)
  have neC:∀ b o,X.s₀.heap.get? b=some o→b∉X.ex→b∉ch:=fun b o e hx hb=>by
    rcases (hch b hb).1 with z | z
    · exact hx z
    · exact absurd (Nat.lt_of_lt_of_le (Heap.lt_size e) z) (Nat.lt_irrefl _)
  have cellK:∀ x c,X.env.cells.lookup x=some c→∀ v,s.heap.IsCell c v→h'.IsCell c v:=fun x c e v ⟨o,ho,hd⟩=>by
    have nch:c∉ch:=fun z=>(hch c z).2.2.1 x c e rfl
    by_cases hc:c∈X.fs
    · obtain ⟨sl,q⟩:=slot c o (I.cne x c e) hc nch ho (I.freeC x c e)
      exact ⟨_,q,hd⟩
    · exact ⟨o,keep c o (I.cne x c e) hc nch ho (I.freeC x c e),hd⟩
  refine ⟨I.ok,I.os,hg,⟨fun b o e n hb hx=>?_,fun b o e n hb hx=>?_,fun b o e n hx=>?_,fun b o e hx=>?_,fun b xs e=>tups b xs (I.base.tups b xs e),fun b o xs e=>frzs b o xs (I.base.frzs b o xs e),fun b ps e=>?_⟩,?_,fun x c e=>?_,?_,fun x c e=>?_,fun p hp=>?_,hok,I.len⟩
  · exact keep b o (neL b o e) hb (neC b o e hx) (I.base.keep b o e n hb hx) (I.base.free b o e n hx)
  · obtain ⟨sl,e1⟩:=I.base.slot b o e n hb hx
    obtain ⟨sl',e2⟩:=slot b _ (neL b o e) hb (neC b o e hx) e1 (I.base.free b o e n hx)
    exact ⟨sl',e2⟩
  · obtain ⟨o',e1⟩:=I.base.there b o e hx
    exact free b o' (neC b o e hx) e1 (I.base.free b o e n hx)
  · obtain ⟨o',e1⟩:=I.base.there b o e hx
    exact there b o' (neC b o e hx) e1
  · obtain ⟨m1,e1⟩:=I.base.tbls b ps e
    obtain ⟨m2,e2⟩:=tbls b _ e1
    exact ⟨m1++m2,by rw [e2,Array.append_assoc]⟩
  · obtain ⟨m,hn,hl⟩:=I.loc
    refine ⟨m,ns m hn,fun i x v e1 e2 e3=>?_⟩
    obtain ⟨u,r,l⟩:=hl i x v e1 e2 e3
    refine ⟨u,r,?_⟩
    rcases l with l | ⟨k,c,e,z⟩
    · exact .inl l
    · exact .inr ⟨k,c,e,cellK x c e _ z⟩
  · obtain ⟨v,z⟩:=I.cell x c e
    exact ⟨v,cellK x c e v z⟩
  · obtain ⟨m,⟨o,_,_,ho,_⟩,_⟩:=I.loc
    exact free _ o (fun z=>(hch _ z).2.1 rfl) ho I.free
  · obtain ⟨v,o,ho,hd⟩:=I.cell x c e
    exact free c o (fun z=>(hch c z).2.2.1 x c e rfl) ho (I.freeC x c e)
  · obtain ⟨e,n,ne,nf,d⟩:=I.pin p hp
    have nch:p.1∉ch:=fun z=>(hch p.1 z).2.2.2 p hp rfl
    exact ⟨keep p.1 p.2 ne nf nch e n,free p.1 p.2 nch e n,ne,nf,d⟩
theorem Inv.un {t':Nat} (I:Inv X pins σ H s) (u:Un X.fs [] H H' s.heap h') (hok:HOk X.prog X.w H' h'):Inv X pins σ H' {s with heap:=h',toks:=t'}:=by
  obtain ⟨m,⟨o,es,ep,ho,r⟩,_⟩:=id I.loc
  obtain ⟨sl,hL⟩:=u.any ho I.free (by simp)
  exact I.step (g':=s.gens) (d':=s.drawn) (ch:=[]) (fun _ z=>nomatch z) (fun b o _ hb _ e n=>u.keep b o e n hb (by simp)) (fun b o _ hb _ e n=>u.slot b o e n hb (by simp)) (fun b o _ e n=>u.free b o e n (by simp)) (fun b o _ e=>u.there b o e (by simp)) u.tups u.frzs u.tbls (fun m' hm=>by
    obtain ⟨o',es',ep',ho',r'⟩:=hm
    rw [ho] at ho'; cases ho'
    exact ⟨_,es',ep',hL,r'⟩) hok I.bare
theorem Inv.call {g':Array GenState} {t':Nat} {d':Drawn} {ch:List Addr} (I:Inv X pins σ H s) (u:Un (frs X.stack) ch H H' s.heap h') (hok:HOk X.prog X.w H' h') (hg:AllBare g')
    (hch:∀ b∈ch,(b∈X.ex∨X.s₀.heap.objs.size≤b)∧b≠X.env.locals∧(∀ x c,X.env.cells.lookup x=some c→c≠b)∧∀ p∈X.pn++pins,p.1≠b) :
    Inv X pins σ H' {s with heap:=h',gens:=g',drawn:=d',toks:=t'}:=by
  obtain ⟨m,⟨o,es,ep,ho,r⟩,_⟩:=id I.loc
  obtain ⟨sl,hL⟩:=u.any ho I.free fun z=>(hch _ z).2.1 rfl
  exact I.step (ch:=ch) hch (fun b o hL hb hc e n=>u.keep b o e n (fun z=>(List.mem_cons.mp (I.stkSub b z)).elim hL hb) hc) (fun b o _ _ hc e n=>u.any e n hc) (fun b o hc e n=>u.free b o e n hc) (fun b o hc e=>u.there b o e hc) u.tups u.frzs u.tbls (fun m' hm=>by
    obtain ⟨o',es',ep',ho',r'⟩:=hm
    rw [ho] at ho'; cases ho'
    exact ⟨_,es',ep',hL,r'⟩) hok hg
theorem Inv.turned {t':Nat} {it:Addr} (I:Inv X pins σ H s) (k:∀ b o,b≠it→s.heap.get? b=some o→h'.get? b=some o) (hn:H it=none) (hL:it≠X.env.locals)
    (h1:it∈X.ex∨X.s₀.heap.objs.size≤it) (h2:∀ x c,X.env.cells.lookup x=some c→c≠it) (h3:∀ p∈X.pn++pins,p.1≠it):Inv X pins σ H {s with heap:=h',toks:=t'}:=by
  have nit:∀ b u,H b=some u→b≠it:=fun b u e z=>by rw [z,hn] at e; cases e
  refine I.step (g':=s.gens) (d':=s.drawn) (ch:=[it]) (fun b hb=>?_) (fun b o _ _ hc e _=>k b o (fun z=>hc (by simp [z])) e) (fun b o _ _ hc e _=>⟨o.slots,k b o (fun z=>hc (by simp [z])) e⟩) (fun _ _ _ _ n=>n)
    (fun b o hc e=>⟨o,k b o (fun z=>hc (by simp [z])) e⟩) (fun _ _ e=>e) (fun _ _ _ e=>e) (fun b ps e=>⟨#[],by rw [e]; simp⟩) (fun m hm=>?_) (fun b u e=>?_) I.bare
  · have e:b=it:=by simpa using hb
    subst e
    exact ⟨h1,hL,h2,h3⟩
  · obtain ⟨o,es,ep,ho,r⟩:=hm
    exact ⟨o,es,ep,k _ o (Ne.symm hL) ho,r⟩
  · refine (I.hok b u e).stay (fun c v hc q=>k c v ?_ q) (fun _ q=>q) fun _ _ q=>q
    rcases hc with z | z
    · rw [z]; exact nit b u e
    · exact nit c _ z
theorem Inv.tok (I:Inv X pins σ H s) (t:Nat):Inv X pins σ H {s with toks:=t}:=I.un (h':=s.heap) (t':=t) Un.refl I.hok
theorem Inv.kept {t':Nat} (I:Inv X pins σ H s) (k:∀ b u,s.heap.get? b=some u→h'.get? b=some u):Inv X pins σ H {s with heap:=h',toks:=t'}:=I.un (Un.kept k) (I.hok.kept k)
theorem Inv.laid {a:Addr} {o:HO} {t':Nat} (I:Inv X pins σ H s) (k:∀ b u,s.heap.get? b=some u→h'.get? b=some u) (hp:s.heap.objs.size≤a) (new:τ6 X.prog X.w (upd H a o) h' a o) :
    Inv X pins σ (upd H a o) {s with heap:=h',toks:=t'}:=I.un (Un.laid k hp (I.hok.fresh hp)) (I.hok.laid k hp new)
theorem Inv.write {x e:Addr} {o:HO} {t':Nat} (I:Inv X pins σ H s) (mu:Mut (H x)) (he:e=x∨H e=some (.own x)) (k:∀ b u,b≠e→s.heap.get? b=some u→h'.get? b=some u) (heo:∃ u,h'.get? e=some u)
    (new:τ6 X.prog X.w (upd H x o) h' x o):Inv X pins σ (upd H x o) {s with heap:=h',toks:=t'}:=I.un (Un.write mu he k heo) (I.hok.write mu he k heo new)
theorem Inv.weak {σ':List (Option V)} (I:Inv X pins σ H s) (hl:σ'.length=σ.length) (w:∀ (i:Nat) v,σ'[i]?=some (some v)→σ[i]?=some (some v)):Inv X pins σ' H s :=
  ⟨I.ok,I.os,I.bare,I.base,let ⟨m,hn,hl'⟩:=I.loc; ⟨m,hn,fun i x v e1 e2 e3=>hl' i x v e1 (w i v e2) e3⟩,I.cell,I.free,I.freeC,I.pin,I.hok,hl.trans I.len⟩
theorem Inv.pins_of {pins':List (Addr×Obj)} (I:Inv X pins σ H s) (h:∀ p∈pins',s.heap.get? p.1=some p.2∧H p.1=none∧p.1≠X.env.locals∧p.1∉X.fs∧∀ v,p.2.data≠.cell v):Inv X pins' σ H s :=
  ⟨I.ok,I.os,I.bare,I.base,I.loc,I.cell,I.free,I.freeC,fun p hp=>(List.mem_append.mp hp).elim (fun z=>I.pin p (List.mem_append_left _ z)) (h p),I.hok,I.len⟩
theorem θj {N:List Str} (hN:N.Nodup) {i j:Nat} {x:Str} (a:N[i]?=some x) (b:N[j]?=some x):i=j:=by
  obtain ⟨h1,e1⟩:=List.getElem?_eq_some_iff.mp a
  obtain ⟨h2,e2⟩:=List.getElem?_eq_some_iff.mp b
  exact (List.getElem_inj hN).mp (e1.trans e2.symm)
theorem store_ok2 {M:Model} {A:Around} {E:Value→Shared→Prop} {i:Nat} {x:Str} {v:V} {u:Value} {Q:Unit→Shared→Prop} (I:Inv X pins σ H s) (hN:X.N.Nodup) (hi:X.N[i]?=some x) (hx:Loc X.env.scope x) (r:ο4 v u)
    (h:∀ s',Inv X pins (σ.set i (some v)) H s'→(∃ a,Heap.SameBut a s.heap s'.heap∧(a=X.env.locals∨X.env.cells.lookup x=some a))→Q () s') (hf:X.fn x=true∨X.env.scope.names.lookup x=some .local:=by first | exact .inl rfl | exact .inr rfl | assumption):wpAny M A (storeName X.env x u) Q E s:=by
  obtain ⟨m,hn,hl⟩:=id I.loc
  have hcls:(X.env.scope.kind == .class || (X.env.scope.kind == .module && X.env.locals != X.env.globals))=false:=by rw [I.ok.kind]; rfl
  have hiσ:i < σ.length:=by rw [I.len]; exact (List.getElem?_eq_some_iff.mp hi).1
  have cne:=I.cne
  have tracked:∀ {a:Addr} {h':Heap},(∃ o,s.heap.get? a=some o∧H a=none)→Heap.SameBut a s.heap h'→HOk X.prog X.w H h':=fun {a h'} ha hs b ob e=>by
    obtain ⟨_,_,hfree⟩:=ha
    refine (I.hok b ob e).stay (fun c w' hc q=>(hs.2 c ?_).trans q) (fun _ q=>q) fun _ _ q=>q
    rintro rfl
    rcases hc with rfl | hc
    · rw [hfree] at e; cases e
    · rw [hfree] at hc; cases hc
  rcases hx with hk | hk
  · refine wpAny_storeName_local hk hn (fun h' hn' hs=>?_) hcls
    obtain ⟨oL,_,_,hoL,_⟩:=id hn
    refine h _ ⟨I.ok,I.os,I.bare,⟨fun b o e n hb hx=>?_,fun b o e n hb hx=>?_,I.base.free,fun b o e hx=>?_,I.base.tups,I.base.frzs,I.base.tbls⟩,⟨_,hn',fun j y v' e1 e2 e3=>?_⟩,fun y c e=>?_,I.free,I.freeC,fun p hp=>?_,tracked ⟨oL,hoL,I.free⟩ hs,by simpa using I.len⟩ ⟨_,hs,.inl rfl⟩
    · exact (hs.2 b (Nat.ne_of_lt (Nat.lt_of_lt_of_le (Heap.lt_size e) I.ok.above))).trans (I.base.keep b o e n hb hx)
    · obtain ⟨sl,e1⟩:=I.base.slot b o e n hb hx
      exact ⟨sl,(hs.2 b (Nat.ne_of_lt (Nat.lt_of_lt_of_le (Heap.lt_size e) I.ok.above))).trans e1⟩
    · obtain ⟨o',e1⟩:=I.base.there b o e hx
      exact ⟨o',(hs.2 b (Nat.ne_of_lt (Nat.lt_of_lt_of_le (Heap.lt_size e) I.ok.above))).trans e1⟩
    · by_cases hj:j=i
      · subst hj
        rw [hi] at e1; cases e1
        rw [List.getElem?_set_self hiσ] at e2
        cases e2
        exact ⟨u,r,.inl ⟨hk,by simp⟩⟩
      · rw [List.getElem?_set_ne (Ne.symm hj)] at e2
        obtain ⟨u',r',q⟩:=hl j y v' e1 e2 e3
        refine ⟨u',r',?_⟩
        rcases q with ⟨k,e⟩ | ⟨k,c,e,z⟩
        · refine .inl ⟨k,?_⟩
          have:y≠x:=fun e=>hj (θj hN e1 (e ▸ hi))
          simp [this,e]
        · exact .inr ⟨k,c,e,z.sameBut hs (cne y c e)⟩
    · obtain ⟨w',z⟩:=I.cell y c e
      exact ⟨w',z.sameBut hs (cne y c e)⟩
    · obtain ⟨e,n,ne,nf,d⟩:=I.pin p hp
      exact ⟨(hs.2 p.1 ne).trans e,n,ne,nf,d⟩
  · have hfn:X.fn x=true:=by
      rcases hf with z | z
      · exact z
      · rw [z] at hk; cases hk
    obtain ⟨c,hc⟩:=I.ok.has x (.inl hk)
    obtain ⟨w',z⟩:=I.cell x c hc
    refine wpAny_storeName_cell I.ok.kind hk hc z (fun h' hc' hs=>?_)
    obtain ⟨oc,hoc,hocd⟩:=id z
    refine h {s with heap:=h'} ⟨I.ok,I.os,I.bare,⟨fun b o e n hb hx=>?_,fun b o e n hb hx=>?_,I.base.free,fun b o e hx=>?_,I.base.tups,I.base.frzs,I.base.tbls⟩,⟨m,hn.sameBut hs (Ne.symm (cne x c hc)),fun j y v' e1 e2 e3=>?_⟩,fun y c' e=>?_,I.free,I.freeC,fun p hp=>?_,tracked ⟨oc,hoc,I.freeC x c hc⟩ hs,by simpa using I.len⟩ ⟨c,hs,.inr hc⟩
    · exact (hs.2 b (Nat.ne_of_lt (Nat.lt_of_lt_of_le (Heap.lt_size e) (I.ok.cab x c hfn hc)))).trans (I.base.keep b o e n hb hx)
    · obtain ⟨sl,e1⟩:=I.base.slot b o e n hb hx
      exact ⟨sl,(hs.2 b (Nat.ne_of_lt (Nat.lt_of_lt_of_le (Heap.lt_size e) (I.ok.cab x c hfn hc)))).trans e1⟩
    · obtain ⟨o',e1⟩:=I.base.there b o e hx
      exact ⟨o',(hs.2 b (Nat.ne_of_lt (Nat.lt_of_lt_of_le (Heap.lt_size e) (I.ok.cab x c hfn hc)))).trans e1⟩
    · by_cases hj:j=i
      · subst hj
        rw [hi] at e1; cases e1
        rw [List.getElem?_set_self hiσ] at e2
        cases e2
        exact ⟨u,r,.inr ⟨.inl hk,c,hc,hc'⟩⟩
      · rw [List.getElem?_set_ne (Ne.symm hj)] at e2
        obtain ⟨u',r',q⟩:=hl j y v' e1 e2 e3
        refine ⟨u',r',?_⟩
        rcases q with q | ⟨k,c',e,z'⟩
        · exact .inl q
        · refine .inr ⟨k,c',e,z'.sameBut hs ?_⟩
          rintro rfl
          exact hj (θj hN e1 (I.ok.inj _ _ _ e hc ▸ hi))
    · by_cases hcc:c'=c
      · subst hcc; exact ⟨_,hc'⟩
      · obtain ⟨w2,z2⟩:=I.cell y c' e
        exact ⟨w2,z2.sameBut hs hcc⟩
    · obtain ⟨e,n,ne,nf,d⟩:=I.pin p hp
      refine ⟨(hs.2 p.1 ?_).trans e,n,ne,nf,d⟩
      intro q
      rw [q,hoc] at e
      have q':oc=p.2:=Option.some.inj e
      exact d w' (by rw [← q']; exact hocd)
theorem store_ok {M:Model} {A:Around} {E:Value→Shared→Prop} {i:Nat} {x:Str} {v:V} {u:Value} {Q:Unit→Shared→Prop} (I:Inv X pins σ H s) (hN:X.N.Nodup) (hi:X.N[i]?=some x) (hx:Loc X.env.scope x) (r:ο4 v u)
    (h:∀ s',Inv X pins (σ.set i (some v)) H s'→Q () s') (hf:X.fn x=true∨X.env.scope.names.lookup x=some .local:=by first | exact .inl rfl | exact .inr rfl | assumption):wpAny M A (storeName X.env x u) Q E s :=
  store_ok2 I hN hi hx r (fun s' I' _=>h s' I') hf
theorem Inv.call' {s':Shared} {ch:List Addr} (I:Inv X pins σ H s) (ho:s'.os=s.os) (u:Un (frs X.stack) ch H H' s.heap s'.heap) (hok:HOk X.prog X.w H' s'.heap) (hg:AllBare s'.gens)
    (hch:∀ b∈ch,(b∈X.ex∨X.s₀.heap.objs.size≤b)∧b≠X.env.locals∧(∀ x c,X.env.cells.lookup x=some c→c≠b)∧∀ p∈X.pn++pins,p.1≠b):Inv X pins σ H' s':=by
  obtain ⟨h',g',d',t',o'⟩:=s'
  have e:o'=s.os:=ho
  subst e
  exact I.call (g':=g') (t':=t') (d':=d') u hok hg hch
end
noncomputable abbrev XK:=Value→Option Addr→Hp→Prop
noncomputable abbrev St:=List (Option V)
noncomputable abbrev VK:=V→Hp→Prop
noncomputable abbrev TE:=St→Hp→VK→Prop
noncomputable abbrev TT:=St→Hp→(Bool→Hp→Prop)→Prop
noncomputable abbrev TA:=St→Hp→(List V→Hp→Prop)→Prop
structure Ends where
  nx:St→Hp→Prop
  rt:VK
  bk:St→Hp→Prop:=fun _ _=>False
  ct:St→Hp→Prop:=fun _ _=>False
noncomputable abbrev TS:=Ends→St→Hp→Prop
noncomputable def EP (X:Cx) (pins:List (Addr×Obj)) (σ:St) (Q:VK) (u:Value) (s':Shared):Prop:=∃ v H',Inv X pins σ H' s'∧ο4 v u∧Q v H'
noncomputable def TP (X:Cx) (pins:List (Addr×Obj)) (σ:St) (Q:Bool→Hp→Prop) (b:Bool) (s':Shared):Prop:=∃ H',Inv X pins σ H' s'∧Q b H'
noncomputable def AP (X:Cx) (pins:List (Addr×Obj)) (σ:St) (Q:List V→Hp→Prop) (us:List Value) (s':Shared):Prop:=∃ vs H',Inv X pins σ H' s'∧τ2 vs us∧Q vs H'
noncomputable def SP (X:Cx) (pins:List (Addr×Obj)) (D:Ends) (f:Flow) (s':Shared):Prop :=
  match f with
  | .next=>∃ σ' H',Inv X pins σ' H' s'∧D.nx σ' H'
  | .brk=>∃ σ' H',Inv X pins σ' H' s'∧D.bk σ' H'
  | .cont=>∃ σ' H',Inv X pins σ' H' s'∧D.ct σ' H'
  | .ret u=>∃ v σ' H',Inv X pins σ' H' s'∧ο4 v u∧D.rt v H'
noncomputable def PE (X:Cx) (e:Expr) (t:TE):Prop :=
  ∀ (pins:List (Addr×Obj)) (s:Shared) (σ:St) (H:Hp) (Q:VK),Inv X pins σ H s→t σ H Q→wpAny (model X.prog X.w) X.A (eval e X.env) (EP X pins σ Q) X.xe s
noncomputable def PT (X:Cx) (e:Expr) (t:TT):Prop :=
  ∀ (pins:List (Addr×Obj)) (s:Shared) (σ:St) (H:Hp) (Q:Bool→Hp→Prop),Inv X pins σ H s→t σ H Q→wpAny (model X.prog X.w) X.A (isTrue e X.env (eval e X.env)) (TP X pins σ Q) X.xe s
noncomputable def PW (X:Cx) (e:Expr) (t:TT):Prop :=
  ∀ (whole:Sem Value) (pins:List (Addr×Obj)) (s:Shared) (σ:St) (H:Hp) (Q:Bool→Hp→Prop),Inv X pins σ H s→t σ H Q→wpAny (model X.prog X.w) X.A (isTrue e X.env whole) (TP X pins σ Q) X.xe s
theorem PW.pt {X:Cx} {e:Expr} {t:TT} (h:PW X e t):PT X e t:=h _
noncomputable def PA (X:Cx) (es:List Expr) (t:TA):Prop :=
  ∀ (pos:Pos) (pins:List (Addr×Obj)) (s:Shared) (σ:St) (H:Hp) (Q:List V→Hp→Prop),Inv X pins σ H s→t σ H Q→wpAny (model X.prog X.w) X.A (spliced (backTo pos (starEach es X.env))) (AP X pins σ Q) X.xe s
noncomputable def PS (X:Cx) (st:Stmt) (t:TS):Prop :=
  ∀ (pins:List (Addr×Obj)) (s:Shared) (σ:St) (H:Hp) (D:Ends),Inv X pins σ H s→t D σ H→wpAny (model X.prog X.w) X.A (exec st X.env) (SP X pins D) X.xe s
noncomputable def PSs (X:Cx) (st:List Stmt) (t:TS):Prop :=
  ∀ (pins:List (Addr×Obj)) (s:Shared) (σ:St) (H:Hp) (D:Ends),Inv X pins σ H s→t D σ H→wpAny (model X.prog X.w) X.A (execs st X.env) (SP X pins D) X.xe s
theorem thn {α:Type} {t:Sem α} {Q Q':α→Shared→Prop} {M:Model} {A:Around} {E:Value→Shared→Prop} {s:Shared} (h:wpAny M A t Q E s) (hQ:∀ a s,Q a s→Q' a s):wpAny M A t Q' E s:=wpAny_mono h hQ fun _ _ x=>x
end L2
namespace L2
open PySem PySem.Spec PyProof.Rows
section
variable {X:Cx}
noncomputable def φ2 (i:Nat):TE:=fun σ H Q=>∃ v,σ[i]?=some (some v)∧Q v H
noncomputable def tC (v:V):TE:=fun _ H Q=>Q v H
theorem pe_var {i:Nat} {x:Str} {pos:Pos} (hN:X.N[i]?=some x) (hv:Vis X.env.scope x) (hd:(x == ("__debug__":Str))=false:=by decide) (hcd:(x == ("__classdict__":Str))=false:=by decide):PE X (.Name x pos) (φ2 i):=by
  intro pins s σ H Q I h
  obtain ⟨v,e,h⟩:=h
  obtain ⟨m,hn,hl⟩:=I.loc
  obtain ⟨u,r,l⟩:=hl i x v hN e hv
  have fin:EP X pins σ Q u s:=⟨v,H,I,r,h⟩
  rcases l with ⟨hk,hm⟩ | ⟨hk,c,hc,hcell⟩
  · exact wpAny_Name (wpAny_loadName_local I.ok.kind hk hn hm fin) hd
  · rcases hk with hk | hk
    · exact wpAny_Name (wpAny_loadName_cell I.ok.kind hk hc hcell fin) hd
    · exact wpAny_Name (wpAny_loadName_free I.ok.kind hk hc hcell fin hcd) hd
theorem ι {i j pos}:PE X (.Constant (.int i) j pos) (tC (.int i)):=fun _ _ _ H _ I h=>wpAny_Constant_int ⟨.int i,H,I.tok _,⟨_,rfl⟩,h⟩
theorem pe_bl {b j pos}:PE X (.Constant (.bool b) j pos) (tC (.bl b)):=fun _ _ _ H _ I h=>Constant_bool ⟨.bl b,H,I,rfl,h⟩
theorem pe_non {j pos}:PE X (.Constant .none j pos) (tC .non):=fun _ _ _ H _ I h=>Constant_none ⟨.non,H,I,rfl,h⟩
noncomputable def Gl (X:Cx) (x:Str):Prop:=X.env.kindOf x=some .globalImplicit
theorem ρb {E:Value→Shared→Prop} {pins:List (Addr×Obj)} {s:Shared} {σ:St} {H:Hp} {x:Str} {u:Value} {pos:Pos} {Q:Value→Shared→Prop} (I:Inv X pins σ H s) (hg:Gl X x) (hm:X.mg x=some u) (h:Q u s)
    (hd:(x == ("__debug__":Str))=false:=by decide):wpAny (model X.prog X.w) X.A (eval (.Name x pos) X.env) Q E s :=
  Calls.Name_function_global I.ok.kind hg (Calls.loadGlobal_global (by rw [I.ok.glob]; exact I.mod.glob.keeps I.bk) hm h) hd
theorem Φk {E:Value→Shared→Prop} {pins:List (Addr×Obj)} {s:Shared} {σ:St} {H:Hp} {x:Str} {u:Value} {pos:Pos} {Q:Value→Shared→Prop} (I:Inv X pins σ H s) (hg:Gl X x) (hm:X.mg x=none) (hv:bootBuiltins x=some u) (h:Q u s)
    (hn:x≠"__name__":=by decide) (hd:(x == ("__debug__":Str))=false:=by decide):wpAny (model X.prog X.w) X.A (eval (.Name x pos) X.env) Q E s:=by
  obtain ⟨mb,h1,h2⟩:=I.mod.blt
  exact Calls.Name_function_global I.ok.kind hg (Calls.loadGlobal_builtin (by rw [I.ok.glob]; exact I.mod.glob.keeps I.bk) hm (by rw [I.ok.blt]; exact h1.keeps I.bk) ((h2 x hn).trans hv) h) hd
theorem pe_glob {x:Str} {v:V} {u:Value} {pos:Pos} (hg:Gl X x) (hm:X.mg x=some u) (r:ο4 v u) (hd:(x == ("__debug__":Str))=false:=by decide):PE X (.Name x pos) (tC v) :=
  fun _ _ _ H _ I h=>ρb I hg hm ⟨v,H,I,r,h⟩ hd
theorem pe_bltn {x:Str} {v:V} {u:Value} {pos:Pos} (hg:Gl X x) (hm:X.mg x=none) (hv:bootBuiltins x=some u) (r:ο4 v u) (hn:x≠"__name__":=by decide) (hd:(x == ("__debug__":Str))=false:=by decide):PE X (.Name x pos) (tC v) :=
  fun _ _ _ H _ I h=>Φk I hg hm hv ⟨v,H,I,r,h⟩ hn hd
variable {a b:Expr} {ta tb:TE} {pos:Pos}
noncomputable def PC (X:Cx) (op:CmpOp) (a b:Expr) (t:TE):Prop :=
  ∀ (pins:List (Addr×Obj)) (s:Shared) (σ:St) (H:Hp) (Q:VK),Inv X pins σ H s→t σ H Q →
    wpAny (model X.prog X.w) X.A (eval a X.env) (fun v s₁=>wpAny (model X.prog X.w) X.A (eval b X.env) (fun u s₂=>wpAny (model X.prog X.w) X.A (compareOp op v u) (EP X pins σ Q) X.xe s₂) X.xe s₁) X.xe s
noncomputable def tB (t:TE):TT:=fun σ H Q=>t σ H fun x H1=>∃ c,x=.bl c∧Q c H1
theorem pt_cmp {op:CmpOp} {t:TE} (h:PC X op a b t) (h1:behindInMarks op b=false:=by first | exact nobehind _ (by decide) (by decide) | rfl):PT X (.Compare a [op] [b] pos) (tB t):=by
  intro pins s σ H Q I hw
  refine wpAny_isTrue_Compare1 (thn (h pins s σ H _ I hw) fun v s1 h1=>thn h1 fun u s2 h2=>thn h2 fun c s3 ⟨x,H1,I1,r1,q1⟩=>?_) h1
  obtain ⟨d,rfl,q⟩:=q1
  cases r1
  exact wpAny_truthy_bool ⟨H1,I1,q⟩
theorem ν4 {e:Expr} {t:TE} (h:PE X e t) (he:∀ whole,isTrue e X.env whole=(do let v ← whole; standAt e.pos; holding [v] (truthy v)):=by intro _; rfl):PT X e (tB t):=by
  intro pins s σ H Q I hw
  refine isTrue_plain (thn (h pins s σ H _ I hw) fun v s1 ⟨x,H1,I1,r1,q1⟩=>?_) (he _)
  obtain ⟨d,rfl,q⟩:=q1
  cases r1
  exact wpAny_truthy_bool ⟨H1,I1,q⟩
variable {tA tB':TT} {rest:List Expr}
noncomputable def tAnd (t u:TT):TT:=fun σ H Q=>t σ H fun c H1=>if c=true then u σ H1 Q else Q false H1
noncomputable def tOr (t u:TT):TT:=fun σ H Q=>t σ H fun c H1=>if c=true then Q true H1 else u σ H1 Q
noncomputable def tNot (t:TT):TT:=fun σ H Q=>t σ H fun c H1=>Q (!c) H1
theorem ζk (ha:PT X a tA):PW X (.BoolOp .And [a] pos) tA:=by
  intro wh pins s σ H Q I h
  refine isTrue_and (thn (ha pins s σ H Q I h) fun c s1 e=>?_)
  cases c with
  | true=>exact isTrue_and_nil e
  | false=>exact e
theorem Ωj (ha:PT X a tA):PW X (.BoolOp .Or [a] pos) tA:=by
  intro wh pins s σ H Q I h
  refine isTrue_or (thn (ha pins s σ H Q I h) fun c s1 e=>?_)
  cases c with
  | false=>exact isTrue_or_nil e
  | true=>exact e
theorem pw_and (ha:PT X a tA) (hb:PW X (.BoolOp .And (b::rest) pos) tB'):PW X (.BoolOp .And (a::b::rest) pos) (tAnd tA tB'):=by
  intro wh pins s σ H Q I h
  refine isTrue_and (thn (ha pins s σ H _ I h) fun c s1 ⟨H1,I1,q1⟩=>?_)
  cases c with
  | true=>exact hb wh pins s1 σ H1 Q I1 q1
  | false=>exact ⟨H1,I1,q1⟩
theorem pw_or (ha:PT X a tA) (hb:PW X (.BoolOp .Or (b::rest) pos) tB'):PW X (.BoolOp .Or (a::b::rest) pos) (tOr tA tB'):=by
  intro wh pins s σ H Q I h
  refine isTrue_or (thn (ha pins s σ H _ I h) fun c s1 ⟨H1,I1,q1⟩=>?_)
  cases c with
  | true=>exact ⟨H1,I1,q1⟩
  | false=>exact hb wh pins s1 σ H1 Q I1 q1
theorem φn (ha:PT X a tA):PT X (.UnaryOp .Not a pos) (tNot tA):=by
  intro pins s σ H Q I h
  exact isTrue_not (ha pins s σ H (fun c H1=>Q (!c) H1) I h)
noncomputable def tAndV (ta tb:TE):TE:=fun σ H Q=>ta σ H fun x H1=>∃ c,x=.bl c∧if c=true then tb σ H1 Q else Q (.bl false) H1
noncomputable def tOrV (ta tb:TE):TE:=fun σ H Q=>ta σ H fun x H1=>∃ c,x=.bl c∧if c=true then Q (.bl true) H1 else tb σ H1 Q
noncomputable def tNotV (ta:TE):TE:=fun σ H Q=>ta σ H fun x H1=>∃ c,x=.bl c∧Q (.bl (!c)) H1
theorem pe_one {op} {t:TE} (h:PE X a t):PE X (.BoolOp op [a] pos) t:=fun pins s σ H Q I hw=>BoolOp_one (h pins s σ H Q I hw)
theorem pe_and (ha:PE X a ta) (hb:PE X (.BoolOp .And (b::rest) pos) tb):PE X (.BoolOp .And (a::b::rest) pos) (tAndV ta tb):=by
  intro pins s σ H Q I h
  refine BoolOp_and (thn (ha pins s σ H _ I h) fun v s1 ⟨x,H1,I1,r1,q1⟩=>?_)
  obtain ⟨c,rfl,q1⟩:=q1
  cases r1
  refine wpAny_truthy_bool ?_
  cases c with
  | true=>exact hb pins s1 σ H1 Q I1 q1
  | false=>exact ⟨.bl false,H1,I1,rfl,q1⟩
theorem pe_or (ha:PE X a ta) (hb:PE X (.BoolOp .Or (b::rest) pos) tb):PE X (.BoolOp .Or (a::b::rest) pos) (tOrV ta tb):=by
  intro pins s σ H Q I h
  refine BoolOp_or (thn (ha pins s σ H _ I h) fun v s1 ⟨x,H1,I1,r1,q1⟩=>?_)
  obtain ⟨c,rfl,q1⟩:=q1
  cases r1
  refine wpAny_truthy_bool ?_
  cases c with
  | false=>exact hb pins s1 σ H1 Q I1 q1
  | true=>exact ⟨.bl true,H1,I1,rfl,q1⟩
theorem pe_not (ha:PE X a ta):PE X (.UnaryOp .Not a pos) (tNotV ta):=by
  intro pins s σ H Q I h
  refine UnaryOp_ (thn (ha pins s σ H _ I h) fun v s1 ⟨x,H1,I1,r1,q1⟩=>?_)
  obtain ⟨c,rfl,q1⟩:=q1
  cases r1
  exact not_of (wpAny_truthy_bool ⟨.bl (!c),H1,I1,rfl,q1⟩)
noncomputable def tIf (t:TT) (ta tb:TE):TE:=fun σ H Q=>t σ H fun c H1=>if c=true then ta σ H1 Q else tb σ H1 Q
theorem Ψ1 {c:Expr} (hc:PT X c tA) (ha:PE X a ta) (hb:PE X b tb):PE X (.IfExp c a b pos) (tIf tA ta tb):=by
  intro pins s σ H Q I h
  refine wpAny_IfExp (thn (hc pins s σ H _ I h) fun d s1 ⟨H1,I1,q1⟩=>?_)
  cases d with
  | true=>exact ha pins s1 σ H1 Q I1 q1
  | false=>exact hb pins s1 σ H1 Q I1 q1
end
end L2
namespace L2
open PySem PySem.Spec PyProof.Rows
noncomputable def SqL (K:PySem.W.Frag) (H:Hp) (a:Addr) (xs:List V):Prop :=
  Rd H a (.lst xs) ∨
    ∃ (o:Obj) (its:Array Value) (n:Nat),K.lookup a=some o∧o.cls=.type "list"∧o.dict=none∧o.data=.seq its n∧its.size≤sizeLine∧τ2 xs its.toList
noncomputable def SqT (K:PySem.W.Frag) (H:Hp) (a:Addr) (xs:List V):Prop :=
  Rd H a (.tup xs) ∨
    ∃ (o:Obj) (its:Array Value) (n:Nat),K.lookup a=some o∧o.cls=.type "tuple"∧o.data=.seq its n∧its.size≤sizeLine∧τ2 xs its.toList
noncomputable def absV:Value→Option V
  | .none=>some .non
  | .bool b=>some (.bl b)
  | .int i _=>some (.int i)
  | .str x _=>some (.str x)
  | .bytes b _=>some (.byt b)
  | .float b _=>some (.flt b)
  | .ref a=>some (.ref a)
  | .type n=>some (.ty n)
  | _=>none
theorem ο4.abs {x:V} {u:Value} (r:ο4 x u):absV u=some x:=by
  cases x with
  | non=>cases r; rfl
  | bl _=>cases r; rfl
  | int _=>obtain ⟨t,rfl⟩:=r; rfl
  | str _=>obtain ⟨t,rfl⟩:=r; rfl
  | byt _=>obtain ⟨t,rfl⟩:=r; rfl
  | flt _=>obtain ⟨t,rfl⟩:=r; rfl
  | ref _=>cases r; rfl
  | ty _=>cases r; rfl
theorem ο4.inj {x y:V} {u:Value} (r:ο4 x u) (q:ο4 y u):x=y:=Option.some.inj (r.abs.symm.trans q.abs)
theorem τ2.inj:∀ {xs ys:List V} {us:List Value},τ2 xs us→τ2 ys us→xs=ys
  | _,_,_,.nil,.nil=>rfl
  | _,_,_,.cons r t,.cons r' t'=>by rw [r.inj r',τ2.inj t t']
section
variable {X:Cx} {pins:List (Addr×Obj)} {σ:St} {H:Hp} {s:Shared} {a:Addr} {xs ys:List V}
theorem SqL.of {K:PySem.W.Frag} (h:H a=some (.lst xs)):SqL K H a xs:=.inl (.inl h)
theorem SqT.of {K:PySem.W.Frag} (h:H a=some (.tup xs)):SqT K H a xs:=.inl (.inl h)
theorem Inv.list (I:Inv X pins σ H s) (h:SqL X.K H a xs):∃ its:List Value,τ2 xs its∧PlainL s.heap a its.toArray∧xs.length≤sizeLine:=by
  rcases h with h | ⟨o,its,n,hk,hc,hd,hs,hz,r⟩
  · obtain ⟨z,its,n,r,e⟩:=h.ok I.hok
    exact ⟨its,r,⟨_,n,e,rfl,rfl,rfl⟩,z⟩
  · refine ⟨its.toList,r,⟨o,n,I.kIn a o hk,hc,hd,by simpa using hs⟩,?_⟩
    have e:=r.length
    simp only [Array.length_toList] at e
    omega
theorem Inv.tuple (I:Inv X pins σ H s) (h:SqT X.K H a xs):∃ its:List Value,τ2 xs its∧IsTup s.heap a its.toArray∧xs.length≤sizeLine:=by
  rcases h with h | ⟨o,its,n,hk,hc,hs,hz,r⟩
  · obtain ⟨z,its,r,p⟩:=h.ok I.hok
    exact ⟨its,r,p,z⟩
  · refine ⟨its.toList,r,⟨o,I.kIn a o hk,hc,n,by simpa using hs⟩,?_⟩
    have e:=r.length
    simp only [Array.length_toList] at e
    omega
theorem Inv.list_inj (I:Inv X pins σ H s) (h:SqL X.K H a xs) (h':SqL X.K H a ys):xs=ys:=by
  obtain ⟨its,r,⟨o,n,e,_,_,d⟩,_⟩:=I.list h
  obtain ⟨its',r',⟨o',n',e',_,_,d'⟩,_⟩:=I.list h'
  rw [e] at e'; cases e'
  rw [d] at d'
  injection d' with d1 _
  have:its=its':=by simpa using congrArg Array.toList d1
  subst this
  exact r.inj r'
end
noncomputable abbrev Cx.wish (X:Cx) (E:Value→Shared→Prop):Cx:={X with xe:=E}
noncomputable abbrev Cx.nox (X:Cx):Cx:=X.wish fun _ _=>False
theorem Cx.Ok.wish {X:Cx} (ok:X.Ok) (E:Value→Shared→Prop):(X.wish E).Ok :=
  ⟨ok.mod,ok.kind,ok.glob,ok.blt,ok.above,ok.inj,ok.has,ok.cab,ok.hd,ok.frames,ok.stk,ok.exf,ok.bs,ok.bsz,ok.noex,ok.exfs,ok.funs,ok.frf⟩
theorem Cx.Ok.unwish {X:Cx} {E:Value→Shared→Prop} (ok:(X.wish E).Ok):X.Ok :=
  ⟨ok.mod,ok.kind,ok.glob,ok.blt,ok.above,ok.inj,ok.has,ok.cab,ok.hd,ok.frames,ok.stk,ok.exf,ok.bs,ok.bsz,ok.noex,ok.exfs,ok.funs,ok.frf⟩
section
variable {X:Cx} {pins:List (Addr×Obj)} {σ:St} {H:Hp} {s:Shared} {E:Value→Shared→Prop}
theorem Inv.wish (I:Inv X pins σ H s) (E:Value→Shared→Prop):Inv (X.wish E) pins σ H s:=⟨I.ok.wish E,I.os,I.bare,I.base,I.loc,I.cell,I.free,I.freeC,I.pin,I.hok,I.len⟩
theorem Inv.unwish (I:Inv (X.wish E) pins σ H s):Inv X pins σ H s:=⟨I.ok.unwish,I.os,I.bare,I.base,I.loc,I.cell,I.free,I.freeC,I.pin,I.hok,I.len⟩
end
section
variable {X:Cx} {st:Stmt} {rest:List Stmt} {t u:TS} {e:Expr} {te:TE} {pos:Pos}
noncomputable def tNext:TS:=fun D σ H=>D.nx σ H
noncomputable def tSeq (t u:TS):TS:=fun D σ H=>t {D with nx:=u D} σ H
theorem ι0:PSs X [] tNext:=fun _ _ σ H _ I h=>wpAny_execs_nil ⟨σ,H,I,h⟩
theorem η (h1:PS X st t) (h2:PSs X rest u):PSs X (st::rest) (tSeq t u):=by
  intro pins s σ H D I h
  refine wpAny_execs_cons (thn (h1 pins s σ H {D with nx:=u D} I h) fun f s1 q=>?_)
  cases f with
  | next =>
    obtain ⟨σ',H',I',q⟩:=q
    exact h2 pins s1 σ' H' D I' q
  | ret v=>exact q
  | brk=>exact q
  | cont=>exact q
theorem θ (h1:PS X st t):PSs X [st] t:=by
  intro pins s σ H D I h
  refine wpAny_execs_cons (thn (h1 pins s σ H D I h) fun f s1 q=>?_)
  cases f with
  | next=>exact wpAny_execs_nil q
  | ret v=>exact q
  | brk=>exact q
  | cont=>exact q
theorem Inv.quiet {pins:List (Addr×Obj)} {σ:St} {H:Hp} {s:Shared} (I:Inv X pins σ H s):interactive X.env=false:=by simp [interactive,I.ok.kind]
noncomputable def tDrop (te:TE):TS:=fun D σ H=>te σ H fun _ H1=>D.nx σ H1
theorem χ (he:PE X e te) (hs:swapsWith e none pos.line X.env=pure false:=by rfl):PS X (.Expr e pos) (tDrop te):=by
  intro pins s σ H D I h
  exact wpAny_Expr_any (thn (he pins s σ H _ I h) fun v s1 ⟨x,H1,I1,r1,q1⟩=>⟨σ,H1,I1,q1⟩) I.quiet hs
noncomputable def tRet (te:TE):TS:=fun D σ H=>te σ H D.rt
theorem ω0 (he:PE X e te):PS X (.Return (some e) pos) (tRet te):=by
  intro pins s σ H D I h
  exact wpAny_Return_some (thn (he pins s σ H _ I h) fun v s1 ⟨x,H1,I1,r1,q1⟩=>⟨x,σ,H1,I1,r1,q1⟩)
noncomputable def tRetN:TS:=fun D _ H=>D.rt .non H
theorem ps_retN:PS X (.Return none pos) tRetN:=fun _ _ σ H _ I h=>wpAny_Return_none ⟨.non,σ,H,I,rfl,h⟩
noncomputable def tIfS (c:TT) (t u:TS):TS:=fun D σ H=>c σ H fun b H1=>if b=true then t D σ H1 else u D σ H1
theorem ρ0 {c:Expr} {a b:List Stmt} {tc:TT} (hc:PT X c tc) (ha:PSs X a t) (hb:PSs X b u):PS X (.If c a b pos) (tIfS tc t u):=by
  intro pins s σ H D I h
  refine wpAny_If (thn (hc pins s σ H _ I h) fun d s1 ⟨H1,I1,q1⟩=>?_)
  cases d with
  | true=>exact ha pins s1 σ H1 D I1 q1
  | false=>exact hb pins s1 σ H1 D I1 q1
end
noncomputable abbrev TG:=V→St→Hp→(St→Hp→Prop)→Prop
noncomputable abbrev TGs:=List V→St→Hp→(St→Hp→Prop)→Prop
noncomputable def PG (X:Cx) (target:Expr) (t:TG):Prop :=
  ∀ (pins:List (Addr×Obj)) (s:Shared) (σ:St) (H:Hp) (v:V) (u:Value) (Q:St→Hp→Prop),Inv X pins σ H s→ο4 v u→t v σ H Q →
    wpAny (model X.prog X.w) X.A (assign target X.env u) (fun _ s'=>∃ σ' H',Inv X pins σ' H' s'∧Q σ' H') X.xe s
noncomputable def PGs (X:Cx) (ts:List Expr) (t:TGs):Prop :=
  ∀ (pins:List (Addr×Obj)) (s:Shared) (σ:St) (H:Hp) (vs:List V) (us:List Value) (Q:St→Hp→Prop),Inv X pins σ H s→τ2 vs us→t vs σ H Q →
    wpAny (model X.prog X.w) X.A (assignInOrder ((assignEach ts X.env).map (·.2)) us) (fun _ s'=>∃ σ' H',Inv X pins σ' H' s'∧Q σ' H') X.xe s
noncomputable abbrev TSet:=V→V→V→Hp→(Hp→Prop)→Prop
noncomputable def PSet (X:Cx) (t:TSet):Prop :=
  ∀ (pins:List (Addr×Obj)) (s:Shared) (σ:St) (H:Hp) (o i v:V) (ov iv u:Value) (Q:Hp→Prop),Inv X pins σ H s→ο4 o ov→ο4 i iv→ο4 v u→t o i v H Q →
    wpAny (model X.prog X.w) X.A (setItem ov iv u) (fun _ s'=>∃ H',Inv X pins σ H' s'∧Q H') X.xe s
section
variable {X:Cx} {pos:Pos}
noncomputable def gName (i:Nat):TG:=fun v σ H Q=>Q (σ.set i (some v)) H
theorem κ1 {i:Nat} {x:Str} (hN:X.N.Nodup) (hi:X.N[i]?=some x) (hx:Loc X.env.scope x) (hf:X.fn x=true∨X.env.scope.names.lookup x=some .local:=by first | exact .inl rfl | exact .inr rfl | assumption):PG X (.Name x pos) (gName i):=by
  intro pins s σ H v u Q I r h
  exact wpAny_assign_Name (store_ok I hN hi hx r (fun s' I'=>⟨_,H,I',h⟩) hf)
noncomputable def gNil:TGs:=fun vs σ H Q=>vs=[]∧Q σ H
noncomputable def gCons (t:TG) (u:TGs):TGs:=fun vs σ H Q=>∃ v r,vs=v::r∧t v σ H fun σ' H'=>u r σ' H' Q
theorem pgs_nil:PGs X [] gNil:=by
  intro pins s σ H vs us Q I r h
  obtain ⟨e,h⟩:=h
  subst e
  cases r
  exact assignInOrder_nil ⟨σ,H,I,h⟩
theorem Δ6 {e:Expr} {es:List Expr} {t:TG} {u:TGs} (h1:PG X e t) (h2:PGs X es u)
    (hs:(assignEach (e::es) X.env).map (·.2)=assign e X.env::(assignEach es X.env).map (·.2):=by rfl):PGs X (e::es) (gCons t u):=by
  intro pins s σ H vs us Q I r h
  obtain ⟨v,vr,e1,h⟩:=h
  subst e1
  cases r with
  | cons r rr =>
    rw [hs]
    refine assignInOrder_cons (thn (h1 pins s σ H _ _ _ I r h) fun _ s1 ⟨σ1,H1,I1,q1⟩=>?_)
    exact h2 pins s1 σ1 H1 _ _ Q I1 rr q1
noncomputable def gTup (K:PySem.W.Frag) (n:Nat) (t:TGs):TG:=fun v σ H Q=>∃ a xs,v=.ref a∧SqT K H a xs∧xs.length=n∧t xs σ H Q
theorem pg_tup {es:List Expr} {k:Nat} {t:TGs} {n:Nat} (hc:X.calm=true) (h:PGs X es t)
    (hn:(assignEach es X.env).length=n:=by rfl) (hst:(assignEach es X.env).findIdx? (·.1)=none:=by rfl):PG X (.Tuple es k pos) (gTup X.K n t):=by
  intro pins s σ H v u Q I r hw
  obtain ⟨a,xs,e1,hq,hl,hw⟩:=hw
  subst e1
  cases r
  obtain ⟨its,rv,ht,hz⟩:=I.tuple hq
  refine assign_Tuple_tuple (I.ok.hd hc) ht (by simp [hn,← hl,rv.length]) hst fun h' hx=>?_
  have I1:Inv X pins σ H {s with heap:=h'}:=I.kept (t':=s.toks) fun b o e=>hx b o (Nat.ne_of_lt (Heap.lt_size e)) e
  exact h pins _ σ H xs _ Q I1 (by simpa using rv) hw
noncomputable def gSub (to ti:TE) (t:TSet):TG:=fun v σ H Q=>to σ H fun o H1=>ti σ H1 fun i H2=>t o i v H2 fun H3=>Q σ H3
theorem Δ0 {o i:Expr} {to ti:TE} {t:TSet} (ho:PE X o to) (hi:PE X i ti) (hs:PSet X t)
    (ha:∀ v,assign (.Subscript o i pos) X.env v=(do
      let ov ← holding [v] (eval o X.env)
      let iv ← holding [v,ov] (eval i X.env)
      standAt pos
      holding [v,ov,iv] (setItem ov iv v)
      release [v,ov,iv] []):=by intro _; rfl):PG X (.Subscript o i pos) (gSub to ti t):=by
  intro pins s σ H v u Q I r h
  rw [ha]
  refine wpAny_bind (wpAny_holding (thn (ho pins s σ H _ I h) fun ov s1 ⟨x,H1,I1,r1,q1⟩=>?_))
  refine wpAny_bind (wpAny_holding (thn (hi pins s1 σ H1 _ I1 q1) fun iv s2 ⟨y,H2,I2,r2,q2⟩=>?_))
  refine wpAny_bind (wpAny_standAt (wpAny_bind (wpAny_holding (thn (hs pins s2 σ H2 x y v ov iv u _ I2 r1 r2 r q2) fun _ s3 ⟨H3,I3,q3⟩=>?_))))
  exact wpAny_release ⟨σ,H3,I3,q3⟩
noncomputable def tAsg (te:TE) (g:TG):TS:=fun D σ H=>te σ H fun x H1=>g x σ H1 D.nx
theorem Γ0 {tg e:Expr} {te:TE} {g:TG} (he:PE X e te) (hg:PG X tg g) (hs:swapsWithSole [tg] e pos.line X.env=pure false:=by rfl) (hw:swappedStores [tg] e X.env=pure none:=by rfl)
    (h1:(assignEach [tg] X.env).map (·.2)=[assign tg X.env]:=by rfl):PS X (.Assign [tg] e pos) (tAsg te g):=by
  intro pins s σ H D I h
  refine wpAny_Assign_stores (thn (he pins s σ H _ I h) fun v s1 ⟨x,H1,I1,r1,q1⟩=>?_) hs hw
  rw [h1]
  exact thn (hg pins s1 σ H1 x v _ I1 r1 q1) fun _ s2 q=>q
theorem Ξ {i:Nat} {x:Str} {e:Expr} {te:TE} {pos':Pos} (hN:X.N.Nodup) (hi:X.N[i]?=some x) (hx:Loc X.env.scope x) (he:PE X e te) (hs:swapsWith e (some (.Name x pos')) pos.line X.env=pure false:=by rfl) (hf:X.fn x=true∨X.env.scope.names.lookup x=some .local:=by first | exact .inl rfl | exact .inr rfl | assumption) :
    PS X (.Assign [.Name x pos'] e pos) (tAsg te (gName i)):=by
  intro pins s σ H D I h
  refine wpAny_Assign_Name (thn (he pins s σ H _ I h) fun v s1 ⟨y,H1,I1,r1,q1⟩=>?_) hs
  exact store_ok I1 hN hi hx r1 (fun s2 I2=>⟨_,H1,I2,q1⟩) hf
end
section
variable {X:Cx} {pos:Pos}
noncomputable def tWhile (c:TT) (tb:TS):TS:=fun D σ H=>∃ W:Nat→St→Hp→Prop,(∃ m,W m σ H)∧∀ m σ H,W m σ H →
  c σ H fun b H1=>if b=true then ∃ N:St→Hp→Prop,(∀ σ' H',N σ' H'→∃ m',m' < m∧W m' σ' H')∧tb {D with nx:=N,ct:=N,bk:=D.nx} σ H1 else D.nx σ H1
theorem ps_while {c:Expr} {body:List Stmt} {tc:TT} {tb:TS} (hp:PassesOwn (model X.prog X.w) X.A X.env X.xe) (hc:PT X c tc) (hb:PSs X body tb):PS X (.While c body [] pos) (tWhile tc tb):=by
  intro pins s σ H D I h
  obtain ⟨W,⟨m0,w0⟩,turn⟩:=h
  refine wpAny_While (codeAny_whileLoop (fun n s'=>∃ σ' H',Inv X pins σ' H' s'∧W n σ' H') ?_ m0 ⟨σ,H,I,w0⟩)
  rintro n s1 ⟨σ1,H1,I1,w1⟩
  refine wpAny_passesOwn hp (thn (hc pins s1 σ1 H1 _ I1 (turn n σ1 H1 w1)) fun b s2 ⟨H2,I2,q2⟩=>?_)
  cases b with
  | true =>
    obtain ⟨N,hN,q2⟩:=q2
    rw [if_pos rfl]
    refine wpAny_passesOwn hp (thn (hb pins s2 σ1 H2 _ I2 q2) fun f s3 q3=>?_)
    cases f with
    | next =>
      obtain ⟨σ3,H3,I3,n3⟩:=q3
      obtain ⟨m',hm,w3⟩:=hN σ3 H3 n3
      exact ⟨m',hm,σ3,H3,I3,w3⟩
    | cont =>
      obtain ⟨σ3,H3,I3,n3⟩:=q3
      obtain ⟨m',hm,w3⟩:=hN σ3 H3 n3
      exact ⟨m',hm,σ3,H3,I3,w3⟩
    | brk=>exact q3
    | ret v=>exact q3
  | false =>
    rw [if_neg Bool.false_ne_true]
    exact wpAny_execs_nil ⟨σ1,H2,I2,q2⟩
end
structure It where
  go:Nat→Hp→Prop
  yld:Nat→Hp→V→Hp→Prop
  stop:Nat→Hp→Prop
noncomputable def FpOk (X:Cx) (pins:List (Addr×Obj)) (H:Hp) (b:Addr):Prop :=
  H b=none∧b≠X.env.locals∧b∉X.fs∧(b∈X.ex∨X.s₀.heap.objs.size≤b)∧(∀ x c,X.env.cells.lookup x=some c→c≠b)∧∀ p∈X.pn++pins,p.1≠b
theorem Inv.fpOk {X:Cx} {pins:List (Addr×Obj)} {σ:St} {H H':Hp} {s:Shared} {b:Addr} (I:Inv X pins σ H s) (hb:s.heap.objs.size≤b) (hn:H' b=none):FpOk X pins H' b:=by
  refine ⟨hn,Nat.ne_of_gt (Nat.lt_of_lt_of_le I.lt hb),I.nofs hb,.inr (Nat.le_trans I.sz hb),fun x c e z=>?_,fun p hp z=>?_⟩
  · obtain ⟨v,q⟩:=I.cell x c e
    exact absurd (Nat.lt_of_lt_of_le q.lt (by rw [z]; exact hb)) (Nat.lt_irrefl _)
  · exact absurd (Nat.lt_of_lt_of_le (Heap.lt_size (I.pin p hp).1) (by rw [z]; exact hb)) (Nat.lt_irrefl _)
structure Turn (P:Program) (w:World) (K:PySem.W.Frag) (tg:Expr) (J:It) (fp:List Addr) (it:Addr) (tn:Nat→Heap→Prop):Prop where
  mem:it∈fp
  obj:∀ i h,tn i h→∀ b∈fp,∃ o,h.get? b=some o∧∀ v,o.data≠.cell v
  keep:∀ i h h',tn i h→(∀ b∈fp,∀ o,h.get? b=some o→h'.get? b=some o)→tn i h'
  item:∀ (X:Cx),X.prog=P→X.w=w→X.K=K→X.calm=true→∀ (i:Nat) (pins:List (Addr×Obj)) (s:Shared) (σ:St) (H:Hp) (E:Value→Shared→Prop),Inv X pins σ H s→(∀ b∈fp,FpOk X pins H b)→tn i s.heap→J.go i H →
    wpAny (model P w) X.A (pyNext (.ref it)) (fun r s1=>∃ u,r=some u ∧
      wpAny (model P w) X.A (letOwnedTupleGo tg (.ref it) u) (fun _ s2=>∃ x H',Inv X pins σ H' s2∧ο4 x u∧J.yld i H x H'∧tn (i+1) s2.heap∧∀ b∈fp,H' b=none) E s1) E s
  done:∀ (X:Cx),X.prog=P→X.w=w→X.K=K→X.calm=true→∀ (i:Nat) (pins:List (Addr×Obj)) (s:Shared) (σ:St) (H:Hp) (E:Value→Shared→Prop),Inv X pins σ H s→(∀ b∈fp,FpOk X pins H b)→tn i s.heap→J.stop i H →
    wpAny (model P w) X.A (pyNext (.ref it)) (fun r s1=>r=none∧Inv X pins σ H s1) E s
  self:∀ (A:Around) (i:Nat) (s:Shared) (Q:Value→Shared→Prop) (E:Value→Shared→Prop),tn i s.heap→Q (.ref it) s→wpAny (model P w) A (pyIter (.ref it)) Q E s
noncomputable abbrev TI:=St→Hp→(It→Hp→Prop)→Prop
noncomputable def PIE (X:Cx) (pins:List (Addr×Obj)) (σ:St) (tg:Expr) (R:It→Hp→Prop) (itv:Value) (s2:Shared):Prop :=
  ∃ (it:Addr) (fp:List Addr) (tn:Nat→Heap→Prop) (J:It) (H':Hp),itv=.ref it∧Inv X pins σ H' s2∧Turn X.prog X.w X.K tg J fp it tn∧tn 0 s2.heap∧(∀ b∈fp,FpOk X pins H' b)∧R J H'
noncomputable def PI (X:Cx) (tg iter:Expr) (wi:TI):Prop :=
  ∀ (pins:List (Addr×Obj)) (s:Shared) (σ:St) (H:Hp) (R:It→Hp→Prop),Inv X pins σ H s→wi σ H R →
    wpAny (model X.prog X.w) X.A (eval iter X.env) (fun v s1=>wpAny (model X.prog X.w) X.A (pyIter v) (PIE X pins σ tg R) X.xe s1) X.xe s
theorem go_of {M:Model} {A:Around} {E:Value→Shared→Prop} {s:Shared} {tg:Expr} {it:Addr} {u:Value} {o:Obj} {n:String} {vs:Array Value} {Q:Unit→Shared→Prop} (ho:s.heap.get? it=some o) (hc:o.cls=.type n) (hd:o.data=.fields vs)
    (hn:["enumerate","zip","dict_itemiterator","dict_reverseitemiterator","odict_iterator","itertools.zip_longest","itertools.pairwise"].contains n=false) (hQ:Q () s):wpAny M A (letOwnedTupleGo tg (.ref it) u) Q E s:=by
  unfold letOwnedTupleGo
  cases tg <;> first
    | exact wpAny_pure hQ
    | (cases u <;> first
        | exact wpAny_pure hQ
        | (refine wpAny_bind (wpAny_load ho ?_)
           rw [hc,hd]
           show wpAny M A (if (["enumerate","zip","dict_itemiterator","dict_reverseitemiterator","odict_iterator","itertools.zip_longest","itertools.pairwise"].contains n && vs[0]? == some (rawInt _))=true then _ else _) Q E s
           rw [if_neg (by intro h; rw [hn,Bool.false_and] at h; cases h)]
           exact wpAny_pure hQ))
noncomputable def Itl (K:PySem.W.Frag) (a:Addr):It :=
  ⟨fun i H=>∃ xs x,SqL K H a xs∧xs[i]?=some x,fun i H x H'=>H'=H∧∀ xs,SqL K H a xs→xs[i]?=some x,fun i H=>∃ xs,SqL K H a xs∧xs.length≤i⟩
noncomputable def Itr (lo:Int) (n:Nat):It:=⟨fun i _=>i < n,fun i H x H'=>H'=H∧x=.int (lo+i),fun i _=>n≤i⟩
theorem turn_list {P:Program} {w:World} {K:PySem.W.Frag} {tg:Expr} (a it:Addr):Turn P w K tg (Itl K a) [it] it (fun i h=>h.IsListIter it a i) where
  mem:=by simp
  obj:=fun i h st b hb=>by
    have e:b=it:=by simpa using hb
    subst e
    obtain ⟨o,e,c,d⟩:=st
    exact ⟨o,e,fun v z=>by rw [d] at z; cases z⟩
  keep:=fun i h h' st k=>st.at fun o e=>k it (by simp) o e
  item:=by
    intro X hP hw hK hc i pins s σ H E I hf st hg
    subst hP hw hK
    obtain ⟨xs,x,hq,hx⟩:=hg
    obtain ⟨its,rv,p,hz⟩:=I.list hq
    obtain ⟨u,hu,ru⟩:=rv.get hx
    obtain ⟨f0,f1,f2,f3,f4,f5⟩:=hf it (by simp)
    refine wpAny_pyNext_list_item st p.isList (x:=u) (by simpa using hu) fun h' st' sb=>?_
    have I1:Inv X pins σ H {s with heap:=h'}:=I.turned (t':=s.toks) (fun b o hb e=>(sb.2 b hb).trans e) f0 f1 f3 f4 f5
    obtain ⟨o,e,c,d⟩:=id st'
    exact ⟨u,rfl,go_of (s:={s with heap:=h'}) e c d (by decide) ⟨x,H,I1,ru,⟨rfl,fun ys hy=>by rw [I.list_inj hy hq]; exact hx⟩,st',fun b hb=>(hf b hb).1⟩⟩
  done:=by
    intro X hP hw hK hc i pins s σ H E I hf st hg
    subst hP hw hK
    obtain ⟨xs,hq,hx⟩:=hg
    obtain ⟨its,rv,p,hz⟩:=I.list hq
    obtain ⟨f0,f1,f2,f3,f4,f5⟩:=hf it (by simp)
    have hl:=rv.length
    exact wpAny_pyNext_list_end (I.ok.hd hc) st p.isList (by simp; omega) fun h' eb=>⟨rfl,I.turned (t':=s.toks) (fun b o hb e=>eb b o hb e) f0 f1 f3 f4 f5⟩
  self:=fun _ _ _ _ _ st h=>wpAny_pyIter_listiter st h
theorem turn_range {P:Program} {w:World} {K:PySem.W.Frag} {tg:Expr} (it:Addr) (lo:Int) (n:Nat):Turn P w K tg (Itr lo n) [it] it (fun i h=>IsRangeIter h it (lo+(i:Nat)*1) ((n:Int) - (i:Nat)) 1) where
  mem:=by simp
  obj:=fun i h st b hb=>by
    have e:b=it:=by simpa using hb
    subst e
    exact ⟨_,st,fun v z=>by
      have z':Data.fields _=Data.cell v:=z
      cases z'⟩
  keep:=fun i h h' st k=>k it (by simp) _ st
  item:=by
    intro X hP hw hK hc i pins s σ H E I hf st hg
    subst hP hw hK
    obtain ⟨f0,f1,f2,f3,f4,f5⟩:=hf it (by simp)
    have W:=Walks.range (prog:=X.prog) (w:=X.w) (I.ok.hd hc) it lo 1 n
    refine W.item i s _ _ hg st fun v h' tk hv st' kk=>?_
    obtain ⟨t,rfl⟩:=hv
    have I1:Inv X pins σ H {s with heap:=h',toks:=tk}:=I.turned (fun b o hb e=>kk b o (by simpa using hb) e) f0 f1 f3 f4 f5
    refine ⟨_,rfl,go_of (s:={s with heap:=h',toks:=tk}) (n:="range_iterator") st' rfl rfl (by decide) ⟨.int (lo+i),H,I1,⟨t,?_⟩,⟨rfl,rfl⟩,st',fun b hb=>(hf b hb).1⟩⟩
    rw [Int.mul_one]
  done:=by
    intro X hP hw hK hc i pins s σ H E I hf st hg
    subst hP hw hK
    obtain ⟨f0,f1,f2,f3,f4,f5⟩:=hf it (by simp)
    exact wpAny_pyNext_range_end (I.ok.hd hc) st (by have:n≤i:=hg; omega) fun h' eb=>⟨rfl,I.turned (t':=s.toks) (fun b o hb e=>eb b o hb e) f0 f1 f3 f4 f5⟩
  self:=fun _ _ _ _ _ st h=>wpAny_pyIter_rangeiter st h
end L2
namespace L2
open PySem PySem.Spec PyProof.Rows
section
variable {X:Cx} {tg:Expr}
noncomputable def iList (K:PySem.W.Frag) (tl:TE):TI:=fun σ H R=>tl σ H fun x H1=>∃ a,x=.ref a∧(∃ xs,SqL K H1 a xs)∧R (Itl K a) H1
theorem pi_list {l:Expr} {tl:TE} (hl:PE X l tl):PI X tg l (iList X.K tl):=by
  intro pins s σ H R I h
  refine thn (hl pins s σ H _ I h) fun v s1 ⟨x,H1,I1,r1,q1⟩=>?_
  obtain ⟨a,e,⟨xs,hq⟩,q⟩:=q1
  subst e
  cases r1
  obtain ⟨its,rv,p,hz⟩:=I1.list hq
  refine wpAny_pyIter_list p.isList ?_
  refine ⟨s1.heap.objs.size,[s1.heap.objs.size],_,_,H1,rfl,I1.kept (t':=s1.toks) fun b o e=>Heap.get?_push_of_some _ e,turn_list a _,⟨_,Heap.get?_push_size _ rfl,rfl,rfl⟩,fun b hb=>?_,q⟩
  have e:b=s1.heap.objs.size:=by simpa using hb
  subst e
  exact I1.fpOk (Nat.le_refl _) (I1.hok.fresh (Nat.le_refl _))
theorem range_it {pins:List (Addr×Obj)} {σ:St} {H:Hp} {s:Shared} {R:It→Hp→Prop} {E:Value→Shared→Prop} {lo hi:Int} {t u v:Tok} {tk:Nat} (I:Inv X pins σ H s) (h1 : -(2^62)≤lo) (h2:lo < 2^62) (h3 : -(2^62)≤hi) (h4:hi < 2^62)
    (q:R (Itr lo (hi - lo).toNat) H):wpAny (model X.prog X.w) X.A (pyIter (.ref s.heap.objs.size)) (PIE X pins σ tg R) E {s with heap:=s.heap.push {cls:=.type "range",data:=.fields #[.int lo t,.int hi u,.int 1 v]},toks:=tk}:=by
  refine wpAny_pyIter_range (IsRange.new ..) (small_one h1 h2 h3 h4) ?_
  have I1:Inv X pins σ H {s with heap:=s.heap.push {cls:=.type "range",data:=.fields #[.int lo t,.int hi u,.int 1 v]},toks:=tk}:=I.kept fun b o e=>Heap.get?_push_of_some _ e
  refine ⟨(s.heap.push {cls:=.type "range",data:=.fields #[.int lo t,.int hi u,.int 1 v]}).objs.size,[(s.heap.push {cls:=.type "range",data:=.fields #[.int lo t,.int hi u,.int 1 v]}).objs.size],_,_,H,rfl,
    I1.kept (t':=tk) fun b o e=>Heap.get?_push_of_some _ e,turn_range _ lo (hi - lo).toNat,?_,fun b hb=>?_,q⟩
  · have e1:lo+((0:Nat):Int)*1=lo:=by simp
    have e2:(((hi - lo).toNat:Nat):Int) - ((0:Nat):Int)=Builtin.Range.rangeSize lo hi 1:=by rw [rangeSize_one]; split <;> omega
    show IsRangeIter _ _ (lo+((0:Nat):Int)*1) ((((hi - lo).toNat:Nat):Int) - ((0:Nat):Int)) 1
    rw [e1,e2]
    exact Heap.get?_push_size _ rfl
  · have e:b=(s.heap.push {cls:=.type "range",data:=.fields #[.int lo t,.int hi u,.int 1 v]}).objs.size:=by simpa using hb
    subst e
    exact I1.fpOk (Nat.le_refl _) (I1.hok.fresh (Nat.le_refl _))
noncomputable def iRng1 (ta:TA):TI:=fun σ H R=>ta σ H fun vs H1=>∃ j:Int,vs=[.int j] ∧ -(2^62)≤j∧j < 2^62∧R (Itr 0 j.toNat) H1
noncomputable def iRng2 (ta:TA):TI:=fun σ H R=>ta σ H fun vs H1=>∃ i j:Int,vs=[.int i,.int j]∧(-(2^62)≤i∧i < 2^62 ∧ -(2^62)≤j∧j < 2^62)∧R (Itr i (j - i).toNat) H1
theorem νb {a:Expr} {ta:TA} {p pos:Pos} (hg:Gl X "range") (hm:X.mg "range"=none) (ha:PA X [a] ta) (hs:starEach [a] X.env=[(false,eval a X.env)]:=by rfl):PI X tg (.Call (.Name "range" p) [a] [] pos) (iRng1 ta):=by
  intro pins s σ H R I h
  refine Call_ (Φk I hg hm boot_range (PyProof.Rows.callWith_type1 (thn (ha pos pins s σ H _ I h) fun us s1 ⟨vs,H1,I1,r1,q1⟩=>?_) hs rfl))
  obtain ⟨j,e,q1,q2,q⟩:=q1
  subst e
  cases r1 with
  | cons r rr =>
    cases rr
    obtain ⟨t,rfl⟩:=r
    exact call_range_1 (range_it I1 (by omega) (by omega) q1 q2 (by simpa using q))
theorem ρ7 {a b:Expr} {ta:TA} {p pos:Pos} (hg:Gl X "range") (hm:X.mg "range"=none) (ha:PA X [a,b] ta) (hs:starEach [a,b] X.env=[(false,eval a X.env),(false,eval b X.env)]:=by rfl) (hs2:starEach [b] X.env=[(false,eval b X.env)]:=by rfl) :
    PI X tg (.Call (.Name "range" p) [a,b] [] pos) (iRng2 ta):=by
  intro pins s σ H R I h
  refine Call_ (Φk I hg hm boot_range (PyProof.Rows.callWith_type1 (thn (ha pos pins s σ H _ I h) fun us s1 ⟨vs,H1,I1,r1,q1⟩=>?_) (by rw [hs,hs2]) (by rw [hs2]; rfl)))
  obtain ⟨i,j,e,⟨q1,q2,q3,q4⟩,q⟩:=q1
  subst e
  cases r1 with
  | cons r rr =>
    cases rr with
    | cons r' rr =>
      cases rr
      obtain ⟨t,rfl⟩:=r
      obtain ⟨t',rfl⟩:=r'
      exact call_range_2 (range_it I1 q1 q2 q3 q4 q)
noncomputable def tFor (wi:TI) (g:TG) (tb:TS):TS:=fun D σ H=>wi σ H fun J H1=>∃ W:Nat→Nat→St→Hp→Prop,(∃ m,W 0 m σ H1)∧∀ i m σ H,W i m σ H →
  (J.stop i H∧D.nx σ H)∨(J.go i H∧∃ N:St→Hp→Prop,(∀ σ' H',N σ' H'→∃ m',m' < m∧W (i+1) m' σ' H')∧∀ x H',J.yld i H x H'→g x σ H' fun σ2 H2=>tb {D with nx:=N,ct:=N,bk:=D.nx} σ2 H2)
noncomputable def pinsAt (fp:List Addr) (h:Heap):List (Addr×Obj):=fp.filterMap fun b=>(h.get? b).map fun o=>(b,o)
theorem Δg {fp:List Addr} {h:Heap} {b:Addr} {o:Obj} (hb:b∈fp) (e:h.get? b=some o):(b,o)∈pinsAt fp h:=List.mem_filterMap.mpr ⟨b,hb,by rw [e]; rfl⟩
theorem of_pinsAt {fp:List Addr} {h:Heap} {p:Addr×Obj} (hp:p∈pinsAt fp h):p.1∈fp∧h.get? p.1=some p.2:=by
  obtain ⟨b,hb,e⟩:=List.mem_filterMap.mp hp
  cases q:h.get? b with
  | none=>rw [q] at e; cases e
  | some o =>
    rw [q] at e
    have e':(b,o)=p:=Option.some.inj e
    subst e'
    exact ⟨hb,q⟩
theorem Inv.pinned {pins:List (Addr×Obj)} {σ:St} {H:Hp} {s:Shared} {fp:List Addr} (I:Inv X pins σ H s) (hf:∀ b∈fp,FpOk X pins H b) (ho:∀ b∈fp,∃ o,s.heap.get? b=some o∧∀ v,o.data≠.cell v):Inv X (pins++pinsAt fp s.heap) σ H s :=
  I.pins_of fun p hp=>(List.mem_append.mp hp).elim (fun z=>I.pin p (List.mem_append_right _ z)) fun z=>by
    obtain ⟨hb,e⟩:=of_pinsAt z
    obtain ⟨f0,f1,f2,_⟩:=hf p.1 hb
    obtain ⟨o,e',d⟩:=ho p.1 hb
    rw [e] at e'; cases e'
    exact ⟨e,f0,f1,f2,d⟩
theorem Inv.unpinned {pins pl:List (Addr×Obj)} {σ:St} {H:Hp} {s:Shared} (I:Inv X (pins++pl) σ H s):Inv X pins σ H s:=I.pins_of fun p hp=>I.pin p (List.mem_append_right _ (List.mem_append_left _ hp))
theorem ξ4 {iter:Expr} {body:List Stmt} {wi:TI} {g:TG} {tb:TS} {pos:Pos} (hp:PassesOwn (model X.prog X.w) X.A X.env X.xe) (hc:X.calm=true) (hi:PI X tg iter wi) (hg:PG X tg g) (hb:PSs X body tb)
    (hs:∀ x,foldedSetIterable iter X.env x=pure x:=by intro _; rfl):PS X (.For tg iter body [] pos) (tFor wi g tb):=by
  intro pins s σ H D I h
  refine wpAny_For (thn (hi pins s σ H _ I h) fun v s1 h1=>thn h1 fun itv s2 h2=>?_) hs
  obtain ⟨it,fp,tn,J,H2,e,I2,T,st2,f2,W,⟨m0,w0⟩,turn⟩:=h2
  subst e
  have stat:∀ {H':Hp},(∀ b∈fp,H' b=none)→∀ b∈fp,FpOk X pins H' b:=fun hn b hb=>⟨hn b hb,(f2 b hb).2⟩
  refine codeAny_forLoop_any (fun n s'=>∃ i σ' H',Inv X pins σ' H' s'∧tn i s'.heap∧(∀ b∈fp,H' b=none)∧W i n σ' H') ?_ m0 ⟨0,σ,H2,I2,st2,fun b hb=>(f2 b hb).1,w0⟩
  rintro n s3 ⟨i,σ3,H3,I3,st3,fr3,w3⟩
  rcases turn i n σ3 H3 w3 with ⟨stop,qn⟩ | ⟨go,N,hN,step⟩
  · refine wpAny_passesOwn hp (thn (T.done X rfl rfl rfl hc i pins s3 σ3 H3 X.xe I3 (stat fr3) st3 stop) fun r s4 ⟨hr,I4⟩=>?_)
    subst hr
    exact wpAny_execs_nil ⟨σ3,H3,I4,qn⟩
  · refine wpAny_passesOwn hp (thn (T.item X rfl rfl rfl hc i pins s3 σ3 H3 X.xe I3 (stat fr3) st3 go) fun r s4 ⟨u,hr,h4⟩=>?_)
    subst hr
    refine wpAny_passesOwn hp (thn h4 fun _ s5 ⟨x,H5,I5,r5,y5,st5,fr5⟩=>?_)
    have I5':=I5.pinned (stat fr5) (T.obj _ _ st5)
    refine wpAny_passesOwn hp (thn (hg _ s5 σ3 H5 x u _ I5' r5 (step x H5 y5)) fun _ s6 ⟨σ6,H6,I6,q6⟩=>?_)
    refine wpAny_passesOwn hp (thn (hb _ s6 σ6 H6 _ I6 q6) fun f s7 q7=>?_)
    have again:∀ {σ7:St} {H7:Hp},Inv X (pins++pinsAt fp s5.heap) σ7 H7 s7→N σ7 H7→∃ m,m < n∧∃ i σ' H',Inv X pins σ' H' s7∧tn i s7.heap∧(∀ b∈fp,H' b=none)∧W i m σ' H':=fun {σ7 H7} I7 n7=>by
      obtain ⟨m',hm,w7⟩:=hN σ7 H7 n7
      refine ⟨m',hm,i+1,σ7,H7,I7.unpinned,T.keep _ _ _ st5 fun b hb o e=>(I7.pin (b,o) (List.mem_append_right _ (List.mem_append_right _ (Δg hb e)))).1,fun b hb=>?_,w7⟩
      obtain ⟨o,e,d⟩:=T.obj _ _ st5 b hb
      exact (I7.pin (b,o) (List.mem_append_right _ (List.mem_append_right _ (Δg hb e)))).2.1
    cases f with
    | next=>obtain ⟨σ7,H7,I7,n7⟩:=q7; exact again I7 n7
    | cont=>obtain ⟨σ7,H7,I7,n7⟩:=q7; exact again I7 n7
    | brk=>obtain ⟨σ7,H7,I7,q7⟩:=q7; exact ⟨σ7,H7,I7.unpinned,q7⟩
    | ret v=>obtain ⟨x7,σ7,H7,I7,r7,q7⟩:=q7; exact ⟨x7,σ7,H7,I7.unpinned,r7,q7⟩
end
theorem for_list {K:PySem.W.Frag} {a:Addr} {xs:List V} {g:TG} {tb:TS} {D:Ends} {σ:St} {H:Hp} (Pv:Nat→St→Hp→Prop) (h0:Pv 0 σ H) (hl:∀ i σ H,i≤xs.length→Pv i σ H→SqL K H a xs)
    (hs:∀ i x σ H,xs[i]?=some x→Pv i σ H→g x σ H fun σ2 H2=>tb {D with nx:=Pv (i+1),ct:=Pv (i+1),bk:=D.nx} σ2 H2) (hd:∀ σ H,Pv xs.length σ H→D.nx σ H) :
    ∃ W:Nat→Nat→St→Hp→Prop,(∃ m,W 0 m σ H)∧∀ i m σ H,W i m σ H →
      ((Itl K a).stop i H∧D.nx σ H)∨((Itl K a).go i H∧∃ N:St→Hp→Prop,(∀ σ' H',N σ' H'→∃ m',m' < m∧W (i+1) m' σ' H')∧∀ x H',(Itl K a).yld i H x H'→g x σ H' fun σ2 H2=>tb {D with nx:=N,ct:=N,bk:=D.nx} σ2 H2):=by
  refine ⟨fun i m σ H=>m=xs.length - i∧i≤xs.length∧Pv i σ H,⟨xs.length,by simp,Nat.zero_le _,h0⟩,?_⟩
  rintro i m σ H ⟨rfl,hi,p⟩
  have q:=hl i σ H hi p
  by_cases hlt:i < xs.length
  · refine .inr ⟨⟨xs,xs[i],q,by simp [hlt]⟩,Pv (i+1),fun σ' H' p'=>⟨xs.length - (i+1),by omega,rfl,hlt,p'⟩,fun x H' y=>?_⟩
    obtain ⟨e,y⟩:=y
    subst e
    exact hs i x σ _ (y xs q) p
  · have e:i=xs.length:=by omega
    subst e
    exact .inl ⟨⟨xs,q,Nat.le_refl _⟩,hd σ H p⟩
theorem for_range {lo:Int} {n:Nat} {g:TG} {tb:TS} {D:Ends} {σ:St} {H:Hp} (Pv:Nat→St→Hp→Prop) (h0:Pv 0 σ H)
    (hs:∀ i σ H,i < n→Pv i σ H→g (.int (lo+i)) σ H fun σ2 H2=>tb {D with nx:=Pv (i+1),ct:=Pv (i+1),bk:=D.nx} σ2 H2) (hd:∀ σ H,Pv n σ H→D.nx σ H) :
    ∃ W:Nat→Nat→St→Hp→Prop,(∃ m,W 0 m σ H)∧∀ i m σ H,W i m σ H →
      ((Itr lo n).stop i H∧D.nx σ H)∨((Itr lo n).go i H∧∃ N:St→Hp→Prop,(∀ σ' H',N σ' H'→∃ m',m' < m∧W (i+1) m' σ' H')∧∀ x H',(Itr lo n).yld i H x H'→g x σ H' fun σ2 H2=>tb {D with nx:=N,ct:=N,bk:=D.nx} σ2 H2):=by
  refine ⟨fun i m σ H=>m=n - i∧i≤n∧Pv i σ H,⟨n,by simp,Nat.zero_le _,h0⟩,?_⟩
  rintro i m σ H ⟨rfl,hi,p⟩
  by_cases hlt:i < n
  · refine .inr ⟨hlt,Pv (i+1),fun σ' H' p'=>⟨n - (i+1),by omega,rfl,hlt,p'⟩,fun x H' y=>?_⟩
    obtain ⟨e,y⟩:=y
    subst e y
    exact hs i σ _ hlt p
  · have e:i=n:=by omega
    subst e
    exact .inl ⟨Nat.le_refl _,hd σ H p⟩
end L2
namespace L2
open PySem PySem.Spec PyProof.Rows
noncomputable abbrev R2:=V→V→Hp→VK→Prop
noncomputable def OpR (X:Cx) (f:Value→Value→Sem Value) (r:R2):Prop :=
  ∀ (pins:List (Addr×Obj)) (s:Shared) (σ:St) (H:Hp) (x y:V) (v u:Value) (Q:VK),Inv X pins σ H s→ο4 x v→ο4 y u→r x y H Q →
    wpAny (model X.prog X.w) X.A (f v u) (EP X pins σ Q) X.xe s
noncomputable def UnR (X:Cx) (f:Value→Sem Value) (r:V→Hp→VK→Prop):Prop :=
  ∀ (pins:List (Addr×Obj)) (s:Shared) (σ:St) (H:Hp) (x:V) (v:Value) (Q:VK),Inv X pins σ H s→ο4 x v→r x H Q →
    wpAny (model X.prog X.w) X.A (f v) (EP X pins σ Q) X.xe s
noncomputable def CallR (X:Cx) (f:Value) (r:List V→Hp→VK→Prop):Prop :=
  ∀ (pins:List (Addr×Obj)) (s:Shared) (σ:St) (H:Hp) (xs:List V) (us:List Value) (Q:VK),Inv X pins σ H s→τ2 xs us→r xs H Q →
    wpAny (model X.prog X.w) X.A (call f us) (EP X pins σ Q) X.xe s
noncomputable def TruR (X:Cx) (r:V→Hp→(Bool→Hp→Prop)→Prop):Prop :=
  ∀ (pins:List (Addr×Obj)) (s:Shared) (σ:St) (H:Hp) (x:V) (v:Value) (Q:Bool→Hp→Prop),Inv X pins σ H s→ο4 x v→r x H Q →
    wpAny (model X.prog X.w) X.A (truthy v) (TP X pins σ Q) X.xe s
noncomputable def tOp (r:R2) (ta tb:TE):TE:=fun σ H Q=>ta σ H fun x H1=>tb σ H1 fun y H2=>r x y H2 Q
noncomputable def tUn (r:V→Hp→VK→Prop) (ta:TE):TE:=fun σ H Q=>ta σ H fun x H1=>r x H1 Q
noncomputable def rI (C:Int→Int→Prop) (g:Int→Int→V):R2:=fun x y H Q=>∃ i j,x=.int i∧y=.int j∧C i j∧Q (g i j) H
noncomputable def rI0 (g:Int→Int→V):R2:=fun x y H Q=>∃ i j,x=.int i∧y=.int j∧Q (g i j) H
noncomputable def rU (g:Int→V):V→Hp→VK→Prop:=fun x H Q=>∃ i,x=.int i∧Q (g i) H
section
variable {X:Cx} {a b c:Expr} {ta tb tc:TE} {pos:Pos}
theorem binT (ha:PE X a ta) (hb:PE X b tb) {pins:List (Addr×Obj)} {s:Shared} {σ:St} {H:Hp} {R:V→V→Hp→Prop} (I:Inv X pins σ H s)
    (h:ta σ H fun x H1=>tb σ H1 fun y H2=>R x y H2) {Q:Value→Shared→Prop} {f:Value→Value→Sem Value}
    (hf:∀ v u s2 x y H2,Inv X pins σ H2 s2→ο4 x v→ο4 y u→R x y H2→wpAny (model X.prog X.w) X.A (f v u) Q X.xe s2) :
    wpAny (model X.prog X.w) X.A (eval a X.env) (fun v s₁=>wpAny (model X.prog X.w) X.A (eval b X.env) (fun u s₂=>wpAny (model X.prog X.w) X.A (f v u) Q X.xe s₂) X.xe s₁) X.xe s:=by
  refine thn (ha pins s σ H _ I h) fun v s1 ⟨x,H1,I1,r1,q1⟩=>?_
  refine thn (hb pins s1 σ H1 _ I1 q1) fun u s2 ⟨y,H2,I2,r2,q2⟩=>?_
  exact hf v u s2 x y H2 I2 r1 r2 q2
theorem υ {op:Operator} {r:R2} (ho:OpR X (binaryOp op) r) (ha:PE X a ta) (hb:PE X b tb):PE X (.BinOp a op b pos) (tOp r ta tb):=by
  intro pins s σ H Q I h
  exact wpAny_BinOp (binT ha hb I h fun v u s2 x y H2 I2 rx ry q=>ho pins s2 σ H2 x y v u Q I2 rx ry q)
theorem Ψe {op:UnaryOp} {r:V→Hp→VK→Prop} (ho:UnR X (unaryOp op) r) (ha:PE X a ta):PE X (.UnaryOp op a pos) (tUn r ta):=by
  intro pins s σ H Q I h
  exact UnaryOp_ (thn (ha pins s σ H _ I h) fun v s1 ⟨x,H1,I1,r1,q1⟩=>ho pins s1 σ H1 x v Q I1 r1 q1)
theorem opI {f:Value→Value→Sem Value} {C:Int→Int→Prop} {g:Int→Int→Int}
    (rule:∀ (i j:Int) (t u:Tok) (s:Shared) (Q:Value→Shared→Prop) (E:Value→Shared→Prop),C i j→Q (.int (g i j) s.toks) {s with toks:=s.toks+1}→wpAny (model X.prog X.w) X.A (f (.int i t) (.int j u)) Q E s) :
    OpR X f (rI C fun i j=>.int (g i j)):=by
  intro pins s σ H x y v u Q I rx ry h
  obtain ⟨i,j,rfl,rfl,hc,q⟩:=h
  obtain ⟨t,rfl⟩:=rx
  obtain ⟨t',rfl⟩:=ry
  exact rule i j t t' s _ _ hc ⟨.int (g i j),H,I.tok _,⟨_,rfl⟩,q⟩
theorem opI0 {f:Value→Value→Sem Value} {g:Int→Int→Int}
    (rule:∀ (i j:Int) (t u:Tok) (s:Shared) (Q:Value→Shared→Prop) (E:Value→Shared→Prop),Q (.int (g i j) s.toks) {s with toks:=s.toks+1}→wpAny (model X.prog X.w) X.A (f (.int i t) (.int j u)) Q E s) :
    OpR X f (rI0 fun i j=>.int (g i j)):=by
  intro pins s σ H x y v u Q I rx ry h
  obtain ⟨i,j,rfl,rfl,q⟩:=h
  obtain ⟨t,rfl⟩:=rx
  obtain ⟨t',rfl⟩:=ry
  exact rule i j t t' s _ _ ⟨.int (g i j),H,I.tok _,⟨_,rfl⟩,q⟩
theorem opB0 {f:Value→Value→Sem Value} {g:Int→Int→Bool}
    (rule:∀ (i j:Int) (t u:Tok) (s:Shared) (Q:Value→Shared→Prop) (E:Value→Shared→Prop),Q (.bool (g i j)) s→wpAny (model X.prog X.w) X.A (f (.int i t) (.int j u)) Q E s) :
    OpR X f (rI0 fun i j=>.bl (g i j)):=by
  intro pins s σ H x y v u Q I rx ry h
  obtain ⟨i,j,rfl,rfl,q⟩:=h
  obtain ⟨t,rfl⟩:=rx
  obtain ⟨t',rfl⟩:=ry
  exact rule i j t t' s _ _ ⟨.bl (g i j),H,I,rfl,q⟩
noncomputable def CDiv (i j:Int):Prop:=0 < j∧j < 1073741824
noncomputable def CPow (i j:Int):Prop:=0≤j∧j≤1000000∧i.natAbs < 2^64
noncomputable def CMul (i j:Int):Prop:=(-(2^64) < i∧i < 2^64)∨(-(2^64) < j∧j < 2^64)
theorem CMul.ok {i j:Int} (h:CMul i j):IntMulOk i j:=by
  rcases h with ⟨h1,h2⟩ | ⟨h1,h2⟩
  · exact .of_left (intBits_le_64 h1 h2)
  · exact .of_right (intBits_le_64 h1 h2)
theorem two_pow_nn (k:Nat):(0:Int)≤2^k:=by
  rw [two_pow_cast]
  exact Int.natCast_nonneg _
theorem η0:OpR X (binaryOp .Add) (rI0 fun i j=>.int (i+j)):=opI0 fun _ _ _ _ _ _ _ q=>add_int q
theorem ο2:OpR X (binaryOp .Sub) (rI0 fun i j=>.int (i - j)):=opI0 fun _ _ _ _ _ _ _ q=>sub_int q
theorem χ3:OpR X (binaryOp .Mult) (rI CMul fun i j=>.int (i*j)):=opI fun _ _ _ _ _ _ _ hc q=>mul_int q hc.ok
theorem op_fdiv:OpR X (binaryOp .FloorDiv) (rI CDiv fun i j=>.int (i / j)):=opI fun i j _ _ _ _ _ hc q=>by
  have h1:(0:Int) < j:=hc.1
  have h2:j < 1073741824:=hc.2
  exact floordiv_int (by omega) (by rw [Int.fdiv_eq_ediv_of_nonneg i (by omega)]; exact q) (.inl (PyProof.noPylong_small (by omega)))
theorem ιk:OpR X (binaryOp .Mod) (rI (fun _ j=>0 < j) fun i j=>.int (i%j)):=opI fun i j _ _ _ _ _ hc q=>by
  have h1:(0:Int) < j:=hc
  exact mod_int' (by omega) (by rw [Int.fmod_eq_emod_of_nonneg i (by omega)]; exact q)
theorem φ3:OpR X (binaryOp .LShift) (rI CPow fun i j=>.int (i*2^j.toNat)):=opI fun _ _ _ _ _ _ _ hc q=>lshift_int_small hc.1 hc.2.1 hc.2.2 q
theorem ρ2:OpR X (binaryOp .RShift) (rI (fun _ j=>0≤j) fun i j=>.int (i / 2^j.toNat)):=opI fun i j _ _ _ _ _ hc q =>
  rshift_int hc (by rw [Int.fdiv_eq_ediv_of_nonneg i (two_pow_nn _)]; exact q)
theorem ν0:OpR X (binaryOp .BitAnd) (rI0 fun i j=>.int (Builtin.bitAnd i j)):=opI0 fun _ _ _ _ _ _ _ q=>and_int q
theorem ζ3:OpR X (binaryOp .BitOr) (rI0 fun i j=>.int (Builtin.bitOr i j)):=opI0 fun _ _ _ _ _ _ _ q=>or_int q
theorem op_xor:OpR X (binaryOp .BitXor) (rI0 fun i j=>.int (Builtin.bitXor i j)):=opI0 fun _ _ _ _ _ _ _ q=>xor_int q
theorem unI {f:Value→Sem Value} {g:Int→Int}
    (rule:∀ (i:Int) (t:Tok) (s:Shared) (Q:Value→Shared→Prop) (E:Value→Shared→Prop),Q (.int (g i) s.toks) {s with toks:=s.toks+1}→wpAny (model X.prog X.w) X.A (f (.int i t)) Q E s) :
    UnR X f (rU fun i=>.int (g i)):=by
  intro pins s σ H x v Q I rx h
  obtain ⟨i,rfl,q⟩:=h
  obtain ⟨t,rfl⟩:=rx
  exact rule i t s _ _ ⟨.int (g i),H,I.tok _,⟨_,rfl⟩,q⟩
theorem υ6:UnR X (unaryOp .USub) (rU fun i=>.int (-i)):=unI fun _ _ _ _ _ q=>neg_int q
end
noncomputable def scal:V→V→Bool
  | .non,.non=>true | .non,.int _=>true | .int _,.non=>true | .non,.bl _=>true | .bl _,.non=>true | .non,.str _=>true | .str _,.non=>true
  | .int _,.int _=>true | .bl _,.bl _=>true | .str _,.str _=>true | .byt _,.byt _=>true
  | .int _,.str _=>true | .str _,.int _=>true | .bl _,.str _=>true | .str _,.bl _=>true
  | _,_=>false
noncomputable def rEq:R2:=fun x y H Q=>scal x y=true∧Q (.bl (decide (x=y))) H
noncomputable def rNe:R2:=fun x y H Q=>scal x y=true∧Q (.bl (!decide (x=y))) H
theorem dec_int {i j:Int}:decide (V.int i=V.int j)=(i == j):=by
  rw [Bool.eq_iff_iff]
  simp
theorem dec_bl {i j:Bool}:decide (V.bl i=V.bl j)=(i == j):=by
  rw [Bool.eq_iff_iff]
  simp
theorem dec_str {i j:Str}:decide (V.str i=V.str j)=(i == j):=by
  rw [Bool.eq_iff_iff]
  simp
theorem dec_byt {i j:Array UInt8}:decide (V.byt i=V.byt j)=(i.toList == j.toList):=by
  rw [Bool.eq_iff_iff]
  cases i
  cases j
  simp
section
variable {X:Cx} {a b c:Expr} {ta tb tc:TE} {pos:Pos}
theorem τ1 {pins:List (Addr×Obj)} {σ:St} {H:Hp} {s:Shared} {Q:VK} {k k':Bool} (I:Inv X pins σ H s) (q:Q (.bl k) H) (e:k=k'):EP X pins σ Q (.bool k') s:=by
  subst e
  exact ⟨.bl k,H,I,rfl,q⟩
theorem ψ1:OpR X (compareOp .Eq) rEq:=by
  intro pins s σ H x y v u Q I rx ry h
  obtain ⟨hs,q⟩:=h
  cases x with
  | non =>
    cases rx
    cases y with
    | non=>cases ry; exact PySem.EqNone.eq_none_none (τ1 I q (by simp))
    | bl j=>cases ry; exact PySem.EqNone.eq_none_bool (τ1 I q (by simp))
    | int j=>obtain ⟨t',rfl⟩:=ry; exact PySem.EqNone.eq_none_int (τ1 I q (by simp))
    | str j=>obtain ⟨t',rfl⟩:=ry; exact PySem.EqNone.eq_none_str (τ1 I q (by simp))
    | _=>exact absurd (show false=true from hs) Bool.false_ne_true
  | bl i =>
    cases rx
    cases y with
    | non=>cases ry; exact PySem.EqNone.eq_bool_none (τ1 I q (by simp))
    | bl j=>cases ry; exact eq_bool (τ1 I q dec_bl)
    | str j=>obtain ⟨t',rfl⟩:=ry; exact PySem.EqMixed.eq_bool_str (τ1 I q (by simp))
    | _=>exact absurd (show false=true from hs) Bool.false_ne_true
  | int i =>
    obtain ⟨t,rfl⟩:=rx
    cases y with
    | non=>cases ry; exact PySem.EqNone.eq_int_none (τ1 I q (by simp))
    | int j=>obtain ⟨t',rfl⟩:=ry; exact eq_int (τ1 I q dec_int)
    | str j=>obtain ⟨t',rfl⟩:=ry; exact PySem.EqMixed.eq_int_str (τ1 I q (by simp))
    | _=>exact absurd (show false=true from hs) Bool.false_ne_true
  | str i =>
    obtain ⟨t,rfl⟩:=rx
    cases y with
    | non=>cases ry; exact PySem.EqNone.eq_str_none (τ1 I q (by simp))
    | bl j=>cases ry; exact PySem.EqMixed.eq_str_bool (τ1 I q (by simp))
    | int j=>obtain ⟨t',rfl⟩:=ry; exact PySem.EqMixed.eq_str_int (τ1 I q (by simp))
    | str j=>obtain ⟨t',rfl⟩:=ry; exact eq_str (τ1 I q dec_str)
    | _=>exact absurd (show false=true from hs) Bool.false_ne_true
  | byt i =>
    obtain ⟨t,rfl⟩:=rx
    cases y with
    | byt j=>obtain ⟨t',rfl⟩:=ry; exact PySem.W.eq_bytes (τ1 I q dec_byt)
    | _=>exact absurd (show false=true from hs) Bool.false_ne_true
  | _=>cases y <;> exact absurd (show false=true from hs) Bool.false_ne_true
theorem ξb:OpR X (compareOp .NotEq) rNe:=by
  intro pins s σ H x y v u Q I rx ry h
  obtain ⟨hs,q⟩:=h
  cases x with
  | non =>
    cases rx
    cases y with
    | non=>cases ry; exact PySem.EqNone.ne_none_none (τ1 I q (by simp))
    | bl j=>cases ry; exact PySem.EqNone.ne_none_bool (τ1 I q (by simp))
    | int j=>obtain ⟨t',rfl⟩:=ry; exact PySem.EqNone.ne_none_int (τ1 I q (by simp))
    | str j=>obtain ⟨t',rfl⟩:=ry; exact PySem.EqNone.ne_none_str (τ1 I q (by simp))
    | _=>exact absurd (show false=true from hs) Bool.false_ne_true
  | bl i =>
    cases rx
    cases y with
    | non=>cases ry; exact PySem.EqNone.ne_bool_none (τ1 I q (by simp))
    | bl j=>cases ry; exact ne_bool (τ1 I q (congrArg not dec_bl))
    | str j=>obtain ⟨t',rfl⟩:=ry; exact PySem.EqMixed.ne_bool_str (τ1 I q (by simp))
    | _=>exact absurd (show false=true from hs) Bool.false_ne_true
  | int i =>
    obtain ⟨t,rfl⟩:=rx
    cases y with
    | non=>cases ry; exact PySem.EqNone.ne_int_none (τ1 I q (by simp))
    | int j=>obtain ⟨t',rfl⟩:=ry; exact ne_int (τ1 I q (congrArg not dec_int))
    | str j=>obtain ⟨t',rfl⟩:=ry; exact PySem.EqMixed.ne_int_str (τ1 I q (by simp))
    | _=>exact absurd (show false=true from hs) Bool.false_ne_true
  | str i =>
    obtain ⟨t,rfl⟩:=rx
    cases y with
    | non=>cases ry; exact PySem.EqNone.ne_str_none (τ1 I q (by simp))
    | bl j=>cases ry; exact PySem.EqMixed.ne_str_bool (τ1 I q (by simp))
    | int j=>obtain ⟨t',rfl⟩:=ry; exact PySem.EqMixed.ne_str_int (τ1 I q (by simp))
    | str j=>obtain ⟨t',rfl⟩:=ry; exact ne_str (τ1 I q (congrArg not dec_str))
    | _=>exact absurd (show false=true from hs) Bool.false_ne_true
  | byt i =>
    obtain ⟨t,rfl⟩:=rx
    cases y with
    | byt j=>obtain ⟨t',rfl⟩:=ry; exact PySem.W.ne_bytes (τ1 I q (congrArg not dec_byt))
    | _=>exact absurd (show false=true from hs) Bool.false_ne_true
  | _=>cases y <;> exact absurd (show false=true from hs) Bool.false_ne_true
theorem ξg:OpR X (compareOp .Lt) (rI0 fun i j=>.bl (decide (i < j))):=opB0 fun _ _ _ _ _ _ _ q=>lt_int q
theorem ρ6:OpR X (compareOp .LtE) (rI0 fun i j=>.bl (decide (i≤j))):=opB0 fun _ _ _ _ _ _ _ q=>le_int q
theorem op_gt:OpR X (compareOp .Gt) (rI0 fun i j=>.bl (decide (j < i))):=opB0 fun _ _ _ _ _ _ _ q=>gt_int q
theorem κk:OpR X (compareOp .GtE) (rI0 fun i j=>.bl (decide (j≤i))):=opB0 fun _ _ _ _ _ _ _ q=>ge_int q
theorem op_isN:OpR X (compareOp .Is) (fun x y H Q=>y=.non∧Q (.bl (decide (x=.non))) H):=by
  intro pins s σ H x y v u Q I rx ry h
  obtain ⟨rfl,q⟩:=h
  cases ry
  refine is_none_gen (τ1 I q ?_)
  cases x <;> first
    | (cases rx; rfl)
    | (obtain ⟨t,rfl⟩:=rx; rfl)
theorem Ω (b:Expr) {op:CmpOp} (h:op≠.In:=by decide) (h2:op≠.NotIn:=by decide):behindInMarks op b=false:=by
  have e1:(op == CmpOp.In)=false:=by cases op <;> first | rfl | exact absurd rfl h
  have e2:(op == CmpOp.NotIn)=false:=by cases op <;> first | rfl | exact absurd rfl h2
  cases b <;> simp [behindInMarks,e1,e2]
theorem ξ2 {op:CmpOp} {r:R2} (ho:OpR X (compareOp op) r) (ha:PE X a ta) (hb:PE X b tb) (hm:behindInMarks op b=false):PE X (.Compare a [op] [b] pos) (tOp r ta tb):=by
  intro pins s σ H Q I h
  exact wpAny_Compare1 (binT ha hb I h fun v u s2 x y H2 I2 rx ry q=>ho pins s2 σ H2 x y v u Q I2 rx ry q) hm
noncomputable def tTest (t:TE):TT:=fun σ H Q=>t σ H fun x H'=>∃ k,x=.bl k∧Q k H'
theorem Ψ {op:CmpOp} {r:R2} (ho:OpR X (compareOp op) r) (ha:PE X a ta) (hb:PE X b tb) (hm:behindInMarks op b=false):PT X (.Compare a [op] [b] pos) (tTest (tOp r ta tb)):=by
  intro pins s σ H Q I h
  refine wpAny_isTrue_Compare1 (thn (ha pins s σ H _ I h) fun v s1 ⟨x,H1,I1,r1,q1⟩=>thn (hb pins s1 σ H1 _ I1 q1) fun u s2 ⟨y,H2,I2,r2,q2⟩ =>
    thn (ho pins s2 σ H2 x y v u _ I2 r1 r2 q2) fun c s3 ⟨z,H3,I3,r3,k,e,q3⟩=>?_) hm
  subst e
  cases r3
  exact wpAny_truthy_bool ⟨H3,I3,q3⟩
noncomputable def tChain (r r':R2) (ta tb tc:TE):TE:=fun σ H Q=>ta σ H fun x H1=>tb σ H1 fun y H2=>r x y H2 fun z H3=>∃ k,z=.bl k ∧
  (if k=true then tc σ H3 fun w' H4=>r' y w' H4 Q else Q (.bl false) H3)
theorem pe_chain {op op':CmpOp} {r r':R2} (ho:OpR X (compareOp op) r) (ho':OpR X (compareOp op') r') (ha:PE X a ta) (hb:PE X b tb) (hc:PE X c tc)
    (hm:lastMarks [op,op'] [b,c]=false:=by with_unfolding_all rfl):PE X (.Compare a [op,op'] [b,c] pos) (tChain r r' ta tb tc):=by
  intro pins s σ H Q I h
  refine Compare_chain (thn (ha pins s σ H _ I h) fun v s1 ⟨x,H1,I1,r1,q1⟩=>chain_link (thn (hb pins s1 σ H1 _ I1 q1) fun u s2 ⟨y,H2,I2,r2,q2⟩ =>
    thn (ho pins s2 σ H2 x y v u _ I2 r1 r2 q2) fun d s3 ⟨z,H3,I3,r3,k,e,q3⟩=>?_)) hm
  subst e
  cases r3
  refine wpAny_truthy_bool ?_
  cases k with
  | false=>exact ite_ff ⟨.bl false,H3,I3,rfl,q3⟩
  | true=>exact ite_tt (chain_last (thn (hc pins s3 σ H3 _ I3 q3) fun w' s4 ⟨z',H4,I4,r4,q4⟩=>ho' pins s4 σ H4 y z' u w' Q I4 r2 r4 q4))
theorem η4 {op op':CmpOp} {r r':R2} (ho:OpR X (compareOp op) r) (ho':OpR X (compareOp op') r') (ha:PE X a ta) (hb:PE X b tb) (hc:PE X c tc)
    (hm:lastMarks [op,op'] [b,c]=false:=by with_unfolding_all rfl):PT X (.Compare a [op,op'] [b,c] pos) (tTest (tChain r r' ta tb tc)):=by
  intro pins s σ H Q I h
  refine isTrue_chain (thn (ha pins s σ H _ I h) fun v s1 ⟨x,H1,I1,r1,q1⟩=>test_link (thn (hb pins s1 σ H1 _ I1 q1) fun u s2 ⟨y,H2,I2,r2,q2⟩ =>
    thn (ho pins s2 σ H2 x y v u _ I2 r1 r2 q2) fun d s3 ⟨z,H3,I3,r3,k,e,q3⟩=>?_)) hm
  subst e
  cases r3
  refine wpAny_truthy_bool ?_
  cases k with
  | false =>
    obtain ⟨k',e',q'⟩:=q3
    cases e'
    exact ite_ff ⟨H3,I3,q'⟩
  | true =>
    refine ite_tt (test_last (thn (hc pins s3 σ H3 _ I3 q3) fun w' s4 ⟨z',H4,I4,r4,q4⟩=>thn (ho' pins s4 σ H4 y z' u w' _ I4 r2 r4 q4) fun d' s5 ⟨z2,H5,I5,r5,k2,e2,q5⟩=>?_))
    subst e2
    cases r5
    exact wpAny_truthy_bool ⟨H5,I5,q5⟩
noncomputable def TruV (K:PySem.W.Frag) (x:V) (H:Hp) (k:Bool):Prop :=
  match x with
  | .non=>k=false
  | .bl b=>k=b
  | .int i=>k=(i != 0)
  | .str y=>y.length≤sizeLine∧k=((y.length:Int) != 0)
  | .byt y=>y.size≤sizeLine∧k=((y.size:Int) != 0)
  | .ref p=>(∃ xs,SqL K H p xs∧k = !xs.isEmpty)∨(∃ xs,SqT K H p xs∧k = !xs.isEmpty)∨∃ kvs,H p=some (.dK kvs)∧k = !kvs.isEmpty
  | _=>False
theorem isEmpty_kv {κ:Type} {kvs:List (κ×V)} {vs:List (κ×Value)} (r:KV kvs vs):(!vs.isEmpty) = !kvs.isEmpty:=by
  cases r <;> rfl
theorem ωn {xs:List V} {its:List Value} (r:τ2 xs its):(!its.toArray.isEmpty) = !xs.isEmpty:=by
  cases r <;> simp
theorem line63:(sizeLine:Nat) < 2^63:=by rw [sizeLine_eq]; decide
theorem tru_ok:TruR X (fun x H Q=>∃ k,TruV X.K x H k∧Q k H):=by
  intro pins s σ H x v Q I rx h
  obtain ⟨k,e,q⟩:=h
  have hl:=line63
  have hs:sizeLine=16777216:=sizeLine_eq
  cases x with
  | non =>
    cases rx
    have e':k=false:=e
    subst e'
    exact truthy_none ⟨H,I,q⟩
  | bl b =>
    cases rx
    have e':k=b:=e
    subst e'
    exact wpAny_truthy_bool ⟨H,I,q⟩
  | int i =>
    obtain ⟨t,rfl⟩:=rx
    have e':k=(i != 0):=e
    subst e'
    exact PySem.P.truthy_int ⟨H,I,q⟩
  | str y =>
    obtain ⟨t,rfl⟩:=rx
    obtain ⟨hy,e'⟩:y.length≤sizeLine∧k=((y.length:Int) != 0):=e
    subst e'
    exact PySem.P.truthy_str (by omega) ⟨H,I.tok _,q⟩
  | byt y =>
    obtain ⟨t,rfl⟩:=rx
    obtain ⟨hy,e'⟩:y.size≤sizeLine∧k=((y.size:Int) != 0):=e
    subst e'
    exact PySem.W.truthy_bytes (by omega) ⟨H,I.tok _,q⟩
  | ref p =>
    cases rx
    have e':(∃ xs,SqL X.K H p xs∧k = !xs.isEmpty)∨(∃ xs,SqT X.K H p xs∧k = !xs.isEmpty)∨∃ kvs,H p=some (.dK kvs)∧k = !kvs.isEmpty:=e
    rcases e' with ⟨xs,hx,e'⟩ | ⟨xs,hx,e'⟩ | ⟨kvs,hx,e'⟩
    · subst e'
      obtain ⟨its,r,pl,hz⟩:=I.list hx
      have hlen:=r.length
      exact wpAny_truthy_list pl.isList (by simp only [List.size_toArray]; omega) ⟨H,I.tok _,by rw [ωn r]; exact q⟩
    · subst e'
      obtain ⟨its,r,pl,hz⟩:=I.tuple hx
      have hlen:=r.length
      exact truthy_tuple pl (by simp only [List.size_toArray]; omega) ⟨H,I.tok _,by rw [ωn r]; exact q⟩
    · subst e'
      obtain ⟨hz,hS,vs,r,m⟩:kvs.length≤sizeLine∧(p == sysModules)=false∧∃ vs,KV kvs vs∧s.heap.DictOf (τ5 X.prog X.w) p vs:=I.hok p _ hx
      have hlen:kvs.length=vs.length:=Paired.length r
      exact wpAny_truthy_dict hS m (by omega) ⟨H,I.tok _,by rw [isEmpty_kv r]; exact q⟩
  | _=>exact (show False from e).elim
theorem ηj (ha:PE X a ta) (he:∀ whole,isTrue a X.env whole=(do let v ← whole; standAt a.pos; holding [v] (truthy v))) :
    PT X a (fun σ H Q=>ta σ H fun x H'=>∃ k,TruV X.K x H' k∧Q k H'):=by
  intro pins s σ H Q I h
  exact isTrue_plain (thn (ha pins s σ H _ I h) fun v s1 ⟨x,H1,I1,r1,q1⟩=>tru_ok pins s1 σ H1 x v Q I1 r1 q1) (he _)
theorem vals1 {x:V} {us:List Value} (r:τ2 [x] us):∃ u,us=[u]∧ο4 x u:=by
  cases r with
  | cons r1 r2=>cases r2; exact ⟨_,rfl,r1⟩
theorem call_abs:CallR X (.builtin "abs") (fun xs H Q=>∃ i,xs=[.int i]∧Q (.int (if i < 0 then -i else i)) H):=by
  intro pins s σ H xs us Q I r h
  obtain ⟨i,rfl,q⟩:=h
  obtain ⟨u,rfl,t,rfl⟩:=vals1 r
  exact call_abs_int fun u tk=>⟨.int (if i < 0 then -i else i),H,I.tok _,⟨_,rfl⟩,q⟩
end
end L2
namespace L2
open PySem PySem.Spec PyProof.Rows
structure ObjM (h:Heap) (x dx C:Addr) (mA:Str→Option Value):Prop where
  obj:h.get? x=some (PySem.W.instObj C dx)
  ns:h.Ns1 dx mA
  ne:dx≠x
theorem lookIn_ns {h:Heap} {dx:Addr} {mA:Str→Option Value} (n:h.Ns1 dx mA):∃ od,h.get? dx=some od∧∀ name,PySem.W.lookIn name od=some (mA name):=by
  obtain ⟨o,es,ep,ho,hd,hk,_,hm⟩:=n
  refine ⟨o,ho,fun name=>?_⟩
  have e:=hm name
  unfold nsFind findBy at e
  rw [← Array.find?_toList] at e
  unfold PySem.W.lookIn
  rw [hd]
  dsimp only
  split
  · rename_i y q
    rw [q] at e
    exact congrArg some e
  · rename_i q
    rw [q] at e
    have a:es.toList.any (·.refKey)=false:=by
      rw [List.any_eq_false]
      intro y hy
      obtain ⟨z,t,hkey⟩:=hk y (Array.mem_toList_iff.mp hy)
      simp [DictEntry.refKey,hkey]
    have a':¬ es.toList.any (·.refKey)=true:=by rw [a]; exact Bool.false_ne_true
    rw [if_neg a']
    exact congrArg some e
theorem ObjM.look {h:Heap} {x dx C:Addr} {mA:Str→Option Value} (I:ObjM h x dx C mA):∃ od,PySem.W.InstAt h x (PySem.W.instObj C dx) C (some od)∧∀ name,PySem.W.lookIn name od=some (mA name) :=
  let ⟨od,ho,hl⟩:=lookIn_ns I.ns
  ⟨od,⟨I.obj,rfl,rfl,ho⟩,hl⟩
section
variable {prog:Program} {w:World} {A:Around} {E:Value→Shared→Prop} {s:Shared} {K:PySem.W.Frag} {x dx C f:Addr} {mA:Str→Option Value} {name:Str} {v:Value}
theorem get_map {expr:Bool} {Q:Value→Shared→Prop} (X:K.In s.heap) (I:ObjM s.heap x dx C mA) (hg:PySem.W.plainGet K C name=true) (hh:PySem.W.hasDictIn K C=true)
    (ha:PySem.W.findIn K (.ref C) name=some none) (hv:mA name=some v) (hv':PySem.W.handedIn v=true) (h:Q v {s with toks:=s.toks+1}) :
    wpAny (model prog w) A (getAttr (.ref x) name expr) Q E s:=by
  obtain ⟨od,J,hl⟩:=I.look
  exact PySem.W.get_value X J (PySem.W.plainGet_of hg).1 (PySem.W.findObj_own hh ha rfl (by rw [hl,hv])) hv' h
theorem set_map {ns:List Str} {Q:Unit→Shared→Prop} (X:K.In s.heap) (I:ObjM s.heap x dx C mA)
    (hs:PySem.W.findIn K (.ref C) "__setattr__"=some (some (.builtin "object.__setattr__"))) (hp:PySem.W.plainOver K C=true) (ht:PySem.W.takerIn K C name=some none) (hh:PySem.W.hasDictIn K C=true)
    (hw:PySem.Within mA ns) (hsz:ns.length≤sizeLine)
    (h:∀ h',ObjM h' x dx C (fun y=>if y=name then some v else mA y)→Heap.SameBut dx s.heap h'→Q () {s with heap:=h',toks:=s.toks+2}) :
    wpAny (model prog w) A (setAttr (.ref x) name v) Q E s:=by
  obtain ⟨od,J,hl⟩:=I.look
  refine PySem.W.set_plain X J hs (PySem.W.osa_open (s:={s with toks:=s.toks+1}) (r:=none) X J hp ht fun b=>?_)
  obtain ⟨cd,hc,hd'⟩:=PySem.W.any_some hh
  have hx:s.heap.get? x=some ⟨.ref C,some dx,.plain,#[]⟩:=I.obj
  refine wpAny_bind (wpAny_pure (wpAny_bind (wpAny_bind (wpAny_loadPart hx (wpAny_bind (PySem.W.Looks.here (s:={s with toks:=s.toks+1}) (PySem.W.looks_clsIn X hc) ?_))))))
  rw [hd']
  refine wpAny_pure (a:=some dx) (wpAny_bind (wpAny_pure (wpAny_bind ?_)))
  refine wpAny_nsSet1 (s:={s with toks:=s.toks+1}) I.ns fun h' hn2 hs2=>?_
  obtain ⟨oD,esD,epD,hoD,hdD,hcD⟩:=hn2.count (PySem.Within.cons name v hw)
  refine wpAny_bind (wpAny_lookBehind hoD (by rw [hdD]; exact pastItsLine_dict (Nat.le_trans hcD (by rw [List.length_cons]; omega))) ?_)
  exact wpAny_pure (h _ ⟨(hs2.2 _ (Ne.symm I.ne)).trans I.obj,hn2,I.ne⟩ hs2)
theorem make_map {R:Result→Shared→Prop} {vs:List Value} {kw:List (Str×Value)} (X:K.In s.heap) (hm:PySem.W.makesIn K C=true)
    (hi:PySem.W.findIn K (.ref C) "__init__"=some (some (.ref f))) (hf:PySem.W.typeIn K (.ref f)=some (.type "function"))
    (h:codeAny (model prog w) (A.under (.builtin "type.__call__" ⟨.ref C::vs,kw⟩)) (.call (.ref f) ⟨.ref (s.heap.objs.size+1)::vs,kw⟩) (PySem.W.InitBack (s.heap.objs.size+1) R)
      {s with heap:=(s.heap.push PySem.W.emptyDict).push (PySem.W.instObj C s.heap.objs.size)}) :
    codeAny (model prog w) A (.call (.ref C) ⟨vs,kw⟩) R s:=by
  obtain ⟨hh,g,d,t,os⟩:=s
  exact PySem.W.make_core (PySem.W.makes_of X hm) (PySem.W.looks_findIn X hi) (fun self=>PySem.W.bind_fn X self hf) (.inl rfl) h
end
noncomputable def Ψh (f:Str) (v:V):List (Str×V)→List (Str×V)
  | []=>[(f,v)]
  | (g,x)::r=>if g=f then (g,v)::r else (g,x)::Ψh f v r
theorem Δk (f g:Str) (v:V):∀ fs:List (Str×V),(Ψh f v fs).lookup g=if g=f then some v else fs.lookup g
  | []=>by
    show List.lookup g [(f,v)]=_
    by_cases h:g=f
    · have hb:(g == f)=true:=beq_iff_eq.mpr h
      simp only [List.lookup,hb,if_pos h]
    · have hb:(g == f)=false:=beq_eq_false_iff_ne.mpr h
      simp only [List.lookup,hb,if_neg h]
  | (k,x)::r=>by
    have ih:=Δk f g v r
    rw [show Ψh f v ((k,x)::r)=(if k=f then (k,v)::r else (k,x)::Ψh f v r) from rfl]
    by_cases hk:k=f
    · rw [if_pos hk]
      by_cases h:g=k
      · have hb:(g == k)=true:=beq_iff_eq.mpr h
        simp only [List.lookup,hb,if_pos (h.trans hk)]
      · have hb:(g == k)=false:=beq_eq_false_iff_ne.mpr h
        simp only [List.lookup,hb,if_neg (fun e:g=f=>h (e.trans hk.symm))]
    · rw [if_neg hk]
      by_cases h:g=k
      · have hb:(g == k)=true:=beq_iff_eq.mpr h
        simp only [List.lookup,hb,if_neg (fun e:g=f=>hk (h.symm.trans e))]
      · have hb:(g == k)=false:=beq_eq_false_iff_ne.mpr h
        simp only [List.lookup,hb]
        exact ih
theorem Ψk (f:Str) (v:V):∀ fs:List (Str×V),f∈(Ψh f v fs).map (·.1)∧∀ g,g∈fs.map (·.1)→g∈(Ψh f v fs).map (·.1)
  | []=>⟨by simp [Ψh],fun g h=>by simp at h⟩
  | (k,x)::r=>by
    obtain ⟨i1,i2⟩:=Ψk f v r
    rw [show Ψh f v ((k,x)::r)=(if k=f then (k,v)::r else (k,x)::Ψh f v r) from rfl]
    by_cases hk:k=f
    · rw [if_pos hk]
      subst hk
      exact ⟨by simp,fun g h=>by simpa using h⟩
    · rw [if_neg hk]
      refine ⟨?_,fun g h=>?_⟩
      · rw [List.map_cons]
        exact List.mem_cons_of_mem _ i1
      · rw [List.map_cons] at h ⊢
        rcases List.mem_cons.mp h with e | e
        · exact List.mem_cons.mpr (.inl e)
        · exact List.mem_cons_of_mem _ (i2 g e)
theorem Ξk (f:Str) (v:V):∀ fs:List (Str×V),(Ψh f v fs).length≤fs.length+1
  | []=>by simp [Ψh]
  | (k,x)::r=>by
    have ih:=Ξk f v r
    rw [show Ψh f v ((k,x)::r)=(if k=f then (k,v)::r else (k,x)::Ψh f v r) from rfl]
    by_cases hk:k=f
    · rw [if_pos hk,List.length_cons,List.length_cons]; omega
    · rw [if_neg hk,List.length_cons,List.length_cons]; omega
theorem RelO.some_of {v:V} {o:Option Value} (r:RelO (some v) o):∃ u,o=some u∧ο4 v u:=by
  cases o with
  | none=>exact (show False from r).elim
  | some u=>exact ⟨u,rfl,r⟩
theorem handed_of {v:V} {u:Value} (r:ο4 v u):PySem.W.handedIn u=true:=by
  cases v with
  | non=>cases (show u=Value.none from r); rfl
  | bl b=>cases (show u=Value.bool b from r); rfl
  | int i=>obtain ⟨t,e⟩:=(show ∃ t,u=Value.int i t from r); cases e; rfl
  | str x=>obtain ⟨t,e⟩:=(show ∃ t,u=Value.str x t from r); cases e; rfl
  | byt b=>obtain ⟨t,e⟩:=(show ∃ t,u=Value.bytes b t from r); cases e; rfl
  | flt b=>obtain ⟨t,e⟩:=(show ∃ t,u=Value.float b t from r); cases e; rfl
  | ref a=>cases (show u=Value.ref a from r); rfl
  | ty n=>cases (show u=Value.type n from r); rfl
section
variable {P:Program} {w:World} {H H':Hp} {h h':Heap} {a C dx:Addr} {fs fs':List (Str×V)}
theorem ins_get (hok:HOk P w H h) (e:H a=some (.ins C dx fs)):∃ mA,ObjM h a dx C mA∧(∀ f,RelO (fs.lookup f) (mA f))∧PySem.Within mA (fs.map (·.1))∧fs.length≤1000∧H dx=some (.own a):=by
  obtain ⟨d,z,ne,ob,mA,n,r,q⟩:=(show τ6 P w H h a (.ins C dx fs) from hok a _ e)
  exact ⟨mA,⟨ob,n,ne⟩,r,q,z,d⟩
end
structure Cls (K:PySem.W.Frag) (C:Addr):Prop where
  pg:PySem.W.plainGet K C Str.empty=true
  hd:PySem.W.hasDictIn K C=true
  po:PySem.W.plainOver K C=true
  sa:PySem.W.findIn K (.ref C) "__setattr__"=some (some (.builtin "object.__setattr__"))
theorem Cls.get {K:PySem.W.Frag} {C:Addr} (c:Cls K C) (f:Str):PySem.W.plainGet K C f=true:=c.pg
noncomputable def κ2 (K:PySem.W.Frag) (C:Addr) (f:Str):Prop:=PySem.W.findIn K (.ref C) f=some none
theorem κ2.taker {K:PySem.W.Frag} {C:Addr} {f:Str} (n:κ2 K C f):PySem.W.takerIn K C f=some none:=by
  unfold PySem.W.takerIn
  rw [show PySem.W.findIn K (.ref C) f=some none from n]
  rfl
section
variable {X:Cx} {pins:List (Addr×Obj)} {σ:St} {H:Hp} {s:Shared} {a C dx:Addr} {fs:List (Str×V)} {f:Str} {v:V} {A:Around} {E:Value→Shared→Prop}
theorem getattr_ok {b:Bool} {Q:Value→Shared→Prop} (I:Inv X pins σ H s) (e:H a=some (.ins C dx fs)) (c:Cls X.K C) (n:κ2 X.K C f) (l:fs.lookup f=some v)
    (h:∀ u s',Inv X pins σ H s'→ο4 v u→Q u s'):wpAny (model X.prog X.w) A (getAttr (.ref a) f b) Q E s:=by
  obtain ⟨mA,O,r,_,_,_⟩:=ins_get I.hok e
  obtain ⟨u,hu,ru⟩:=RelO.some_of (v:=v) (o:=mA f) (by rw [← l]; exact r f)
  exact get_map I.kIn O (c.get f) c.hd n hu (handed_of ru) (h u _ (I.tok _) ru)
theorem setattr_ok {y:V} {u:Value} {Q:Unit→Shared→Prop} (I:Inv X pins σ H s) (e:H a=some (.ins C dx fs)) (c:Cls X.K C) (n:κ2 X.K C f) (hl:fs.length < 1000) (ry:ο4 y u)
    (h:∀ s',Inv X pins σ (upd H a (.ins C dx (Ψh f y fs))) s'→Q () s'):wpAny (model X.prog X.w) A (setAttr (.ref a) f u) Q E s:=by
  obtain ⟨mA,O,r,wi,_,ho⟩:=ins_get I.hok e
  have hz:(fs.map (·.1)).length≤sizeLine:=by rw [List.length_map,sizeLine_eq]; omega
  refine set_map I.kIn O c.sa c.po n.taker c.hd wi hz fun h' O' sb=>h _ ?_
  have hd:∃ o,h'.get? dx=some o:=let ⟨o,_,_,e',_⟩:=O'.ns; ⟨o,e'⟩
  refine I.write (x:=a) (e:=dx) (by rw [e]; exact True.intro) (.inr ho) (fun b q hb z=>(sb.2 b hb).trans z) hd ?_
  refine ⟨by rw [ψ O.ne]; exact ho,?_,O.ne,O'.obj,_,O'.ns,fun g=>?_,fun g hg=>?_⟩
  · have:=Ξk f y fs; omega
  · show RelO ((Ψh f y fs).lookup g) (if g=f then some u else mA g)
    rw [Δk]
    by_cases q:g=f
    · rw [if_pos q,if_pos q]; exact ry
    · rw [if_neg q,if_neg q]; exact r g
  · by_cases q:g=f
    · rw [q]; exact (Ψk f y fs).1
    · refine (Ψk f y fs).2 g (wi g fun z=>hg ?_)
      show (if g=f then some u else mA g)=none
      rw [if_neg q]; exact z
theorem Inv.made (I:Inv X pins σ H s):Inv X pins σ (upd (upd H s.heap.objs.size (.own (s.heap.objs.size+1))) (s.heap.objs.size+1) (.ins C s.heap.objs.size []))
    {s with heap:=(s.heap.push PySem.W.emptyDict).push (PySem.W.instObj C s.heap.objs.size)}:=by
  have e1:(s.heap.push PySem.W.emptyDict).get? s.heap.objs.size=some PySem.W.emptyDict:=Heap.get?_push_size s.heap rfl
  have e2:((s.heap.push PySem.W.emptyDict).push (PySem.W.instObj C s.heap.objs.size)).get? (s.heap.objs.size+1)=some (PySem.W.instObj C s.heap.objs.size):=by
    have:=Heap.get?_push_size (s.heap.push PySem.W.emptyDict) (o:=PySem.W.instObj C s.heap.objs.size) rfl
    rwa [Heap.size_push] at this
  have e3:(s.heap.push PySem.W.emptyDict).Ns s.heap.objs.size (fun _=>none):=⟨PySem.W.emptyDict,#[],_,e1,rfl,(fun e he=>absurd he (by simp)),fun _=>rfl⟩
  have I1:=I.laid (a:=s.heap.objs.size) (o:=.own (s.heap.objs.size+1)) (h':=s.heap.push PySem.W.emptyDict) (t':=s.toks) (fun b u q=>Heap.get?_push_of_some _ q) (Nat.le_refl _) ⟨_,e1⟩
  refine I1.laid (a:=s.heap.objs.size+1) (o:=.ins C s.heap.objs.size []) (t':=s.toks) (fun b u q=>Heap.get?_push_of_some _ q) (Nat.le_of_eq (Heap.size_push _ _)) ?_
  have ne:s.heap.objs.size≠s.heap.objs.size+1:=Nat.ne_of_lt (Nat.lt_succ_self _)
  refine ⟨by rw [ψ ne,ο],Nat.zero_le _,ne,e2,fun _=>none,(Heap.Ns1.of_empty e3).at fun o q=>Heap.get?_push_of_some _ q,fun _=>True.intro,fun y hy=>absurd rfl hy⟩
theorem attr_of {prog:Program} {w:World} {env:Env} {e:Expr} {f:Str} {pos:Pos} {s:Shared} {Q:Value→Shared→Prop} (hb:attributeBase e f env (eval e env)=eval e env)
    (h:wpAny (model prog w) A (eval e env) (fun o s₁=>wpAny (model prog w) A (getAttr o f true) Q E s₁) E s):wpAny (model prog w) A (eval (.Attribute e f pos) env) Q E s :=
  Attribute_any_ h (by rw [arm_eval_Attribute,hb])
end
noncomputable def χ5 (K:PySem.W.Frag) (ta:TE) (f:Str):TE:=fun σ H Q=>ta σ H fun x H1=>∃ a C dx fs v,x=.ref a∧H1 a=some (.ins C dx fs)∧Cls K C∧κ2 K C f∧fs.lookup f=some v∧Q v H1
noncomputable def sFld (K:PySem.W.Frag) (ta tv:TE) (f:Str):TS:=fun D σ H=>tv σ H fun y H1=>ta σ H1 fun x H2=>∃ a C dx fs,x=.ref a∧H2 a=some (.ins C dx fs)∧Cls K C∧κ2 K C f∧fs.length < 1000 ∧
  D.nx σ (upd H2 a (.ins C dx (Ψh f y fs)))
section
variable {X:Cx} {o e value:Expr} {f:Str} {pos pos' tpos:Pos} {ta tv:TE}
theorem Γ (he:PE X e ta) (hb:attributeBase e f X.env (eval e X.env)=eval e X.env):PE X (.Attribute e f pos) (χ5 X.K ta f):=by
  intro pins s σ H Q I h
  refine attr_of hb (thn (he pins s σ H _ I h) fun u s1 ⟨x,H1,I1,rx,a,C,dx,fs,v,ex,ea,c,n,l,q⟩=>?_)
  subst ex
  obtain rfl:u=Value.ref a:=rx
  exact getattr_ok I1 ea c n l fun u' s2 I2 ru=>⟨v,H1,I2,ru,q⟩
theorem ξ0 (ha:PE X o ta) (hv:PE X value tv) (hs:swapsWith value (some (.Attribute o f pos')) pos.line X.env=pure false):PS X (.Assign [.Attribute o f pos'] value pos) (sFld X.K ta tv f):=by
  intro pins s σ H D I h
  refine plainObj_wpAny_Assign_Attribute (thn (hv pins s σ H _ I h) fun u s1 ⟨y,H1,I1,ry,q⟩=>thn (ha pins s1 σ H1 _ I1 q) fun ov s2 ⟨x,H2,I2,rx,a,C,dx,fs,ex,ea,c,n,l,q2⟩=>?_) hs
  subst ex
  obtain rfl:ov=Value.ref a:=rx
  exact setattr_ok I2 ea c n l ry fun s3 I3=>⟨σ,_,I3,q2⟩
end
section
variable {X:Cx} {pins:List (Addr×Obj)} {σ:St} {H:Hp} {s:Shared} {A:Around} {E:Value→Shared→Prop} {Q:Value→Shared→Prop} {c:Value} {b:Bool}
end
end L2
namespace L2
open PySem PySem.Spec PyProof.Rows
structure Room (k:Nat) (A:Around):Prop where
  hd:A.handled=none
  dp:A.depth+3*k+5 < recursionLimit
  un:A.units+16*k+200 < cLine
theorem Room.mono {j k:Nat} {A:Around} (r:Room k A) (h:j≤k):Room j A:=⟨r.hd,by have:=r.dp; omega,by have:=r.un; omega⟩
theorem Room.deeper {k:Nat} {A:Around} (r:Room (k+1) A) (env:Env):Room k (A.deeper env) :=
  ⟨r.hd,by have:=r.dp; show A.depth+1+3*k+5 < _; omega,by have:=r.un; show A.units+3+16*k+200 < _; omega⟩
theorem make_depth {A:Around} {C:Addr} {us:List Value} {kw:List (Str×Value)}:(A.under (.builtin "type.__call__" ⟨.ref C::us,kw⟩)).depth=A.depth+1:=by
  first | rfl | simp [Around.under,Code.weight,Code.isCreation,Code.isGuard,Code.isCaller,Code.frames,Code.isFrame,guardIds]
theorem make_units {A:Around} {C:Addr} {us:List Value} {kw:List (Str×Value)}:(A.under (.builtin "type.__call__" ⟨.ref C::us,kw⟩)).units=A.units+1:=by
  first | rfl | simp [Around.under,Code.cUnits,Code.frames,Code.isFrame]
theorem Room.make {k:Nat} {A:Around} (r:Room (k+1) A) (C:Addr) (us:List Value) (kw:List (Str×Value)):Room k (A.under (.builtin "type.__call__" ⟨.ref C::us,kw⟩)) :=
  ⟨r.hd,by have:=r.dp; rw [make_depth]; omega,by have:=r.un; rw [make_units]; omega⟩
theorem Room.depth {k:Nat} {A:Around} (r:Room k A):A.depth < recursionLimit:=by have:=r.dp; omega
theorem Room.units {k:Nat} {A:Around} (r:Room k A):A.units+64 < cLine:=by have:=r.un; omega
theorem Room.units0 {k:Nat} {A:Around} (r:Room k A):A.units < cLine:=by have:=r.un; omega
noncomputable def tNil:TA:=fun _ H Q=>Q [] H
noncomputable def tCons (ta:TE) (tr:TA):TA:=fun σ H Q=>ta σ H fun x H1=>tr σ H1 fun xs H2=>Q (x::xs) H2
section
variable {X:Cx} {e:Expr} {es:List Expr} {te:TE} {t:TA} {pos:Pos}
theorem ν:PA X [] tNil:=fun _ _ _ _ H Q I h=>Calls.spliced_nil ⟨[],H,I,.nil,h⟩
theorem ζ (ha:PE X e te) (hr:PA X es t) (hs:starEach (e::es) X.env=(false,eval e X.env)::starEach es X.env:=by rfl):PA X (e::es) (tCons te t):=by
  intro pos pins s σ H Q I h
  rw [hs]
  show wpAny _ _ (spliced ((false,eval e X.env)::backTo pos (starEach es X.env))) _ _ s
  refine Calls.spliced_cons (thn (ha pins s σ H _ I h) fun u s1 ⟨x,H1,I1,r1,q1⟩=>?_)
  exact thn (hr pos pins s1 σ H1 _ I1 q1) fun us s2 ⟨xs,H2,I2,r2,q2⟩=>⟨x::xs,H2,I2,.cons r1 r2,q2⟩
noncomputable def tLst (t:TA):TE:=fun σ H Q=>t σ H fun xs H1=>xs.length≤sizeLine∧∀ p,H1 p=none→Q (.ref p) (upd H1 p (.lst xs))
theorem υ2 (h:PA X es t):PE X (.List es pos) (tLst t):=by
  intro pins s σ H Q I hq
  refine wpAny_List_spliced (thn (h pos pins s σ H _ I hq) fun us s1 ⟨xs,H1,I1,r,z,q⟩=>⟨by rw [← r.length]; exact z,?_⟩)
  have hf:H1 s1.heap.objs.size=none:=I1.hok.fresh (Nat.le_refl _)
  refine ⟨.ref s1.heap.objs.size,upd H1 s1.heap.objs.size (.lst xs),I1.laid (t':=s1.toks) (fun b u e=>Heap.get?_push_of_some _ e) (Nat.le_refl _) ?_,rfl,q _ hf⟩
  exact ⟨z,us,0,r,Heap.get?_push_size _ rfl⟩
end
noncomputable abbrev Sp:=List V→Hp→VK→XK→Prop
noncomputable abbrev CXT:=List Env→Hp→Shared→XK→Value→Shared→Prop
structure Env0 (P:Program) (w:World) (K:PySem.W.Frag) (mg:Str→Option Value) (base:Heap) (A:Around) (outer:List Env) (s:Shared) (H:Hp):Prop where
  frames:A.frames=some outer
  mod:Mod K mg base
  bs:∀ b o,base.get? b=some o→s.heap.get? b=some o∧H b=none
  bsz:base.objs.size≤s.heap.objs.size
  funs:s.heap.FunFrames base outer
  frf:∀ b∈frs outer,H b=none
  hok:HOk P w H s.heap
  bare:AllBare s.gens
noncomputable def CE (outer:List Env) (P:Program) (w:World) (H:Hp) (s:Shared) (Q:VK) (u:Value) (s':Shared):Prop :=
  ∃ v H',s'.os=s.os∧AllBare s'.gens∧Un (frs outer) [] H H' s.heap s'.heap∧HOk P w H' s'.heap∧ο4 v u∧Q v H'
noncomputable def CR (CX:CXT) (outer:List Env) (P:Program) (w:World) (H:Hp) (s:Shared) (Q:VK) (E:XK) (r:Result) (s':Shared):Prop :=
  match r with
  | .ok (.ret u)=>CE outer P w H s Q u s'
  | .ok _=>False
  | .error e=>CX outer H s E e s'
structure FnOk (P:Program) (w:World) (K:PySem.W.Frag) (mg:Str→Option Value) (base:Heap) (CX:CXT) (k:Nat) (f:Addr) (fd:FuncData) (ps:List Str) (sp:Sp):Prop where
  len:∀ vs H Q E,sp vs H Q E→vs.length=ps.length
  run:∀ (A:Around) (outer:List Env) (s:Shared) (H:Hp) (args:Args) (us:List Value) (vs:List V) (Q:VK) (E:XK),Room k A→Env0 P w K mg base A outer s H→BindsTo s fd args (ps.zip us)→τ2 vs us→sp vs H Q E →
    codeAny (model P w) A (.call (.ref f) args) (CR CX outer P w H s Q E) s
theorem FnOk.mono {P:Program} {w:World} {K:PySem.W.Frag} {mg:Str→Option Value} {base:Heap} {CX:CXT} {j k:Nat} {f:Addr} {fd:FuncData} {ps:List Str} {sp:Sp} (F:FnOk P w K mg base CX j f fd ps sp) (h:j≤k) :
    FnOk P w K mg base CX k f fd ps sp:=⟨F.len,fun A outer s H args us vs Q E hr=>F.run A outer s H args us vs Q E (hr.mono h)⟩
theorem FnOk.imp {P:Program} {w:World} {K:PySem.W.Frag} {mg:Str→Option Value} {base:Heap} {CX:CXT} {k:Nat} {f:Addr} {fd:FuncData} {ps:List Str} {sp sp':Sp} (F:FnOk P w K mg base CX k f fd ps sp)
    (h:∀ vs H Q E,sp' vs H Q E→sp vs H Q E):FnOk P w K mg base CX k f fd ps sp' :=
  ⟨fun vs H Q E q=>F.len vs H Q E (h _ _ _ _ q),fun A outer s H args us vs Q E hr he hb hv hs=>F.run A outer s H args us vs Q E hr he hb hv (h _ _ _ _ hs)⟩
theorem Env0.make {P:Program} {w:World} {K:PySem.W.Frag} {mg:Str→Option Value} {base:Heap} {A:Around} {outer:List Env} {s:Shared} {H:Hp} (e:Env0 P w K mg base A outer s H) (C:Addr) (us:List Value) (kw:List (Str×Value)) :
    Env0 P w K mg base (A.under (.builtin "type.__call__" ⟨.ref C::us,kw⟩)) outer s H:=⟨by first | exact e.frames | (simpa [Around.under,Code.envs,Code.isFrame,pushEnvs] using e.frames),e.mod,e.bs,e.bsz,e.funs,e.frf,e.hok,e.bare⟩
section
variable {X:Cx} {pins:List (Addr×Obj)} {σ:St} {H:Hp} {s s':Shared}
theorem Inv.env0 (I:Inv X pins σ H s):Env0 X.prog X.w X.K X.mg X.base X.A X.stack s H :=
  ⟨I.ok.frames,I.ok.mod,I.bs,Nat.le_trans I.ok.bsz I.sz,I.stack,I.stkFree,I.hok,I.bare⟩
theorem Inv.after {Q:VK} {u:Value} (I:Inv X pins σ H s) (h:CE X.stack X.prog X.w H s Q u s'):EP X pins σ Q u s':=by
  obtain ⟨v,H',os,bare,un,hok,r,q⟩:=h
  obtain ⟨hh,g,d,t,os'⟩:=s'
  obtain rfl:os'=s.os:=os
  exact ⟨v,H',I.call (h':=hh) (g':=g) (d':=d) (t':=t) (ch:=[]) un hok bare (fun b z=>absurd z (by simp)),r,q⟩
end
noncomputable def tCall (sp:Sp) (dvs:List V) (E:XK) (t:TA):TE:=fun σ H Q=>t σ H fun vs H1=>sp (vs++dvs) H1 Q E
noncomputable def tMake (C:Addr) (sp:Sp) (dvs:List V) (E:XK) (t:TA):TE:=fun σ H Q=>t σ H fun vs H1=>∀ x dx,H1 x=none→H1 dx=none→dx≠x →
  sp (.ref x::(vs++dvs)) (upd (upd H1 dx (.own x)) x (.ins C dx [])) (fun v H2=>v=.non∧Q (.ref x) H2) E
noncomputable def ιe (K:PySem.W.Frag) (fd:FuncData) (ps:List Str) (ds:List Value):Prop :=
  ∀ (s:Shared) (us:List Value),K.In s.heap→(us++ds).length=ps.length→BindsTo s fd ⟨us,[]⟩ (ps.zip (us++ds))
theorem ιe.all {K:PySem.W.Frag} {fd:FuncData} {ps:List Str} (h:∀ us:List Value,us.length=ps.length→bindArgs fd ⟨us,[]⟩=pure (ps.zip us)):ιe K fd ps []:=fun s us _ hl=>by
  rw [List.append_nil] at hl ⊢
  exact .of_eq (h us hl)
noncomputable def Ξn (CX:CXT) (X:Cx) (E:XK):Prop:=∀ (pins:List (Addr×Obj)) (σ:St) (H:Hp) (s:Shared) (e:Value) (s':Shared),Inv X pins σ H s→CX X.stack H s E e s'→X.xe e s'
section
variable {X:Cx} {CX:CXT} {k:Nat} {f C:Addr} {fd:FuncData} {ps:List Str} {sp:Sp} {dvs:List V} {ds:List Value} {E:XK} {x m:Str} {p pos apos:Pos} {e o:Expr} {es:List Expr} {ta:TE} {t:TA}
theorem run_fn {pins:List (Addr×Obj)} {σ:St} {H:Hp} {s:Shared} {Q:VK} {us:List Value} {vs:List V} (F:FnOk X.prog X.w X.K X.mg X.base CX k f fd ps sp) (hr:Room k X.A) (hb:ιe X.K fd ps ds) (hd:τ2 dvs ds) (hx:Ξn CX X E)
    (I:Inv X pins σ H s) (r:τ2 vs us) (h:sp (vs++dvs) H Q E):wpAny (model X.prog X.w) X.A (call (.ref f) us) (EP X pins σ Q) X.xe s:=by
  have r2:τ2 (vs++dvs) (us++ds):=r.append hd
  have hl:(us++ds).length=ps.length:=by rw [← r2.length]; exact F.len _ _ _ _ h
  refine wpAny_call (codeAny_mono (F.run X.A X.stack s H ⟨us,[]⟩ (us++ds) (vs++dvs) Q E hr I.env0 (hb s us I.kIn hl) r2 h) fun r s' hq=>?_)
  cases r with
  | error e=>exact hx pins σ H s e s' I hq
  | ok fl =>
    cases fl with
    | ret u=>exact I.after hq
    | next=>exact False.elim hq
    | brk=>exact False.elim hq
    | cont=>exact False.elim hq
theorem pe_call (F:FnOk X.prog X.w X.K X.mg X.base CX k f fd ps sp) (hr:Room k X.A) (hg:Gl X x) (hm:X.mg x=some (.ref f)) (hk:PySem.W.keepIn X.K (.ref f)=true) (hb:ιe X.K fd ps ds) (hd:τ2 dvs ds) (hx:Ξn CX X E)
    (ha:PA X (e::es) t) (hdb:(x == ("__debug__":Str))=false:=by decide) (he:starEach (e::es) X.env=(false,eval e X.env)::starEach es X.env:=by rfl) (hpl:(backTo pos (starEach es X.env)).any (·.1)=false:=by rfl) :
    PE X (.Call (.Name x p) (e::es) [] pos) (tCall sp dvs E t):=by
  intro pins s σ H Q I h
  refine wpAny_Call_Name_kw (ρb I hg hm ?_ hdb)
  refine PySem.W.callWith_K (h₀:=X.base) I.ok.mod.kin hk (thn (ha pos pins s σ H _ I h) fun us s1 ⟨vs,H1,I1,r,q⟩=>⟨I1.kIn,?_⟩) he hpl
  exact run_fn F hr hb hd hx I1 r q
structure Mk (K:PySem.W.Frag) (C f:Addr):Prop where
  makes:PySem.W.makesIn K C=true
  init:PySem.W.findIn K (.ref C) "__init__"=some (some (.ref f))
  fn:PySem.W.isFn K (.ref f)=true
  kp:PySem.W.keepIn K (.ref C)=true
theorem run_make {pins:List (Addr×Obj)} {σ:St} {H:Hp} {s:Shared} {Q:VK} {us:List Value} {vs:List V} (M:Mk X.K C f) (F:FnOk X.prog X.w X.K X.mg X.base CX k f fd ps sp) (hr:Room (k+1) X.A) (hb:ιe X.K fd ps ds) (hd:τ2 dvs ds)
    (hx:Ξn CX X E) (I:Inv X pins σ H s) (r:τ2 vs us)
    (h:∀ x dx,H x=none→H dx=none→dx≠x→sp (.ref x::(vs++dvs)) (upd (upd H dx (.own x)) x (.ins C dx [])) (fun v H2=>v=.non∧Q (.ref x) H2) E) :
    wpAny (model X.prog X.w) X.A (call (.ref C) us) (EP X pins σ Q) X.xe s:=by
  have hq:=h (s.heap.objs.size+1) s.heap.objs.size (I.hok.fresh (Nat.le_succ _)) (I.hok.fresh (Nat.le_refl _)) (Nat.ne_of_lt (Nat.lt_succ_self _))
  have I2:=Inv.made (C:=C) I
  have r2:τ2 (V.ref (s.heap.objs.size+1)::(vs++dvs)) (Value.ref (s.heap.objs.size+1)::(us++ds)):=.cons rfl (r.append hd)
  have hl:(Value.ref (s.heap.objs.size+1)::us++ds).length=ps.length:=by
    have e:=r2.length
    rw [F.len _ _ _ _ hq] at e
    exact e.symm
  refine wpAny_call (make_map (f:=f) I.kIn M.makes M.init (beq_iff_eq.mp M.fn) (codeAny_mono (F.run _ X.stack _ _ ⟨Value.ref (s.heap.objs.size+1)::us,[]⟩ (Value.ref (s.heap.objs.size+1)::(us++ds)) _ _ E (hr.make C us [])
    (I2.env0.make C us []) (hb _ (Value.ref (s.heap.objs.size+1)::us) I2.kIn hl) r2 hq) fun r s' hq'=>?_))
  cases r with
  | error e=>exact hx pins σ _ _ e s' I2 hq'
  | ok fl =>
    cases fl with
    | ret u =>
      obtain ⟨v,H',I3,rv,ev,q3⟩:=I2.after hq'
      subst ev
      exact ⟨rv,⟨V.ref (s.heap.objs.size+1),H',I3,rfl,q3⟩⟩
    | next=>exact False.elim hq'
    | brk=>exact False.elim hq'
    | cont=>exact False.elim hq'
theorem pe_make (M:Mk X.K C f) (F:FnOk X.prog X.w X.K X.mg X.base CX k f fd ps sp) (hr:Room (k+1) X.A) (hg:Gl X x) (hm:X.mg x=some (.ref C)) (hb:ιe X.K fd ps ds) (hd:τ2 dvs ds) (hx:Ξn CX X E)
    (ha:PA X (e::es) t) (hdb:(x == ("__debug__":Str))=false:=by decide) (he:starEach (e::es) X.env=(false,eval e X.env)::starEach es X.env:=by rfl) (hpl:(backTo pos (starEach es X.env)).any (·.1)=false:=by rfl) :
    PE X (.Call (.Name x p) (e::es) [] pos) (tMake C sp dvs E t):=by
  intro pins s σ H Q I h
  refine wpAny_Call_Name_kw (ρb I hg hm ?_ hdb)
  refine PySem.W.callWith_K (h₀:=X.base) I.ok.mod.kin M.kp (thn (ha pos pins s σ H _ I h) fun us s1 ⟨vs,H1,I1,r,q⟩=>⟨I1.kIn,?_⟩) he hpl
  exact run_make M F hr hb hd hx I1 r q
theorem pe_make0 (M:Mk X.K C f) (F:FnOk X.prog X.w X.K X.mg X.base CX k f fd ps sp) (hr:Room (k+1) X.A) (hg:Gl X x) (hm:X.mg x=some (.ref C)) (hb:ιe X.K fd ps ds) (hd:τ2 dvs ds) (hx:Ξn CX X E)
    (hdb:(x == ("__debug__":Str))=false:=by decide):PE X (.Call (.Name x p) [] [] pos) (tMake C sp dvs E tNil):=by
  intro pins s σ H Q I h
  refine wpAny_Call_Name_kw (ρb I hg hm ?_ hdb)
  exact PySem.W.callWith_K0 I.kIn M.kp (run_make (us:=[]) M F hr hb hd hx I .nil h)
end
section
variable {X:Cx} {CX:CXT} {k:Nat} {f C:Addr} {fd:FuncData} {ps ks:List Str} {sp:Sp} {E:XK} {x m:Str} {p pos apos kpos:Pos} {e o:Expr} {es:List Expr} {kws:List Keyword} {te ta:TE} {t tk:TA} {nm:Option Str}
variable {g:List Value→List Value→List Value} {gV:List V→List V→List V}
end
structure FnScope (N P:List Str) (sc:Scope):Prop where
  kind:sc.kind=.function
  co:sc.isCoroutine=false
  gen:sc.isGenerator=false
  nd:N.Nodup
  pre:N.take P.length=P
  par:∀ x∈P,sc.names.lookup x=some .local∨sc.names.lookup x=some .cell
  nofree:∀ y∈sc.names,y.2≠.free
theorem bindL_out {kindOf:Str→Option NameKind} {x:Str}:∀ {binds:List (Str×Value)} {m:Str→Option Value},(∀ v,(x,v)∉binds)→bindL kindOf binds m x=m x
  | [],_,_=>rfl
  | (n,v)::r,m,h=>by
    unfold bindL
    rw [bindL_out fun w hw=>h w (List.mem_cons_of_mem _ hw)]
    split
    · have:x≠n:=by rintro rfl; exact h v List.mem_cons_self
      simp [this]
    · rfl
theorem bindC_out {kindOf:Str→Option NameKind} {x:Str}:∀ {binds:List (Str×Value)} {m:Str→Option Value},(∀ v,(x,v)∉binds)→bindC kindOf binds m x=m x
  | [],_,_=>rfl
  | (n,v)::r,m,h=>by
    unfold bindC
    rw [bindC_out fun w hw=>h w (List.mem_cons_of_mem _ hw)]
    split
    · rfl
    · have:x≠n:=by rintro rfl; exact h v List.mem_cons_self
      simp [this]
theorem bindL_get {kindOf:Str→Option NameKind} {x:Str} {v:Value}:∀ {P:List Str} {vs:List Value} {i:Nat} {m:Str→Option Value},P.Nodup→P[i]?=some x→vs[i]?=some v→kindOf x=some .local →
    bindL kindOf (P.zip vs) m x=some v
  | [],_,_,_,_,h,_,_=>by simp at h
  | _::_,[],_,_,_,_,h,_=>by simp at h
  | p::P,w::vs,0,m,nd,h1,h2,hk=>by
    simp at h1 h2; subst h1; subst h2
    show bindL kindOf ((p,w)::P.zip vs) m p=_
    unfold bindL
    rw [bindL_out fun v hv=>(List.nodup_cons.mp nd).1 (List.of_mem_zip hv).1,if_pos hk]
    simp
  | p::P,w::vs,i+1,m,nd,h1,h2,hk=>by
    show bindL kindOf ((p,w)::P.zip vs) m x=_
    unfold bindL
    exact bindL_get (i:=i) (List.nodup_cons.mp nd).2 (by simpa using h1) (by simpa using h2) hk
theorem bindC_get {kindOf:Str→Option NameKind} {x:Str} {v:Value}:∀ {P:List Str} {vs:List Value} {i:Nat} {m:Str→Option Value},P.Nodup→P[i]?=some x→vs[i]?=some v→kindOf x≠some .local →
    bindC kindOf (P.zip vs) m x=some v
  | [],_,_,_,_,h,_,_=>by simp at h
  | _::_,[],_,_,_,_,h,_=>by simp at h
  | p::P,w::vs,0,m,nd,h1,h2,hk=>by
    simp at h1 h2; subst h1; subst h2
    show bindC kindOf ((p,w)::P.zip vs) m p=_
    unfold bindC
    rw [bindC_out fun v hv=>(List.nodup_cons.mp nd).1 (List.of_mem_zip hv).1,if_neg hk]
    simp
  | p::P,w::vs,i+1,m,nd,h1,h2,hk=>by
    show bindC kindOf ((p,w)::P.zip vs) m x=_
    unfold bindC
    exact bindC_get (i:=i) (List.nodup_cons.mp nd).2 (by simpa using h1) (by simpa using h2) hk
noncomputable def start (N:List Str) (vs:List V):St:=vs.map some++List.replicate (N.length - vs.length) none
noncomputable def cxOf (CX:CXT) (P:Program) (w:World) (K:PySem.W.Frag) (mg:Str→Option Value) (base:Heap) (N:List Str) (qual:Str) (scope:Scope) (f:Addr) (cd:Value) (A:Around) (outer:List Env) (s:Shared) (H:Hp) (E:XK):Cx where
  prog:=P
  w:=w
  K:=K
  mg:=mg
  base:=base
  A:=A.deeper (envOfC qual scope s.heap.objs.size f cd)
  N:=N
  s₀:=s
  H₀:=H
  env:=envOfC qual scope s.heap.objs.size f cd
  outer:=outer
  stack:=envOfC qual scope s.heap.objs.size f cd::outer
  ex:=[]
  calm:=true
  fn:=fun _=>true
  pn:=[]
  xe:=fun e s'=>wpAny (model P w) (A.deeper (envOfC qual scope s.heap.objs.size f cd)) (leaving (envOfC qual scope s.heap.objs.size f cd) e) (fun _ s''=>CX outer H s E e s'') (fun e' s''=>CX outer H s E e' s'') s'
theorem cell_has {sc:Scope} {n:Nat} {x:Str} (h:sc.names.lookup x=some .cell):∃ c,(cellsFrom n sc.names []).lookup x=some c:=by
  have q:=PySem.W.cellsFrom_some sc.names n [] (.inl h)
  exact Option.isSome_iff_exists.mp q
theorem inv_start {CX:CXT} {P:Program} {w:World} {K:PySem.W.Frag} {mg:Str→Option Value} {base:Heap} {N ps:List Str} {qual:Str} {scope:Scope} {f:Addr} {cd:Value} {A:Around} {outer:List Env} {s s1:Shared} {H:Hp} {E:XK} {us:List Value} {vs:List V}
    (S:FnScope N ps scope) (hd:A.handled=none) (e0:Env0 P w K mg base A outer s H) (hl:vs.length=ps.length) (r:τ2 vs us)
    (x:InCallC s s.heap.objs.size (bindL (envOfC qual scope s.heap.objs.size f cd).kindOf (ps.zip us) fun _=>none) (cellsFrom (s.heap.objs.size+1) scope.names []) (bindC (envOfC qual scope s.heap.objs.size f cd).kindOf (ps.zip us) fun _=>none) s1) :
    Inv (cxOf CX P w K mg base N qual scope f cd A outer s H E) [] (start N vs) H s1:=by
  have hpl:ps.length≤N.length:=by have:=congrArg List.length S.pre; rw [List.length_take] at this; omega
  obtain ⟨h1,tk,rfl,hk⟩:=x.done
  have noA:∀ b:Addr,b∉(cxOf CX P w K mg base N qual scope f cd A outer s H E).ex:=fun b z=>absurd (show b∈([]:List Addr) from z) (by simp)
  refine ⟨⟨e0.mod,S.kind,rfl,rfl,Nat.le_refl _,fun y z c h1 h2=>?_,fun y hy=>?_,fun y c _ h=>?_,fun _=>hd,Around.frames_deeper e0.frames,.inr ⟨rfl,rfl⟩,fun b z=>absurd z (noA b),e0.bs,e0.bsz,fun b _ _=>noA b,fun b z=>absurd z (noA b),e0.funs,e0.frf⟩,
    rfl,e0.bare,Un.kept hk,⟨_,x.toInCall.ns,fun i y v h1 h2 h3=>?_⟩,fun y c h=>⟨_,x.cell y c h⟩,e0.hok.fresh (Nat.le_refl _),fun y c h=>?_,fun p hp=>absurd (show p∈([]:List (Addr×Obj)) from hp) (by simp),e0.hok.kept hk,?_⟩
  · exact name_of_addr x.apart (PySem.mem_of_lookup h1) (PySem.mem_of_lookup h2)
  · have hy:scope.names.lookup y=some .cell∨scope.names.lookup y=some .free:=hy
    rcases hy with hy | hy
    · exact cell_has hy
    · exact absurd rfl (S.nofree _ (PySem.mem_of_lookup hy))
  · exact Nat.le_of_lt (x.above y c (PySem.mem_of_lookup h))
  · have hi:i < vs.length:=by
      unfold start at h2
      by_cases hi:i < vs.length
      · exact hi
      · rw [List.getElem?_append_right (by simpa using hi)] at h2
        rw [List.getElem?_replicate] at h2
        split at h2 <;> cases h2
    have ha:vs[i]?=some v:=by
      unfold start at h2
      rw [List.getElem?_append_left (by simpa using hi),List.getElem?_map] at h2
      cases e:vs[i]? with
      | none=>rw [e] at h2; cases h2
      | some a=>rw [e] at h2; cases h2; rfl
    obtain ⟨u,hu,rv⟩:=r.get ha
    have hp:ps[i]?=some y:=by
      rw [← S.pre,List.getElem?_take_of_lt (by omega)]; exact h1
    have ndP:ps.Nodup:=by rw [← S.pre]; exact S.nd.sublist (List.take_sublist _ _)
    refine ⟨u,rv,?_⟩
    rcases S.par y (List.mem_of_getElem? hp) with k | k
    · exact .inl ⟨k,bindL_get ndP hp hu k⟩
    · obtain ⟨c,e⟩:=cell_has (n:=s.heap.objs.size+1) k
      refine .inr ⟨.inl k,c,e,?_⟩
      have q:=x.cell y c e
      rw [bindC_get ndP hp hu (by show scope.names.lookup y≠_; rw [k]; decide)] at q
      exact q
  · exact e0.hok.fresh (Nat.le_of_lt (x.above y c (PySem.mem_of_lookup h)))
  · unfold start
    show _=N.length
    rw [List.length_append,List.length_map,List.length_replicate]
    omega
theorem fn_of {CX:CXT} {P:Program} {w:World} {K:PySem.W.Frag} {mg:Str→Option Value} {base:Heap} {k:Nat} {f:Addr} {name qual:Str} {params:Arguments} {body:List Stmt} {scope:Scope} {dV kV doc pm cdv ct oc:Value} {an od:Option Addr}
    {osl:Array (Option Value)} {N ps:List Str} {sp:Sp} (lk:K.lookup f=some ⟨oc,od,.func (PySem.W.fnOf name qual params body scope dV kV doc pm an cdv ct),osl⟩) (hcd:PySem.W.codeIn K cdv qual=true) (S:FnScope N ps scope)
    (len:∀ vs H Q E,sp vs H Q E→vs.length=ps.length)
    (hbody:∀ (A:Around) (outer:List Env) (s:Shared) (H:Hp) (vs:List V) (Q:VK) (E:XK),Room k (A.deeper (envOfC qual scope s.heap.objs.size f cdv))→sp vs H Q E →
      ∃ t,PSs (cxOf CX P w K mg base N qual scope f cdv A outer s H E) body t∧t {nx:=fun _ H'=>Q .non H',rt:=Q} (start N vs) H) :
    FnOk P w K mg base CX (k+1) f (PySem.W.fnOf name qual params body scope dV kV doc pm an cdv ct) ps sp:=by
  refine ⟨len,fun A outer s H args us vs Q E hr e0 hb r hsp=>?_⟩
  have hl:=len _ _ _ _ hsp
  have KX:K.In s.heap:=e0.mod.kin.keeps fun b o e=>(e0.bs b o e).1
  have lim:s.heap.NoLimit:=e0.mod.nolimit.keeps fun b o e=>(e0.bs b o e).1
  have hkind:∀ y∈ps.zip us,scope.names.lookup y.1=some .local∨(scope.names.lookup y.1=some .cell∧((cellsFrom (s.heap.objs.size+1) scope.names []).lookup y.1).isSome=true):=fun ⟨n,v⟩ hy=>by
    rcases S.par n (List.of_mem_zip hy).1 with q | q
    · exact .inl q
    · exact .inr ⟨q,PySem.W.cellsFrom_some _ _ _ (.inl q)⟩
  refine codeAny_call_function hr.depth (KX _ _ lk) rfl S.co S.gen rfl (PySem.W.codeRec_of KX hcd) (hb _ _ _ _ ?_)
  refine wpAny_newFunctionEnv_cells S.kind hkind fun env he s1 x=>?_
  subst he
  refine ⟨lim.keeps x.toInCall.keep,codeAny_func ?_⟩
  obtain ⟨t,ht,hq⟩:=hbody A outer s H vs Q E (hr.deeper _) hsp
  have I:Inv (cxOf CX P w K mg base N qual scope f cdv A outer s H E) [] (start N vs) H s1:=inv_start S hr.hd e0 hl r x
  refine wpAny_mono (ht [] s1 (start N vs) H _ I hq) (fun fl s' hs=>?_) fun e s' hs=>hs
  have fin:∀ {σ':St} {H':Hp} {v:V} {u:Value},Inv (cxOf CX P w K mg base N qual scope f cdv A outer s H E) [] σ' H' s'→ο4 v u→Q v H'→CE outer P w H s Q u s' :=
    fun {σ' H' v u} J rv q=>⟨v,H',J.os,J.bare,J.base,J.hok,rv,q⟩
  cases fl with
  | ret u =>
    obtain ⟨v,σ',H',J,rv,q⟩:=hs
    exact fin J rv q
  | next =>
    obtain ⟨σ',H',J,q⟩:=hs
    exact fin (v:=V.non) (u:=Value.none) J rfl q
  | brk =>
    obtain ⟨_,_,_,q⟩:=hs
    exact False.elim q
  | cont =>
    obtain ⟨_,_,_,q⟩:=hs
    exact False.elim q
end L2
namespace L2
open PySem PySem.Spec PyProof.Rows
section
variable {X:Cx} {x:Str} {p pos:Pos} {e:Expr} {es:List Expr} {t:TA} {id T:String} {r:List V→Hp→VK→Prop}
noncomputable def tCB (r:List V→Hp→VK→Prop) (t:TA):TE:=fun σ H Q=>t σ H fun vs H1=>r vs H1 Q
theorem ζ2 (hc:CallR X (.builtin id) r) (hg:Gl X x) (hm:X.mg x=none) (hv:bootBuiltins x=some (.builtin id)) (ha:PA X (e::es) t) (hn:x≠"__name__":=by decide) (hdb:(x == ("__debug__":Str))=false:=by decide)
    (he:starEach (e::es) X.env=(false,eval e X.env)::starEach es X.env:=by rfl) (hpl:(backTo pos (starEach es X.env)).any (·.1)=false:=by rfl):PE X (.Call (.Name x p) (e::es) [] pos) (tCB r t):=by
  intro pins s σ H Q I h
  refine wpAny_Call_Name_kw (Φk I hg hm hv ?_ hn hdb)
  exact PyProof.Rows.callWith_builtin1 (thn (ha pos pins s σ H _ I h) fun us s1 ⟨vs,H1,I1,r1,q1⟩=>hc pins s1 σ H1 vs us Q I1 r1 q1) he hpl
theorem pe_callTy (hc:CallR X (.type T) r) (hg:Gl X x) (hm:X.mg x=none) (hv:bootBuiltins x=some (.type T)) (ha:PA X (e::es) t) (hn:x≠"__name__":=by decide) (hdb:(x == ("__debug__":Str))=false:=by decide)
    (he:starEach (e::es) X.env=(false,eval e X.env)::starEach es X.env:=by rfl) (hpl:(backTo pos (starEach es X.env)).any (·.1)=false:=by rfl):PE X (.Call (.Name x p) (e::es) [] pos) (tCB r t):=by
  intro pins s σ H Q I h
  refine wpAny_Call_Name_kw (Φk I hg hm hv ?_ hn hdb)
  exact PyProof.Rows.callWith_type1 (thn (ha pos pins s σ H _ I h) fun us s1 ⟨vs,H1,I1,r1,q1⟩=>hc pins s1 σ H1 vs us Q I1 r1 q1) he hpl
end
end L2
namespace HT
open PySem PyProof.Rows
noncomputable def κf:List Int→List Int→Bool
  | [],[]=>false
  | [],_::_=>true
  | _::_,[]=>false
  | x::xs,y::ys=>if x=y then κf xs ys else decide (x < y)
theorem ψn (x y:Int) (xs ys:List Int):κf (x::xs) (y::ys)=if x=y then κf xs ys else decide (x < y):=rfl
theorem lexLt_nil_nil:κf [] []=false:=rfl
theorem eqAt_int (A:Around) (s:Shared) (a:Int) (t:Tok) (c:Int) (u:Tok):∃ e,SeqAt.EqAt A s (.int a t) (.int c u) e∧(e=true↔a=c) :=
  ⟨(a == c),SeqAt.EqAt.int_int a t c u,by simp⟩
theorem rcLt_int (A:Around) (s:Shared) (a:Int) (t:Tok) (c:Int) (u:Tok) (prog:Program) (w:World) (E:Value→Shared→Prop) (Q:Value→Shared→Prop) (h:Q (.bool (decide (a < c))) s) :
    wpAny (model prog w) A (richCompare .Lt (.int a t) (.int c u)) Q E s :=
  (PyProof.Rows.lt_int h:wpAny (model prog w) A (compareOp .Lt (.int a t) (.int c u)) Q E s)
section
open PySem.SeqAt
open PySem.AutoSeq1 (wpAny_loadPart')
open PySem.MeetsSeq PySem.MeetsSeq2 PySem.MeetsSeq3
end
section
variable {prog:Program} {w:World} {A:Around} {E:Value→Shared→Prop} {s:Shared}
noncomputable def sIx (n d:Nat):Option Int→Nat
  | none=>d
  | some v=>if v < 0 then (v+(n:Int)).toNat else min v.toNat n
theorem sIx_none (n d:Nat):sIx n d none=d:=rfl
theorem Φj (n d k:Nat):sIx n d (some (k:Int))=min k n:=by
  show (if (k:Int) < 0 then ((k:Int)+(n:Int)).toNat else min (k:Int).toNat n)=min k n
  rw [if_neg (by omega),Int.toNat_natCast]
end
end HT
namespace L2
open PySem PySem.Spec PyProof.Rows
noncomputable abbrev TO:=St→Hp→(Option Int→Hp→Prop)→Prop
noncomputable def PO (X:Cx) (e:Option Expr) (t:TO):Prop :=
  ∀ (pins:List (Addr×Obj)) (s:Shared) (σ:St) (H:Hp) (Q:Option Int→Hp→Prop),Inv X pins σ H s→t σ H Q →
    wpAny (model X.prog X.w) X.A (evalPart e X.env) (fun u s'=>∃ o H',Inv X pins σ H' s'∧IsPart u o∧Q o H') X.xe s
noncomputable def tNoPart:TO:=fun _ H Q=>Q none H
noncomputable def tPart (t:TE):TO:=fun σ H Q=>t σ H fun x H1=>∃ i,x=.int i∧Q (some i) H1
theorem Φg {ns:List Int}:∀ {us:List Value},τ2 (ns.map V.int) us→IntsAre us ns:=by
  induction ns with
  | nil=>intro us r; rw [List.map_nil] at r; cases r; exact .nil
  | cons n ns ih =>
    intro us r
    rw [List.map_cons] at r
    cases r with
    | cons r1 r2 =>
      obtain ⟨t,e⟩:=r1
      subst e
      exact .cons n t (ih r2)
section
variable {X:Cx} {e:Expr} {te:TE} {lo hi:Option Expr} {tl th:TO} {pos p2:Pos}
theorem po_none:PO X none tNoPart:=by
  intro pins s σ H Q I h
  rw [evalPart_none]
  exact wpAny_pure ⟨none,H,I,.none,h⟩
theorem ψ2 (h:PE X e te):PO X (some e) (tPart te):=by
  intro pins s σ H Q I hw
  rw [evalPart_some]
  refine thn (h pins s σ H _ I hw) fun u s1 ⟨x,H1,I1,r1,q1⟩=>?_
  obtain ⟨i,rfl,q⟩:=q1
  obtain ⟨t,rfl⟩:=r1
  exact ⟨some i,H1,I1,.int i t,q⟩
noncomputable def SlR (X:Cx) (r:V→Option Int→Option Int→Hp→VK→Prop):Prop :=
  ∀ (pins:List (Addr×Obj)) (s:Shared) (σ:St) (H:Hp) (x:V) (v vl vu:Value) (lo hi:Option Int) (sl:Addr) (Q:VK),Inv X pins σ H s→ο4 x v→s.heap.IsSliceOf sl vl vu .none→IsPart vl lo→IsPart vu hi→r x lo hi H Q →
    ∃ T id,typeLookup (.type T) "__getitem__"=pure (some (.builtin id))∧s.TypeIs v T∧wpAny (model X.prog X.w) X.A (getItem v (.ref sl)) (EP X pins σ Q) X.xe s
noncomputable def tSl (r:V→Option Int→Option Int→Hp→VK→Prop) (te:TE) (tl th:TO):TE:=fun σ H Q=>te σ H fun x H1=>tl σ H1 fun l H2=>th σ H2 fun u H3=>r x l u H3 Q
theorem ζ5 {r:V→Option Int→Option Int→Hp→VK→Prop} (hr:SlR X r) (he:PE X e te) (hl:PO X lo tl) (hu:PO X hi th):PE X (.Subscript e (.Slice lo hi none p2) pos) (tSl r te tl th):=by
  intro pins s σ H Q I h
  refine Subscript_ (thn (he pins s σ H _ I h) fun v s1 ⟨x,H1,I1,r1,q1⟩=>?_)
  refine wpAny_Slice (thn (hl pins s1 σ H1 _ I1 q1) fun vl s2 ⟨l,H2,I2,pl,q2⟩=>thn (hu pins s2 σ H2 _ I2 q2) fun vu s3 ⟨u,H3,I3,pu,q3⟩=>?_)
  rw [evalPart_none]
  refine wpAny_pure ?_
  have I4:Inv X pins σ H3 {s3 with heap:=s3.heap.push {cls:=.type "slice",data:=.fields #[vl,vu,.none]}}:=I3.kept (t':=s3.toks) fun b ob q=>Heap.get?_push_of_some _ q
  obtain ⟨T,id,hT,ht,hg⟩:=hr pins {s3 with heap:=s3.heap.push {cls:=.type "slice",data:=.fields #[vl,vu,.none]}} σ H3 x v vl vu l u s3.heap.objs.size Q I4 r1 (Heap.IsSliceOf.new ..) pl pu q3
  show wpAny (model X.prog X.w) X.A (subscriptTail e (.Slice lo hi none p2) v (.ref s3.heap.objs.size)) (EP X pins σ Q) X.xe {s3 with heap:=s3.heap.push {cls:=.type "slice",data:=.fields #[vl,vu,.none]}}
  exact tail_any (ops:=[.ref s3.heap.objs.size,v]) ht hT hg (by with_unfolding_all rfl)
noncomputable def cutV (xs:List V) (lo hi:Option Int):List V:=(xs.drop (HT.sIx xs.length 0 lo)).take (HT.sIx xs.length xs.length hi - HT.sIx xs.length 0 lo)
theorem cutV_length (xs:List V) (lo hi:Option Int):(cutV xs lo hi).length≤xs.length:=by
  unfold cutV
  rw [List.length_take,List.length_drop]
  omega
end
end L2
namespace L2
open PySem PySem.Spec PyProof.Rows
noncomputable def ixN (n:Nat) (i:Int):Option Nat:=if 0≤i then (if i < n then some i.toNat else none) else if -(n:Int)≤i then some (i+n).toNat else none
noncomputable def atI {α:Type} (xs:List α) (i:Int):Option α:=(ixN xs.length i).bind fun j=>xs[j]?
theorem ixN_seq {n:Nat} {i:Int} {j:Nat} (h:ixN n i=some j):seqIndex? i n=some j∧j < n ∧ -(n:Int)≤i∧i < n:=by
  unfold ixN at h
  by_cases h0:0≤i
  · rw [if_pos h0] at h
    by_cases h1:i < n
    · rw [if_pos h1] at h
      have e:i.toNat=j:=Option.some.inj h
      exact ⟨by rw [seqIndex_of h0 h1,e],by omega,by omega,h1⟩
    · rw [if_neg h1] at h; cases h
  · rw [if_neg h0] at h
    by_cases h1 : -(n:Int)≤i
    · rw [if_pos h1] at h
      have e:(i+n).toNat=j:=Option.some.inj h
      exact ⟨by rw [seqIndex_neg (by omega) h1,e],by omega,h1,by omega⟩
    · rw [if_neg h1] at h; cases h
theorem atI_get {α:Type} {xs:List α} {i:Int} {v:α} (h:atI xs i=some v):∃ j,seqIndex? i xs.length=some j∧xs[j]?=some v∧j < xs.length ∧ -(xs.length:Int)≤i∧i < xs.length:=by
  unfold atI at h
  cases e:ixN xs.length i with
  | none=>rw [e] at h; cases h
  | some j =>
    rw [e] at h
    obtain ⟨h1,h2,h3,h4⟩:=ixN_seq e
    exact ⟨j,h1,h,h2,h3,h4⟩
theorem atI_nat {α:Type} {xs:List α} {j:Nat} {v:α} (h:xs[j]?=some v):atI xs (j:Int)=some v:=by
  have hj:j < xs.length:=(List.getElem?_eq_some_iff.mp h).1
  have e:ixN xs.length (j:Int)=some j:=by
    unfold ixN
    rw [if_pos (by omega),if_pos (by omega)]; simp
  unfold atI; rw [e]; exact h
noncomputable def PlainIx (b:Expr):Prop:=∀ o i,subscripted b false o i=operate [o,i] (getItem o i)
noncomputable def IxR (X:Cx) (r:R2):Prop :=
  ∀ (value slice:Expr) (pins:List (Addr×Obj)) (s:Shared) (σ:St) (H:Hp) (x y:V) (v u:Value) (Q:VK),Inv X pins σ H s→ο4 x v→ο4 y u→r x y H Q →
    subscripted slice false v u=operate [v,u] (getItem v u)→wpAny (model X.prog X.w) X.A (subscriptTail value slice v u) (EP X pins σ Q) X.xe s
noncomputable def MtR (X:Cx) (id:String) (r:V→List V→Hp→VK→Prop):Prop :=
  ∀ (pins:List (Addr×Obj)) (s:Shared) (σ:St) (H:Hp) (x:V) (xs:List V) (v:Value) (us:List Value) (Q:VK),Inv X pins σ H s→ο4 x v→τ2 xs us→r x xs H Q →
    wpAny (model X.prog X.w) X.A (call (.builtin id) (v::us)) (EP X pins σ Q) X.xe s
section
variable {X:Cx} {a b:Expr} {ta tb:TE} {pos:Pos}
theorem ο0 {r:R2} (hr:IxR X r) (ha:PE X a ta) (hb:PE X b tb) (hs:PlainIx b):PE X (.Subscript a b pos) (tOp r ta tb):=by
  intro pins s σ H Q I h
  exact Subscript_ (binT ha hb I h fun v u s2 x y H2 I2 rx ry q=>hr a b pins s2 σ H2 x y v u Q I2 rx ry q (hs _ _))
noncomputable def rIxL (K:PySem.W.Frag):R2:=fun x y H Q=>∃ p xs i v,x=.ref p∧y=.int i∧SqL K H p xs∧atI xs i=some v∧Q v H
noncomputable def rIxT (K:PySem.W.Frag):R2:=fun x y H Q=>∃ p xs i v,x=.ref p∧y=.int i∧SqT K H p xs∧atI xs i=some v∧Q v H
theorem Φ:IxR X (rIxL X.K):=by
  intro value slice pins s σ H x y v u Q I rx ry h hs
  obtain ⟨p,xs,i,z,rfl,rfl,hq,he,q⟩:=h
  cases rx
  obtain ⟨t,rfl⟩:=ry
  obtain ⟨its,r,pl,hz⟩:=I.list hq
  obtain ⟨j,h1,h2,h3,h4,h5⟩:=atI_get he
  obtain ⟨w,ew,rw'⟩:=r.get h2
  have hl:=r.length
  have hn:=line63
  have fin:EP X pins σ Q w s:=⟨z,H,I,rw',q⟩
  by_cases h0:0≤i
  · have hj:i.toNat=j:=by
      rw [seqIndex_of h0 h5] at h1
      exact Option.some.inj h1
    exact item_listR pl.isList h0 (by omega) (by rw [hj]; simpa using ew) fin hs
  · have hj:(i+(its.toArray.size:Int)).toNat=j:=by
      rw [seqIndex_neg (by omega) h4] at h1
      rw [List.size_toArray,← hl]
      exact Option.some.inj h1
    exact subscriptTail_builtinR (x:=w) pl.isList.typeIs slot_list_getitem.lookup
      (wpAny_getItem_list_neg (Q:=fun r s'=>r=w∧EP X pins σ Q r s') pl.isList (by omega) (by rw [List.size_toArray] <;> omega) (by omega) (by rw [hj]; simpa using ew) ⟨rfl,fin⟩) hs
theorem ix_tup:IxR X (rIxT X.K):=by
  intro value slice pins s σ H x y v u Q I rx ry h hs
  obtain ⟨p,xs,i,z,rfl,rfl,hq,he,q⟩:=h
  cases rx
  obtain ⟨t,rfl⟩:=ry
  obtain ⟨its,r,pl,hz⟩:=I.tuple hq
  obtain ⟨j,h1,h2,h3,h4,h5⟩:=atI_get he
  obtain ⟨w,ew,rw'⟩:=r.get h2
  have hl:=r.length
  have hn:=line63
  have fin:EP X pins σ Q w s:=⟨z,H,I,rw',q⟩
  exact subscriptTail_builtinR (x:=w) pl.typeIs slot_tuple_getitem.lookup
    (getItem_tuple (j:=j) (Q:=fun r s'=>r=w∧EP X pins σ Q r s') pl (by omega) (by omega) (by rw [List.size_toArray,← hl]; exact h1) (by simpa using ew) ⟨rfl,fin⟩) hs
theorem mapSeq_set (its:List Value) (n j:Nat) (u:Value):Obj.mapSeq (·.setIfInBounds j u) {cls:=.type "list",data:=.seq its.toArray n}={cls:=.type "list",data:=.seq (its.set j u).toArray n}:=by
  simp [Obj.mapSeq]
theorem Inv.lst {pins:List (Addr×Obj)} {σ:St} {H:Hp} {s:Shared} {p:Addr} {xs:List V} (I:Inv X pins σ H s) (h:H p=some (.lst xs)) :
    ∃ (its:List Value) (n:Nat),τ2 xs its∧s.heap.get? p=some {cls:=.type "list",data:=.seq its.toArray n}∧xs.length≤sizeLine:=by
  obtain ⟨z,its,n,r,e⟩:=I.hok p _ h
  exact ⟨its,n,r,e,z⟩
theorem Inv.lstUpd {pins:List (Addr×Obj)} {σ:St} {H:Hp} {s:Shared} {p:Addr} {xs ys:List V} {its its':List Value} {n n':Nat} {f:Obj→Obj} (I:Inv X pins σ H s) (h:H p=some (.lst xs))
    (ho:s.heap.get? p=some {cls:=.type "list",data:=.seq its.toArray n}) (hf:f {cls:=.type "list",data:=.seq its.toArray n}={cls:=.type "list",data:=.seq its'.toArray n'}) (r:τ2 ys its') (hz:ys.length≤sizeLine) (t:Nat) :
    Inv X pins σ (upd H p (.lst ys)) {s with heap:=s.heap.update p f,toks:=t}:=by
  have e:(s.heap.update p f).get? p=some {cls:=.type "list",data:=.seq its'.toArray n'}:=by
    rw [Heap.get?_update_self f ho (by rw [hf] <;> rfl),hf]
  refine I.write (x:=p) (e:=p) (by rw [h]; trivial) (.inl rfl) (fun b u hb q=>(Heap.get?_update_other _ _ (Ne.symm hb)).trans q) ⟨_,e⟩ ?_
  exact ⟨hz,its',n',r,e⟩
noncomputable def rSetL:V→V→V→Hp→(Hp→Prop)→Prop:=fun o i v H Q=>∃ p xs k j,o=.ref p∧i=.int k∧H p=some (.lst xs)∧ixN xs.length k=some j∧Q (upd H p (.lst (xs.set j v)))
theorem κ0:PSet X rSetL:=by
  intro pins s σ H o i v ov iv u Q I ro ri rv h
  obtain ⟨p,xs,k,j,rfl,rfl,hp,hj,q⟩:=h
  cases ro
  obtain ⟨t,rfl⟩:=ri
  obtain ⟨its,n,r,ho,hz⟩:=I.lst hp
  obtain ⟨h1,h2,h3,h4⟩:=ixN_seq hj
  have hl:=r.length
  have hn:=line63
  have I':Inv X pins σ (upd H p (.lst (xs.set j v))) {s with heap:=s.heap.update p (Obj.mapSeq (·.setIfInBounds j u))} :=
    I.lstUpd hp ho (mapSeq_set its n j u) (r.set rv j) (by rw [List.length_set]; exact hz) s.toks
  by_cases h0:0≤k
  · have hk:k.toNat=j:=by
      rw [seqIndex_of h0 h4] at h1
      exact Option.some.inj h1
    exact PySem.W.ki_setAt ho h0 (by omega) (by rw [List.size_toArray,← hl]; exact h4) (by rw [hk]; exact ⟨_,I',q⟩)
  · have hk:(k+(its.toArray.size:Int)).toNat=j:=by
      rw [seqIndex_neg (by omega) h3] at h1
      rw [List.size_toArray,← hl]
      exact Option.some.inj h1
    exact PySem.W.ki_setBack ho (by omega) (by rw [List.size_toArray,← hl]; exact h3) (by omega) (by rw [hk]; exact ⟨_,I',q⟩)
theorem slice_bounds (lo hi:Option Int) (n:Nat):(sliceBounds lo hi none n).1=((HT.sIx n 0 lo:Nat):Int)∧(sliceBounds lo hi none n).2.1=((HT.sIx n n hi:Nat):Int)∧(sliceBounds lo hi none n).2.2=1:=by
  refine ⟨?_,?_,rfl⟩
  · cases lo with
    | none=>simp [sliceBounds,HT.sIx]
    | some i =>
      simp only [sliceBounds,HT.sIx,Option.getD_none,show (1:Int) > 0 by decide,if_true]
      by_cases h:i < 0
      · simp only [h,if_true] <;> omega
      · simp only [h,if_false] <;> omega
  · cases hi with
    | none=>simp [sliceBounds,HT.sIx]
    | some i =>
      simp only [sliceBounds,HT.sIx,Option.getD_none,show (1:Int) > 0 by decide,if_true]
      by_cases h:i < 0
      · simp only [h,if_true] <;> omega
      · simp only [h,if_false] <;> omega
theorem slicePick_cut (its:List Value) (lo hi:Option Int):slicePick its.toArray lo hi none=((its.drop (HT.sIx its.length 0 lo)).take (HT.sIx its.length its.length hi - HT.sIx its.length 0 lo)).toArray:=by
  obtain ⟨h1,h2,h3⟩:=slice_bounds lo hi its.toArray.size
  unfold slicePick
  rw [h1,h2,h3]
  simp only [sliceRange_one,pick_run,List.size_toArray] <;> rfl
noncomputable def rSlL (K:PySem.W.Frag):V→Option Int→Option Int→Hp→VK→Prop:=fun x lo hi H Q=>∃ a xs,x=.ref a∧SqL K H a xs∧∀ p,H p=none→Q (.ref p) (upd H p (.lst (cutV xs lo hi)))
theorem θ8:SlR X (rSlL X.K):=by
  intro pins s σ H x v vl vu lo hi sl Q I rx hs pl pu h
  obtain ⟨a,xs,rfl,hx,q⟩:=h
  cases rx
  obtain ⟨its,r,ht,hz⟩:=I.list hx
  have hlen:=r.length
  refine ⟨"list",_,slot_list_getitem.lookup,ht.isList.typeIs,?_⟩
  refine wpAny_getItem_list_slice ht.isList hs pl pu .none (by simp) ?_ (by rw [List.size_toArray] <;> omega)
  rw [slicePick_cut,← hlen]
  refine ⟨.ref s.heap.objs.size,_,I.laid (t':=s.toks) (o:=.lst (cutV xs lo hi)) (fun b ob q=>Heap.get?_push_of_some _ q) (Nat.le_refl _) ?_,rfl,q _ (I.hok.fresh (Nat.le_refl _))⟩
  exact ⟨Nat.le_trans (cutV_length xs lo hi) hz,_,0,(r.drop (HT.sIx xs.length 0 lo)).take (HT.sIx xs.length xs.length hi - HT.sIx xs.length 0 lo),Heap.get?_push_size _ rfl⟩
noncomputable def flatV:V→Bool
  | .non=>true
  | .bl _=>true
  | .int _=>true
  | .str _=>true
  | _=>false
noncomputable def eqV:V→V→Bool
  | .non,.non=>true
  | .bl a,.bl b=>a == b
  | .bl a,.int b=>(if a then 1 else 0) == b
  | .int a,.bl b=>a == (if b then 1 else 0)
  | .int a,.int b=>a == b
  | .str a,.str b=>a == b
  | _,_=>false
theorem eqAt_V {A:Around} {s:Shared} {y x:V} {u v:Value} (ry:ο4 y u) (rx:ο4 x v) (fy:flatV y=true) (fx:flatV x=true):SeqAt.EqAt A s u v (eqV y x):=by
  cases y with
  | non =>
    cases ry
    cases x with
    | non=>cases rx; exact SeqAt.EqAt.same _
    | bl b=>cases rx; exact SeqAt.EqAt.none_bool b
    | int b=>obtain ⟨t,rfl⟩:=rx; exact SeqAt.EqAt.none_int b t
    | str b=>obtain ⟨t,rfl⟩:=rx; exact SeqAt.EqAt.none_str b t
    | _=>exact absurd (show false=true from fx) Bool.false_ne_true
  | bl a =>
    cases ry
    cases x with
    | non=>cases rx; exact SeqAt.EqAt.bool_none a
    | bl b=>cases rx; exact SeqAt.EqAt.bool_bool a b
    | int b=>obtain ⟨t,rfl⟩:=rx; exact SeqAt.EqAt.bool_int a b t
    | str b=>obtain ⟨t,rfl⟩:=rx; exact SeqAt.EqAt.bool_str a b t
    | _=>exact absurd (show false=true from fx) Bool.false_ne_true
  | int a =>
    obtain ⟨t',rfl⟩:=ry
    cases x with
    | non=>cases rx; exact SeqAt.EqAt.int_none a t'
    | bl b=>cases rx; exact SeqAt.EqAt.int_bool a t' b
    | int b=>obtain ⟨t,rfl⟩:=rx; exact SeqAt.EqAt.int_int a t' b t
    | str b=>obtain ⟨t,rfl⟩:=rx; exact SeqAt.EqAt.int_str a t' b t
    | _=>exact absurd (show false=true from fx) Bool.false_ne_true
  | str a =>
    obtain ⟨t',rfl⟩:=ry
    cases x with
    | non=>cases rx; exact SeqAt.EqAt.str_none a t'
    | bl b=>cases rx; exact SeqAt.EqAt.str_bool a t' b
    | int b=>obtain ⟨t,rfl⟩:=rx; exact SeqAt.EqAt.str_int a t' b t
    | str b=>obtain ⟨t,rfl⟩:=rx; exact SeqAt.EqAt.str_str a t' b t
    | _=>exact absurd (show false=true from fx) Bool.false_ne_true
  | _=>exact absurd (show false=true from fy) Bool.false_ne_true
noncomputable def eqU (x:V) (u:Value):Bool:=match u with
  | .none=>eqV .non x
  | .bool b=>eqV (.bl b) x
  | .int i _=>eqV (.int i) x
  | .str z _=>eqV (.str z) x
  | _=>false
theorem eqU_of {x y:V} {u:Value} (r:ο4 y u) (f:flatV y=true):eqU x u=eqV y x:=by
  cases y with
  | non=>cases r; rfl
  | bl b=>cases r; rfl
  | int i=>obtain ⟨t,rfl⟩:=r; rfl
  | str z=>obtain ⟨t,rfl⟩:=r; rfl
  | _=>exact absurd (show false=true from f) Bool.false_ne_true
theorem ιm {x:V}:∀ {xs:List V} {us:List Value},τ2 xs us→xs.all flatV=true→us.any (eqU x)=xs.any fun y=>eqV y x
  | _,_,.nil,_=>rfl
  | y::xs,u::us,.cons r t,f=>by
    rw [List.all_cons,Bool.and_eq_true] at f
    rw [List.any_cons,List.any_cons,eqU_of r f.1,ιm t f.2]
theorem ιf {A:Around} {s:Shared} {x:V} {v:Value} (rx:ο4 x v) (fx:flatV x=true):∀ {xs:List V} {us:List Value},τ2 xs us→xs.all flatV=true→∀ u∈us,SeqAt.EqAt A s u v (eqU x u)
  | _,_,.nil,_=>fun u hu=>by cases hu
  | y::xs,u::us,.cons r t,f=>fun u' hu=>by
    rw [List.all_cons,Bool.and_eq_true] at f
    rcases List.mem_cons.mp hu with rfl | hu
    · rw [eqU_of r f.1]; exact eqAt_V r rx f.1 fx
    · exact ιf rx fx t f.2 u' hu
noncomputable def inV (x:V) (xs:List V):Bool:=xs.any fun y=>eqV y x
noncomputable def rIn (K:PySem.W.Frag) (neg:Bool):R2:=fun x y H Q=>∃ p xs,y=.ref p∧(SqL K H p xs∨SqT K H p xs)∧flatV x=true∧xs.all flatV=true∧Q (.bl (if neg then !inV x xs else inV x xs)) H
theorem op_in_seq:OpR X (compareOp .In) (rIn X.K false):=by
  intro pins s σ H x y v u Q I rx ry h
  obtain ⟨p,xs,rfl,hq,fx,fs,q⟩:=h
  cases ry
  rcases hq with hq | hq
  · obtain ⟨its,r,pl,hz⟩:=I.list hq
    refine SeqAt.in_listAt (eqU x) pl.isList (fun w hw=>ιf rx fx r fs w (by simpa using hw)) ⟨.bl _,H,I,rfl,?_⟩
    rw [show its.toArray.any (eqU x)=its.any (eqU x) by simp,ιm r fs]
    exact q
  · obtain ⟨its,r,pl,hz⟩:=I.tuple hq
    refine SeqAt.in_tupleAt (eqU x) pl (fun w hw=>ιf rx fx r fs w (by simpa using hw)) ⟨.bl _,H,I,rfl,?_⟩
    rw [show its.toArray.any (eqU x)=its.any (eqU x) by simp,ιm r fs]
    exact q
theorem op_notIn_seq:OpR X (compareOp .NotIn) (rIn X.K true):=by
  intro pins s σ H x y v u Q I rx ry h
  obtain ⟨p,xs,rfl,hq,fx,fs,q⟩:=h
  cases ry
  rcases hq with hq | hq
  · obtain ⟨its,r,pl,hz⟩:=I.list hq
    refine SeqAt.notIn_listAt (eqU x) pl.isList (fun w hw=>ιf rx fx r fs w (by simpa using hw)) ⟨.bl _,H,I,rfl,?_⟩
    rw [show its.toArray.any (eqU x)=its.any (eqU x) by simp,ιm r fs]
    exact q
  · obtain ⟨its,r,pl,hz⟩:=I.tuple hq
    refine SeqAt.notIn_tupleAt (eqU x) pl (fun w hw=>ιf rx fx r fs w (by simpa using hw)) ⟨.bl _,H,I,rfl,?_⟩
    rw [show its.toArray.any (eqU x)=its.any (eqU x) by simp,ιm r fs]
    exact q
theorem Γ1:CallR X (.builtin "len") (fun xs H Q=>∃ p ys,xs=[.ref p]∧(SqL X.K H p ys∨SqT X.K H p ys)∧Q (.int ys.length) H):=by
  intro pins s σ H xs us Q I r h
  obtain ⟨p,ys,rfl,hq,q⟩:=h
  obtain ⟨u,rfl,rx⟩:=vals1 r
  cases rx
  have hn:=line63
  rcases hq with hq | hq
  · obtain ⟨its,r',pl,hz⟩:=I.list hq
    have hlen:=r'.length
    exact Calls.call_len_list pl.isList (by simp only [List.size_toArray] <;> omega) ⟨.int ys.length,H,I.tok _,⟨s.toks+1,by rw [List.size_toArray,hlen]⟩,q⟩
  · obtain ⟨its,r',pl,hz⟩:=I.tuple hq
    have hlen:=r'.length
    exact len_tuple pl (by simp only [List.size_toArray] <;> omega) ⟨.int ys.length,H,I.tok _,⟨s.toks+1,by rw [List.size_toArray,hlen]⟩,q⟩
theorem call_list_of:CallR X (.type "list") (fun xs H Q=>∃ p ys,xs=[.ref p]∧(SqL X.K H p ys∨SqT X.K H p ys)∧∀ l,H l=none→Q (.ref l) (upd H l (.lst ys))):=by
  intro pins s σ H xs us Q I r h
  obtain ⟨p,ys,rfl,hq,q⟩:=h
  obtain ⟨u,rfl,rx⟩:=vals1 r
  cases rx
  have fin:∀ (its:List Value),τ2 ys its→ys.length≤sizeLine→∀ (h':Heap) (c':Nat),(∀ b o',s.heap.get? b=some o'→h'.get? b=some o') →
      h'.get? s.heap.objs.size=some {cls:=.type "list",dict:=none,data:=.seq its.toArray c',slots:=#[]}→EP X pins σ Q (.ref s.heap.objs.size) {s with heap:=h'}:=fun its r' hz h' c' kp e =>
    ⟨.ref s.heap.objs.size,_,I.laid (t':=s.toks) kp (Nat.le_refl _) (show τ6 X.prog X.w _ h' _ (.lst ys) from ⟨hz,its,c',r',e⟩),rfl,q _ (I.hok.fresh (Nat.le_refl _))⟩
  rcases hq with hq | hq
  · obtain ⟨its,r',pl,hz⟩:=I.list hq
    have hlen:=r'.length
    obtain ⟨o,ho,hc,n,hd⟩:=pl.isList
    exact call_list_seq p (.inl rfl) ho hc hd (fun h' c' kp e=>fin its r' hz h' c' kp e) (by simp only [List.size_toArray] <;> omega)
  · obtain ⟨its,r',pl,hz⟩:=I.tuple hq
    have hlen:=r'.length
    obtain ⟨o,ho,hc,n,hd⟩:=pl
    exact call_list_seq p (.inr rfl) ho hc hd (fun h' c' kp e=>fin its r' hz h' c' kp e) (by simp only [List.size_toArray] <;> omega)
noncomputable def tyV (K:PySem.W.Frag) (T:String) (x:V) (H:Hp):Prop:=match x with
  | .str _=>T="str"
  | .int _=>T="int"
  | .ref p=>(T="list"∧∃ xs,SqL K H p xs)∨(T="tuple"∧∃ o,K.lookup p=some o∧o.cls=.type "tuple"∧o.dict=none) ∨
      (T="dict"∧((∃ kvs,H p=some (.dK kvs))∨∃ kvs,H p=some (.dT kvs)))∨(T="set"∧∃ S n,H p=some (.set S n))
  | _=>False
theorem tyV_is {pins:List (Addr×Obj)} {σ:St} {H:Hp} {s:Shared} {T:String} {x:V} {v:Value} (I:Inv X pins σ H s) (r:ο4 x v) (ty:tyV X.K T x H) :
    s.TypeIs v T∧∀ a,v=.ref a→∃ ob,s.heap.get? a=some ob∧ob.dict=none:=by
  cases x with
  | str z =>
    obtain ⟨t,rfl⟩:=r
    cases (show T="str" from ty)
    exact ⟨typeIs_str s z t,fun _ e=>nomatch e⟩
  | int i =>
    obtain ⟨t,rfl⟩:=r
    cases (show T="int" from ty)
    exact ⟨typeIs_int s i t,fun _ e=>nomatch e⟩
  | ref p =>
    cases r
    rcases ty with ⟨rfl,xs,hq⟩ | ⟨rfl,o,hk,hc,hd⟩ | ⟨rfl,hk⟩ | ⟨rfl,S,n,hk⟩
    · obtain ⟨its,_,pl,_⟩:=I.list hq
      refine ⟨pl.isList.typeIs,fun a e=>?_⟩
      cases e
      obtain ⟨o,n,e,c,hd,_⟩:=pl
      exact ⟨o,e,hd⟩
    · refine ⟨⟨o,I.kIn p o hk,hc⟩,fun a e=>?_⟩
      cases e
      exact ⟨o,I.kIn _ o hk,hd⟩
    · have z:∃ o,s.heap.get? p=some o∧o.ExactDict:=by
        rcases hk with ⟨kvs,hk⟩ | ⟨kvs,hk⟩
        · obtain ⟨_,_,_,_,o,_,_,e,ex,_⟩:=I.hok p _ hk
          exact ⟨o,e,ex⟩
        · obtain ⟨_,_,_,_,o,_,_,e,ex,_⟩:=I.hok p _ hk
          exact ⟨o,e,ex⟩
      obtain ⟨o,e,ex⟩:=z
      refine ⟨⟨o,e,ex.1⟩,fun a e2=>?_⟩
      cases e2
      exact ⟨o,e,ex.2.1⟩
    · obtain ⟨o,_,_,_,e,ex,_⟩:=I.hok p _ hk
      refine ⟨⟨o,e,ex.1⟩,fun a e2=>?_⟩
      cases e2
      exact ⟨o,e,ex.2.1⟩
  | _=>exact False.elim ty
noncomputable def tBM (K:PySem.W.Frag) (T:String) (r:V→List V→Hp→VK→Prop) (to:TE) (t:TA):TE:=fun σ H Q=>to σ H fun x H1=>tyV K T x H1∧t σ H1 fun xs H2=>r x xs H2 Q
variable {o e:Expr} {es:List Expr} {to:TE} {t:TA} {name:Str} {apos cpos:Pos} {T id:String} {r:V→List V→Hp→VK→Prop}
theorem pe_bm (pa:PlainAttrs T) (slot:Slot T name id) (hty:typeOf (.builtin id)=pure (.type "method_descriptor")) (hm:MtR X id r) (ho:PE X o to) (ha:PA X (e::es) t)
    (hbase:attributeBase o name X.env (eval o X.env)=eval o X.env:=by rfl)
    (hfew:((backTo cpos (starEach (e::es) X.env)).all (fun x => !x.1) && (backToKw cpos (keywordEach [] X.env)).all (fun x=>x.1.isSome)
      && decide ((e::es).length+([]:List Keyword).length+(if ([]:List Keyword).isEmpty then 0 else 1) < 30))=true:=by rfl)
    (hline:(apos.endLine == cpos.line)=true:=by rfl) (hs:starEach (e::es) X.env=(false,eval e X.env)::starEach es X.env:=by rfl) (hplain:(backTo cpos (starEach es X.env)).any (·.1)=false:=by rfl) :
    PE X (.Call (.Attribute o name apos) (e::es) [] cpos) (tBM X.K T r to t):=by
  intro pins s σ H Q I h
  refine wpAny_Call_method_late hbase hfew hline rfl (thn (ho pins s σ H _ I h) fun v s1 ⟨x,H1,I1,r1,ty,q1⟩=>?_)
  obtain ⟨h1,h2⟩:=tyV_is I1 r1 ty
  refine ⟨T,id,pa,slot,hty,h1,h2,?_⟩
  have hA:=ha cpos pins s1 σ H1 _ I1 q1
  rw [hs] at hA ⊢
  refine Calls.callWith_builtin (by show (false || (backTo cpos (starEach es X.env)).any (·.1))=false; rw [hplain] <;> rfl) (Calls.evalArgs_plain ?_)
  exact thn hA fun us s2 ⟨vs,H2,I2,r2,q2⟩=>hm pins s2 σ H2 x vs v us Q I2 r1 r2 q2
end
end L2
namespace L2
open PySem PySem.Spec PyProof.Rows
noncomputable def MtM (X:Cx) (id:String) (r:V→List V→Hp→VK→Prop):Prop :=
  ∀ (pins:List (Addr×Obj)) (s:Shared) (σ:St) (H:Hp) (x:V) (xs:List V) (v:Value) (us:List Value) (Q:VK),Inv X pins σ H s→ο4 x v→τ2 xs us→r x xs H Q →
    wpAny (model X.prog X.w) X.A (call (.builtin id) (v::us)) (EP X pins σ Q) X.xe s
theorem τ2.one:∀ {x:V} {us:List Value},τ2 [x] us→∃ u,us=[u]∧ο4 x u
  | _,_,.cons r .nil=>⟨_,rfl,r⟩
theorem τ2.rep {xs:List V} {us:List Value} (h:τ2 xs us):∀ k:Nat,τ2 (List.replicate k xs).flatten (List.replicate k us).flatten
  | 0=>.nil
  | k+1=>by
    rw [List.replicate_succ,List.replicate_succ,List.flatten_cons,List.flatten_cons]
    exact τ2.append h (τ2.rep h k)
theorem foldl_rep (its:List Value):∀ (k:Nat) (acc:List Value),
    List.foldl (fun x1 x2=>x1++x2) acc.toArray (List.replicate k its.toArray)=(acc++(List.replicate k its).flatten).toArray
  | 0,acc=>by simp
  | k+1,acc=>by
    have e:acc.toArray++its.toArray=(acc++its).toArray:=by simp
    have e2:(acc++its)++(List.replicate k its).flatten=acc++(List.replicate (k+1) its).flatten:=by
      rw [List.replicate_succ,List.flatten_cons,List.append_assoc]
    rw [← e2,← foldl_rep its k (acc++its),← e,List.replicate_succ,List.foldl_cons]
section
variable {X:Cx} {pins:List (Addr×Obj)} {σ:St} {H:Hp} {s:Shared} {l b:Addr} {xs ys zs:List V}
theorem Inv.lset {its its':List Value} {n:Nat} {f:Array Value→Array Value} {t':Nat} (I:Inv X pins σ H s) (hH:H l=some (.lst xs))
    (e:s.heap.get? l=some {cls:=.type "list",data:=.seq its.toArray n}) (hf:f its.toArray=its'.toArray) (hv:τ2 ys its') (hz:ys.length≤sizeLine) :
    Inv X pins σ (upd H l (.lst ys)) {s with heap:=s.heap.update l (Obj.mapSeq f),toks:=t'}:=by
  have q:=PySem.IsL.update e f
  rw [hf] at q
  refine I.write (x:=l) (e:=l) (by rw [hH]; exact trivial) (.inl rfl) (fun b' u hb hu=>(Heap.get?_update_other s.heap (Obj.mapSeq f) (Ne.symm hb)).trans hu) ⟨_,q⟩ ?_
  exact ⟨hz,its',_,hv,q⟩
theorem Inv.lnew {its:List Value} {t':Nat} (I:Inv X pins σ H s) (hv:τ2 ys its) (hz:ys.length≤sizeLine) :
    Inv X pins σ (upd H s.heap.objs.size (.lst ys)) {s with heap:=s.heap.push {cls:=.type "list",data:=.seq its.toArray},toks:=t'} :=
  I.laid (fun _ _ q=>Heap.get?_push_of_some _ q) (Nat.le_refl _) ⟨hz,its,0,hv,Heap.get?_push_size _ rfl⟩
theorem Inv.fresh (I:Inv X pins σ H s):H s.heap.objs.size=none:=I.hok.fresh (Nat.le_refl _)
theorem Inv.lstM (I:Inv X pins σ H s) (hH:H l=some (.lst xs)):xs.length≤sizeLine∧∃ (its:List Value) (n:Nat),τ2 xs its∧xs.length=its.length∧s.heap.get? l=some {cls:=.type "list",data:=.seq its.toArray n}:=by
  obtain ⟨z,its,n,r,e⟩:=I.hok l _ hH
  exact ⟨z,its,n,r,r.length,e⟩
theorem notLongL {n:Nat} (h:n≤sizeLine):Builtin.List.listTooLong n=false:=by
  unfold Builtin.List.listTooLong
  exact decide_eq_false (by omega)
end
section
variable {X:Cx}
noncomputable def rAppend:V→List V→Hp→VK→Prop:=fun x vs H Q=>∃ l xs y,x=.ref l∧vs=[y]∧H l=some (.lst xs)∧xs.length < sizeLine∧Q .non (upd H l (.lst (xs++[y])))
theorem υ7:MtM X "list.append" rAppend:=by
  intro pins s σ H x vs v us Q I rx rv h
  obtain ⟨l,xs,y,rfl,rfl,hH,hz,q⟩:=h
  cases rx
  obtain ⟨u,rfl,ru⟩:=rv.one
  obtain ⟨z,its,n,r,hl,e⟩:=I.lstM hH
  refine call_meets F.slot_list_append ⟨_,e,rfl⟩ F.entry_list_append (F.args_list_append_2 _ _) (PySem.list_append l its.toArray n u (by rw [List.size_toArray]; omega)) ⟨e,?_⟩
  refine ⟨.non,_,I.lset (its':=its++[u]) hH e (by simp) (r.append (.cons ru .nil)) ?_,rfl,q⟩
  rw [List.length_append,List.length_singleton]
  omega
noncomputable def rExtend:V→List V→Hp→VK→Prop:=fun x vs H Q=>∃ l b xs zs,x=.ref l∧vs=[.ref b]∧H l=some (.lst xs)∧H b=some (.lst zs)∧xs.length+zs.length≤sizeLine∧Q .non (upd H l (.lst (xs++zs)))
theorem mt_extend:MtM X "list.extend" rExtend:=by
  intro pins s σ H x vs v us Q I rx rv h
  obtain ⟨l,b,xs,zs,rfl,rfl,hH,hB,hz,q⟩:=h
  cases rx
  obtain ⟨u,rfl,ru⟩:=rv.one
  cases ru
  obtain ⟨z,its,n,r,hl,e⟩:=I.lstM hH
  obtain ⟨z2,its2,n2,r2,hl2,e2⟩:=I.lstM hB
  have hsz:its.toArray.size+its2.toArray.size≤sizeLine:=by rw [List.size_toArray,List.size_toArray]; omega
  have hlong:¬ (!its.toArray.isEmpty && Builtin.List.listTooLong (its.toArray.size+its2.toArray.size))=true:=by
    rw [notLongL hsz,Bool.and_false]
    exact Bool.false_ne_true
  refine call_meets F.slot_list_extend ⟨_,e,rfl⟩ F.entry_list_extend (F.args_list_extend_2 _ _)
    (AutoSeq1.list_extend_list_list_0 l its.toArray n b its2.toArray n2 hlong (by rw [List.size_toArray]; omega) (by omega)) ⟨e,e2,?_⟩
  refine ⟨.non,_,I.lset (its':=its++its2) hH e (by simp) (r.append r2) ?_,rfl,q⟩
  rw [List.length_append]
  omega
noncomputable def rCat:R2:=fun x y H Q=>∃ l b xs zs,x=.ref l∧y=.ref b∧H l=some (.lst xs)∧H b=some (.lst zs)∧xs.length+zs.length≤sizeLine∧∀ p,H p=none→Q (.ref p) (upd H p (.lst (xs++zs)))
theorem νk:OpR X (binaryOp .Add) rCat:=by
  intro pins s σ H x y v u Q I rx ry h
  obtain ⟨l,b,xs,zs,rfl,rfl,hH,hB,hz,q⟩:=h
  cases rx
  cases ry
  obtain ⟨z,its,n,r,hl,e⟩:=I.lstM hH
  obtain ⟨z2,its2,n2,r2,hl2,e2⟩:=I.lstM hB
  refine PySem.P.add_list e e2 ?_ (by rw [List.size_toArray,List.size_toArray]; omega)
  have ea:its.toArray++its2.toArray=(its++its2).toArray:=by simp
  rw [ea]
  exact ⟨.ref _,_,I.lnew (t':=s.toks) (r.append r2) (by rw [List.length_append]; omega),rfl,q _ I.fresh⟩
noncomputable def rRep:R2:=fun x y H Q=>∃ l k xs,x=.ref l∧y=.int k∧H l=some (.lst xs) ∧ -(2^63)≤k∧k < 2^63∧xs.length*k.toNat≤sizeLine ∧
  ∀ p,H p=none→Q (.ref p) (upd H p (.lst (List.replicate k.toNat xs).flatten))
theorem len_rep {α:Type} (xs:List α) (k:Nat):(List.replicate k xs).flatten.length=k*xs.length:=by
  induction k with
  | zero=>simp
  | succ k ih=>rw [List.replicate_succ,List.flatten_cons,List.length_append,ih,Nat.succ_mul,Nat.add_comm]
theorem op_rep:OpR X (binaryOp .Mult) rRep:=by
  intro pins s σ H x y v u Q I rx ry h
  obtain ⟨l,k,xs,rfl,rfl,hH,h1,h2,hz,q⟩:=h
  cases rx
  obtain ⟨t,rfl⟩:=ry
  obtain ⟨z,its,n,r,hl,e⟩:=I.lstM hH
  have hlen:its.toArray.size*k.toNat≤sizeLine:=by rw [List.size_toArray,← hl]; exact hz
  have hcap:¬ its.toArray.size*k.toNat > (2^63 - 1) / 8:=by
    have:(sizeLine:Nat)≤(2^63 - 1) / 8:=by decide
    omega
  have hfit:¬ (!Builtin.List.listFitsIndex k)=true:=by
    rw [fitsIndex_both h1 h2]
    exact Bool.false_ne_true
  have hlong:¬ Builtin.List.listTooLong (its.toArray.size*k.toNat)=true:=by
    rw [notLongL hlen]
    exact Bool.false_ne_true
  have hnew:List.foldl (fun x1 x2=>x1++x2) #[] (List.replicate (if its.toArray.isEmpty=true then 0 else k.toNat) its.toArray)=(List.replicate k.toNat its).flatten.toArray:=by
    have f0:∀ m:Nat,List.foldl (fun x1 x2=>x1++x2) #[] (List.replicate m its.toArray)=(List.replicate m its).flatten.toArray:=fun m=>by
      have:=foldl_rep its m []
      rw [List.nil_append] at this
      exact this
    rw [f0]
    cases its with
    | nil=>simp
    | cons a r'=>rw [if_neg (by simp)]
  refine wpAny_binaryOp_repeat_ref (T:="list") (U:="int") (by decide) ⟨_,e,rfl⟩ (fun s'=>typeIs_int s' k t) noFill_list_mul F.fills_int_mul F.slot_int_rmul repeat_list F.slot_int_index.lookup
    (call_meets F.slot_int_rmul (typeIs_int s k t) F.entry_int_rmul (F.args_int_rmul_2 _ _) (int___rmul___int_list k t l its.toArray n)
      ⟨e,rfl,⟨_,e,rfl⟩,call_meets F.slot_list_mul ⟨_,e,rfl⟩ F.entry_list_mul (F.args_list_mul_2 _ _) (AutoListH.list___mul___list_int_3 l its.toArray n k t hfit hcap hlong) ⟨e,?_⟩⟩)
  rw [hnew]
  exact ⟨.ref _,_,I.lnew (t':=s.toks) (r.rep k.toNat) (by rw [len_rep,Nat.mul_comm]; exact hz),rfl,q _ I.fresh⟩
end
section
variable {prog:Program} {w:World} {A:Around} {E:Value→Shared→Prop} {s:Shared}
end
section
variable {X:Cx}
end
end L2
namespace L2
open PySem PySem.Spec PyProof.Rows
section
variable {prog:Program} {w:World} {A:Around} {E:Value→Shared→Prop} {s:Shared} {l:Addr} {its:List Value} {ns:List Int} {Q:Value→Shared→Prop}
end
section
variable {X:Cx}
end
section
variable {X:Cx}
end
section
variable {X:Cx}
end
section
variable {X:Cx}
end
mutual
inductive Dp (K:PySem.W.Frag) (H:Hp):V→PyData→Prop
  | non:Dp K H .non .none
  | bl (b:Bool):Dp K H (.bl b) (.bool b)
  | int (i:Int):Dp K H (.int i) (.int i)
  | str (x:Str):Dp K H (.str x) (.str x)
  | lst {a:Addr} {xs:List V} {ds:List PyData}:SqL K H a xs→DpAll K H xs ds→Dp K H (.ref a) (.list ds)
  | tup {a:Addr} {xs:List V} {ds:List PyData}:SqT K H a xs→DpAll K H xs ds→Dp K H (.ref a) (.tuple ds)
inductive DpAll (K:PySem.W.Frag) (H:Hp):List V→List PyData→Prop
  | nil:DpAll K H [] []
  | cons {v:V} {vs:List V} {d:PyData} {ds:List PyData}:Dp K H v d→DpAll K H vs ds→DpAll K H (v::vs) (d::ds)
end
section
variable {X:Cx} {pins:List (Addr×Obj)} {σ:St} {H:Hp} {s:Shared}
mutual
theorem Dp.reads (I:Inv X pins σ H s):∀ (d:PyData) (v:V) (u:Value),Dp X.K H v d→ο4 v u→∃ as,Reads s.heap u d as
  | .none,_,_,h,r=>by
    cases h
    cases r
    exact ⟨_,Reads.none⟩
  | .bool b,_,_,h,r=>by
    cases h
    cases r
    exact ⟨_,Reads.bool b⟩
  | .int i,_,_,h,r=>by
    cases h
    obtain ⟨t,rfl⟩:=r
    exact ⟨_,Reads.int i t⟩
  | .str x,_,_,h,r=>by
    cases h
    obtain ⟨t,rfl⟩:=r
    exact ⟨_,Reads.str x t⟩
  | .list ds,_,_,h,r=>by
    cases h with
    | lst hs ha =>
      cases r
      obtain ⟨its,rv,⟨o,n,ho,hc,_,hd⟩,_⟩:=I.list hs
      obtain ⟨as,hr⟩:=Dp.readsAll I ds _ its ha rv
      exact ⟨_,Reads.list ho hc hd hr⟩
  | .tuple ds,_,_,h,r=>by
    cases h with
    | tup hs ha =>
      cases r
      obtain ⟨its,rv,⟨o,ho,hc,n,hd⟩,_⟩:=I.tuple hs
      obtain ⟨as,hr⟩:=Dp.readsAll I ds _ its ha rv
      exact ⟨_,Reads.tuple ho hc hd hr⟩
  | .dict _,_,_,h,_=>by cases h
theorem Dp.readsAll (I:Inv X pins σ H s):∀ (ds:List PyData) (vs:List V) (us:List Value),DpAll X.K H vs ds→τ2 vs us→∃ as,ReadsAll s.heap us ds as
  | [],_,_,h,r=>by
    cases h
    cases r
    exact ⟨_,ReadsAll.nil⟩
  | d::ds,_,_,h,r=>by
    cases h with
    | cons h1 h2 =>
      cases r with
      | cons r1 r2 =>
        obtain ⟨as,q1⟩:=Dp.reads I d _ _ h1 r1
        obtain ⟨bs,q2⟩:=Dp.readsAll I ds _ _ h2 r2
        exact ⟨_,ReadsAll.cons q1 q2⟩
end
end
section
variable {X:Cx}
noncomputable def rEqD (K:PySem.W.Frag):R2:=fun x y H Q=>∃ d e,Dp K H x d∧Dp K H y e∧SeqAt.shaped d=true∧SeqAt.shaped e=true∧Q (.bl (PyData.eqv d e)) H
noncomputable def rNeD (K:PySem.W.Frag):R2:=fun x y H Q=>∃ d e,Dp K H x d∧Dp K H y e∧SeqAt.shaped d=true∧SeqAt.shaped e=true∧Q (.bl (!PyData.eqv d e)) H
theorem op_eqD (hu:X.A.units+64 < cLine):OpR X (compareOp .Eq) (rEqD X.K):=by
  intro pins s σ H x y v u Q I rx ry h
  obtain ⟨d,e,hd,he,sd,se,q⟩:=h
  obtain ⟨as,r1⟩:=Dp.reads I d x v hd rx
  obtain ⟨bs,r2⟩:=Dp.reads I e y u he ry
  exact SeqAt.compareEq_shaped r1 r2 sd se hu ⟨.bl _,H,I,rfl,q⟩
theorem op_neD (hu:X.A.units+64 < cLine):OpR X (compareOp .NotEq) (rNeD X.K):=by
  intro pins s σ H x y v u Q I rx ry h
  obtain ⟨d,e,hd,he,sd,se,q⟩:=h
  obtain ⟨as,r1⟩:=Dp.reads I d x v hd rx
  obtain ⟨bs,r2⟩:=Dp.reads I e y u he ry
  exact SeqAt.compareNe_shaped r1 r2 sd se hu ⟨.bl _,H,I,rfl,q⟩
end
end L2
namespace L2
open PySem PySem.Spec PyProof.Rows
noncomputable abbrev CellAt (h:Heap) (c:Addr) (v:Option Value):Prop:=h.IsCell c v
noncomputable def relS (scope sc:Scope):Scope :=
  {scope with names:=scope.names.map fun (n,k)=>if (k == .free && sc.kind == .function && sc.names.lookup n == some .cell) then (n,.cell) else (n,k)}
noncomputable def χ1 (cells:List (Str×Addr)):List (Str×NameKind)→List (Str×Addr)→List (Str×Addr)
  | [],acc=>acc
  | (n,k)::r,acc=>if k == .free then χ1 cells r ((n,(cells.lookup n).getD 0)::acc) else χ1 cells r acc
theorem φh (env:Env) (f:Str×NameKind→List (Str×Addr)→Sem (ForInStep (List (Str×Addr))))
    (hf:∀ n k c,f (n,k) c=if k == .free then (do let a ← cellOf env n; pure (.yield ((n,a)::c))) else pure (.yield c)) :
    ∀ (names:List (Str×NameKind)) (acc:List (Str×Addr)),(∀ y∈names,y.2=.free→∃ c,env.cells.lookup y.1=some c)→forIn names acc f=pure (χ1 env.cells names acc)
  | [],acc,_=>by rw [List.forIn_nil]; rfl
  | (n,k)::r,acc,h=>by
    rw [List.forIn_cons,hf]
    have ih:=fun acc=>φh env f hf r acc fun y hy=>h y (List.mem_cons_of_mem _ hy)
    unfold χ1
    by_cases hk:(k == NameKind.free)=true
    · rw [if_pos hk,if_pos hk]
      obtain ⟨c,hc⟩:=h (n,k) List.mem_cons_self (by simpa using hk)
      have e:cellOf env n=pure c:=by unfold cellOf; rw [hc]
      rw [e]
      have e2:(env.cells.lookup n).getD 0=c:=by rw [hc]; rfl
      rw [e2]
      exact ih _
    · rw [if_neg hk,if_neg hk]
      exact ih _
theorem closure_ok {scope:Scope} {env:Env} (h:∀ y∈scope.names,y.2=.free→∃ c,env.cells.lookup y.1=some c):closureFor scope env=pure (χ1 env.cells scope.names []):=by
  simp only [closureFor]
  rw [φh env _ (fun n k c=>rfl) scope.names [] h]
  rfl
theorem Ξg {α:Type}:∀ {l:List (Str×α)} {n:Str} {c:α},(n,c)∈l→∃ c',l.lookup n=some c'
  | (k,v)::r,n,c,h=>by
    rw [List.lookup_cons]
    cases hb:n == k with
    | true=>exact ⟨_,rfl⟩
    | false =>
      rcases List.mem_cons.mp h with e | h
      · cases e; simp at hb
      · exact Ξg h
theorem η9 {cells:List (Str×Addr)}:∀ {names:List (Str×NameKind)} {acc:List (Str×Addr)} {n:Str} {c:Addr},(n,c)∈χ1 cells names acc→(n,c)∈acc∨((n,.free)∈names∧c=(cells.lookup n).getD 0)
  | [],_,_,_,h=>.inl h
  | (m,k)::r,acc,n,c,h=>by
    unfold χ1 at h
    split at h
    · rename_i hk
      have hk:k=.free:=by simpa using hk
      rcases η9 h with h | ⟨h1,h2⟩
      · rcases List.mem_cons.mp h with e | h
        · cases e; exact .inr ⟨hk ▸ List.mem_cons_self,rfl⟩
        · exact .inl h
      · exact .inr ⟨List.mem_cons_of_mem _ h1,h2⟩
    · rcases η9 h with h | ⟨h1,h2⟩
      · exact .inl h
      · exact .inr ⟨List.mem_cons_of_mem _ h1,h2⟩
theorem Ωd {cells:List (Str×Addr)}:∀ {names:List (Str×NameKind)} {acc:List (Str×Addr)} {p:Str×Addr},p∈acc→p∈χ1 cells names acc
  | [],_,_,h=>h
  | (m,k)::r,acc,p,h=>by
    unfold χ1
    split
    · exact Ωd (List.mem_cons_of_mem _ h)
    · exact Ωd h
theorem Ψd {cells:List (Str×Addr)}:∀ {names:List (Str×NameKind)} {acc:List (Str×Addr)} {n:Str},(n,.free)∈names→(n,(cells.lookup n).getD 0)∈χ1 cells names acc
  | (m,k)::r,acc,n,h=>by
    unfold χ1
    rcases List.mem_cons.mp h with e | h
    · cases e
      exact Ωd List.mem_cons_self
    · split
      · exact Ψd h
      · exact Ψd h
theorem Γb:∀ {names:List (Str×NameKind)} {h:Heap} {acc:List (Str×Addr)} {x:Str} {c:Addr},(x,c)∈cellsFrom h.objs.size names acc →
    (x,c)∈acc∨((x,.cell)∈names∧h.objs.size≤c∧CellAt (pushCells h names) c none)
  | [],_,_,_,_,h=>.inl h
  | (n,k)::r,h,acc,x,c,hm=>by
    unfold cellsFrom at hm
    unfold pushCells
    split at hm
    · rename_i hk
      rw [if_pos hk]
      have hk:k=.cell:=by simpa using hk
      rw [← Heap.size_push h {cls:=.type "cell",data:=.cell none}] at hm
      rcases Γb hm with hm | ⟨h1,h2,h3⟩
      · rcases List.mem_cons.mp hm with e | hm
        · cases e
          exact .inr ⟨hk ▸ List.mem_cons_self,Nat.le_refl _,_,pushCells_keeps r _ _ _ (Heap.get?_push_size _ rfl),rfl⟩
        · exact .inl hm
      · rw [Heap.size_push] at h2
        exact .inr ⟨List.mem_cons_of_mem _ h1,Nat.le_of_succ_le h2,h3⟩
    · rename_i hk
      rw [if_neg hk]
      rcases Γb hm with hm | ⟨h1,h2,h3⟩
      · exact .inl hm
      · exact .inr ⟨List.mem_cons_of_mem _ h1,h2,h3⟩
theorem χf:∀ {names:List (Str×NameKind)} {n:Nat} {acc:List (Str×Addr)} {p:Str×Addr},p∈acc→p∈cellsFrom n names acc
  | [],_,_,_,h=>h
  | (m,k)::r,n,acc,p,h=>by
    unfold cellsFrom
    split
    · exact χf (List.mem_cons_of_mem _ h)
    · exact χf h
theorem θm:∀ {names:List (Str×NameKind)} {n:Nat} {acc:List (Str×Addr)} {x:Str},(x,.cell)∈names→∃ c,(x,c)∈cellsFrom n names acc
  | (m,k)::r,n,acc,x,h=>by
    unfold cellsFrom
    rcases List.mem_cons.mp h with e | h
    · cases e
      exact ⟨n,χf List.mem_cons_self⟩
    · split
      · exact θm h
      · exact θm h
theorem ηm:∀ {names:List (Str×NameKind)} {h:Heap} {acc:List (Str×Addr)} {x y:Str} {c:Addr},(∀ p∈acc,p.2 < h.objs.size)→(∀ x y c,(x,c)∈acc→(y,c)∈acc→x=y) →
    (x,c)∈cellsFrom h.objs.size names acc→(y,c)∈cellsFrom h.objs.size names acc→x=y
  | [],_,_,_,_,_,_,hi,h1,h2=>hi _ _ _ h1 h2
  | (n,k)::r,h,acc,x,y,c,hl,hi,h1,h2=>by
    unfold cellsFrom at h1 h2
    split at h1
    · rename_i hk
      rw [if_pos hk] at h2
      rw [← Heap.size_push h {cls:=.type "cell",data:=.cell none}] at h1 h2
      refine ηm (h:=h.push _) (fun p hp=>?_) (fun x y c a b=>?_) h1 h2
      · rw [Heap.size_push]
        rcases List.mem_cons.mp hp with rfl | hp
        · exact Nat.lt_succ_self _
        · exact Nat.lt_succ_of_lt (hl p hp)
      · rcases List.mem_cons.mp a with e | a <;> rcases List.mem_cons.mp b with e' | b
        · cases e; cases e'; rfl
        · cases e; exact absurd (hl _ b) (Nat.lt_irrefl _)
        · cases e'; exact absurd (hl _ a) (Nat.lt_irrefl _)
        · exact hi _ _ _ a b
    · rename_i hk
      rw [if_neg hk] at h2
      exact ηm hl hi h1 h2
theorem newEnv_comp {M:Model} {A:Around} {E:Value→Shared→Prop} {s:Shared} {scope:Scope} {globals:Addr} {closure:List (Str×Addr)} {qual:Str} {func:Option Addr} {code:Value} {around:Env} {builtins:Addr} {Q:Env→Shared→Prop}
    (h:Q (newEnv scope s.heap.objs.size globals (cellsFrom (s.heap.objs.size+1) scope.names closure) qual func code (some around) builtins)
      {s with heap:=pushCells (s.heap.push {cls:=.type "dict",data:=.dict #[]}) scope.names}) :
    wpAny M A (newFunctionEnv scope globals closure [] qual func code (some around) builtins) Q E s:=by
  simp only [newFunctionEnv,Option.isSome_some,if_true]
  refine wpAny_bind (wpAny_alloc ?_)
  refine wpAny_bind (wpAny_layCells _ (fun n k c=>rfl) scope.names closure _ _ ?_)
  rw [show ({s with heap:=s.heap.push {cls:=.type "dict",data:=.dict #[]}}:Shared).heap.objs.size=s.heap.objs.size+1 from Heap.size_push ..]
  rw [List.forIn_nil]
  exact wpAny_bind (wpAny_pure (wpAny_pure h))
theorem ρd {sc:Scope}:∀ {names:List (Str×NameKind)} {x:Str} {k:NameKind},
    (names.map fun (n,k)=>if (k == NameKind.free && sc.kind == .function && sc.names.lookup n == some .cell) then (n,NameKind.cell) else (n,k)).lookup x=some k →
    ∃ k',names.lookup x=some k'∧(k=k'∨(k'=.free∧k=.cell))
  | [],_,_,h=>by simp at h
  | (n,k₀)::r,x,k,h=>by
    have ih:=@ρd sc r x k
    have h':List.lookup x ((if (k₀ == NameKind.free && sc.kind == .function && sc.names.lookup n == some .cell)=true then (n,NameKind.cell) else (n,k₀))::(r.map _))=some k:=h
    cases hx:x == n with
    | true =>
      simp only [List.lookup_cons,hx]
      by_cases hc:(k₀ == NameKind.free && sc.kind == .function && sc.names.lookup n == some .cell)=true
      · rw [if_pos hc] at h'
        simp only [List.lookup_cons,hx] at h'
        cases h'
        simp only [Bool.and_eq_true,beq_iff_eq] at hc
        exact ⟨k₀,rfl,.inr ⟨hc.1.1,rfl⟩⟩
      · rw [if_neg hc] at h'
        simp only [List.lookup_cons,hx] at h'
        cases h'
        exact ⟨_,rfl,.inl rfl⟩
    | false =>
      simp only [List.lookup_cons,hx]
      by_cases hc:(k₀ == NameKind.free && sc.kind == .function && sc.names.lookup n == some .cell)=true
      · rw [if_pos hc] at h'
        simp only [List.lookup_cons,hx] at h'
        exact ih h'
      · rw [if_neg hc] at h'
        simp only [List.lookup_cons,hx] at h'
        exact ih h'
structure BlkOk (N:List Str) (sc scope:Scope) (own:List (Str×Nat)):Prop where
  kind:scope.kind=.function
  uniq:∀ y∈scope.names,scope.names.lookup y.1=some y.2
  ix:∀ p∈own,N[p.2]?=some p.1
  free:∀ y∈scope.names,y.2=.free→sc.names.lookup y.1=some .cell∨sc.names.lookup y.1=some .free
  own:∀ y∈scope.names,y.2=.local∨y.2=.cell→y.1∈own.map (·.1)∨y.1∉N
noncomputable def υa (σ:St):List Nat→St
  | []=>σ
  | v::vs=>(υa σ vs).set v none
theorem Δc (σ:St):∀ vs:List Nat,(υa σ vs).length=σ.length
  | []=>rfl
  | v::vs=>by unfold υa; rw [List.length_set,Δc σ vs]
theorem τj {σ:St} {i:Nat} {x:V}:∀ {vs:List Nat},(υa σ vs)[i]?=some (some x)→σ[i]?=some (some x)∧i∉vs
  | [],h=>⟨h,by simp⟩
  | v::vs,h=>by
    unfold υa at h
    by_cases hi:v=i
    · subst hi
      by_cases hv:v < (υa σ vs).length
      · rw [List.getElem?_set_self hv] at h; cases h
      · rw [List.getElem?_eq_none (by simpa using hv)] at h; cases h
    · rw [List.getElem?_set_ne hi] at h
      obtain ⟨h1,h2⟩:=τj h
      exact ⟨h1,by simp only [List.mem_cons,not_or]; exact ⟨fun e=>hi e.symm,h2⟩⟩
noncomputable abbrev Cx.blk (X:Cx) (s:Shared) (H:Hp) (scope:Scope) (cenv:Env) (fp:List Addr):Cx:={X with s₀:=s,H₀:=H,env:=cenv,outer:=X.stack,ex:=fp,fn:=fun x=>scope.names.lookup x == some .cell,pn:=[],xe:=fun _ _=>False}
section
variable {X:Cx} {pins:List (Addr×Obj)} {σ:St} {H:Hp} {s:Shared}
theorem block_start {scope:Scope} {own:List (Str×Nat)} {fp:List Addr} (I:Inv X pins σ H s) (ok:BlkOk X.N X.env.scope scope own) (hN:X.N.Nodup) (hfp:∀ b∈fp,FpOk X pins H b∧b < s.heap.objs.size) :
    Inv (X.blk s H scope (compEnvC scope (cellsFrom (s.heap.objs.size+1) scope.names (χ1 X.env.cells scope.names [])) s.heap.objs.size X.env) fp) [] (υa σ (own.map (·.2))) H {s with heap:=pushCells (s.heap.push {cls:=.type "dict",data:=.dict #[]}) scope.names}:=by
  have hfree:∀ y∈scope.names,y.2=.free→∃ c,X.env.cells.lookup y.1=some c:=fun y hy e=>by
    rcases ok.free y hy e with k | k
    · exact I.ok.has _ (.inl k)
    · exact I.ok.has _ (.inr k)
  generalize hcenv:compEnvC scope (cellsFrom (s.heap.objs.size+1) scope.names (χ1 X.env.cells scope.names [])) s.heap.objs.size X.env=cenv
  have kp:∀ b o,s.heap.get? b=some o→(pushCells (s.heap.push {cls:=.type "dict",data:=.dict #[]}) scope.names).get? b=some o:=fun b o e=>pushCells_keeps _ _ _ _ (Heap.get?_push_of_some _ e)
  have hL:cenv.locals=s.heap.objs.size:=by rw [← hcenv]; rfl
  have hcl:cenv.cells=cellsFrom (s.heap.objs.size+1) scope.names (χ1 X.env.cells scope.names []):=by rw [← hcenv]; rfl
  have hsc:cenv.scope=relS scope X.env.scope:=by rw [← hcenv]; rfl
  rw [← Heap.size_push s.heap {cls:=.type "dict",data:=.dict #[]}] at hcl
  have cm:∀ {y c},(y,c)∈χ1 X.env.cells scope.names []→X.env.cells.lookup y=some c∧c < s.heap.objs.size:=fun {y c} hm=>by
    rcases η9 hm with hm | ⟨h1,rfl⟩
    · cases hm
    · obtain ⟨c,hc⟩:=hfree _ h1 rfl
      rw [hc]
      obtain ⟨w,z⟩:=I.cell _ _ hc
      exact ⟨rfl,z.lt⟩
  have mem:∀ {y c},cenv.cells.lookup y=some c→(X.env.cells.lookup y=some c∧c < s.heap.objs.size)∨(s.heap.objs.size+1≤c∧CellAt (pushCells (s.heap.push {cls:=.type "dict",data:=.dict #[]}) scope.names) c none):=fun {y c} e=>by
    rw [hcl] at e
    rcases Γb (PySem.mem_of_lookup e) with hm | ⟨_,h2,h3⟩
    · exact .inl (cm hm)
    · rw [Heap.size_push] at h2; exact .inr ⟨h2,h3⟩
  have look:∀ {y},scope.names.lookup y=some .free→∃ c,cenv.cells.lookup y=some c∧X.env.cells.lookup y=some c:=fun {y} hl=>by
    have hy:(y,NameKind.free)∈scope.names:=PySem.mem_of_lookup hl
    obtain ⟨c',e'⟩:=Ξg (χf (names:=scope.names) (n:=(s.heap.push {cls:=.type "dict",data:=.dict #[]}).objs.size) (Ψd (cells:=X.env.cells) (acc:=[]) hy))
    rw [← hcl] at e'
    refine ⟨c',e',?_⟩
    rw [hcl] at e'
    rcases Γb (PySem.mem_of_lookup e') with hm | ⟨h1,_,_⟩
    · exact (cm hm).1
    · have:=ok.uniq _ h1
      rw [hl] at this; cases this
  have okB:(X.blk s H scope cenv fp).Ok:=by
    refine ⟨I.ok.mod,by show cenv.scope.kind=_; rw [hsc]; exact ok.kind,by show cenv.globals=_; rw [← hcenv]; exact I.ok.glob,by show cenv.builtins=_; rw [← hcenv]; exact I.ok.blt,by show s.heap.objs.size≤cenv.locals; rw [hL]; exact Nat.le_refl _,
      fun y z c e1 e2=>?_,fun y hy=>?_,fun y c z e=>?_,I.ok.hd,I.ok.frames,.inl rfl,fun b hb=>⟨?_,fun y c e z=>?_⟩,I.bs,Nat.le_trans I.ok.bsz I.sz,fun b o e hb=>?_,fun b hb z=>?_,I.stack,I.stkFree⟩
    · have e1:cenv.cells.lookup y=some c:=e1
      have e2:cenv.cells.lookup z=some c:=e2
      rw [hcl] at e1 e2
      refine ηm (fun p hp=>?_) (fun y z c a b=>I.ok.inj y z c (cm a).1 (cm b).1) (PySem.mem_of_lookup e1) (PySem.mem_of_lookup e2)
      rw [Heap.size_push]
      exact Nat.lt_succ_of_lt (cm (y:=p.1) (c:=p.2) hp).2
    · show ∃ c,cenv.cells.lookup y=some c
      have key:∀ k,cenv.kindOf y=some k→(k=.cell∨k=.free)→∃ c,cenv.cells.lookup y=some c:=fun k hk hk'=>by
        unfold Env.kindOf at hk
        rw [hsc] at hk
        obtain ⟨k',e,r⟩:=ρd hk
        have:k'=.cell∨k'=.free:=by
          rcases r with rfl | ⟨rfl,_⟩
          · exact hk'
          · exact .inr rfl
        rcases this with rfl | rfl
        · obtain ⟨c,hm⟩:=θm (n:=(s.heap.push {cls:=.type "dict",data:=.dict #[]}).objs.size) (acc:=χ1 X.env.cells scope.names []) (PySem.mem_of_lookup e)
          obtain ⟨c',e'⟩:=Ξg hm
          exact ⟨c',by rw [hcl]; exact e'⟩
        · obtain ⟨c,h1,_⟩:=look e
          exact ⟨c,h1⟩
      rcases hy with hy | hy
      · exact key _ hy (.inl rfl)
      · exact key _ hy (.inr rfl)
    · have z:(scope.names.lookup y == some NameKind.cell)=true:=z
      have z:scope.names.lookup y=some .cell:=by simpa using z
      have e:cenv.cells.lookup y=some c:=e
      rw [hcl] at e
      rcases Γb (PySem.mem_of_lookup e) with hm | ⟨_,h2,_⟩
      · rcases η9 hm with hm | ⟨h1,_⟩
        · cases hm
        · have q:=ok.uniq _ h1
          rw [z] at q; cases q
      · rw [Heap.size_push] at h2
        exact Nat.le_of_succ_le h2
    · show b≠cenv.locals
      rw [hL]; exact Nat.ne_of_lt (hfp b hb).2
    · have e:cenv.cells.lookup y=some c:=e
      rcases mem e with ⟨h1,_⟩ | ⟨h1,_⟩
      · exact (hfp b hb).1.2.2.2.2.1 y c h1 z
      · have h2:s.heap.objs.size+1≤b:=by rw [← z]; exact h1
        exact absurd (Nat.lt_of_lt_of_le (hfp b hb).2 (Nat.le_of_succ_le h2)) (Nat.lt_irrefl _)
    · rcases (hfp b hb).1.2.2.2.1 with z | z
      · exact I.ok.noex b o e z
      · exact absurd (Nat.lt_of_lt_of_le (Heap.lt_size e) (Nat.le_trans I.ok.bsz z)) (Nat.lt_irrefl _)
    · rcases List.mem_cons.mp (I.stkSub b z) with z | z
      · exact (hfp b hb).1.2.1 z
      · exact (hfp b hb).1.2.2.1 z
  refine ⟨okB,rfl,I.bare,Un.kept kp,⟨fun _=>none,?_,fun i y av e1 e2 e3=>?_⟩,fun y c e=>?_,?_,fun y c e=>?_,fun p hp=>?_,I.hok.kept kp,by rw [Δc]; exact I.len⟩
  · show Heap.Ns _ cenv.locals _
    rw [hL]
    exact Heap.Ns.keeps (Heap.Ns.new ..) fun b o e=>pushCells_keeps _ _ _ _ e
  · obtain ⟨e2,hne⟩:=τj e2
    have hfr:scope.names.lookup y=some .free∧(cenv.kindOf y=some .cell∨cenv.kindOf y=some .free):=by
      have key:∀ k,cenv.scope.names.lookup y=some k→k=.local∨k=.cell∨k=.free→scope.names.lookup y=some .free∧(cenv.kindOf y=some .cell∨cenv.kindOf y=some .free):=fun k hk hk'=>by
        have hk0:=hk
        rw [hsc] at hk
        obtain ⟨k',e,r⟩:=ρd hk
        have no:¬ (k'=.local∨k'=.cell):=fun hh=>by
          rcases ok.own _ (PySem.mem_of_lookup e) hh with e' | e'
          · obtain ⟨p,hp,hpy⟩:=List.mem_map.mp e'
            have e3:=ok.ix p hp
            have:p.1=y:=hpy
            rw [this] at e3
            exact hne (List.mem_map.mpr ⟨p,hp,θj hN e3 e1⟩)
          · exact e' (List.mem_of_getElem? e1)
        rcases r with rfl | ⟨rfl,rfl⟩
        · rcases hk' with rfl | rfl | rfl
          · exact absurd (.inl rfl) no
          · exact absurd (.inr rfl) no
          · exact ⟨e,.inr hk0⟩
        · exact ⟨e,.inl hk0⟩
      have e3:Vis cenv.scope y:=e3
      rcases e3 with e3 | e3 | e3
      · exact key _ e3 (.inl rfl)
      · exact key _ e3 (.inr (.inl rfl))
      · exact key _ e3 (.inr (.inr rfl))
    obtain ⟨m,hn,hl⟩:=I.loc
    have hvis:Vis X.env.scope y:=(ok.free _ (PySem.mem_of_lookup hfr.1) rfl).elim (fun k=>.inr (.inl k)) (fun k=>.inr (.inr k))
    obtain ⟨w,r,q⟩:=hl i y av e1 e2 hvis
    refine ⟨w,r,.inr ⟨hfr.2,?_⟩⟩
    obtain ⟨c,h1,h2⟩:=look hfr.1
    rcases q with ⟨k,_⟩ | ⟨_,c',e',z⟩
    · have k:X.env.scope.names.lookup y=some .local:=k
      rcases ok.free _ (PySem.mem_of_lookup hfr.1) rfl with k' | k' <;> rw [show X.env.scope.names.lookup y=_ from k'] at k <;> cases k
    · rw [h2] at e'; cases e'
      exact ⟨c,h1,z.keeps kp⟩
  · have e:cenv.cells.lookup y=some c:=e
    rcases mem e with ⟨h1,_⟩ | ⟨_,z⟩
    · obtain ⟨w,z⟩:=I.cell y c h1
      exact ⟨w,z.keeps kp⟩
    · exact ⟨_,z⟩
  · show H cenv.locals=none
    rw [hL]; exact I.hok.fresh (Nat.le_refl _)
  · have e:cenv.cells.lookup y=some c:=e
    rcases mem e with ⟨h1,_⟩ | ⟨h1,_⟩
    · exact I.freeC y c h1
    · exact I.hok.fresh (Nat.le_of_succ_le h1)
  · exact absurd (show p∈([]:List (Addr×Obj))++[] from hp) (by simp)
theorem app_ok {E:Value→Shared→Prop} {D:Addr} {xs:List V} {y:V} {v:Value} {Q:Value→Shared→Prop} (I:Inv X pins σ H s) (hD:H D=some (.lst xs)) (hz:xs.length < sizeLine) (r:ο4 y v)
    (h:∀ s',Inv X pins σ (upd H D (.lst (xs++[y]))) s'→Q .none s'):wpAny (model X.prog X.w) X.A (call (.builtin "list.append") [.ref D,v]) Q E s:=by
  obtain ⟨hz',its,n,ri,e⟩:=I.hok D _ hD
  have hl:=ri.length
  refine append_at (hsz:=by rw [List.size_toArray]; omega) e fun h' sb ho'=>?_
  refine h {s with heap:=h'} (I.write (t':=s.toks) (by rw [hD]; trivial) (.inl rfl) (fun b u hb q=>(sb.2 b hb).trans q) ⟨_,ho'⟩ ⟨by rw [List.length_append]; exact hz,its++[v],n+1,ri.append (.cons r .nil),?_⟩)
  rw [ho']
  simp
noncomputable def PTs (X:Cx) (ifs:List Expr) (t:TT):Prop :=
  ∀ (pins:List (Addr×Obj)) (s:Shared) (σ:St) (H:Hp) (Q:Bool→Hp→Prop),Inv X pins σ H s→t σ H Q →
    wpAny (model X.prog X.w) X.A (forIn ifs true fun c r=>if r=true then do let ok ← isTrue c X.env (eval c X.env); pure (ForInStep.yield ok) else pure (ForInStep.yield r)) (TP X pins σ Q) X.xe s
noncomputable def tYes:TT:=fun _ H Q=>Q true H
theorem pts_nil:PTs X [] tYes:=fun _ _ _ H _ I h=>wpAny_tests_nil ⟨H,I,h⟩
end
theorem thnF {α:Type} {t:Sem α} {Q Q':α→Shared→Prop} {M:Model} {A:Around} {E:Value→Shared→Prop} {s:Shared} (h:wpAny M A t Q (fun _ _=>False) s) (hQ:∀ a s,Q a s→Q' a s):wpAny M A t Q' E s:=wpAny_mono h hQ fun _ _ z=>False.elim z
theorem compLoop_any {prog:Program} {w:World} {A:Around} {R:Result→Shared→Prop} {s:Shared} {elt target iter:Expr} {ifs:List Expr} {scope:Scope} {pos:Pos} {it acc:Value} {env:Env} (I:Nat→Shared→Prop)
    (turn:∀ n s,I n s→wpAny (model prog w) A (pyNext it) (fun r s₁=>match r with
      | none=>R (.ok .next) s₁
      | some v=>wpAny (model prog w) A (letOwnedTupleGo target it v) (fun _ s₁'=>wpAny (model prog w) A (assign target env v) (fun _ s₂ =>
          wpAny (model prog w) A (forIn ifs true fun c r=>if r=true then do let ok ← isTrue c env (eval c env); pure (ForInStep.yield ok) else pure (ForInStep.yield r)) (fun ok s₃ =>
            if ok=true then wpAny (model prog w) A (eval elt env) (fun x s₄ =>
              wpAny (model prog w) A (call (.builtin "list.append") [acc,x]) (fun _ s₅=>∃ m,m < n∧I m s₅) (notedBy (model prog w) A env fun e s'=>R (.error e) s') s₄) (notedBy (model prog w) A env fun e s'=>R (.error e) s') s₃
            else ∃ m,m < n∧I m s₃) (notedBy (model prog w) A env fun e s'=>R (.error e) s') s₂) (notedBy (model prog w) A env fun e s'=>R (.error e) s') s₁') (notedBy (model prog w) A env fun e s'=>R (.error e) s') s₁) (notedBy (model prog w) A env fun e s'=>R (.error e) s') s)
    (n:Nat) (h:I n s) :
    codeAny (model prog w) A (.compLoop (.ListComp elt [⟨target,iter,ifs,0⟩] scope pos) 0 it acc env) R s:=by
  refine codeAny_loop rfl I (fun n s hI=>?_) n h
  show wpAny _ A ((compTurn (.ListComp elt [⟨target,iter,ifs,0⟩] scope pos) 0 it acc env).onRaise (fun x=>do noteFrame x env; theTreesLotGoes x)) _ _ s
  refine wpAny_noted ?_
  rw [compTurn_list]
  refine wpAny_bind (wpAny_standAt (wpAny_bind (wpAny_mono (turn n s hI) (fun r s₁ h₁=>?_) fun _ _ h'=>h')))
  cases r with
  | none=>exact wpAny_pure h₁
  | some v =>
    refine wpAny_bind (wpAny_mono h₁ (fun _ s₁' h₁'=>?_) fun _ _ h'=>h')
    refine wpAny_bind (wpAny_mono h₁' (fun _ s₂ h₂=>wpAny_bind (wpAny_mono h₂ (fun ok s₃ h₃=>?_) fun _ _ h'=>h')) fun _ _ h'=>h')
    cases ok with
    | false=>exact wpAny_pure ⟨rfl,h₃⟩
    | true =>
      exact wpAny_bind (wpAny_bind (wpAny_mono h₃ (fun x s₄ h₄=>wpAny_bind (wpAny_mono h₄ (fun _ s₅ h₅=>wpAny_pure (wpAny_pure ⟨rfl,h₅⟩)) fun _ _ h'=>h')) fun _ _ h'=>h'))
section
variable {X:Cx}
noncomputable def tLc (wi:TI) (g:TG) (tt:TT) (te:TE) (vs:List Nat):TE:=fun σ H Q=>wi σ H fun J H1=>∀ D,H1 D=none→∃ W:Nat→Nat→Hp→Prop,(∃ m,W 0 m (upd H1 D (.lst [])))∧∀ i m H,W i m H →
  (J.stop i H∧Q (.ref D) H)∨(J.go i H∧∃ Nx:Hp→Prop,(∀ H',Nx H'→∃ m',m' < m∧W (i+1) m' H')∧∀ x H',J.yld i H x H'→g x (υa σ vs) H' fun σ2 H2=>υa σ2 vs=υa σ vs∧tt σ2 H2 fun b H3 =>
    if b=true then te σ2 H3 fun y H4=>∃ acc,H4 D=some (.lst acc)∧acc.length < sizeLine∧Nx (upd H4 D (.lst (acc++[y]))) else Nx H3)
theorem lc_core {pins:List (Addr×Obj)} {s:Shared} {σ:St} {H:Hp} {Q:VK} {elt tg iter:Expr} {ifs:List Expr} {scope:Scope} {own:List (Str×Nat)} {pos pos':Pos} {wi:TI} {g:TG} {tt:TT} {te:TE} {use:Option (Value→Sem Unit)} {Qf:Value→Shared→Prop}
    (hc:X.calm=true) (hN:X.N.Nodup) (I:Inv X pins σ H s) (hi:PI X tg iter wi) (ok:BlkOk X.N X.env.scope scope own)
    (hg:∀ (s:Shared) (H:Hp) (C:Addr) (cl:List (Str×Addr)) (fp:List Addr),PG (X.blk s H scope (compEnvC scope cl C X.env) fp) tg g) (ht:∀ (s:Shared) (H:Hp) (C:Addr) (cl:List (Str×Addr)) (fp:List Addr),PTs (X.blk s H scope (compEnvC scope cl C X.env) fp) ifs tt)
    (he:∀ (s:Shared) (H:Hp) (C:Addr) (cl:List (Str×Addr)) (fp:List Addr),PE (X.blk s H scope (compEnvC scope cl C X.env) fp) elt te) (hs:∀ x,foldedSetIterable iter X.env x=pure x)
    (h:tLc wi g tt te (own.map (·.2)) σ H Q)
    (hRR:∀ D C s' m H',Inv X pins σ H' s'→Q (.ref D) H'→s'.heap.Ns C m→FpOk X pins H' C→compPost (model X.prog X.w) X.A X.xe use Qf (.ref D) C (.ok .next) s') :
    wpAny (model X.prog X.w) X.A (comprehension (.ListComp elt [⟨tg,iter,ifs,0⟩] scope pos) scope X.env pos' (newList []) false (eval iter X.env) use) Qf X.xe s:=by
  have hfree:∀ y∈scope.names,y.2=.free→∃ c,X.env.cells.lookup y.1=some c:=fun y hy e=>by
    rcases ok.free y hy e with k | k
    · exact I.ok.has _ (.inl k)
    · exact I.ok.has _ (.inr k)
  refine wpAny_comprehension_free (use:=use) rfl hs (closure_ok hfree) ok.kind (fun y hy e=>by rw [ok.uniq y hy,e])
    (thn (hi pins s σ H _ I h) fun xv s1 hx=>thn hx fun itv s2 h2=>?_)
  obtain ⟨it,fp,tn,J,H2,e,I2,T,st2,f2,q⟩:=h2
  subst e
  refine wpAny_newObj_type (newEnv_comp ?_) (by show 0≤sizeLine; decide)
  generalize hD:s2.heap.objs.size=D
  have hDn:H2 D=none:=I2.hok.fresh (Nat.le_of_eq hD)
  obtain ⟨W,⟨m0,w0⟩,turn⟩:=q D hDn
  generalize hs3:({s2 with heap:=s2.heap.push {cls:=.type "list",data:=.seq ([]:List Value).toArray}}:Shared)=s3
  have I3:Inv X pins σ (upd H2 D (.lst [])) s3:=by
    rw [← hs3]
    refine I2.laid (t':=s2.toks) (fun b o e=>Heap.get?_push_of_some _ e) (Nat.le_of_eq hD) ⟨Nat.zero_le _,[],0,.nil,?_⟩
    rw [← hD]
    exact Heap.get?_push_size _ rfl
  have h3:s3.heap=s2.heap.push {cls:=.type "list",data:=.seq ([]:List Value).toArray}:=by rw [← hs3]
  have sz:∀ b∈fp,b < s2.heap.objs.size:=fun b hb=>by
    obtain ⟨o,e,_⟩:=T.obj _ _ st2 b hb
    exact Heap.lt_size e
  have f3:∀ b∈fp,FpOk X pins (upd H2 D (.lst [])) b∧b < s3.heap.objs.size:=fun b hb=>by
    have hlt:=sz b hb
    refine ⟨⟨?_,(f2 b hb).2⟩,by rw [h3,Heap.size_push]; exact Nat.lt_succ_of_lt hlt⟩
    rw [ψ (by rw [← hD]; exact Nat.ne_of_lt hlt)]
    exact (f2 b hb).1
  have st3:tn 0 s3.heap:=T.keep _ _ _ st2 fun b _ o e=>by rw [h3]; exact Heap.get?_push_of_some _ e
  have I4:=block_start I3 ok hN f3
  have pg:=hg s3 (upd H2 D (.lst [])) s3.heap.objs.size (cellsFrom (s3.heap.objs.size+1) scope.names (χ1 X.env.cells scope.names [])) fp
  have pt:=ht s3 (upd H2 D (.lst [])) s3.heap.objs.size (cellsFrom (s3.heap.objs.size+1) scope.names (χ1 X.env.cells scope.names [])) fp
  have pe:=he s3 (upd H2 D (.lst [])) s3.heap.objs.size (cellsFrom (s3.heap.objs.size+1) scope.names (χ1 X.env.cells scope.names [])) fp
  show codeAny _ _ (.compStart (.ListComp elt [⟨tg,iter,ifs,0⟩] scope pos) 0 (.ref it) (.ref D) (compEnvC scope (cellsFrom (s3.heap.objs.size+1) scope.names (χ1 X.env.cells scope.names [])) s3.heap.objs.size X.env)) (compPost (model X.prog X.w) X.A X.xe use Qf (.ref D) s3.heap.objs.size) {s3 with heap:=pushCells (s3.heap.push {cls:=.type "dict",data:=.dict #[]}) scope.names}
  have nfp:∀ b∈fp,(upd H2 D (.lst [])) b=none:=fun b hb=>(f3 b hb).1.1
  generalize hce:compEnvC scope (cellsFrom (s3.heap.objs.size+1) scope.names (χ1 X.env.cells scope.names [])) s3.heap.objs.size X.env=ce at I4 pg pt pe ⊢
  have cL:ce.locals=s3.heap.objs.size:=by subst hce; rfl
  generalize hH3:upd H2 D (.lst [])=H3 at I3 I4 pg pt pe w0 nfp f3
  generalize hs4:({s3 with heap:=pushCells (s3.heap.push {cls:=.type "dict",data:=.dict #[]}) scope.names}:Shared)=s4 at I4 ⊢
  have st4:tn 0 s4.heap:=T.keep _ _ _ st3 fun b _ o e=>by rw [← hs4]; exact pushCells_keeps _ _ _ _ (Heap.get?_push_of_some _ e)
  have stat:∀ {σ':St} {H':Hp} {s':Shared},Inv (X.blk s3 H3 scope ce fp) [] σ' H' s'→(∀ b∈fp,H' b=none)→∀ b∈fp,FpOk (X.blk s3 H3 scope ce fp) [] H' b:=fun {σ' H' s'} I' hn b hb =>
    ⟨hn b hb,(I'.ok.exf b hb).1,I'.ok.exfs b hb,.inl hb,fun x c e=>(I'.ok.exf b hb).2 x c e,fun p hp=>absurd (show p∈([]:List (Addr×Obj))++[] from hp) (by simp)⟩
  have loop:codeAny (model X.prog X.w) X.A (.compLoop (.ListComp elt [⟨tg,iter,ifs,0⟩] scope pos) 0 (.ref it) (.ref D) ce) (compPost (model X.prog X.w) X.A X.xe use Qf (.ref D) s3.heap.objs.size) s4:=by
    refine compLoop_any (fun n s'=>∃ i H',Inv (X.blk s3 H3 scope ce fp) [] (υa σ (own.map (·.2))) H' s'∧tn i s'.heap∧(∀ b∈fp,H' b=none)∧W i n H') ?_ m0 ⟨0,H3,I4,st4,nfp,w0⟩
    rintro n s5 ⟨i,H5,I5,st5,n5,w5⟩
    rcases turn i n H5 w5 with ⟨stop,qq⟩ | ⟨go,Nx,hNx,step⟩
    · have td:=T.done (X.blk s3 H3 scope ce fp) rfl rfl rfl hc i [] s5 _ H5 (fun _ _=>False) I5 (stat I5 n5) st5 stop
      refine thnF td fun r s6 ⟨hr,I6⟩=>?_
      subst hr
      have I7:Inv X pins σ H5 s6:=I3.call' (ch:=fp) I6.os I6.base I6.hok I6.bare fun b hb=>⟨(f3 b hb).1.2.2.2.1,(f3 b hb).1.2.1,(f3 b hb).1.2.2.2.2.1,(f3 b hb).1.2.2.2.2.2⟩
      have nC:H5 s3.heap.objs.size=none:=by
        have z:H5 ce.locals=none:=I6.free
        rw [cL] at z
        exact z
      obtain ⟨m,hn,_⟩:=I6.loc
      have hn:s6.heap.Ns ce.locals m:=hn
      rw [cL] at hn
      exact hRR D s3.heap.objs.size s6 m H5 I7 qq hn (I3.fpOk (Nat.le_refl _) nC)
    · have ti:=T.item (X.blk s3 H3 scope ce fp) rfl rfl rfl hc i [] s5 _ H5 (fun _ _=>False) I5 (stat I5 n5) st5 go
      refine thnF ti fun r s6 ⟨u,hr,h6⟩=>?_
      subst hr
      refine thnF h6 fun _ s7 ⟨x,H7,I7,r7,y7,st7,n7⟩=>?_
      have I7':=I7.pinned (stat I7 n7) (T.obj _ _ st7)
      refine thnF (pg _ s7 _ H7 x u _ I7' r7 (step x H7 y7)) fun _ s8 ⟨σ8,H8,I8,hw8,q8⟩=>?_
      refine thnF (pt _ s8 σ8 H8 _ I8 q8) fun b s9 ⟨H9,I9,q9⟩=>?_
      have fin:∀ {s':Shared} {H':Hp},Inv (X.blk s3 H3 scope ce fp) ([]++pinsAt fp s7.heap) σ8 H' s'→Nx H'→∃ m,m < n∧∃ i H',Inv (X.blk s3 H3 scope ce fp) [] (υa σ (own.map (·.2))) H' s'∧tn i s'.heap∧(∀ b∈fp,H' b=none)∧W i m H':=fun {s' H'} I' nx=>by
        obtain ⟨m',hm,w'⟩:=hNx H' nx
        have pin':∀ b∈fp,∀ o,s7.heap.get? b=some o→s'.heap.get? b=some o∧H' b=none:=fun b hb o e =>
          let z:=I'.pin (b,o) (List.mem_append_right _ (List.mem_append_right _ (Δg hb e)))
          ⟨z.1,z.2.1⟩
        have hl:(υa σ (own.map (·.2))).length=σ8.length:=by rw [← hw8,Δc]
        refine ⟨m',hm,i+1,H',(I'.unpinned (pins:=[])).weak hl (fun j v e=>?_),T.keep _ _ _ st7 fun b hb o e=>(pin' b hb o e).1,fun b hb=>?_,w'⟩
        · rw [← hw8] at e
          exact (τj e).1
        · obtain ⟨o,e,_⟩:=T.obj _ _ st7 b hb
          exact (pin' b hb o e).2
      cases b with
      | false =>
        simp only [Bool.false_eq_true,if_false] at q9 ⊢
        exact fin I9 q9
      | true =>
        simp only [if_true] at q9 ⊢
        refine thnF (pe _ s9 σ8 H9 _ I9 q9) fun z s10 ⟨yv,H10,I10,r10,acc,hD10,hz10,nx⟩=>?_
        exact app_ok (X:=X.blk s3 H3 scope ce fp) I10 hD10 hz10 r10 fun s11 I11=>fin I11 nx
  exact codeAny_compStart_list loop (T.self X.A 0 _ _ _ st4 loop)
theorem pe_lc {elt tg iter:Expr} {ifs:List Expr} {scope:Scope} {own:List (Str×Nat)} {pos:Pos} {wi:TI} {g:TG} {tt:TT} {te:TE} (hc:X.calm=true) (hN:X.N.Nodup) (hi:PI X tg iter wi) (ok:BlkOk X.N X.env.scope scope own)
    (hg:∀ (s:Shared) (H:Hp) (C:Addr) (cl:List (Str×Addr)) (fp:List Addr),PG (X.blk s H scope (compEnvC scope cl C X.env) fp) tg g) (ht:∀ (s:Shared) (H:Hp) (C:Addr) (cl:List (Str×Addr)) (fp:List Addr),PTs (X.blk s H scope (compEnvC scope cl C X.env) fp) ifs tt)
    (he:∀ (s:Shared) (H:Hp) (C:Addr) (cl:List (Str×Addr)) (fp:List Addr),PE (X.blk s H scope (compEnvC scope cl C X.env) fp) elt te) (hs:∀ x,foldedSetIterable iter X.env x=pure x:=by intro _; rfl) :
    PE X (.ListComp elt [⟨tg,iter,ifs,0⟩] scope pos) (tLc wi g tt te (own.map (·.2))):=by
  intro pins s σ H Q I h
  rw [eval_ListComp]
  refine lc_core hc hN I hi ok hg ht he hs h fun D C s' m H' I' q hn f=>⟨m,hn,fun h'' sb=>?_⟩
  obtain ⟨f0,f1,f2,f3,f4,f5⟩:=f
  exact ⟨.ref D,H',I'.turned (t':=s'.toks) (fun b o hb e=>(sb.2 b hb).trans e) f0 f1 f3 f4 f5,rfl,q⟩
end
theorem lc_range {lo:Int} {n:Nat} {g:TG} {tt:TT} {te:TE} {vs:List Nat} {σ:St} {H1:Hp} {D:Addr} {Qd:Hp→Prop} (Pv:Nat→Hp→Prop) (h0:Pv 0 (upd H1 D (.lst [])))
    (hs:∀ i H,i < n→Pv i H→g (.int (lo+i)) (υa σ vs) H fun σ2 H2=>υa σ2 vs=υa σ vs∧tt σ2 H2 fun b H3 =>
      if b=true then te σ2 H3 fun y H4=>∃ acc,H4 D=some (.lst acc)∧acc.length < sizeLine∧Pv (i+1) (upd H4 D (.lst (acc++[y]))) else Pv (i+1) H3) (hd:∀ H,Pv n H→Qd H) :
    ∃ W:Nat→Nat→Hp→Prop,(∃ m,W 0 m (upd H1 D (.lst [])))∧∀ i m H,W i m H →
      ((Itr lo n).stop i H∧Qd H)∨((Itr lo n).go i H∧∃ Nx:Hp→Prop,(∀ H',Nx H'→∃ m',m' < m∧W (i+1) m' H')∧∀ x H',(Itr lo n).yld i H x H'→g x (υa σ vs) H' fun σ2 H2=>υa σ2 vs=υa σ vs∧tt σ2 H2 fun b H3 =>
        if b=true then te σ2 H3 fun y H4=>∃ acc,H4 D=some (.lst acc)∧acc.length < sizeLine∧Nx (upd H4 D (.lst (acc++[y]))) else Nx H3):=by
  refine ⟨fun i m H=>m=n - i∧i≤n∧Pv i H,⟨n,by simp,Nat.zero_le _,h0⟩,?_⟩
  rintro i m H ⟨rfl,hi,p⟩
  by_cases hlt:i < n
  · refine .inr ⟨hlt,Pv (i+1),fun H' p'=>⟨n - (i+1),by omega,rfl,hlt,p'⟩,fun x H' y=>?_⟩
    obtain ⟨e,y⟩:=y
    subst e y
    exact hs i _ hlt p
  · have e:i=n:=by omega
    subst e
    exact .inl ⟨Nat.le_refl _,hd H p⟩
theorem lc_list {K:PySem.W.Frag} {a:Addr} {xs:List V} {g:TG} {tt:TT} {te:TE} {vs:List Nat} {σ:St} {H1:Hp} {D:Addr} {Qd:Hp→Prop} (Pv:Nat→Hp→Prop) (h0:Pv 0 (upd H1 D (.lst []))) (hl:∀ i H,i≤xs.length→Pv i H→SqL K H a xs)
    (hs:∀ i x H,xs[i]?=some x→Pv i H→g x (υa σ vs) H fun σ2 H2=>υa σ2 vs=υa σ vs∧tt σ2 H2 fun b H3 =>
      if b=true then te σ2 H3 fun y H4=>∃ acc,H4 D=some (.lst acc)∧acc.length < sizeLine∧Pv (i+1) (upd H4 D (.lst (acc++[y]))) else Pv (i+1) H3) (hd:∀ H,Pv xs.length H→Qd H) :
    ∃ W:Nat→Nat→Hp→Prop,(∃ m,W 0 m (upd H1 D (.lst [])))∧∀ i m H,W i m H →
      ((Itl K a).stop i H∧Qd H)∨((Itl K a).go i H∧∃ Nx:Hp→Prop,(∀ H',Nx H'→∃ m',m' < m∧W (i+1) m' H')∧∀ x H',(Itl K a).yld i H x H'→g x (υa σ vs) H' fun σ2 H2=>υa σ2 vs=υa σ vs∧tt σ2 H2 fun b H3 =>
        if b=true then te σ2 H3 fun y H4=>∃ acc,H4 D=some (.lst acc)∧acc.length < sizeLine∧Nx (upd H4 D (.lst (acc++[y]))) else Nx H3):=by
  refine ⟨fun i m H=>m=xs.length - i∧i≤xs.length∧Pv i H,⟨xs.length,by simp,Nat.zero_le _,h0⟩,?_⟩
  rintro i m H ⟨rfl,hi,p⟩
  have q:=hl i H hi p
  by_cases hlt:i < xs.length
  · refine .inr ⟨⟨xs,xs[i],q,by simp [hlt]⟩,Pv (i+1),fun H' p'=>⟨xs.length - (i+1),by omega,rfl,hlt,p'⟩,fun x H' y=>?_⟩
    obtain ⟨e,y⟩:=y
    subst e
    exact hs i x _ (y xs q) p
  · have e:i=xs.length:=by omega
    subst e
    exact .inl ⟨⟨xs,q,Nat.le_refl _⟩,hd H p⟩
noncomputable def blkC (N:List Str) (sc scope:Scope) (own:List (Str×Nat)):Bool :=
  (match scope.kind with | .function=>true | _=>false) && (scope.names.all fun y=>decide (scope.names.lookup y.1=some y.2)) && (own.all fun p=>decide (N[p.2]?=some p.1)) &&
    (scope.names.all fun y=>match y.2 with
      | .free=>(match sc.names.lookup y.1 with | some .cell=>true | some .free=>true | _=>false)
      | .local=>decide (y.1∈own.map (·.1)) || decide (y.1∉N)
      | .cell=>decide (y.1∈own.map (·.1)) || decide (y.1∉N)
      | _=>true)
theorem blkOk_by {N:List Str} {sc scope:Scope} {own:List (Str×Nat)} (h:blkC N sc scope own=true):BlkOk N sc scope own:=by
  unfold blkC at h
  simp only [Bool.and_eq_true,List.all_eq_true,decide_eq_true_eq] at h
  obtain ⟨⟨⟨h1,h2⟩,h3⟩,h4⟩:=h
  refine ⟨?_,h2,h3,fun y hy e=>?_,fun y hy e=>?_⟩
  · split at h1
    · assumption
    · cases h1
  · have q:=h4 y hy
    simp only [e] at q
    split at q <;> first | exact .inl (by assumption) | exact .inr (by assumption) | cases q
  · have q:=h4 y hy
    rcases e with e | e <;> (simp only [e,Bool.or_eq_true,decide_eq_true_eq] at q; exact q)
end L2
namespace L2
open PySem PySem.Spec PyProof.Rows
section
variable {prog:Program} {w:World} {A:Around} {R:Result→Shared→Prop} {s:Shared} {elt t0 i0 t1 i1:Expr} {ifs0 ifs1:List Expr} {scope:Scope} {pos:Pos} {it acc:Value} {env:Env}
end
section
variable {X:Cx}
end
end L2
namespace L2
open PySem PySem.Spec PyProof.Rows
section
variable {κ:Type} [DecidableEq κ]
end
theorem kV_is {P:Program} {w:World} {k:Key} {u:Value} (r:ο4 (kV k) u):(τ5 P w).is k u=true:=by
  cases k with
  | inl i=>obtain ⟨t,e⟩:=(show ∃ t,u=Value.int i t from r); subst e; exact mixKind_int P w i t
  | inr x=>obtain ⟨t,e⟩:=(show ∃ t,u=Value.str x t from r); subst e; exact mixKind_str P w x t
section
variable {P:Program} {w:World} {H:Hp} {h:Heap} {a:Addr}
end
section
variable {X:Cx} {pins:List (Addr×Obj)} {σ:St} {H:Hp} {s:Shared} {a:Addr} {y v:V} {u r:Value} {o:Option V} {A:Around} {E:Value→Shared→Prop}
end
section
variable {X:Cx} {pins:List (Addr×Obj)} {σ:St} {H:Hp} {s:Shared} {a:Addr} {kvs:List (Key×V)} {k:Key} {u:Value} {A:Around} {E:Value→Shared→Prop}
end
noncomputable def NoSl (i:Expr):Prop:=∀ ov iv,subscripted i false ov iv=operate [ov,iv] (getItem ov iv)
theorem subD_of {prog:Program} {w:World} {A:Around} {E:Value→Shared→Prop} {s:Shared} {env:Env} {value slice:Expr} {pos:Pos} {T id:String} {Q:Value→Shared→Prop}
    (hl:typeLookup (.type T) "__getitem__"=pure (some (.builtin id))) (hs:NoSl slice)
    (h:wpAny (model prog w) A (eval value env) (fun o s₁=>wpAny (model prog w) A (eval slice env) (fun i s₂=>s₂.TypeIs o T∧wpAny (model prog w) A (getItem o i) Q E s₂) E s₁) E s) :
    wpAny (model prog w) A (eval (.Subscript value slice pos) env) Q E s:=by
  refine Subscript_ (wpAny_mono h (fun o s₁ h₁=>wpAny_mono h₁ (fun i s₂ h₂=>?_) fun _ _ x=>x) fun _ _ x=>x)
  obtain ⟨hT,h₂⟩:=h₂
  unfold subscriptTail
  refine wpAny_bind ?_
  rw [getitemInPython_of_ne hT.not_modules]
  refine wpAny_bind (wpAny_specialOf hT hl ?_)
  have fin:wpAny (model prog w) A (subscripted slice false o i) (fun r s₃=>wpAny (model prog w) A (letTemporaryGo value o r >>= fun _=>pure r) Q E s₃) E s₂:=by
    rw [hs o i]
    exact wpAny_operating (wpAny_mono h₂ (fun r s₃ h₃=>wpAny_bind (wpAny_letTemporaryGo (wpAny_pure h₃))) fun _ _ x=>x)
  first
    | exact wpAny_pure (wpAny_bind fin)
    | exact wpAny_bind (wpAny_pure (wpAny_bind fin))
    | exact wpAny_bind fin
section
variable {X:Cx} {o i e value:Expr} {pos pos' tpos:Pos} {td ty tv:TE}
end
section
variable {X:Cx} {pos:Pos}
end
structure M1 (X:Cx) (o:Expr) (m:Str) (apos:Pos) (e:Expr) (cpos:Pos):Prop where
  base:attributeBase o m X.env (eval o X.env)=eval o X.env
  few:((backTo cpos (starEach [e] X.env)).all (fun x => !x.1) && (backToKw cpos (keywordEach [] X.env)).all (fun x=>x.1.isSome)
    && decide (([e]:List Expr).length+([]:List Keyword).length+(if ([]:List Keyword).isEmpty then 0 else 1) < 30))=true
  line:(apos.endLine == cpos.line)=true
  trees:backTo cpos (starEach [e] X.env)=[(false,eval e X.env)]
section
variable {X:Cx} {pins:List (Addr×Obj)} {σ:St} {H:Hp} {s:Shared} {a:Addr} {y d:V} {u r:Value} {o:Option V} {A:Around} {E:Value→Shared→Prop}
end
section
variable {X:Cx} {o e f:Expr} {apos cpos:Pos} {td ty tx:TE}
end
section
variable {X:Cx} {pins:List (Addr×Obj)} {σ:St} {H:Hp} {s:Shared} {a:Addr} {kvs:List (Key×V)} {A:Around} {E:Value→Shared→Prop}
end
section
variable {X:Cx} {pins:List (Addr×Obj)} {σ:St} {H:Hp} {s:Shared} {a:Addr} {y:V} {u:Value} {A:Around} {E:Value→Shared→Prop}
end
end L2
namespace L2
open PySem PySem.Spec PyProof.Rows
section
variable {prog:Program} {w:World} {A:Around} {E:Value→Shared→Prop}
end
section
variable {X:Cx}
end
end L2
namespace L2
open PySem PySem.Spec PyProof.Rows
section
variable {X:Cx} {pins:List (Addr×Obj)} {σ:St} {H:Hp} {s:Shared} {h':Heap}
theorem Inv.turnedNew {t':Nat} {ch:List Addr} {T:Addr} {ob:HO} (I:Inv X pins σ H s) (k:∀ b o,b∉ch→s.heap.get? b=some o→h'.get? b=some o) (hf:∀ b∈ch,FpOk X pins H b) (hT:s.heap.objs.size≤T)
    (new:τ6 X.prog X.w (upd H T ob) h' T ob):Inv X pins σ (upd H T ob) {s with heap:=h',toks:=t'}:=by
  have hn:H T=none:=I.hok.fresh hT
  have nit:∀ b u,H b=some u→b∉ch:=fun b u e z=>by
    have q:=(hf b z).1
    rw [q] at e; cases e
  refine I.step (g':=s.gens) (d':=s.drawn) (ch:=ch) (fun b hb=>⟨(hf b hb).2.2.2.1,(hf b hb).2.1,(hf b hb).2.2.2.2.1,(hf b hb).2.2.2.2.2⟩) (fun b o _ _ hc e _=>k b o hc e) (fun b o _ _ hc e _=>⟨o.slots,k b o hc e⟩)
    (fun b o _ e n=>?_) (fun b o hc e=>⟨o,k b o hc e⟩) (fun b xs e=>?_) (fun b o u e=>?_) (fun b ps e=>⟨#[],?_⟩) (fun m hm=>?_) (fun b u e=>?_) I.bare
  · rw [ψ (Nat.ne_of_lt (Nat.lt_of_lt_of_le (Heap.lt_size e) hT))]; exact n
  · rw [ψ (ρ e hn)]; exact e
  · rw [ψ (ρ e hn)]; exact e
  · rw [ψ (ρ e hn),e]; simp
  · obtain ⟨o,es,ep,ho,r⟩:=hm
    exact ⟨o,es,ep,k _ o (fun z=>(hf _ z).2.1 rfl) ho,r⟩
  · by_cases hb:b=T
    · subst hb
      rw [ο] at e
      cases e
      exact new
    · rw [ψ hb] at e
      refine (I.hok b u e).stay (fun c v hc q=>k c v ?_ q) (fun c q=>by rw [ψ (ρ q hn)]; exact q) fun c xs q=>by rw [ψ (ρ q hn)]; exact q
      rcases hc with z | z
      · rw [z]; exact nit b u e
      · exact nit c _ z
end
section
variable {X:Cx}
theorem pi_one {tg:Expr} {pins:List (Addr×Obj)} {σ:St} {H:Hp} {s:Shared} {R:It→Hp→Prop} {J:It} {tn:Nat→Heap→Prop} {tk:Nat} (I:Inv X pins σ H s) (o:Obj)
    (T:Turn X.prog X.w X.K tg J [s.heap.objs.size] s.heap.objs.size tn) (st:tn 0 (s.heap.push o)) (q:R J H):PIE X pins σ tg R (.ref s.heap.objs.size) {s with heap:=s.heap.push o,toks:=tk}:=by
  refine ⟨s.heap.objs.size,[s.heap.objs.size],tn,J,H,rfl,I.kept fun b ob e=>Heap.get?_push_of_some _ e,T,st,fun b hb=>?_,q⟩
  have e:b=s.heap.objs.size:=by simpa using hb
  subst e
  exact I.fpOk (Nat.le_refl _) (I.hok.fresh (Nat.le_refl _))
end
noncomputable def Itc (lo c:Int) (n:Nat):It:=⟨fun i _=>i < n,fun i H x H'=>H'=H∧x=.int (lo+(i:Nat)*c),fun i _=>n≤i⟩
theorem turn_rangeC {P:Program} {w:World} {K:PySem.W.Frag} {tg:Expr} (it:Addr) (lo c:Int) (n:Nat):Turn P w K tg (Itc lo c n) [it] it (fun i h=>IsRangeIter h it (lo+(i:Nat)*c) ((n:Int) - (i:Nat)) c) where
  mem:=by simp
  obj:=fun i h st b hb=>by
    have e:b=it:=by simpa using hb
    subst e
    exact ⟨_,st,fun v z=>nomatch z⟩
  keep:=fun i h h' st k=>k it (by simp) _ st
  item:=by
    intro X hP hw hK hc i pins s σ H E I hf st hg
    subst hP hw hK
    obtain ⟨f0,f1,f2,f3,f4,f5⟩:=hf it (by simp)
    have W:=Walks.range (prog:=X.prog) (w:=X.w) (I.ok.hd hc) it lo c n
    refine W.item i s _ _ hg st fun v h' tk hv st' kk=>?_
    obtain ⟨t,rfl⟩:=hv
    have I1:Inv X pins σ H {s with heap:=h',toks:=tk}:=I.turned (fun b o hb e=>kk b o (by simpa using hb) e) f0 f1 f3 f4 f5
    exact ⟨_,rfl,go_of (s:={s with heap:=h',toks:=tk}) (n:="range_iterator") st' rfl rfl (by decide) ⟨.int (lo+(i:Nat)*c),H,I1,⟨t,rfl⟩,⟨rfl,rfl⟩,st',fun b hb=>(hf b hb).1⟩⟩
  done:=by
    intro X hP hw hK hc i pins s σ H E I hf st hg
    subst hP hw hK
    obtain ⟨f0,f1,f2,f3,f4,f5⟩:=hf it (by simp)
    exact wpAny_pyNext_range_end (I.ok.hd hc) st (by have:n≤i:=hg; omega) fun h' eb=>⟨rfl,I.turned (t':=s.toks) (fun b o hb e=>eb b o hb e) f0 f1 f3 f4 f5⟩
  self:=fun A i s Q E st h=>wpAny_pyIter_rangeiter st h
noncomputable def RgC (i j c:Int) (n:Nat):Prop:=c≠0∧c.natAbs < 1073741824∧Builtin.Range.small i j c=true∧Builtin.Range.rangeSize i j c=n
theorem RgC.neg {i j:Int} (ha : -(2^62)≤i) (ha':i < 2^62) (hb : -(2^62)≤j) (hb':j < 2^62):RgC i j (-1) (i - j).toNat :=
  ⟨by decide,by decide,PySem.W.small_down ha ha' hb hb',PySem.W.rangeSize_downNat i j⟩
noncomputable def iRng3 (ta:TA):TI:=fun σ H R=>ta σ H fun vs H1=>∃ (i j c:Int) (n:Nat),vs=[.int i,.int j,.int c]∧RgC i j c n∧R (Itc i c n) H1
section
variable {X:Cx} {tg:Expr}
theorem pi_range3 {a b c:Expr} {ta:TA} {p pos:Pos} (hg:Gl X "range") (hm:X.mg "range"=none) (ha:PA X [a,b,c] ta)
    (hs:starEach [a,b,c] X.env=(false,eval a X.env)::starEach [b,c] X.env:=by rfl) (hpl:(backTo pos (starEach [b,c] X.env)).any (·.1)=false:=by rfl) :
    PI X tg (.Call (.Name "range" p) [a,b,c] [] pos) (iRng3 ta):=by
  intro pins s σ H R I h
  refine Call_ (Φk I hg hm boot_range (PyProof.Rows.callWith_type1 (thn (ha pos pins s σ H _ I h) fun us s1 ⟨vs,H1,I1,r1,q1⟩=>?_) hs hpl))
  obtain ⟨i,j,k,n,e,⟨c0,c1,c2,c3⟩,q⟩:=q1
  subst e
  cases r1 with
  | cons r rr =>
    cases rr with
    | cons r' rr =>
      cases rr with
      | cons r'' rr =>
        cases rr
        obtain ⟨t,rfl⟩:=r
        obtain ⟨t',rfl⟩:=r'
        obtain ⟨t'',rfl⟩:=r''
        refine call_range_3 c0 ?_ (.inl (PyProof.noPylong_small c1))
        refine wpAny_pyIter_range (IsRange.new ..) c2 ?_
        have I2:Inv X pins σ H1 {s1 with heap:=s1.heap.push {cls:=.type "range",data:=.fields #[.int i t,.int j t',.int k t'']}}:=I1.kept (t':=s1.toks) fun b o e=>Heap.get?_push_of_some _ e
        refine pi_one (tk:=s1.toks) I2 _ (turn_rangeC _ i k n) ?_ q
        have e1:i+((0:Nat):Int)*k=i:=by simp
        have e2:(n:Int) - ((0:Nat):Int)=Builtin.Range.rangeSize i j k:=by rw [c3]; simp
        show IsRangeIter _ _ (i+((0:Nat):Int)*k) ((n:Int) - ((0:Nat):Int)) k
        rw [e1,e2]
        exact Heap.get?_push_size _ rfl
end
theorem for_rangeC {lo c:Int} {n:Nat} {g:TG} {tb:TS} {D:Ends} {σ:St} {H:Hp} (Pv:Nat→St→Hp→Prop) (h0:Pv 0 σ H)
    (hs:∀ i σ H,i < n→Pv i σ H→g (.int (lo+(i:Nat)*c)) σ H fun σ2 H2=>tb {D with nx:=Pv (i+1),ct:=Pv (i+1),bk:=D.nx} σ2 H2) (hd:∀ σ H,Pv n σ H→D.nx σ H) :
    ∃ W:Nat→Nat→St→Hp→Prop,(∃ m,W 0 m σ H)∧∀ i m σ H,W i m σ H →
      ((Itc lo c n).stop i H∧D.nx σ H)∨((Itc lo c n).go i H∧∃ N:St→Hp→Prop,(∀ σ' H',N σ' H'→∃ m',m' < m∧W (i+1) m' σ' H')∧∀ x H',(Itc lo c n).yld i H x H'→g x σ H' fun σ2 H2=>tb {D with nx:=N,ct:=N,bk:=D.nx} σ2 H2):=by
  refine ⟨fun i m σ H=>m=n - i∧i≤n∧Pv i σ H,⟨n,by simp,Nat.zero_le _,h0⟩,?_⟩
  rintro i m σ H ⟨rfl,hi,p⟩
  by_cases hlt:i < n
  · refine .inr ⟨hlt,Pv (i+1),fun σ' H' p'=>⟨n - (i+1),by omega,rfl,hlt,p'⟩,fun x H' y=>?_⟩
    obtain ⟨e,y⟩:=y
    subst e y
    exact hs i σ _ hlt p
  · have e:i=n:=by omega
    subst e
    exact .inl ⟨Nat.le_refl _,hd σ H p⟩
section
variable {X:Cx} {tg:Expr}
end
section
variable {prog:Program} {w:World} {A:Around} {E:Value→Shared→Prop} {s:Shared}
end
section
variable {X:Cx} {pins:List (Addr×Obj)} {σ:St} {H:Hp} {s:Shared} {d:Addr} {o:Obj}
end
section
variable {P:Program} {w:World} {K:PySem.W.Frag} {tg:Expr} {d:Addr} {o:Obj} {es:Array DictEntry} {ep:Nat}
end
section
variable {X:Cx} {tg e:Expr} {td:TE} {apos cpos:Pos}
end
noncomputable def Ite (K:PySem.W.Frag) (a:Addr):It :=
  ⟨fun i H=>∃ (xs:List V) (x:V),SqL K H a xs∧xs[i]?=some x,fun i H v H'=>∃ T x,v=.ref T∧H T=none∧H'=upd H T (.tup [.int (i:Nat),x])∧∀ xs,SqL K H a xs→xs[i]?=some x,fun i H=>∃ xs:List V,SqL K H a xs∧xs.length≤i⟩
theorem turn_enum {P:Program} {w:World} {K:PySem.W.Frag} {elts:List Expr} {kk:Nat} {tpos:Pos} (a e it:Addr) :
    Turn P w K (.Tuple elts kk tpos) (Ite K a) [e,it] e (fun i h=>(∃ old,IsEnum h e it ((i:Nat):Int) old)∧h.IsListIter it a i∧e≠it) where
  mem:=by simp
  obj:=fun i h st b hb=>by
    obtain ⟨⟨old,he⟩,⟨o,ho,hc,hd⟩,_⟩:=st
    have e':b=e∨b=it:=by simpa using hb
    rcases e' with z | z
    · rw [z]; exact ⟨_,he,fun v q=>nomatch q⟩
    · rw [z]; exact ⟨o,ho,fun v q=>by rw [hd] at q; cases q⟩
  keep:=fun i h h' st k=>let ⟨⟨old,he⟩,hi,hne⟩:=st; ⟨⟨old,k e (by simp) _ he⟩,hi.at fun o q=>k it (by simp) o q,hne⟩
  item:=by
    intro X hP hw hK hc i pins s σ H E I hf st hg
    subst hP hw hK
    obtain ⟨⟨old,he⟩,hit,hne⟩:=st
    obtain ⟨xs,x,hq,hx⟩:=hg
    obtain ⟨its,rv,p,hz⟩:=I.list hq
    obtain ⟨u,hu,ru⟩:=rv.get hx
    have hel:e < s.heap.objs.size:=Heap.lt_size he
    have hil:it < s.heap.objs.size:=by obtain ⟨_,q,_⟩:=hit; exact Heap.lt_size q
    refine wpAny_pyNext_enum_item he hit p.isList (x:=u) (by simpa using hu) hne fun h' ho hit' hT hsz hk=>?_
    refine ⟨_,rfl,wpAny_letOwnedTupleGo_enum (s:={s with heap:=h',toks:=s.toks+1}) ho fun h'' he' sb=>?_⟩
    have hT2:h''.get? s.heap.objs.size=some {cls:=.type "tuple",data:=.seq #[.int i s.toks,u]}:=(sb.2 _ (Nat.ne_of_gt hel)).trans hT
    have new:τ6 X.prog X.w (upd H s.heap.objs.size (.tup [.int (i:Nat),x])) h'' s.heap.objs.size (.tup [.int (i:Nat),x]) :=
      ⟨by show 2≤sizeLine; decide,[.int i s.toks,u],.cons ⟨_,rfl⟩ (.cons ru .nil),⟨_,hT2,rfl,_,rfl⟩⟩
    have I1:Inv X pins σ (upd H s.heap.objs.size (.tup [.int (i:Nat),x])) {s with heap:=h'',toks:=s.toks+1} :=
      I.turnedNew (ch:=[e,it]) (fun b ob hb q=>(sb.2 b (fun z=>hb (by simp [z]))).trans (hk b ob (fun z=>hb (by simp [z])) (fun z=>hb (by simp [z])) q)) hf (Nat.le_refl _) new
    refine ⟨.ref s.heap.objs.size,_,I1,rfl,⟨_,x,rfl,I.hok.fresh (Nat.le_refl _),rfl,fun ys hy=>by rw [I.list_inj hy hq]; exact hx⟩,⟨⟨u,?_⟩,hit'.at fun o q=>(sb.2 it (Ne.symm hne)).trans q,hne⟩,fun b hb=>?_⟩
    · have e1:((i+1:Nat):Int)=(i:Int)+1:=by omega
      rw [e1]; exact he'
    · have hb':b < s.heap.objs.size:=by
        have e':b=e∨b=it:=by simpa using hb
        rcases e' with z | z
        · rw [z]; exact hel
        · rw [z]; exact hil
      rw [ψ (Nat.ne_of_lt hb')]
      exact (hf b hb).1
  done:=by
    intro X hP hw hK hc i pins s σ H E I hf st hg
    subst hP hw hK
    obtain ⟨⟨old,he⟩,hit,hne⟩:=st
    obtain ⟨xs,hq,hx⟩:=hg
    obtain ⟨its,rv,p,hz⟩:=I.list hq
    obtain ⟨f0,f1,f2,f3,f4,f5⟩:=hf it (by simp)
    have hl:=rv.length
    exact wpAny_pyNext_enum_end (I.ok.hd hc) he hit p.isList (by simp; omega) fun h' eb=>⟨rfl,I.turned (t':=s.toks) (fun b o hb q=>eb b o hb q) f0 f1 f3 f4 f5⟩
  self:=fun A i s Q E st h=>let ⟨⟨_,he⟩,_⟩:=st; wpAny_pyIter_enum he h
noncomputable def iEnum (K:PySem.W.Frag) (ta:TA):TI:=fun σ H R=>ta σ H fun vs H1=>∃ a xs,vs=[.ref a]∧SqL K H1 a xs∧R (Ite K a) H1
theorem pi_enum {X:Cx} {e:Expr} {ta:TA} {p pos tpos:Pos} {elts:List Expr} {kk:Nat} (hg:Gl X "enumerate") (hm:X.mg "enumerate"=none) (ha:PA X [e] ta) (hs:starEach [e] X.env=[(false,eval e X.env)]:=by rfl) :
    PI X (.Tuple elts kk tpos) (.Call (.Name "enumerate" p) [e] [] pos) (iEnum X.K ta):=by
  intro pins s σ H R I h
  refine Call_ (Φk I hg hm boot_enumerate (PyProof.Rows.callWith_type1 (thn (ha pos pins s σ H _ I h) fun us s1 ⟨vs,H1,I1,r1,q1⟩=>?_) hs rfl))
  obtain ⟨a,xs,ex,hq,q⟩:=q1
  subst ex
  cases r1 with
  | cons r rr =>
    cases rr
    cases r
    obtain ⟨its,rv,p',hz⟩:=I1.list hq
    refine call_enumerate_list p'.isList fun h' he hit hsz hk=>wpAny_pyIter_enum he ?_
    have I2:Inv X pins σ H1 {s1 with heap:=h'}:=I1.kept (t':=s1.toks) hk
    refine ⟨s1.heap.objs.size+1,[s1.heap.objs.size+1,s1.heap.objs.size],_,_,H1,rfl,I2,turn_enum a (s1.heap.objs.size+1) s1.heap.objs.size,⟨⟨.none,he⟩,hit,Nat.succ_ne_self _⟩,fun b hb=>?_,q⟩
    have e':b=s1.heap.objs.size+1∨b=s1.heap.objs.size:=by simpa using hb
    have hle:s1.heap.objs.size≤b:=by
      rcases e' with z | z
      · rw [z]; exact Nat.le_add_right _ _
      · rw [z]; exact Nat.le_refl _
    exact I1.fpOk hle (I1.hok.fresh hle)
end L2
section
namespace Bits
open PySem PyProof.Rows
end Bits
end
section
namespace TL
open PySem PySem.Builtin PySem.Builtin.Str PySem.StrLaws
end TL
end
namespace L2
open PySem PySem.Spec PyProof.Rows
section
variable {X:Cx} {pins:List (Addr×Obj)} {σ:St} {H:Hp} {s:Shared} {Q:VK}
end
section
variable {X:Cx}
end
section
variable {X:Cx} {o e:Expr} {to te:TE}
end
end L2
namespace L2
open PySem PySem.Spec PyProof.Rows
section
variable {X:Cx}
end
end L2
namespace Att
open PySem PySem.W PySem.Calls PyProof.Rows
theorem ints_of_wellAll {P:Params} {h:Heap}:∀ (ns:List Int) (vs:List Value),WellAll P h vs (ns.map WData.int)→IntsAre vs ns:=by
  intro ns
  induction ns with
  | nil =>
    intro vs w
    rw [List.map_nil] at w
    cases w
    exact .nil
  | cons n ns ih =>
    intro vs w
    rw [List.map_cons] at w
    cases w with
    | cons a b =>
      cases a
      exact .cons _ _ (ih _ b)
section
variable {prog:Program} {w:World} {A:Around} {E:Value→Shared→Prop} {s:Shared} {K:Frag}
end
end Att
namespace L2
open PySem PySem.Spec PyProof.Rows
theorem vals_ints:∀ {vs:List Value} {ns:List Int},IntsAre vs ns→τ2 (ns.map V.int) vs
  | _,_,.nil=>.nil
  | _,_,.cons n t h=>.cons ⟨t,rfl⟩ (vals_ints h)
noncomputable def Only (H:Hp):Prop:=∀ b,H b=none∨∃ o xs,H b=some (.frz o (.lst xs))
end L2
namespace L2
open PySem PySem.Spec PyProof.Rows
end L2
namespace L2
open PySem PySem.Spec PyProof.Rows
structure Fun (K:PySem.W.Frag) (x qual:Str) (st:Stmt) (f:Addr) (fd:FuncData):Prop where
  ex:∃ (oc:Value) (od:Option Addr) (kV doc pm:Value) (an:Option Addr) (cdv ct:Value) (osl:Array (Option Value)),
    fd=PySem.W.fnOf x qual (Φd st) (θ7 st) (ξ st) .none kV doc pm an cdv ct∧K.lookup f=some ⟨oc,od,.func fd,osl⟩∧PySem.W.codeIn K cdv qual=true
  kp:PySem.W.keepIn K (.ref f)=true
section
variable {P:Program} {w:World} {K:PySem.W.Frag} {mg:Str→Option Value} {base:Heap}
theorem Fun.binds {x qual:Str} {st:Stmt} {f:Addr} {fd:FuncData} {ps:List Str} (F:Fun K x qual st f fd)
    (h:∀ (kV doc pm:Value) (an:Option Addr) (cdv ct:Value) (us:List Value),us.length=ps.length→bindArgs (PySem.W.fnOf x qual (Φd st) (θ7 st) (ξ st) .none kV doc pm an cdv ct) ⟨us,[]⟩=pure (ps.zip us)):ιe K fd ps []:=by
  obtain ⟨oc,od,kV,doc,pm,an,cdv,ct,osl,rfl,lk,hcd⟩:=F.ex
  exact .all (h kV doc pm an cdv ct)
end
section
variable {X:Cx}
theorem pv (i:Nat) {x:Str} {pos:Pos} (hN:X.N[i]?=some x:=by rfl) (hv:Vis X.env.scope x:=by first | exact Or.inl rfl | exact Or.inr (Or.inl rfl) | exact Or.inr (Or.inr rfl)) (hd:(x == ("__debug__":Str))=false:=by decide)
    (hcd:(x == ("__classdict__":Str))=false:=by decide):PE X (.Name x pos) (φ2 i):=pe_var hN hv hd hcd
end
theorem Γ9 {A B:Prop} (h:B):if false=true then A else B:=by
  rw [if_neg Bool.false_ne_true]
  exact h
theorem τc {A B:Prop} (h:A):if true=true then A else B:=by
  rw [if_pos rfl]
  exact h
noncomputable def Δ7 (H H':Hp):Prop:=∀ b o,H b=some o→H' b=some o
section
variable {κ:Type} [DecidableEq κ]
end
end L2
namespace BX
open PySem
noncomputable def Flies (h:Heap) (x:Addr) (cl:Value) (d:Option Addr):Option Addr→Prop
  | none=>∃ oe vs,h.get? x=some oe∧oe.cls=cl∧oe.dict=d∧oe.data=.fields vs∧vs[1]?=some .none
  | some T=>∃ oe vs oT ts,h.get? x=some oe∧oe.cls=cl∧oe.dict=d∧oe.data=.fields vs∧vs[1]?=some (.ref T)∧T≠x∧h.get? T=some oT∧oT.data=.fields ts∧ts[3]?=some .none
theorem Flies.obj {h:Heap} {x:Addr} {cl:Value} {d:Option Addr} {tb:Option Addr} (f:Flies h x cl d tb):∃ oe vs,h.get? x=some oe∧oe.cls=cl∧oe.dict=d∧oe.data=.fields vs:=by
  cases tb with
  | none=>obtain ⟨oe,vs,h1,h2,h3,h4,_⟩:=f; exact ⟨oe,vs,h1,h2,h3,h4⟩
  | some T=>obtain ⟨oe,vs,_,_,h1,h2,h3,h4,_⟩:=f; exact ⟨oe,vs,h1,h2,h3,h4⟩
theorem mf_cls (f:Array Value→Array Value) (o:Obj):(Obj.mapFields f o).cls=o.cls:=Obj.cls_mapFields o f
theorem mf_dict (f:Array Value→Array Value) (o:Obj):(Obj.mapFields f o).dict=o.dict:=by
  unfold Obj.mapFields
  split <;> rfl
section
variable {M:Model} {A:Around} {E:Value→Shared→Prop} {s:Shared}
theorem entry_ok {base:Heap} {env:Env} {outer:List Env} {L x:Addr} {ob:Obj} {fl:Array Value} {hd:Value} {nx:Bool} {cl:Value} {dd:Option Addr} {Q:Unit→Shared→Prop}
    (hA:A.frames=some (env::outer)) (hF:s.heap.FunFrames base (env::outer)) (hL:env.frame=some L)
    (hx:s.heap.get? x=some ob) (hc:ob.cls=cl) (hdd:ob.dict=dd) (hv:ob.data=.fields fl) (h1:1 < fl.size)
    (k:∀ h' T,Flies h' x cl dd (some T)→s.heap.objs.size≤T→(∀ b o,s.heap.get? b=some o→b≠x→b∉(env::outer).filterMap (·.frame)→h'.get? b=some o) →
      (∀ b o,s.heap.get? b=some o→b≠x→∃ sl,h'.get? b=some {o with slots:=sl})→Q () {s with heap:=h'}) :
    wpAny M A (do let a ← frameOf env; let pl ← entryPlaceOf L nx; let b ← EntryCells.newEntry hd a .none (rawInt L) .none pl; setField (.ref x) 1 b)
      (fun _ s'=>wpAny M A (setFlight (.ref x) none) Q E s') E s:=by
  have xout:x∉(env::outer).filterMap (·.frame):=fun hm=>by
    obtain ⟨_,o,ho,no⟩:=hF.mem hm
    have e:=Option.some.inj (hx.symm.trans ho)
    subst e
    exact no fl hv
  refine wpAny_bind (wpAny_frameOf_fun hA hF hL fun g hg=>?_)
  refine wpAny_bind (wpAny_entryPlaceOf fun pl hp=>?_)
  unfold EntryCells.newEntry newFields
  refine wpAny_bind (wpAny_newObj_type ?_ (hp.sizeOk5 _ _ _ _ _))
  generalize hts:([hd,.ref L,.none,rawInt L,.none]++(if pl.isEmpty then List.replicate 6 Value.none else pl)).toArray=ts
  have hts5:5≤ts.size:=by
    rw [← hts]
    simp only [List.size_toArray,List.length_append,List.length_cons,List.length_nil]
    omega
  have gx:g.get? x=some ob:=(hg.2.1 x xout).trans hx
  have gn:x≠g.objs.size:=Nat.ne_of_lt (Heap.lt_size gx)
  have px:=Heap.get?_push_of_some (h:=g) {cls:=.type "traceback",dict:=none,data:=.fields ts} gx
  refine wpAny_setField px hv h1 ?_
  have qv:=Obj.data_mapFields hv (·.setIfInBounds 1 (Value.ref g.objs.size))
  have qx:=Heap.get?_update_self (Obj.mapFields (·.setIfInBounds 1 (Value.ref g.objs.size))) px (Obj.isFreed_of_fields qv)
  have qT:=(Heap.get?_update_other (g.push {cls:=.type "traceback",dict:=none,data:=.fields ts}) (Obj.mapFields (·.setIfInBounds 1 (Value.ref g.objs.size))) gn).trans (Heap.get?_push_size g rfl)
  unfold setFlight
  refine wpAny_bind (wpAny_field qx qv (x:=.ref g.objs.size) (by simp [h1]) ?_)
  rw [if_pos (show (Value.ref g.objs.size != Value.none)=true from by simp)]
  refine wpAny_setField qT rfl (by omega) ?_
  have keeps:∀ b o,b≠x→g.get? b=some o→(((g.push {cls:=.type "traceback",dict:=none,data:=.fields ts}).update x (Obj.mapFields (·.setIfInBounds 1 (Value.ref g.objs.size)))).update g.objs.size
      (Obj.mapFields (·.setIfInBounds 3 ((none:Option Addr).elim Value.none fun f=>rawInt f)))).get? b=some o:=fun b o nb hb=>by
    rw [Heap.get?_update_other _ _ (Nat.ne_of_gt (Heap.lt_size hb)),Heap.get?_update_other _ _ (Ne.symm nb)]
    exact Heap.get?_push_of_some _ hb
  refine k _ g.objs.size ?_ (Nat.le_of_eq hg.1.symm) (fun b o hb nb nf=>keeps b o nb ((hg.2.1 b nf).trans hb)) (fun b o hb nb=>?_)
  · refine ⟨_,_,_,_,?_,?_,?_,qv,by simp [h1],Ne.symm gn,Heap.get?_update_self _ qT (Obj.isFreed_of_fields (Obj.data_mapFields rfl _)),Obj.data_mapFields rfl _,?_⟩
    · rw [Heap.get?_update_other _ _ (Ne.symm gn)]
      exact qx
    · rw [mf_cls]; exact hc
    · rw [mf_dict]; exact hdd
    · rw [Array.getElem?_setIfInBounds_self_of_lt (by omega)]
      rfl
  · obtain ⟨sl,hs⟩:=hg.2.2 b o hb
    exact ⟨sl,keeps b _ nb hs⟩
theorem note_ok {base:Heap} {env:Env} {outer:List Env} {L x:Addr} {cl:Value} {dd tb:Option Addr} {Q:Unit→Shared→Prop}
    (hA:A.frames=some (env::outer)) (hF:s.heap.FunFrames base (env::outer)) (hL:env.frame=some L) (fx:Flies s.heap x cl dd tb)
    (k:∀ h' T,Flies h' x cl dd (some T)→s.heap.objs.size≤T→(∀ b o,s.heap.get? b=some o→b≠x→some b≠tb→b∉(env::outer).filterMap (·.frame)→h'.get? b=some o) →
      (∀ b o,s.heap.get? b=some o→b≠x→some b≠tb→∃ sl,h'.get? b=some {o with slots:=sl})→(∀ b o,s.heap.get? b=some o→∃ o',h'.get? b=some o')→Q () {s with heap:=h'}) :
    wpAny M A (noteFrame (.ref x) env) (fun _ s'=>wpAny M A (setFlight (.ref x) none) Q E s') E s:=by
  unfold noteFrame
  simp only [hL]
  cases tb with
  | none =>
    obtain ⟨oe,vs,h1,h2,h3,h4,h5⟩:=fx
    refine wpAny_bind (wpAny_field h1 h4 h5 ?_)
    rw [if_neg (by decide)]
    exact entry_ok hA hF hL h1 h2 h3 h4 (Array.getElem?_eq_some_iff.mp h5).1 fun h' T f z k1 k2=>k h' T f z (fun b o hb nb _ nf=>k1 b o hb nb nf) (fun b o hb nb _=>k2 b o hb nb) fun b o hb=>by
      by_cases e:b=x
      · obtain ⟨ob,_,q,_⟩:=f.obj
        exact ⟨ob,by rw [e]; exact q⟩
      · obtain ⟨sl,q⟩:=k2 b o hb e
        exact ⟨_,q⟩
  | some T =>
    obtain ⟨oe,vs,oT,ts,h1,h2,h3,h4,h5,h6,h7,h8,h9⟩:=fx
    refine wpAny_bind (wpAny_field h1 h4 h5 ?_)
    rw [if_pos (show (Value.ref T != Value.none)=true from by simp)]
    refine wpAny_bind (wpAny_field h7 h8 h9 ?_)
    rw [if_neg (show ¬ ((Value.none == rawInt L)=true) from by simp [rawInt])]
    refine wpAny_bind (wpAny_setField h7 h8 (Array.getElem?_eq_some_iff.mp h9).1 ?_)
    have out:∀ b,b≠T→(s.heap.update T (Obj.mapFields (·.setIfInBounds 3 Value.none))).get? b=s.heap.get? b:=fun b nb=>Heap.get?_update_other _ _ (Ne.symm nb)
    have nrec:∀ b o,s.heap.get? b=some o→(∀ vs,o.data≠.fields vs)→b≠T:=fun b o hb no z=>by
      rw [z,h7] at hb
      cases hb
      exact no ts h8
    refine entry_ok hA (hF.of_keeps fun b o hb no=>⟨o,(out b (nrec b o hb no)).trans hb,rfl⟩) hL ((out x (Ne.symm h6)).trans h1) h2 h3 h4 (Array.getElem?_eq_some_iff.mp h5).1 fun h' T' f z k1 k2=>?_
    rw [Heap.size_after_update] at z
    exact k h' T' f z (fun b o hb nb nt nf=>k1 b o ((out b fun e=>nt (by rw [e])).trans hb) nb nf) (fun b o hb nb nt=>k2 b o ((out b fun e=>nt (by rw [e])).trans hb) nb) fun b o hb=>by
      by_cases e:b=x
      · obtain ⟨ob,_,q,_⟩:=f.obj
        exact ⟨ob,by rw [e]; exact q⟩
      · by_cases eT:b=T
        · subst eT
          obtain ⟨sl,q⟩:=k2 b _ (Heap.get?_update_self _ h7 (Obj.isFreed_of_fields (Obj.data_mapFields h8 _))) e
          exact ⟨_,q⟩
        · obtain ⟨sl,q⟩:=k2 b o ((out b eT).trans hb) e
          exact ⟨_,q⟩
theorem leave_ok {base:Heap} {env:Env} {outer:List Env} {L x:Addr} {cl:Value} {dd tb:Option Addr} {Q:Unit→Shared→Prop}
    (hA:A.frames=some (env::outer)) (hF:s.heap.FunFrames base (env::outer)) (hL:env.frame=some L) (fx:Flies s.heap x cl dd tb)
    (k:∀ h' T,Flies h' x cl dd (some T)→s.heap.objs.size≤T→(∀ b o,s.heap.get? b=some o→b≠x→some b≠tb→b∉(env::outer).filterMap (·.frame)→h'.get? b=some o) →
      (∀ b o,s.heap.get? b=some o→b≠x→some b≠tb→∃ sl,h'.get? b=some {o with slots:=sl})→Q () {s with heap:=h'}) :
    wpAny M A (leaving env (.ref x)) Q E s:=by
  unfold leaving
  exact wpAny_bind (note_ok hA hF hL fx fun h' T f z k1 k2 _=>k h' T f z k1 k2)
theorem flight_ok {x T:Addr} {cl:Value} {dd:Option Addr} {Q:Unit→Shared→Prop} (fx:Flies s.heap x cl dd (some T))
    (k:∀ h',Flies h' x cl dd (some T)→(∀ b o,s.heap.get? b=some o→b≠T→h'.get? b=some o)→h'.objs.size=s.heap.objs.size→Q () {s with heap:=h'}) :
    wpAny M A (setFlight (.ref x) none) Q E s:=by
  obtain ⟨oe,vs,oT,ts,h1,h2,h3,h4,h5,h6,h7,h8,h9⟩:=fx
  have z3:3 < ts.size:=(Array.getElem?_eq_some_iff.mp h9).1
  unfold setFlight
  refine wpAny_bind (wpAny_field h1 h4 h5 ?_)
  rw [if_pos (show (Value.ref T != Value.none)=true from by simp)]
  refine wpAny_setField h7 h8 z3 (k _ ?_ (fun b o hb nb=>(Heap.get?_update_other _ _ (Ne.symm nb)).trans hb) (Heap.size_after_update ..))
  refine ⟨oe,vs,_,_,(Heap.get?_update_other _ _ h6).trans h1,h2,h3,h4,h5,h6,Heap.get?_update_self _ h7 (Obj.isFreed_of_fields (Obj.data_mapFields h8 _)),Obj.data_mapFields h8 _,?_⟩
  rw [Array.getElem?_setIfInBounds_self_of_lt z3]
  rfl
end
end BX
namespace BX
open PySem
noncomputable abbrev bmE:List Value:=[.type "Exception",.type "BaseException",.type "object"]
noncomputable def ECls (h:Heap) (C:Addr):Prop:=∃ nm q N bs hdct sn sub ab col dd k0 k1 k2 k3 k5,h.get? C=some (excClassObj nm q C N bs bmE hdct sn sub ab col dd k0 k1 k2 k3 k5 "Exception.__new__")
section
variable {M:Model} {A:Around} {E:Value→Shared→Prop} {env:Env} {s:Shared}
theorem raise_rest {C:Addr} {x:Sem Value} {Q:Flow→Shared→Prop} (hh:A.handled=none)
    (h:wpAny M A x (fun v s1=>∃ e d,v=.ref e∧ECls s1.heap C∧Flies s1.heap e (.ref C) d none∧E (.ref e) s1) E s):wpAny M A (raiseStmt env (some x) none) Q E s:=by
  unfold raiseStmt
  refine wpAny_bind (wpAny_mono h (fun v s1 z=>?_) fun _ _ y=>y)
  obtain ⟨e,d,rfl,⟨nm,q,N,bs,hdct,sn,sub,ab,col,dd,k0,k1,k2,k3,k5,hC⟩,⟨oe,vs,he,hc,hdd,hd,h1⟩,hE⟩:=z
  have hcB:(Value.ref C::bmE).contains (.type "BaseException")=true:=by simp [bmE]
  obtain ⟨hp,gg,dr,tk,os⟩:=s1
  obtain ⟨oc,od,oda,osl⟩:=oe
  dsimp only at hc hd hdd
  subst hc hd hdd
  repeat (first | with_reducible refine wpAny_loadPart_at he ?_ | with_reducible refine wpAny_loadPart_at hC ?_ | (with_reducible refine wpAny_isSubtype_exc hC ?_; rw [hcB]) | wp_step)
  rw [h1]
  refine wpAny_pure ?_
  rw [if_neg (by decide)]
  exact wpAny_pure (wpAny_raiseNew_none hh hE)
theorem match_own {C C' e:Addr} {oe:Obj} {Q:Bool→Shared→Prop} (c:ECls s.heap C) (c':ECls s.heap C') (he:s.heap.get? e=some oe) (hc:oe.cls=.ref C) (q:Q (decide (C'=C)) s) :
    wpAny M A (excMatches (.ref e) (.ref C')) Q E s:=by
  obtain ⟨nm,qn,N,bs,hdct,sn,sub,ab,col,dd,k0,k1,k2,k3,k5,hC⟩:=c
  obtain ⟨nm',qn',N',bs',hdct',sn',sub',ab',col',dd',k0',k1',k2',k3',k5',hC'⟩:=c'
  have b1:(Value.ref C'::bmE).contains (.type "BaseException")=true:=by simp [bmE]
  have b2:(Value.ref C::bmE).contains (.ref C')=decide (C'=C):=by
    by_cases z:C'=C
    · subst z; simp [bmE]
    · simp [bmE,z]
  have f:=tc_notTuple
  obtain ⟨hp,gg,dr,tk,os⟩:=s
  unfold excMatches
  repeat (first | (with_reducible refine wpAny_loadPart_at he ?_; rw [hc]) | with_reducible refine wpAny_loadPart_at hC' ?_ | (with_reducible refine wpAny_isSubtype_exc hC' ?_; rw [b1]) | (with_reducible refine wpAny_isSubtype_exc hC ?_; rw [b2]) | wp_step)
  by_cases z:C'=C
  · simp only [z,decide_true] at q ⊢
    repeat (first | exact q | wp_step)
  · simp only [z,decide_false] at q ⊢
    repeat (first | exact q | wp_step)
end
section
variable {prog:Program} {w:World} {A:Around} {E:Value→Shared→Prop} {s:Shared}
theorem init_call {C e t:Addr} {od:Option Addr} {sl:Array (Option Value)} {Q:Value→Shared→Prop} (c:ECls s.heap C)
    (he:s.heap.get? e=some {cls:=.ref C,dict:=od,data:=.fields #[.ref t,.none,.none,.none,.bool false,.none],slots:=sl})
    (q:∀ h',h'.get? e=some {cls:=.ref C,dict:=od,data:=.fields #[.ref s.heap.objs.size,.none,.none,.none,.bool false,.none],slots:=sl} →
      (∀ b o,b≠e→s.heap.get? b=some o→h'.get? b=some o)→s.heap.objs.size≤h'.objs.size→Q .none {s with heap:=h'}) :
    wpAny (model prog w) A (call (.builtin "Exception.__init__") [.ref e]) Q E s:=by
  obtain ⟨nm,qn,N,bs,hdct,sn,sub,ab,col,dd,k0,k1,k2,k3,k5,hC⟩:=c
  have F:=PySem.F.excBase_Exception
  obtain ⟨hp,gg,dr,tk,os⟩:=s
  refine wpAny_call (codeAny_call_builtin F.init.plain F.initEntry (wpAny_check_init_subU F OwnTail.base hC he rfl ?_))
  wp_walk
  refine q _ ?_ (fun b o nb hb=>?_) ?_
  · rw [Heap.get?_update_self _ (Heap.get?_push_of_some _ he) rfl]
    rfl
  · rw [Heap.get?_update_other _ _ (Ne.symm nb)]
    exact Heap.get?_push_of_some _ hb
  · rw [Heap.size_after_update,Heap.size_push]
    exact Nat.le_succ _
end
end BX
namespace BX
open PySem PySem.Builtin PySem.Builtin.ObjectAttr
noncomputable def ENs (h:Heap) (C:Addr) (mN:Str→Option Value):Prop :=
  ∃ nm q N bs sn sub ab col dd k0 k1 k2 k3 k5,h.get? C=some (excClassObj nm q C N bs bmE true sn sub ab col dd k0 k1 k2 k3 k5 "Exception.__new__")∧h.Ns N mN
theorem ENs.cls {h:Heap} {C:Addr} {mN:Str→Option Value} (x:ENs h C mN):ECls h C:=by
  obtain ⟨nm,q,N,bs,sn,sub,ab,col,dd,k0,k1,k2,k3,k5,e,_⟩:=x
  exact ⟨nm,q,N,bs,true,sn,sub,ab,col,dd,k0,k1,k2,k3,k5,e⟩
section
variable {prog:Program} {w:World} {A:Around} {E:Value→Shared→Prop} {s:Shared}
theorem xs_entry {C x:Addr} {mN:Str→Option Value} {name:Str} {v:Value} {ob:Obj} {fl:Array Value} {tk:Tok} {Q:Fin→Shared→Prop} (c:ENs s.heap C mN) (hna:mN name=none)
    (hB:typeLookup (.type "Exception") name=pure none) (hx:s.heap.get? x=some ob) (hc:ob.cls=.ref C) (hv:ob.data=.fields fl) (hdn:ob.dict=none)
    (k:∀ h' tk,h'.get? x=some {ob with dict:=some s.heap.objs.size}→h'.Ns1 s.heap.objs.size (fun y=>if y=name then some v else none) →
      (∀ b o,b≠x→s.heap.get? b=some o→h'.get? b=some o)→Q (.done (.ret .none)) {s with heap:=h',toks:=tk}) :
    wpAny (model prog w) A (Builtin.«object.__setattr__» ⟨[.ref x,.str name tk,v],[]⟩) Q E s:=by
  obtain ⟨nm,q,N,bs,sn,sub,ab,col,dd,k0,k1,k2,k3,k5,hC,hn⟩:=c
  have SF:=PySem.F.store_Exception
  obtain ⟨hp,gg,dr,tks,os⟩:=s
  have pass:=SF.passes (.ref x)
  have L0:PySem.W.Looks (model prog w) hp (typeOf (.ref x)) (.ref C):=by
    have z:=(PySem.W.Looks.ld (M:=model prog w) (part:=some headPart) hx).andThen (f:=fun o=>pure o.cls) .now
    rw [hc] at z
    exact z
  rw [PySem.W.osa_eq,refuse_eq]
  refine wpAny_bind (wpAny_bind (L0.here (wpAny_bind (wpAny_mroOf_exc hC ?_))))
  rw [refuseLoop_ref,pass]
  refine wpAny_pure (wpAny_bind (L0.here (wpAny_bind (wpAny_typeLookup_exc hC hn SF.mro hB ?_))))
  rw [hna]
  refine wpAny_bind (wpAny_pure ?_)
  show wpAny _ _ (storeInOwnDict (.ref x) (.ref C) (.str name tk) name v _) _ _ _
  obtain ⟨oc,odi,oda,osl⟩:=ob
  dsimp only at hc hv hdn
  subst hc hv hdn
  refine wpAny_bind (wpAny_pure (wpAny_bind (wpAny_bind (wpAny_loadPart hx (wpAny_bind (wpAny_bind (wpAny_load hC (wpAny_pure ?_))))))))
  dsimp only
  rw [if_neg (by decide),if_neg (by simp [typeHasDict])]
  have x1:(hp.push {cls:=.type "dict",data:=.dict #[]}).get? x=some _:=Heap.get?_push_of_some _ hx
  have nx:x≠hp.objs.size:=Nat.ne_of_lt (Heap.lt_size hx)
  refine wpAny_bind (wpAny_alloc' ?_)
  refine wpAny_bind (wpAny_update' x1 ?_)
  refine wpAny_pure ?_
  have gd:((hp.push {cls:=.type "dict",data:=.dict #[]}).update x fun o=>{cls:=o.cls,dict:=some hp.objs.size,data:=o.data,slots:=o.slots}).get? hp.objs.size=some {cls:=.type "dict",data:=.dict #[]} :=
    (Heap.get?_update_ne _ _ _ _ nx.symm).trans (Heap.get?_push_at rfl rfl)
  have nd:((hp.push {cls:=.type "dict",data:=.dict #[]}).update x fun o=>{cls:=o.cls,dict:=some hp.objs.size,data:=o.data,slots:=o.slots}).Ns hp.objs.size (fun _=>none) :=
    ⟨_,#[],_,gd,rfl,fun e he=>absurd he (by simp),fun _=>rfl⟩
  show wpAny _ _ (storeInDict hp.objs.size (.str name _) name v) _ _ _
  unfold storeInDict newKeyGuard
  refine wpAny_bind (wpAny_pure (wpAny_bind (wpAny_nsSet1 (Heap.Ns1.of_empty nd) fun h' n1 s1=>?_)))
  obtain ⟨oD,eD,pD,g1,g2,g3⟩:=n1.count (Within.cons name v Within.nil)
  refine wpAny_bind (wpAny_lookBehind g1 (by rw [g2]; exact pastItsLine_dict (Nat.le_trans g3 (by rw [List.length_cons,List.length_nil,sizeLine_eq]; omega))) ?_)
  refine wpAny_pure (k h' _ ?_ n1 (fun b o nb hb=>?_))
  · exact (s1.2 x nx).trans (Heap.get?_update_self _ x1 rfl)
  · exact (s1.2 b (Nat.ne_of_lt (Heap.lt_size hb))).trans ((Heap.get?_update_ne _ _ _ _ nb).trans (Heap.get?_push_of_some _ hb))
theorem xs_call {C x:Addr} {mN:Str→Option Value} {name:Str} {v:Value} {ob:Obj} {fl:Array Value} {tk:Tok} {R:Result→Shared→Prop} (c:ENs s.heap C mN) (hna:mN name=none)
    (hB:typeLookup (.type "Exception") name=pure none) (hx:s.heap.get? x=some ob) (hc:ob.cls=.ref C) (hv:ob.data=.fields fl) (hdn:ob.dict=none)
    (k:∀ h' tk,h'.get? x=some {ob with dict:=some s.heap.objs.size}→h'.Ns1 s.heap.objs.size (fun y=>if y=name then some v else none) →
      (∀ b o,b≠x→s.heap.get? b=some o→h'.get? b=some o)→R (.ok (.ret .none)) {s with heap:=h',toks:=tk}) :
    codeAny (model prog w) A (.call (.builtin "object.__setattr__") ⟨[.ref x,.str name tk,v],[]⟩) R s:=by
  have SF:=PySem.F.store_Exception
  obtain ⟨nm,q,N,bs,sn,sub,ab,col,dd,k0,k1,k2,k3,k5,hC,hn⟩:=id c
  obtain ⟨hp,gg,dr,tks,os⟩:=s
  refine codeAny_call_builtin SF.slot.plain SF.entry ?_
  refine wpAny_check_sa (B:="Exception") (bm:=bmE) (sa:="object.__setattr__") (owner:="object") (h:=hp) (g:=gg) (d:=dr) (t:=tks) (os:=os) (x:=x) (C:=C) (nameV:=.str name tk) (v:=v) SF hC hx hc ?_
  refine xs_entry c hna hB hx hc hv hdn fun h' tk z1 z2 z3=>?_
  exact k h' tk z1 z2 z3
theorem xstore {C x:Addr} {mN:Str→Option Value} {name:Str} {v:Value} {ob:Obj} {fl:Array Value} {Q:Unit→Shared→Prop} (c:ENs s.heap C mN) (hns:mN "__setattr__"=none) (hna:mN name=none)
    (hB:typeLookup (.type "Exception") name=pure none) (hx:s.heap.get? x=some ob) (hc:ob.cls=.ref C) (hv:ob.data=.fields fl) (hdn:ob.dict=none)
    (k:∀ h' tk,h'.get? x=some {ob with dict:=some s.heap.objs.size}→h'.Ns1 s.heap.objs.size (fun y=>if y=name then some v else none) →
      (∀ b o,b≠x→s.heap.get? b=some o→h'.get? b=some o)→Q () {s with heap:=h',toks:=tk}) :
    wpAny (model prog w) A (setAttr (.ref x) name v) Q E s:=by
  have SF:=PySem.F.store_Exception
  obtain ⟨nm,q,N,bs,sn,sub,ab,col,dd,k0,k1,k2,k3,k5,hC,hn⟩:=id c
  obtain ⟨hp,gg,dr,tks,os⟩:=s
  have L0:PySem.W.Looks (model prog w) hp (typeOf (.ref x)) (.ref C):=by
    have z:=(PySem.W.Looks.ld (M:=model prog w) (part:=some headPart) hx).andThen (f:=fun o=>pure o.cls) .now
    rw [hc] at z
    exact z
  refine wpAny_bind (wpAny_mkText (wpAny_bind (wpAny_bind (wpAny_bind (L0.here (wpAny_typeLookup_exc hC hn SF.mro SF.slot.lookup ?_))))))
  rw [hns]
  refine wpAny_holding ?_
  rw [SF.slot.bind]
  refine wpAny_bind (wpAny_pure (wpAny_bind (wpAny_call (xs_call (s:=⟨hp,gg,dr,tks+1,os⟩) c hna hB hx hc hv hdn fun h' tk z1 z2 z3=>?_))))
  exact wpAny_pure (wpAny_pure (k h' tk z1 z2 z3))
end
end BX
namespace BX
open PySem PySem.Builtin PySem.Builtin.ObjectAttr
section
variable {prog:Program} {w:World} {A:Around} {E:Value→Shared→Prop} {h:Heap} {g:Array GenState} {d:Drawn} {t:Nat} {os:OsState} {a dx:Addr} {o:Obj} {fl:Array Value}
  {nm q:Str} {C N:Addr} {bs:List Value} {sn:List Str} {sub:List Value} {ab:Bool} {col:Option Bool} {dd:Option Addr} {k0 k1 k2 k3 k5:Option Value} {mN mA:Str→Option Value} {name:Str} {v:Value}
theorem xl_entry {tk:Tok} {Q:Fin→Shared→Prop} (hC:h.get? C=some (excClassObj nm q C N bs bmE true sn sub ab col dd k0 k1 k2 k3 k5 "Exception.__new__")) (hN:h.Ns N mN) (hna:mN name=none)
    (hB:typeLookup (.type "Exception") name=pure none) (hx:h.get? a=some o) (hc:o.cls=.ref C) (hd:o.data=.fields fl) (hdx:o.dict=some dx) (hA:h.Ns1 dx mA) (hv:mA name=some v)
    (k:Q (.done (.ret v)) ⟨h,g,d,t,os⟩):wpAny (model prog w) A (Builtin.«object.__getattribute__» ⟨[.ref a,.str name tk],[]⟩) Q E ⟨h,g,d,t,os⟩:=by
  have FB:=PySem.F.attrBase_Exception
  obtain ⟨oc,od,oda,osl⟩:=o
  dsimp only at hc hd hdx
  subst hc hd hdx
  repeat (any_goals (first | assumption | with_reducible refine wpAny_loadPart_at hx ?_ | with_reducible refine wpAny_loadPart_at hC ?_ | (with_reducible refine wpAny_typeLookup_exc hC hN FB.mro hB ?_; rw [hna]) | (with_reducible refine wpAny_nsGet hA.ns ?_; rw [hv]) | wp_step))
theorem xl_check {M:Model} {nameV:Value} {Q:Unit→Shared→Prop} (hC:h.get? C=some (excClassObj nm q C N bs bmE true sn sub ab col dd k0 k1 k2 k3 k5 "Exception.__new__"))
    (hx:h.get? a=some o) (hc:o.cls=.ref C) (k:Q () ⟨h,g,d,t,os⟩):wpAny M A (checkBuiltinCall "BaseException.__getattribute__" ⟨[.ref a,nameV],[]⟩) Q E ⟨h,g,d,t,os⟩ :=
  wpAny_check_ga_own (B:="Exception") (bmB:=bmE) (bm:=bmE) (h:=h) (g:=g) (d:=d) (t:=t) (os:=os) (a:=a) (C:=C) (nameV:=nameV) PySem.F.attrBase_Exception hC OwnTailQ.base hx hc k
theorem xl_call {tk:Tok} {R:Result→Shared→Prop} (hC:h.get? C=some (excClassObj nm q C N bs bmE true sn sub ab col dd k0 k1 k2 k3 k5 "Exception.__new__")) (hN:h.Ns N mN) (hna:mN name=none)
    (hB:typeLookup (.type "Exception") name=pure none) (hx:h.get? a=some o) (hc:o.cls=.ref C) (hd:o.data=.fields fl) (hdx:o.dict=some dx) (hA:h.Ns1 dx mA) (hv:mA name=some v)
    (k:R (.ok (.ret v)) ⟨h,g,d,t,os⟩):codeAny (model prog w) A (.call (.builtin "BaseException.__getattribute__") ⟨[.ref a,.str name tk],[]⟩) R ⟨h,g,d,t,os⟩:=by
  refine codeAny_call_builtin PySem.F.attrBase_Exception.ga.plain F.entry_bexc_ga ?_
  refine xl_check (nameV:=.str name tk) hC hx hc ?_
  refine xl_entry hC hN hna hB hx hc hd hdx hA hv ?_
  exact k
theorem xl_by {tk:Tok} {fill expr:Bool} {Q:Value→Shared→Prop} (hC:h.get? C=some (excClassObj nm q C N bs bmE true sn sub ab col dd k0 k1 k2 k3 k5 "Exception.__new__")) (hN:h.Ns N mN) (hna:mN name=none)
    (hga:mN "__getattribute__"=none) (hgb:mN "__getattr__"=none) (hB:typeLookup (.type "Exception") name=pure none) (hx:h.get? a=some o) (hc:o.cls=.ref C) (hd:o.data=.fields fl) (hdx:o.dict=some dx) (hA:h.Ns1 dx mA) (hv:mA name=some v)
    (hi:∃ i tt,v=Value.int i tt) (k:Q v ⟨h,g,d,t,os⟩):wpAny (model prog w) A (getAttrBy (.ref a) (.str name tk) fill expr) Q E ⟨h,g,d,t,os⟩:=by
  obtain ⟨i,tt,rfl⟩:=hi
  have FB:=PySem.F.attrBase_Exception
  have f3:=FB.ga.bind (.ref a)
  have e0:(expr && onTheHeap (Value.builtin "BaseException.__getattribute__"))=false:=by cases expr <;> rfl
  have e2:(Value.builtin "BaseException.__getattribute__" == Value.builtin "object.__getattribute__")=false:=by decide +kernel
  have e1:(onTheHeap (Value.ref C) && Value.builtin "BaseException.__getattribute__" == Value.builtin "object.__getattribute__")=false:=by rw [e2]; rfl
  repeat (any_goals (first | assumption | (with_reducible refine wpAny_loadPart_at hx ?_; rw [hc]) | (with_reducible refine wpAny_typeLookup_exc hC hN FB.mro FB.ga.lookup ?_; rw [hga]) | (with_reducible refine wpAny_typeLookup_exc hC hN FB.mro FB.noGetattr ?_; rw [hgb]) | wp_step))
  refine xl_call hC hN hna hB hx hc hd hdx hA hv ?_
  repeat (any_goals (first | assumption | wp_step))
theorem xload {expr:Bool} {Q:Value→Shared→Prop} (hC:h.get? C=some (excClassObj nm q C N bs bmE true sn sub ab col dd k0 k1 k2 k3 k5 "Exception.__new__")) (hN:h.Ns N mN) (hna:mN name=none)
    (hga:mN "__getattribute__"=none) (hgb:mN "__getattr__"=none) (hB:typeLookup (.type "Exception") name=pure none) (hx:h.get? a=some o) (hc:o.cls=.ref C) (hd:o.data=.fields fl) (hdx:o.dict=some dx) (hA:h.Ns1 dx mA) (hv:mA name=some v)
    (hi:∃ i tt,v=Value.int i tt) (k:Q v ⟨h,g,d,t+1,os⟩):wpAny (model prog w) A (getAttr (.ref a) name expr) Q E ⟨h,g,d,t,os⟩:=by
  unfold getAttr
  refine wpAny_bind (wpAny_mkText ?_)
  refine xl_by hC hN hna hga hgb hB hx hc hd hdx hA hv hi ?_
  exact k
end
end BX
namespace BM
open PySem PySem.Builtin
theorem nn (a:Nat):decide ((0:Int)≤(a:Int))=true:=decide_eq_true (Int.natCast_nonneg a)
theorem Ξ3 (a b:Nat):bitAnd (a:Int) (b:Int)=((a &&& b:Nat):Int):=by
  unfold bitAnd
  rw [nn,nn]
  simp
theorem not_not (x:Int):bitNot (bitNot x)=x:=by
  unfold bitNot
  omega
theorem τ3 (a b:Nat):bitOr (a:Int) (b:Int)=((a ||| b:Nat):Int):=by
  unfold bitOr bitAnd
  have h1:decide ((0:Int)≤bitNot (a:Int))=false:=decide_eq_false (by unfold bitNot; omega)
  have h2:decide ((0:Int)≤bitNot (b:Int))=false:=decide_eq_false (by unfold bitNot; omega)
  rw [h1,h2]
  simp only [not_not,Int.toNat_natCast]
theorem and_m2 (a b:Nat):(a &&& b)%2=(a%2)*(b%2):=by
  have h:(a &&& b)%2^1=(a%2^1) &&& (b%2^1):=Nat.and_mod_two_pow
  rw [Nat.pow_one] at h
  rw [h]
  rcases Nat.mod_two_eq_zero_or_one a with p | p <;> rcases Nat.mod_two_eq_zero_or_one b with q | q <;> rw [p,q] <;> rfl
theorem or_m2 (a b:Nat):(a ||| b)%2=a%2+b%2 - (a%2)*(b%2):=by
  have h:(a ||| b)%2^1=(a%2^1) ||| (b%2^1):=Nat.or_mod_two_pow
  rw [Nat.pow_one] at h
  rw [h]
  rcases Nat.mod_two_eq_zero_or_one a with p | p <;> rcases Nat.mod_two_eq_zero_or_one b with q | q <;> rw [p,q] <;> rfl
theorem xor_m2 (a b:Nat):(a ^^^ b)%2=(a%2+b%2)%2:=by
  have h:(a ^^^ b)%2^1=(a%2^1) ^^^ (b%2^1):=Nat.xor_mod_two_pow
  rw [Nat.pow_one] at h
  rw [h]
  rcases Nat.mod_two_eq_zero_or_one a with p | p <;> rcases Nat.mod_two_eq_zero_or_one b with q | q <;> rw [p,q] <;> rfl
theorem and_add_or (a b:Nat):(a &&& b)+(a ||| b)=a+b:=by
  apply Nat.strongRecOn (motive:=fun a=>∀ b,(a &&& b)+(a ||| b)=a+b) a
  intro a ih b
  rcases Nat.eq_zero_or_pos a with h | h
  · subst h; simp
  · have h1:=ih (a / 2) (by omega) (b / 2)
    have d1:(a &&& b) / 2=a / 2 &&& b / 2:=Nat.and_div_two
    have d2:(a ||| b) / 2=a / 2 ||| b / 2:=Nat.or_div_two
    have e1:(a &&& b)%2=(a%2)*(b%2):=and_m2 a b
    have e2:(a ||| b)%2=a%2+b%2 - (a%2)*(b%2):=or_m2 a b
    rcases Nat.mod_two_eq_zero_or_one a with p | p <;> rcases Nat.mod_two_eq_zero_or_one b with q | q <;> simp only [p,q] at e1 e2 <;> omega
theorem ρj (a b:Nat):(a ^^^ b)+(a &&& b)=(a ||| b):=by
  apply Nat.strongRecOn (motive:=fun a=>∀ b,(a ^^^ b)+(a &&& b)=(a ||| b)) a
  intro a ih b
  rcases Nat.eq_zero_or_pos a with h | h
  · subst h; simp
  · have h1:=ih (a / 2) (by omega) (b / 2)
    have d1:(a &&& b) / 2=a / 2 &&& b / 2:=Nat.and_div_two
    have d2:(a ||| b) / 2=a / 2 ||| b / 2:=Nat.or_div_two
    have d3:(a ^^^ b) / 2=a / 2 ^^^ b / 2:=Nat.xor_div_two
    have e1:(a &&& b)%2=(a%2)*(b%2):=and_m2 a b
    have e2:(a ||| b)%2=a%2+b%2 - (a%2)*(b%2):=or_m2 a b
    have e3:(a ^^^ b)%2=(a%2+b%2)%2:=xor_m2 a b
    rcases Nat.mod_two_eq_zero_or_one a with p | p <;> rcases Nat.mod_two_eq_zero_or_one b with q | q <;> simp only [p,q] at e1 e2 e3 <;> omega
theorem οj (a b:Nat):bitXor (a:Int) (b:Int)=((a ^^^ b:Nat):Int):=by
  unfold bitXor
  rw [τ3,Ξ3]
  have:=ρj a b
  omega
theorem ω9 {k a b:Nat} (h:b < 2^k):(a*2^k ||| b)=a*2^k+b:=by
  have:=Nat.two_pow_add_eq_or_of_lt h a
  rw [Nat.mul_comm] at this
  exact this.symm
theorem and_high {x k n:Nat} (h:x < 2^(k+n)):(x &&& (2^(k+n) - 2^k))=x / 2^k*2^k:=by
  have e:2^(k+n) - 2^k=(2^n - 1)*2^k:=by
    rw [Nat.pow_add,Nat.mul_comm (2^k) (2^n),Nat.sub_mul,Nat.one_mul]
  rw [e]
  have q:x / 2^k < 2^n:=by
    rw [Nat.div_lt_iff_lt_mul (Nat.two_pow_pos k),← Nat.pow_add,Nat.add_comm]
    exact h
  apply Nat.eq_of_testBit_eq
  intro i
  rw [Nat.testBit_and,Nat.testBit_mul_two_pow,Nat.testBit_mul_two_pow]
  by_cases hi:k≤i
  · rw [Nat.testBit_two_pow_sub_one,Nat.testBit_div_two_pow]
    have ei:i - k+k=i:=by omega
    rw [ei]
    simp only [hi,decide_true,Bool.true_and]
    by_cases hn:i - k < n
    · simp [hn]
    · have:x.testBit i=false:=Nat.testBit_lt_two_pow (Nat.lt_of_lt_of_le h (Nat.pow_le_pow_right (by decide) (by omega)))
      simp [this]
  · simp [hi]
theorem xor_top {w k:Nat} (h:w < 2^(k+1)):((w ^^^ 2^k:Nat):Int) - 2^k=if w < 2^k then (w:Int) else (w:Int) - 2^(k+1):=by
  have hx:=ρj w (2^k)
  have ha:=and_add_or w (2^k)
  have hb:(w &&& 2^k)=if w < 2^k then 0 else 2^k:=by
    split
    · rename_i q
      apply Nat.eq_of_testBit_eq
      intro i
      rw [Nat.testBit_and,Nat.testBit_two_pow,Nat.zero_testBit]
      by_cases e:k=i
      · subst e
        rw [Nat.testBit_lt_two_pow q]
        simp
      · simp [e]
    · rename_i q
      apply Nat.eq_of_testBit_eq
      intro i
      rw [Nat.testBit_and,Nat.testBit_two_pow]
      by_cases e:k=i
      · subst e
        have:w.testBit k=true:=by
          rw [Nat.testBit_eq_decide_div_mod_eq]
          have d:w / 2^k=1:=by
            refine Nat.div_eq_of_lt_le ?_ ?_
            · omega
            · rw [Nat.pow_succ] at h; omega
          rw [d]; rfl
        simp [this]
      · simp [e]
  have p2:(2:Int)^(k+1)=2*2^k:=by rw [Int.pow_succ]; omega
  have c:(((2^k:Nat)):Int)=(2:Int)^k:=by norm_cast
  rw [p2,← c]
  split at hb <;> rename_i q <;> simp only [q,if_true,if_false,ite_true,ite_false] <;> omega
end BM
namespace L2
open PySem PySem.Spec PyProof.Rows
noncomputable def CXI (P:Program) (w:World):CXT:=fun outer H s E e s'=>∃ (x d T:Addr) (C:Value) (H':Hp),e=.ref x∧BX.Flies s'.heap x C (some d) (some T)∧s.heap.get? x=none∧s.heap.get? T=none∧H' x=none∧H' T=none ∧
  s'.os=s.os∧AllBare s'.gens∧Un (frs outer) [] H H' s.heap s'.heap∧HOk P w H' s'.heap∧E C (some d) H'
section
variable {P:Program} {w:World} {K:PySem.W.Frag} {mg:Str→Option Value} {base:Heap} {N:List Str} {qual:Str} {scope:Scope} {f:Addr} {cd:Value} {A:Around} {outer:List Env} {s:Shared} {H:Hp} {E:XK}
noncomputable abbrev cxI (P:Program) (w:World) (K:PySem.W.Frag) (mg:Str→Option Value) (base:Heap) (N:List Str) (qual:Str) (scope:Scope) (f:Addr) (cd:Value) (A:Around) (outer:List Env) (s:Shared) (H:Hp) (E:XK):Cx :=
  cxOf (CXI P w) P w K mg base N qual scope f cd A outer s H E
theorem leaveI {pins:List (Addr×Obj)} {σ:St} {H':Hp} {s':Shared} {x d:Addr} {C:Value} {tb:Option Addr} (I:Inv (cxI P w K mg base N qual scope f cd A outer s H E) pins σ H' s')
    (fl:BX.Flies s'.heap x C (some d) tb) (hx:s.heap.get? x=none) (nx:H' x=none) (ht:∀ T,tb=some T→s.heap.get? T=none∧H' T=none) (hE:E C (some d) H') :
    (cxI P w K mg base N qual scope f cd A outer s H E).xe (.ref x) s':=by
  show wpAny (model P w) (A.deeper (envOfC qual scope s.heap.objs.size f cd)) (leaving (envOfC qual scope s.heap.objs.size f cd) (.ref x)) (fun _ s''=>CXI P w outer H s E (.ref x) s'') _ s'
  refine BX.leave_ok (base:=base) (outer:=outer) (L:=s.heap.objs.size) I.ok.frames I.stack rfl fl fun h' T' f' z k1 k2=>?_
  have old:∀ b o,s.heap.get? b=some o→b≠x∧some b≠tb:=fun b o hb=>⟨fun e=>(by rw [e,hx] at hb; cases hb),fun e=>by
    rw [(ht b e.symm).1] at hb
    cases hb⟩
  have nfr:∀ b,b < s.heap.objs.size→b∉frs outer→b∉(envOfC qual scope s.heap.objs.size f cd::outer).filterMap (·.frame):=fun b hb nb hm=>by
    rcases List.mem_cons.mp (I.stkSub b hm) with e | e
    · have e':b=s.heap.objs.size:=e
      omega
    · exact nb e
  have lt:∀ b o,s.heap.get? b=some o→b < s.heap.objs.size:=fun b o e=>Heap.lt_size e
  have ub:=I.base
  refine ⟨x,d,T',C,H',rfl,f',hx,Heap.get?_none_of_le (Nat.le_trans I.sz z),nx,I.hok.fresh z,I.os,I.bare,⟨fun b o e n hb hz=>?_,fun b o e n hb hz=>?_,fun b o e n hz=>ub.free b o e n (fun q=>nomatch q),fun b o e hz=>?_,ub.tups,ub.frzs,ub.tbls⟩,fun b ob e=>?_,hE⟩
  · exact k1 b o (ub.keep b o e n hb (fun q=>nomatch q)) (old b o e).1 (old b o e).2 (nfr b (lt b o e) hb)
  · obtain ⟨sl,q⟩:=ub.slot b o e n hb (fun q=>nomatch q)
    obtain ⟨sl',q'⟩:=k2 b _ q (old b o e).1 (old b o e).2
    exact ⟨sl',q'⟩
  · obtain ⟨o',q⟩:=ub.there b o e (fun q=>nomatch q)
    obtain ⟨sl',q'⟩:=k2 b o' q (old b o e).1 (old b o e).2
    exact ⟨_,q'⟩
  · have tr:∀ c u,H' c=some u→c≠x∧some c≠tb∧c∉(envOfC qual scope s.heap.objs.size f cd::outer).filterMap (·.frame):=fun c u hc=>by
      refine ⟨fun q=>?_,fun q=>?_,fun q=>?_⟩
      · rw [q,nx] at hc; cases hc
      · rw [(ht c q.symm).2] at hc; cases hc
      · rw [I.stkFree c q] at hc; cases hc
    refine (I.hok b ob e).stay (fun c u hc q=>?_) (fun _ q=>q) fun _ _ q=>q
    rcases hc with hc | hc
    · subst hc
      obtain ⟨t1,t2,t3⟩:=tr _ _ e
      exact k1 _ u q t1 t2 t3
    · obtain ⟨t1,t2,t3⟩:=tr _ _ hc
      exact k1 c u q t1 t2 t3
theorem Inv.new {pins:List (Addr×Obj)} {σ:St} {H1:Hp} {s1:Shared} {x:Addr} (I:Inv (cxI P w K mg base N qual scope f cd A outer s H E) pins σ H1 s1) (h:s1.heap.get? x=none):s.heap.get? x=none:=by
  cases q:s.heap.get? x with
  | none=>rfl
  | some o =>
    obtain ⟨o',q'⟩:=I.base.there x o q (fun z=>nomatch z)
    rw [h] at q'
    cases q'
theorem passI:Ξn (CXI P w) (cxI P w K mg base N qual scope f cd A outer s H E) E:=fun pins σ H1 s1 e s' I h=>by
  obtain ⟨x,d,T,C,H',rfl,fl,hx,hT,nx,nT,os,bare,un,hok,hE⟩:=h
  have I':=I.call' (ch:=[]) os un hok bare (fun b z=>nomatch z)
  exact leaveI I' fl (I.new hx) nx (fun T' e=>by cases e; exact ⟨I.new hT,nT⟩) hE
end
theorem Fun.okI {P:Program} {w:World} {K:PySem.W.Frag} {mg:Str→Option Value} {base:Heap} {x qual:Str} {st:Stmt} {f:Addr} {fd:FuncData} {N ps:List Str} {k:Nat} {sp:Sp} (F:Fun K x qual st f fd) (S:FnScope N ps (ξ st)) (len:∀ vs H Q E,sp vs H Q E→vs.length=ps.length)
    (hbody:∀ (cdv:Value) (A:Around) (outer:List Env) (s:Shared) (H:Hp) (vs:List V) (Q:VK) (E:XK),Room k (A.deeper (envOfC qual (ξ st) s.heap.objs.size f cdv))→sp vs H Q E →
      ∃ t,PSs (cxI P w K mg base N qual (ξ st) f cdv A outer s H E) (θ7 st) t∧t {nx:=fun _ H'=>Q .non H',rt:=Q} (start N vs) H):FnOk P w K mg base (CXI P w) (k+1) f fd ps sp:=by
  obtain ⟨oc,od,kV,doc,pm,an,cdv,ct,osl,rfl,lk,hcd⟩:=F.ex
  exact fn_of lk hcd S len fun A outer s H vs Q E hr hsp=>hbody cdv A outer s H vs Q E hr hsp
end L2
namespace L2
open PySem PySem.Spec PyProof.Rows
noncomputable def XO (e:Addr) (ob:Obj):HO:=.ext fun h=>h.get? e=some ob
noncomputable def xob (C t:Addr) (d:Option Addr):Obj:={cls:=.ref C,dict:=d,data:=.fields #[.ref t,.none,.none,.none,.bool false,.none]}
theorem XO.ok {P:Program} {w:World} {H:Hp} {h:Heap} {e:Addr} {ob:Obj} (z:h.get? e=some ob):τ6 P w H h e (XO e ob) :=
  ⟨z,⟨ob,z⟩,fun h1 h2 a b=>b ob a⟩
theorem XO.at {P:Program} {w:World} {H:Hp} {h:Heap} {e:Addr} {ob:Obj} (ok:HOk P w H h) (z:H e=some (XO e ob)):h.get? e=some ob:=(ok e _ z).1
structure XC (K:PySem.W.Frag) (C f:Addr):Prop where
  ex:∃ nm q N bs sn sub ab col dd k0 k1 k2 k3 k5 oN es ep,K.lookup C=some (excClassObj nm q C N bs BX.bmE true sn sub ab col dd k0 k1 k2 k3 k5 "Exception.__new__")∧K.lookup N=some oN∧oN.data=.dict es ep∧StrKeys es ∧
    nsFind es "__setattr__"=none∧nsFind es "number"=none∧nsFind es "__getattribute__"=none∧nsFind es "__getattr__"=none∧nsFind es "__init__"=some (.ref f)
theorem XC.at {K:PySem.W.Frag} {C f:Addr} {h:Heap} (x:XC K C f) (X:K.In h):∃ mN:Str→Option Value,BX.ENs h C mN∧mN "__setattr__"=none∧mN "number"=none∧mN "__getattribute__"=none∧mN "__getattr__"=none∧mN "__init__"=some (.ref f):=by
  obtain ⟨nm,q,N,bs,sn,sub,ab,col,dd,k0,k1,k2,k3,k5,oN,es,ep,h1,h2,h3,h4,h5,h6,h7,h8,h9⟩:=x.ex
  exact ⟨nsFind es,⟨nm,q,N,bs,sn,sub,ab,col,dd,k0,k1,k2,k3,k5,X _ _ h1,oN,es,ep,X _ _ h2,h3,h4,fun _=>rfl⟩,h5,h6,h7,h8,h9⟩
theorem XC.cls {K:PySem.W.Frag} {C f:Addr} {h:Heap} (x:XC K C f) (X:K.In h):BX.ECls h C:=let ⟨_,z,_⟩:=x.at X; z.cls
theorem exc_init_find (K:PySem.W.Frag):PySem.W.findCls K (.type "Exception") (.type "type") "__init__"=some (.val (.builtin "Exception.__init__")):=by kernel_rfl
section
variable {X:Cx} {arg o val:Expr} {ta tv:TE} {p1 ap cp pos:Pos}
noncomputable def tXInit (K:PySem.W.Frag) (ta:TE):TE:=fun σ H Q=>ta σ H fun x H1=>∃ e C f t d,x=.ref e∧H1 e=some (XO e (xob C t d))∧XC K C f∧∀ t',Q .non (upd H1 e (XO e (xob C t' d)))
theorem pe_xinit {pl:Sem Bool} (hg:Gl X "Exception") (hm:X.mg "Exception"=none) (ha:PE X arg ta) (hs:starEach [arg] X.env=[(false,eval arg X.env)]:=by rfl)
    (ht:eval (.Call (.Attribute (.Name "Exception" p1) "__init__" ap) [arg] [] cp) X.env=(do
      let ov ← eval (.Name "Exception" p1) X.env
      standAt ap.atName
      let (f,first) ← holding [ov] (getMethod ov "__init__" pl)
      callWith cp f first (backTo cp (starEach [arg] X.env)) (backToKw cp (keywordEach [] X.env))):=by rfl):PE X (.Call (.Attribute (.Name "Exception" p1) "__init__" ap) [arg] [] cp) (tXInit X.K ta):=by
  intro pins s σ H Q I h
  have pn:PE X (.Name "Exception" p1) (tC (.ty "Exception")):=pe_bltn hg hm (u:=.type "Exception") PyProof.Rows.Boot.«Exception» rfl
  refine PySem.W.methodCall_KW (pl:=pl) (thn (pn pins s σ H (fun x H1=>x=.ty "Exception"∧H1=H) I ⟨rfl,rfl⟩) fun u s1 ⟨x,H1,I1,rx,ex,eH⟩=>?_) ht
  subst ex eH
  obtain rfl:u=Value.type "Exception":=rx
  obtain ⟨m,F⟩:=I1.fr
  refine PySem.W.method_type (T:="Exception") F I1.mod.kin (by kernel_rfl) (by decide +kernel) (exc_init_find X.K) (by decide +kernel) ?_
  rw [hs]
  refine Calls.callWith_builtin rfl (Calls.evalArgs_plain (Calls.spliced_cons (thn (ha pins _ σ H1 _ (I1.tok _) h) fun v s2 ⟨x,H2,I2,rx,e,C,f,t,d,ex,eo,xc,q⟩=>Calls.spliced_nil ?_)))
  subst ex
  obtain rfl:v=Value.ref e:=rx
  have he:=XO.at I2.hok eo
  refine BX.init_call (C:=C) (t:=t) (od:=d) (xc.cls I2.kIn) he fun h' z1 z2 z3=>?_
  exact ⟨.non,_,I2.write (x:=e) (e:=e) (o:=XO e (xob C s2.heap.objs.size d)) (t':=s2.toks) (by rw [eo]; exact True.intro) (.inl rfl) (fun b u nb hb=>z2 b u nb hb) ⟨_,z1⟩ (XO.ok z1),rfl,q _⟩
noncomputable def sXFld (K:PySem.W.Frag) (to tv:TE):TS:=fun D σ H=>tv σ H fun y H1=>to σ H1 fun x H2=>∃ e C f t,x=.ref e∧H2 e=some (XO e (xob C t none))∧XC K C f ∧
  ∀ d,H2 d=none→d≠e→D.nx σ (upd (upd H2 d (.xd [("number",y)])) e (XO e (xob C t (some d))))
end
end L2
namespace L2
open PySem PySem.Spec PyProof.Rows
theorem φf:typeLookup (.type "Exception") "number"=pure none:=by rw [typeLookup_type,builtinLookup_eq_fast]; kernel_rfl
theorem xd_rel {v:Value} {y:V} (r:ο4 y v) (f:Str):RelO ([(("number":Str),y)].lookup f) ((fun n:Str=>if n="number" then some v else none) f):=by
  by_cases e:f="number"
  · subst e
    rw [List.lookup_cons_self]
    simp only [if_true]
    exact r
  · have:(f == ("number":Str))=false:=by simpa using e
    simp only [List.lookup,this,if_neg e]
    trivial
section
variable {X:Cx} {arg o value:Expr} {ta to tv:TE} {p1 ap cp pos pos':Pos}
theorem ps_xfld (ho:PE X o to) (hv:PE X value tv) (hs:swapsWith value (some (.Attribute o "number" pos')) pos.line X.env=pure false):PS X (.Assign [.Attribute o "number" pos'] value pos) (sXFld X.K to tv):=by
  intro pins s σ H D I h
  refine plainObj_wpAny_Assign_Attribute (thn (hv pins s σ H _ I h) fun u s1 ⟨y,H1,I1,ry,q⟩=>thn (ho pins s1 σ H1 _ I1 q) fun ov s2 ⟨x,H2,I2,rx,e,C,f,t,ex,eo,xc,q2⟩=>?_) hs
  subst ex
  obtain rfl:ov=Value.ref e:=rx
  have he:=XO.at I2.hok eo
  obtain ⟨mN,c,m1,m2,_⟩:=xc.at I2.kIn
  refine BX.xstore c m1 m2 φf he rfl rfl rfl fun h' tk z1 z2 z3=>?_
  have nd:H2 s2.heap.objs.size=none:=I2.hok.fresh (Nat.le_refl _)
  have ned:s2.heap.objs.size≠e:=fun z=>by rw [z,eo] at nd; cases nd
  have up:∀ b o,H2 b=some o→b≠e→upd (upd H2 s2.heap.objs.size (.xd [("number",y)])) e (XO e (xob C t (some s2.heap.objs.size))) b=some o:=fun b o hb ne=>by
    rw [ψ ne,ψ (ρ hb nd)]
    exact hb
  have hok:HOk X.prog X.w (upd (upd H2 s2.heap.objs.size (.xd [("number",y)])) e (XO e (xob C t (some s2.heap.objs.size)))) h':=fun b ob hb=>by
    by_cases e1:b=e
    · subst e1
      rw [ο] at hb
      cases hb
      exact XO.ok z1
    · rw [ψ e1] at hb
      by_cases e2:b=s2.heap.objs.size
      · subst e2
        rw [ο] at hb
        cases hb
        exact ⟨_,z2,fun f=>xd_rel ry f⟩
      · rw [ψ e2] at hb
        refine (I2.hok b ob hb).stay (fun c u hc q=>z3 c u ?_ q) (fun c q=>up c _ q ?_) (fun c xs q=>up c _ q ?_)
        · rcases hc with rfl | hc
          · exact e1
          · exact οa hc eo (by intro z; cases z)
        · exact οa q eo (by intro z; cases z)
        · exact οa q eo (by intro z; cases z)
  have un:Un X.fs [] H2 (upd (upd H2 s2.heap.objs.size (.xd [("number",y)])) e (XO e (xob C t (some s2.heap.objs.size)))) s2.heap h' :=
    { keep:=fun b o hb n _ _=>z3 b o (fun z=>by rw [z,eo] at n; cases n) hb
      slot:=fun b o hb n _ _=>⟨o.slots,z3 b o (fun z=>by rw [z,eo] at n; cases n) hb⟩
      free:=fun b o hb n _=>by
        rw [ψ (fun z=>by rw [z,eo] at n; cases n),ψ (Nat.ne_of_lt (Heap.lt_size hb))]
        exact n
      there:=fun b o hb _=>by
        by_cases e1:b=e
        · exact ⟨_,by rw [e1]; exact z1⟩
        · exact ⟨o,z3 b o e1 hb⟩
      tups:=fun b xs q=>up b _ q (οa q eo (by intro z; cases z))
      frzs:=fun b o u q=>up b _ q (οa q eo (by intro z; cases z))
      tbls:=fun b ps q=>⟨#[],by rw [up b _ q (οa q eo (by intro z; cases z))]; simp⟩ }
  exact ⟨σ,_,I2.un (t':=tk) un hok,q2 _ nd ned⟩
noncomputable def tXNum (K:PySem.W.Frag) (to:TE):TE:=fun σ H Q=>to σ H fun x H1=>∃ e C f oe fl d n,x=.ref e∧H1 e=some (XO e oe)∧oe.cls=.ref C∧oe.data=.fields fl∧oe.dict=some d∧XC K C f∧H1 d=some (.xd [("number",.int n)])∧Q (.int n) H1
theorem pe_xnum (ho:PE X o to) (hbase:attributeBase o "number" X.env (eval o X.env)=eval o X.env):PE X (.Attribute o "number" pos) (tXNum X.K to):=by
  intro pins s σ H Q I h
  refine attr_of hbase (thn (ho pins s σ H _ I h) fun u s1 ⟨x,H1,I1,rx,e,C,f,oe,fl,d,n,ex,eo,hc,hd,hdx,xc,ed,q⟩=>?_)
  subst ex
  obtain rfl:u=Value.ref e:=rx
  have he:=XO.at I1.hok eo
  obtain ⟨mN,⟨nm,qn,N,bs,sn,sub,ab,col,dd,k0,k1,k2,k3,k5,hC,hN⟩,m1,m2,m3,m4,_⟩:=xc.at I1.kIn
  obtain ⟨mA,hA,rel⟩:=(show ∃ mA,s1.heap.Ns1 d mA∧∀ f,RelO ([(("number":Str),V.int n)].lookup f) (mA f) from I1.hok d _ ed)
  have r:=rel "number"
  rw [List.lookup_cons_self] at r
  obtain ⟨v,hv,tk,rv⟩:∃ v,mA "number"=some v∧∃ tk,v=Value.int n tk:=by
    cases q:mA "number" with
    | none=>rw [q] at r; exact r.elim
    | some v=>rw [q] at r; exact ⟨v,rfl,r⟩
  subst rv
  obtain ⟨hp,gg,dr,tks,os⟩:=s1
  refine BX.xload hC hN m2 m3 m4 φf he hc hd hdx hA hv ⟨_,_,rfl⟩ ?_
  exact ⟨.int n,H1,I1.tok _,⟨_,rfl⟩,q⟩
end
end L2
namespace L2
open PySem PySem.Spec PyProof.Rows
theorem τ6.there {P:Program} {w:World} {H:Hp} {h:Heap} {a:Addr} {o:HO} (x:τ6 P w H h a o):∃ ob,h.get? a=some ob:=by
  induction o with
  | lst xs=>obtain ⟨_,_,_,_,e⟩:=x; exact ⟨_,e⟩
  | tup xs=>obtain ⟨_,_,_,ob,e,_⟩:=x; exact ⟨_,e⟩
  | dK kvs=>obtain ⟨_,_,_,_,o,_,_,e,_⟩:=x; exact ⟨_,e⟩
  | dT kvs=>obtain ⟨_,_,_,_,o,_,_,e,_⟩:=x; exact ⟨_,e⟩
  | set S n=>obtain ⟨o,_,_,_,e,_⟩:=x; exact ⟨_,e⟩
  | ins C dx fs=>obtain ⟨_,_,_,e,_⟩:=x; exact ⟨_,e⟩
  | own y=>exact x
  | xd fs=>obtain ⟨_,⟨o,_,_,e,_⟩,_⟩:=x; exact ⟨_,e⟩
  | rng lo hi=>obtain ⟨_,_,_,e⟩:=x; exact ⟨_,e⟩
  | frz ob u ih=>obtain ⟨e,_⟩:=x; exact ⟨_,e⟩
  | tbl ps=>exact ⟨_,x⟩
  | met f y=>exact ⟨_,x⟩
  | ext φ=>obtain ⟨_,e,_⟩:=x; exact e
theorem HOk.none_of {P:Program} {w:World} {H:Hp} {h:Heap} {a:Addr} (x:HOk P w H h) (e:h.get? a=none):H a=none:=by
  cases q:H a with
  | none=>rfl
  | some u =>
    obtain ⟨o,z⟩:=(x a u q).there
    rw [e] at z
    cases z
section
variable {X:Cx} {pins:List (Addr×Obj)} {σ:St} {H:Hp} {s:Shared} {h':Heap}
theorem Inv.laidN {a:Addr} {o:HO} {t':Nat} (I:Inv X pins σ H s) (k:∀ b u,s.heap.get? b=some u→h'.get? b=some u) (hp:s.heap.get? a=none) (new:τ6 X.prog X.w (upd H a o) h' a o) :
    Inv X pins σ (upd H a o) {s with heap:=h',toks:=t'}:=by
  have na:=I.hok.none_of hp
  have up:∀ b u,H b=some u→upd H a o b=some u:=fun b u hb=>by
    rw [ψ (ρ hb na)]
    exact hb
  refine I.un ⟨fun b ob e n _ _=>k b ob e,fun b ob e n _ _=>⟨ob.slots,k b ob e⟩,fun b ob e n _=>?_,fun b ob e _=>⟨ob,k b ob e⟩,fun b xs q=>up b _ q,fun b ob u q=>up b _ q,fun b ps q=>⟨#[],by rw [up b _ q]; simp⟩⟩ fun b ob hb=>?_
  · rw [ψ (fun z=>by rw [z,hp] at e; cases e)]
    exact n
  · by_cases e1:b=a
    · subst e1
      rw [ο] at hb
      cases hb
      exact new
    · rw [ψ e1] at hb
      exact (I.hok b ob hb).stay (fun c u _ q=>k c u q) (fun c q=>up c _ q) fun c xs q=>up c _ q
theorem Inv.forget {a:Addr} {H':Hp} (I:Inv X pins σ H s) (eo:∃ φ,H a=some (.ext φ)) (e:∀ b,b≠a→H' b=H b) (ea:H' a=none):Inv X pins σ H' s:=by
  obtain ⟨φ,eo⟩:=eo
  have up:∀ b u,H b=some u→b≠a→H' b=some u:=fun b u hb nb=>by rw [e b nb]; exact hb
  have dn:∀ b,H b=none→H' b=none:=fun b hb=>by
    rw [e b (fun z=>by rw [z,eo] at hb; cases hb)]
    exact hb
  have back:∀ b u,H' b=some u→b≠a∧H b=some u:=fun b u hb=>by
    have nb:b≠a:=fun z=>by rw [z,ea] at hb; cases hb
    rw [e b nb] at hb
    exact ⟨nb,hb⟩
  refine ⟨I.ok,I.os,I.bare,⟨I.base.keep,I.base.slot,fun b o q n hx=>dn b (I.base.free b o q n hx),I.base.there,fun b xs q=>?_,fun b o u q=>?_,fun b ps q=>?_⟩,I.loc,I.cell,dn _ I.free,fun x c q=>dn _ (I.freeC x c q),fun p hp=>?_,fun b ob hb=>?_,I.len⟩
  · have z:=I.base.tups b xs q
    exact up b _ z (οa z eo (by intro y; cases y))
  · have z:=I.base.frzs b o u q
    exact up b _ z (οa z eo (by intro y; cases y))
  · obtain ⟨more,z⟩:=I.base.tbls b ps q
    exact ⟨more,up b _ z (οa z eo (by intro y; cases y))⟩
  · obtain ⟨p1,p2,p3⟩:=I.pin p hp
    exact ⟨p1,dn _ p2,p3⟩
  · obtain ⟨nb,hb⟩:=back b ob hb
    exact (I.hok b ob hb).stay (fun c u _ q=>q) (fun c q=>up c _ q (οa q eo (by intro y; cases y))) fun c xs q=>up c _ q (οa q eo (by intro y; cases y))
end
noncomputable def spXI (K:PySem.W.Frag):Sp:=fun vs H Q _=>∃ e C f n t,vs=[.ref e,.int n]∧H e=some (XO e (xob C t none))∧XC K C f ∧
  ∀ d t' H',d≠e→H d=none→H' e=some (XO e (xob C t' (some d)))→H' d=some (.xd [("number",.int n)])→(∀ b,b≠e→b≠d→H' b=H b)→Q .non H'
section
variable {P:Program} {w:World} {K:PySem.W.Frag} {mg:Str→Option Value} {base:Heap} {N:List Str} {qual:Str} {scope:Scope} {f:Addr} {cd:Value} {A:Around} {outer:List Env} {s:Shared} {H:Hp} {E:XK}
variable {x:Str} {p cp pos:Pos} {arg:Expr} {ta:TA} {C fI:Addr} {fd:FuncData} {k:Nat}
noncomputable def tRaise (C:Addr) (E:XK) (ta:TA):TS:=fun _ σ H=>ta σ H fun vs H1=>∃ n,vs=[.int n]∧∀ d,H1 d=none→E (.ref C) (some d) (upd H1 d (.xd [("number",.int n)]))
theorem ps_raise (xc:XC K C fI) (hfn:PySem.W.isFn K (.ref fI)=true) (hkp:PySem.W.keepIn K (.ref C)=true) (F:FnOk P w K mg base (CXI P w) k fI fd ["self","number"] (spXI K)) (hb:ιe K fd ["self","number"] [])
    (hr:Room (k+1) (cxI P w K mg base N qual scope f cd A outer s H E).A) (hg:Gl (cxI P w K mg base N qual scope f cd A outer s H E) x) (hm:mg x=some (.ref C))
    (ha:PA (cxI P w K mg base N qual scope f cd A outer s H E) [arg] ta) (hdb:(x == ("__debug__":Str))=false:=by decide)
    (he:starEach [arg] (cxI P w K mg base N qual scope f cd A outer s H E).env=[(false,eval arg (cxI P w K mg base N qual scope f cd A outer s H E).env)]:=by rfl) :
    PS (cxI P w K mg base N qual scope f cd A outer s H E) (.Raise (some (.Call (.Name x p) [arg] [] cp)) none pos) (tRaise C E ta):=by
  intro pins s0 σ H0 D I h
  rw [arm_exec_Raise]
  simp only [evalOpt,Option.map]
  refine wpAny_bind (wpAny_standAt (BX.raise_rest (C:=C) hr.hd ?_))
  refine wpAny_bind (wpAny_Call_Name_kw (ρb I hg hm ?_ hdb))
  refine PySem.W.callWith_K (h₀:=base) I.ok.mod.kin hkp (thn (ha cp pins s0 σ H0 _ I h) fun us s1 ⟨vs,H1,I1,r,n,ev,q⟩=>⟨I1.kIn,?_⟩) he rfl
  subst ev
  obtain ⟨u,rfl,ru⟩:=vals1 r
  obtain ⟨mN,⟨nm,qn,Nn,bs,sn,sub,ab,col,dd,k0,k1,k2,k3,k5,hC,hN⟩,m1,m2,m3,m4,m5⟩:=xc.at I1.kIn
  obtain ⟨of,hof,hofc⟩:∃ o,s1.heap.get? fI=some o∧o.cls=.type "function":=by
    have z:=beq_iff_eq.mp hfn
    obtain ⟨o,ho,hc⟩:=Option.map_eq_some_iff.mp (show (K.lookup fI).map (·.cls)=some (.type "function") from z)
    exact ⟨o,I1.kIn _ _ ho,hc⟩
  obtain ⟨hp,gg,dr,tks,os⟩:=s1
  refine wpAny_call_exc_init (rest:=[u]) PySem.F.excBase_Exception hC hN m5 hof hofc (fun h' e hmk=>?_) (by show 1≤sizeLine; decide)
  obtain ⟨t,hobj,_,_⟩:=hmk.there
  have I2:Inv (cxI P w K mg base N qual scope f cd A outer s H E) pins σ (upd H1 e (XO e (xob C t none))) ⟨h',gg,dr,tks,os⟩:=I1.laidN (t':=tks) hmk.keeps hmk.new (XO.ok hobj)
  have ne1:H1 e=none:=I1.hok.none_of hmk.new
  refine wpAny_call (codeAny_mono (F.run _ (cxI P w K mg base N qual scope f cd A outer s H E).stack _ _ ⟨[.ref e,u],[]⟩ [.ref e,u] [.ref e,.int n] (fun v H3=>v=.non∧∃ d t',d≠e∧H1 d=none∧H3 e=some (XO e (xob C t' (some d)))∧H3 d=some (.xd [("number",.int n)])∧∀ b,b≠e→b≠d→H3 b=H1 b) (fun _ _ _=>False) (hr.make C [u] []) (I2.env0.make C [u] []) (hb _ [.ref e,u] I2.kIn rfl) (.cons rfl (.cons ru .nil)) ?_) fun res s3 hq=>?_)
  · refine ⟨e,C,fI,n,t,rfl,ο,xc,fun d t' H' nde hd z1 z2 z3=>⟨rfl,d,t',nde,?_,z1,z2,fun b b1 b2=>?_⟩⟩
    · rw [ψ nde] at hd
      exact hd
    · rw [z3 b b1 b2,ψ b1]
  · cases res with
    | error e' =>
      obtain ⟨_,_,_,_,_,_,_,_,_,_,_,_,_,_,_,z⟩:=hq
      exact z.elim
    | ok fl =>
      cases fl with
      | next=>exact False.elim hq
      | brk=>exact False.elim hq
      | cont=>exact False.elim hq
      | ret uv =>
        obtain ⟨v,H3,I3,rv,ev,d,t',nde,hd,z1,z2,z3⟩:=I2.after hq
        subst ev
        refine ⟨rv,wpAny_bind (wpAny_standAt (wpAny_pure ?_))⟩
        have ob:=XO.at I3.hok z1
        have I4:Inv (cxI P w K mg base N qual scope f cd A outer s H E) pins σ (upd H1 d (.xd [("number",.int n)])) s3:=by
          refine I3.forget (a:=e) ⟨_,z1⟩ (fun b nb=>?_) ?_
          · by_cases eb:b=d
            · subst eb
              rw [ο,z2]
            · rw [ψ eb,z3 b nb eb]
          · rw [ψ (Ne.symm nde)]
            exact ne1
        have fl:BX.Flies s3.heap e (.ref C) (some d) none:=⟨_,_,ob,rfl,rfl,rfl,rfl⟩
        refine ⟨e,some d,rfl,xc.cls I4.kIn,fl,?_⟩
        refine leaveI I4 fl (I1.new hmk.new) (by rw [ψ (Ne.symm nde)]; exact ne1) (fun T z=>by cases z) (q d hd)
end
end L2
namespace L2
open PySem PySem.Spec PyProof.Rows
noncomputable def HT:HO:=.ext fun _=>True
theorem HT.ok {P:Program} {w:World} {H:Hp} {h:Heap} {a:Addr} (z:∃ o,h.get? a=some o):τ6 P w H h a HT:=⟨trivial,z,fun _ _ _ _=>trivial⟩
noncomputable abbrev Cx.inH (X:Cx) (e:Addr):Cx:={X with A:=X.A.mark (some (.ref e)),calm:=false,xe:=fun _ _=>False}
section
variable {X:Cx} {pins:List (Addr×Obj)} {σ:St} {H H':Hp} {s:Shared} {h':Heap}
theorem Inv.inH (I:Inv X pins σ H s) (e:Addr):Inv (X.inH e) pins σ H s :=
  ⟨⟨I.ok.mod,I.ok.kind,I.ok.glob,I.ok.blt,I.ok.above,I.ok.inj,I.ok.has,I.ok.cab,(fun z=>by cases z),I.ok.frames,I.ok.stk,I.ok.exf,I.ok.bs,I.ok.bsz,I.ok.noex,I.ok.exfs,I.ok.funs,I.ok.frf⟩,I.os,I.bare,I.base,I.loc,I.cell,I.free,I.freeC,I.pin,I.hok,I.len⟩
theorem Inv.outH {e:Addr} (ok:X.Ok) (I:Inv (X.inH e) pins σ H s):Inv X pins σ H s:=⟨ok,I.os,I.bare,I.base,I.loc,I.cell,I.free,I.freeC,I.pin,I.hok,I.len⟩
theorem Inv.track {a:Addr} {o:HO} {ob:Obj} {fl:Array Value} (I:Inv X pins σ H s) (ha:s.heap.get? a=some ob) (hd:ob.data=.fields fl) (hn:X.s₀.heap.get? a=none) (na:H a=none) (np:∀ p∈X.pn++pins,p.1≠a)
    (new:τ6 X.prog X.w (upd H a o) s.heap a o):Inv X pins σ (upd H a o) s:=by
  have up:∀ b u,H b=some u→upd H a o b=some u:=fun b u hb=>by
    rw [ψ (ρ hb na)]
    exact hb
  have dn:∀ b,b≠a→H b=none→upd H a o b=none:=fun b nb hb=>by
    rw [ψ nb]
    exact hb
  obtain ⟨m,⟨oL,esL,epL,hoL,hdL,rL⟩,hl⟩:=id I.loc
  have nL:X.env.locals≠a:=fun z=>by
    rw [z,ha] at hoL
    cases hoL
    rw [hd] at hdL
    cases hdL
  refine ⟨I.ok,I.os,I.bare,⟨I.base.keep,I.base.slot,fun b u q n hx=>dn b (fun z=>by rw [z,hn] at q; cases q) (I.base.free b u q n hx),I.base.there,fun b xs q=>up b _ (I.base.tups b xs q),fun b u v q=>up b _ (I.base.frzs b u v q),fun b ps q=>?_⟩,I.loc,I.cell,dn _ nL I.free,fun x c q=>dn _ (fun z=>?_) (I.freeC x c q),fun p hp=>?_,fun b u hb=>?_,I.len⟩
  · obtain ⟨more,z⟩:=I.base.tbls b ps q
    exact ⟨more,up b _ z⟩
  · obtain ⟨v,oc,hoc,hcd⟩:=I.cell x c q
    rw [z,ha] at hoc
    cases hoc
    rw [hd] at hcd
    cases hcd
  · obtain ⟨p1,p2,p3⟩:=I.pin p hp
    exact ⟨p1,dn _ (np p hp) p2,p3⟩
  · by_cases e1:b=a
    · subst e1
      rw [ο] at hb
      cases hb
      exact new
    · rw [ψ e1] at hb
      exact (I.hok b u hb).stay (fun c v _ q=>q) (fun c q=>up c _ q) fun c xs q=>up c _ q
theorem goes_ok {M:Model} {A:Around} {E:Value→Shared→Prop} {i:Nat} {n:Str} {pos:Pos} {Q:Unit→Shared→Prop} (I:Inv X pins σ H s) (hi:X.N[i]?=some n) (hN:X.N.Nodup) (hx:X.env.scope.names.lookup n=some .local)
    (h:∀ s',Inv X pins (σ.set i none) H s'→Q () s'):wpAny M A (do bindName X.env n .none; unbindBehindTheSuite X.env n pos) Q E s:=by
  obtain ⟨m,hn,hl⟩:=id I.loc
  have hcls:(X.env.scope.kind == .class || (X.env.scope.kind == .module && X.env.locals != X.env.globals))=false:=by rw [I.ok.kind]; rfl
  refine wpAny_nameGoes_keeps hx hn hcls fun h' v hn' hs=>h _ ?_
  obtain ⟨oL,_,_,hoL,_⟩:=id hn
  have below:∀ b o,X.s₀.heap.get? b=some o→b≠X.env.locals:=fun b o e=>Nat.ne_of_lt (Nat.lt_of_lt_of_le (Heap.lt_size e) I.ok.above)
  refine ⟨I.ok,I.os,I.bare,⟨fun b o e n hb hx=>?_,fun b o e n hb hx=>?_,I.base.free,fun b o e hx=>?_,I.base.tups,I.base.frzs,I.base.tbls⟩,⟨_,hn',fun j y v' e1 e2 e3=>?_⟩,fun y c e=>?_,I.free,I.freeC,fun p hp=>?_,fun b ob e=>?_,by simpa using I.len⟩
  · exact (hs.2 b (below b o e)).trans (I.base.keep b o e n hb hx)
  · obtain ⟨sl,e1⟩:=I.base.slot b o e n hb hx
    exact ⟨sl,(hs.2 b (below b o e)).trans e1⟩
  · obtain ⟨o',e1⟩:=I.base.there b o e hx
    exact ⟨o',(hs.2 b (below b o e)).trans e1⟩
  · by_cases hj:j=i
    · subst hj
      have hiσ:j < σ.length:=by rw [I.len]; exact (List.getElem?_eq_some_iff.mp hi).1
      rw [List.getElem?_set_self hiσ] at e2
      cases e2
    · rw [List.getElem?_set_ne (Ne.symm hj)] at e2
      obtain ⟨u',r',q⟩:=hl j y v' e1 e2 e3
      refine ⟨u',r',?_⟩
      rcases q with ⟨k,e⟩ | ⟨k,c,e,z⟩
      · refine .inl ⟨k,?_⟩
        have:y≠n:=fun e=>hj (θj hN e1 (e ▸ hi))
        simp [this,e]
      · exact .inr ⟨k,c,e,z.sameBut hs (I.cne y c e)⟩
  · obtain ⟨w',z⟩:=I.cell y c e
    exact ⟨w',z.sameBut hs (I.cne y c e)⟩
  · obtain ⟨e,n,ne,nf,d⟩:=I.pin p hp
    exact ⟨(hs.2 p.1 ne).trans e,n,ne,nf,d⟩
  · refine (I.hok b ob e).stay (fun c u hc q=>(hs.2 c ?_).trans q) (fun _ q=>q) fun _ _ q=>q
    rintro rfl
    rcases hc with hc | hc
    · rw [← hc,I.free] at e; cases e
    · rw [I.free] at hc; cases hc
end
end L2
namespace L2
open PySem PySem.Spec PyProof.Rows
noncomputable abbrev endH (i:Nat) (D:Ends):Ends:={nx:=fun σ' H'=>D.nx (σ'.set i none) H',rt:=fun _ _=>False}
noncomputable def tTry (sp:Sp) (i:Nat) (C1 C2:Addr) (ta:TA) (t1 t2:TS):TS:=fun D σ H=>ta σ H fun vs H1=>sp vs H1 (fun _ H2=>D.nx σ H2) fun C od H2=>∃ d,od=some d∧∀ (e:Addr) (oe:Obj) (fl:Array Value) (H3:Hp),
  oe.cls=C→oe.data=.fields fl→oe.dict=some d→H3 e=some (XO e oe)→Δ7 H2 H3 →
    (C=.ref C1∧t1 (endH i D) (σ.set i (some (.ref e))) H3)∨(C=.ref C2∧t2 (endH i D) (σ.set i (some (.ref e))) H3)
section
variable {P:Program} {w:World} {K:PySem.W.Frag} {mg:Str→Option Value} {base:Heap} {N:List Str} {qual:Str} {scope:Scope} {f:Addr} {cd:Value} {A:Around} {outer:List Env} {s:Shared} {H:Hp} {E:XK}
theorem suite_ok {pins:List (Addr×Obj)} {σ:St} {Hx:Hp} {D:Ends} {x T d i:Addr} {C:Value} {n:Str} {q1:Pos} {b1:Stmt} {r1:List Stmt} {t1:TS} {s2:Shared}
    (I:Inv (cxI P w K mg base N qual scope f cd A outer s H E) pins σ Hx s2) (hN:N.Nodup) (hi:N[i]?=some n) (hn:scope.names.lookup n=some .local) (hs:∀ e,PSs ((cxI P w K mg base N qual scope f cd A outer s H E).inH e) (b1::r1) t1)
    (fl:BX.Flies s2.heap x C (some d) (some T)) (ex:Hx x=some HT) (eT:Hx T=some HT)
    (ht:∀ oe fl H3,oe.cls=C→oe.data=.fields fl→oe.dict=some d→H3 x=some (XO x oe)→(∀ b,b≠x→H3 b=Hx b)→t1 (endH i D) (σ.set i (some (.ref x))) H3) :
    codeAny (model P w) ((cxI P w K mg base N qual scope f cd A outer s H E).A.mark (some (.ref x))) (.handlers (.ref x) [.ExceptHandler none (some n) (b1::r1) q1] (cxI P w K mg base N qual scope f cd A outer s H E).env)
      (fun r s3=>match r with
        | .ok fl=>wpAny (model P w) (cxI P w K mg base N qual scope f cd A outer s H E).A (do bindName (cxI P w K mg base N qual scope f cd A outer s H E).env n .none; unbindBehindTheSuite (cxI P w K mg base N qual scope f cd A outer s H E).env n q1) (fun _ s4=>SP (cxI P w K mg base N qual scope f cd A outer s H E) pins D fl s4) (cxI P w K mg base N qual scope f cd A outer s H E).xe s3
        | .error y=>cameBackBy (model P w) (cxI P w K mg base N qual scope f cd A outer s H E).A (cxI P w K mg base N qual scope f cd A outer s H E).env (cxI P w K mg base N qual scope f cd A outer s H E).xe y s3) s2:=by
  refine codeAny_handlers_suite_as ?_
  refine BX.flight_ok fl fun h3 fl3 k3 z3=>?_
  have I3:Inv (cxI P w K mg base N qual scope f cd A outer s H E) pins σ Hx {s2 with heap:=h3}:=by
    have z:=I.write (h':=h3) (x:=T) (e:=T) (o:=HT) (t':=s2.toks) (by rw [eT]; exact True.intro) (.inl rfl) (fun b u nb hb=>k3 b u hb nb) (by obtain ⟨_,_,oT,_,_,_,_,_,_,_,q,_⟩:=fl3; exact ⟨oT,q⟩) (HT.ok (by obtain ⟨_,_,oT,_,_,_,_,_,_,_,q,_⟩:=fl3; exact ⟨oT,q⟩))
    have e:upd Hx T HT=Hx:=by
      funext b
      by_cases eb:b=T
      · subst eb; rw [ο,eT]
      · rw [ψ eb]
    rw [e] at z
    exact z
  obtain ⟨oe,vs,ho,hc,hdc,hdt⟩:=fl3.obj
  have I4:Inv (cxI P w K mg base N qual scope f cd A outer s H E) pins σ (upd Hx x (XO x oe)) {s2 with heap:=h3} :=
    I3.write (h':=h3) (x:=x) (e:=x) (o:=XO x oe) (t':=s2.toks) (by rw [ex]; exact True.intro) (.inl rfl) (fun b u nb hb=>hb) ⟨oe,ho⟩ (XO.ok ho)
  refine store_ok I4 hN hi (.inl hn) (v:=.ref x) rfl (fun s5 I5=>?_) (.inr hn)
  have q:=ht oe vs _ hc hdt hdc ο (fun b nb=>ψ nb)
  refine wpAny_mono (hs x pins s5 _ _ _ (I5.inH x) q) (fun flw s6 z=>?_) (fun _ _ z=>z.elim)
  cases flw with
  | next =>
    obtain ⟨σ6,H6,I6,q6⟩:=z
    exact goes_ok (I6.outH I.ok) hi hN hn fun s7 I7=>⟨_,_,I7,q6⟩
  | brk=>obtain ⟨_,_,_,z⟩:=z; exact z.elim
  | cont=>obtain ⟨_,_,_,z⟩:=z; exact z.elim
  | ret u=>obtain ⟨_,_,_,_,_,z⟩:=z; exact z.elim
theorem ps_try {i k:Nat} {g C1 C2 f1 f2:Addr} {gd:FuncData} {ps:List Str} {sp:Sp} {fn x1 x2 n:Str} {p cp ep p1 p2 q1 q2 pos:Pos} {arg:Expr} {ta:TA} {b1 b2:Stmt} {r1 r2:List Stmt} {t1 t2:TS}
    (G:FnOk P w K mg base (CXI P w) k g gd ps sp) (hr:Room k (cxI P w K mg base N qual scope f cd A outer s H E).A) (hgf:Gl (cxI P w K mg base N qual scope f cd A outer s H E) fn) (hmf:mg fn=some (.ref g)) (hkf:PySem.W.keepIn K (.ref g)=true) (hbf:ιe K gd ps [])
    (ha:PA (cxI P w K mg base N qual scope f cd A outer s H E).nox [arg] ta) (c1:XC K C1 f1) (c2:XC K C2 f2) (hne:C1≠C2)
    (hg1:Gl (cxI P w K mg base N qual scope f cd A outer s H E) x1) (hm1:mg x1=some (.ref C1)) (hg2:Gl (cxI P w K mg base N qual scope f cd A outer s H E) x2) (hm2:mg x2=some (.ref C2))
    (hN:N.Nodup) (hi:N[i]?=some n) (hn:scope.names.lookup n=some .local)
    (hs1:∀ e,PSs ((cxI P w K mg base N qual scope f cd A outer s H E).inH e) (b1::r1) t1) (hs2:∀ e,PSs ((cxI P w K mg base N qual scope f cd A outer s H E).inH e) (b2::r2) t2)
    (hsw:swapsWith (.Call (.Name fn p) [arg] [] cp) none ep.line (cxI P w K mg base N qual scope f cd A outer s H E).env=pure false:=by rfl)
    (hdb:(fn == ("__debug__":Str))=false:=by decide) (hd1:(x1 == ("__debug__":Str))=false:=by decide) (hd2:(x2 == ("__debug__":Str))=false:=by decide)
    (he:starEach [arg] (cxI P w K mg base N qual scope f cd A outer s H E).env=[(false,eval arg (cxI P w K mg base N qual scope f cd A outer s H E).env)]:=by rfl) :
    PS (cxI P w K mg base N qual scope f cd A outer s H E) (.Try [.Expr (.Call (.Name fn p) [arg] [] cp) ep] [.ExceptHandler (some (.Name x1 p1)) (some n) (b1::r1) q1,.ExceptHandler (some (.Name x2 p2)) (some n) (b2::r2) q2] [] [] pos) (tTry sp i C1 C2 ta t1 t2):=by
  intro pins s0 σ H0 D I h
  refine wpAny_Try_except (wpAny_execs_cons (wpAny_Expr_any ?_ I.quiet hsw))
  refine wpAny_Call_Name_kw (ρb I hgf hmf ?_ hdb)
  refine PySem.W.callWith_K (h₀:=base) I.ok.mod.kin hkf (wpAny_mono (ha cp pins s0 σ H0 _ (I.wish _) h) (fun us s1 ⟨vs,H1,I1,r,q⟩=>⟨I1.kIn,?_⟩) (fun _ _ z=>z.elim)) he rfl
  have I1:=I1.unwish
  have hl:us.length=ps.length:=by rw [← r.length]; exact G.len _ _ _ _ q
  refine wpAny_call (codeAny_mono (G.run _ (cxI P w K mg base N qual scope f cd A outer s H E).stack s1 H1 ⟨us,[]⟩ us vs _ _ hr I1.env0 (by have z:=hbf s1 us I1.kIn (by rw [List.append_nil]; exact hl); rw [List.append_nil] at z; exact z) r q) fun res s2 hq=>?_)
  cases res with
  | ok fl =>
    cases fl with
    | next=>exact False.elim hq
    | brk=>exact False.elim hq
    | cont=>exact False.elim hq
    | ret uv =>
      obtain ⟨v,H2,I2,rv,q2⟩:=I1.after hq
      exact wpAny_execs_nil (wpAny_execs_nil ⟨σ,H2,I2,q2⟩)
  | error e =>
    obtain ⟨x,d,T,C,H2,rfl,fl,hx,hT,nx,nT,os,bare,un,hok,hE⟩:=hq
    have I2:=I1.call' (ch:=[]) os un hok bare (fun b z=>nomatch z)
    obtain ⟨ox,vx,hox,hcx,hdx,hfx⟩:=fl.obj
    obtain ⟨oT,tsT,hoT,hfT⟩:∃ oT ts,s2.heap.get? T=some oT∧oT.data=.fields ts:=by
      obtain ⟨_,_,oT,ts,_,_,_,_,_,_,a,b,_⟩:=fl
      exact ⟨oT,ts,a,b⟩
    have nTx:T≠x:=by
      obtain ⟨_,_,_,_,_,_,_,_,_,a,_⟩:=fl
      exact a
    have pinned:∀ b,s1.heap.get? b=none→∀ p∈(cxI P w K mg base N qual scope f cd A outer s H E).pn++pins,p.1≠b:=fun b hb p hp z=>by
      have y:=(I1.pin p hp).1
      rw [z,hb] at y
      cases y
    have J1:=I2.track (a:=x) (o:=HT) hox hfx (I1.new hx) nx (pinned x hx) (HT.ok ⟨_,hox⟩)
    have J2:=J1.track (a:=T) (o:=HT) hoT hfT (I1.new hT) (by rw [ψ nTx]; exact nT) (pinned T hT) (HT.ok ⟨_,hoT⟩)
    refine BX.note_ok (base:=base) (outer:=outer) (L:=s.heap.objs.size) J2.ok.frames J2.stack rfl fl fun h3 T3 fl3 z3 k1 k2 k3=>?_
    have ex2:upd (upd H2 x HT) T HT x=some HT:=by rw [ψ (Ne.symm nTx),ο]
    have tr:∀ c u,upd (upd H2 x HT) T HT c=some u→c≠x→c≠T→c∉(envOfC qual scope s.heap.objs.size f cd::outer).filterMap (·.frame):=fun c u hc _ _ q=>by
      rw [J2.stkFree c q] at hc
      cases hc
    have hok3:HOk P w (upd (upd H2 x HT) T HT) h3:=fun b ob hb=>by
      by_cases e1:b=x
      · subst e1
        rw [ex2] at hb
        cases hb
        obtain ⟨o',q'⟩:=k3 b _ hox
        exact HT.ok ⟨o',q'⟩
      · by_cases e2:b=T
        · subst e2
          rw [ο] at hb
          cases hb
          obtain ⟨o',q'⟩:=k3 b _ hoT
          exact HT.ok ⟨o',q'⟩
        · have keep:∀ c u,upd (upd H2 x HT) T HT c=some u→c≠x→c≠T→∀ v,s2.heap.get? c=some v→h3.get? c=some v:=fun c u hc n1 n2 v hv =>
            k1 c v hv n1 (fun z=>n2 (Option.some.inj z)) (tr c u hc n1 n2)
          refine (J2.hok b ob hb).stay (fun c v hc q=>?_) (fun _ q=>q) fun _ _ q=>q
          rcases hc with hc | hc
          · subst hc
            exact keep _ _ hb e1 e2 v q
          · refine keep c _ hc (fun z=>?_) (fun z=>?_) v q
            · rw [z,ex2] at hc
              cases hc
            · rw [z,ο] at hc
              cases hc
    have un3:Un (frs (cxI P w K mg base N qual scope f cd A outer s H E).stack) [] (upd (upd H2 x HT) T HT) (upd (upd H2 x HT) T HT) s2.heap h3 :=
      { keep:=fun b o hb n nf _=>k1 b o hb (fun z=>by rw [z,ex2] at n; cases n) (fun z=>by rw [Option.some.inj z,ο] at n; cases n) nf
        slot:=fun b o hb n _ _=>k2 b o hb (fun z=>by rw [z,ex2] at n; cases n) (fun z=>by rw [Option.some.inj z,ο] at n; cases n)
        free:=fun b o hb n _=>n
        there:=fun b o hb _=>k3 b o hb
        tups:=fun b xs q=>q
        frzs:=fun b o u q=>q
        tbls:=fun b ps q=>⟨#[],by rw [q]; simp⟩ }
    have J3:=J2.call (h':=h3) (g':=s2.gens) (t':=s2.toks) (d':=s2.drawn) (ch:=[]) un3 hok3 bare (fun b z=>nomatch z)
    have n3:upd (upd H2 x HT) T HT T3=none:=J2.hok.fresh z3
    obtain ⟨oT3,ts3,hoT3,hfT3⟩:∃ oT ts,h3.get? T3=some oT∧oT.data=.fields ts:=by
      obtain ⟨_,_,oT,ts,_,_,_,_,_,_,a,b,_⟩:=fl3
      exact ⟨oT,ts,a,b⟩
    have s2n:s2.heap.get? T3=none:=Heap.get?_none_of_le z3
    have J4:=J3.track (a:=T3) (o:=HT) hoT3 hfT3 (I2.new s2n) n3 (fun p hp z=>by
      have y:=(I2.pin p hp).1
      rw [z,s2n] at y
      cases y) (HT.ok ⟨_,hoT3⟩)
    have ne3:T3≠x:=fun z=>by rw [z,ex2] at n3; cases n3
    have ex4:upd (upd (upd H2 x HT) T HT) T3 HT x=some HT:=by rw [ψ (Ne.symm ne3),ex2]
    have same:∀ H3:Hp,(∀ b,b≠x→H3 b=upd (upd (upd H2 x HT) T HT) T3 HT b)→Δ7 H2 H3:=fun H3 z b o hb=>by
      have b1:b≠x:=ρ hb nx
      have b2:b≠T:=ρ hb nT
      have b3:b≠T3:=fun y=>by
        rw [← y,ψ b2,ψ b1,hb] at n3
        cases n3
      rw [z b b1,ψ b3,ψ b2,ψ b1]
      exact hb
    obtain ⟨d',ed,hcase⟩:=hE
    cases ed
    have cE1:=c1.cls J4.kIn
    have cE2:=c2.cls J4.kIn
    obtain ⟨ox3,vx3,hox3,hcx3,_,_⟩:=fl3.obj
    have J4h:=J4.inH x
    refine wpAny_handleBy_cons (codeAny_handlers_test (ρb J4h hg1 hm1 ?_ hd1)) (by intro z; cases z)
    have cs:C=.ref C1∨C=.ref C2:=by
      rcases hcase x {ox with dict:=some d} vx _ hcx hfx rfl (by show (upd (upd (upd (upd H2 x HT) T HT) T3 HT) x (XO x {ox with dict:=some d})) x=_; exact ο) (same _ fun b nb=>ψ nb) with z | z
      · exact .inl z.1
      · exact .inr z.1
    rcases cs with cs | cs
    · refine BX.match_own (C:=C1) cE1 cE1 hox3 (hcx3.trans cs) ?_
      rw [decide_eq_true rfl]
      refine suite_ok (t1:=t1) (b1:=b1) (r1:=r1) (D:=D) J4 hN hi hn hs1 fl3 ex4 ο fun oe fl H3 y1 y2 y3 y4 y5=>?_
      rcases hcase x oe fl H3 y1 y2 y3 y4 (same H3 y5) with z | z
      · exact z.2
      · exact absurd (Value.ref.inj (cs.symm.trans z.1)) hne
    · refine BX.match_own (C:=C2) cE2 cE1 hox3 (hcx3.trans cs) ?_
      rw [decide_eq_false hne]
      refine wpAny_handleBy_cons (codeAny_handlers_test (ρb J4h hg2 hm2 ?_ hd2)) (by intro z; cases z)
      refine BX.match_own (C:=C2) cE2 cE2 hox3 (hcx3.trans cs) ?_
      rw [decide_eq_true rfl]
      refine suite_ok (t1:=t2) (b1:=b2) (r1:=r2) (D:=D) J4 hN hi hn hs2 fl3 ex4 ο fun oe fl H3 y1 y2 y3 y4 y5=>?_
      rcases hcase x oe fl H3 y1 y2 y3 y4 (same H3 y5) with z | z
      · exact absurd (Value.ref.inj (cs.symm.trans z.1)).symm hne
      · exact z.2
end
end L2
namespace L2
open PySem
theorem ml1 {p:List Value→Prop} (h:∀ a,p [a]):∀ us:List Value,us.length=1→p us
  | [a],_=>h a
theorem ml2 {p:List Value→Prop} (h:∀ a b,p [a,b]):∀ us:List Value,us.length=2→p us
  | [a,b],_=>h a b
theorem ml3 {p:List Value→Prop} (h:∀ a b c,p [a,b,c]):∀ us:List Value,us.length=3→p us
  | [a,b,c],_=>h a b c
theorem ml4 {p:List Value→Prop} (h:∀ a b c d,p [a,b,c,d]):∀ us:List Value,us.length=4→p us
  | [a,b,c,d],_=>h a b c d
theorem ml5 {p:List Value→Prop} (h:∀ a b c d e,p [a,b,c,d,e]):∀ us:List Value,us.length=5→p us
  | [a,b,c,d,e],_=>h a b c d e
theorem ml6 {p:List Value→Prop} (h:∀ a b c d e f,p [a,b,c,d,e,f]):∀ us:List Value,us.length=6→p us
  | [a,b,c,d,e,f],_=>h a b c d e f
end L2
namespace L2
open PySem PySem.Spec PyProof.Rows
structure Callee (P:Program) (w:World) (K:PySem.W.Frag) (mg:Str→Option Value) (base:Heap) (k:Nat) (x:Str) (ps:List Str) (sp:Sp):Prop where
  ex:∃ f fd,mg x=some (.ref f)∧PySem.W.keepIn K (.ref f)=true∧ιe K fd ps []∧FnOk P w K mg base (CXI P w) k f fd ps sp
noncomputable def Has (K:PySem.W.Frag) (mg:Str→Option Value) (x qual:Str) (st:Stmt):Prop:=∃ f fd,mg x=some (.ref f)∧Fun K qual qual st f fd
section
variable {P:Program} {w:World} {K:PySem.W.Frag} {mg:Str→Option Value} {base:Heap} {N:List Str} {qual:Str} {scope:Scope} {f:Addr} {cd:Value} {A:Around} {outer:List Env} {s:Shared} {H:Hp} {E:XK}
variable {x:Str} {p pos:Pos} {e:Expr} {es:List Expr} {t:TA} {k k':Nat} {ps:List Str} {sp:Sp}
theorem τ (c:Callee P w K mg base k x ps sp) (hr:Room k' (cxI P w K mg base N qual scope f cd A outer s H E).A) (hk:k≤k') (hg:Gl (cxI P w K mg base N qual scope f cd A outer s H E) x)
    (ha:PA (cxI P w K mg base N qual scope f cd A outer s H E) (e::es) t) (hdb:(x == ("__debug__":Str))=false:=by decide)
    (he:starEach (e::es) (cxI P w K mg base N qual scope f cd A outer s H E).env=(false,eval e (cxI P w K mg base N qual scope f cd A outer s H E).env)::starEach es (cxI P w K mg base N qual scope f cd A outer s H E).env:=by rfl)
    (hpl:(backTo pos (starEach es (cxI P w K mg base N qual scope f cd A outer s H E).env)).any (·.1)=false:=by rfl) :
    PE (cxI P w K mg base N qual scope f cd A outer s H E) (.Call (.Name x p) (e::es) [] pos) (tCall sp [] E t) :=
  let ⟨g,gd,h1,h2,h3,h4⟩:=c.ex
  pe_call (X:=cxI P w K mg base N qual scope f cd A outer s H E) h4 (hr.mono hk) hg h1 h2 h3 .nil passI ha hdb he hpl
end
theorem ω {P:Program} {w:World} {K:PySem.W.Frag} {mg:Str→Option Value} {base:Heap} {x qual:Str} {st:Stmt} {N ps:List Str} {k:Nat} {sp:Sp} (h:Has K mg x qual st) (S:FnScope N ps (ξ st)) (len:∀ vs H Q E,sp vs H Q E→vs.length=ps.length)
    (hb:∀ (kV doc pm:Value) (an:Option Addr) (cdv ct:Value) (us:List Value),us.length=ps.length→bindArgs (PySem.W.fnOf qual qual (Φd st) (θ7 st) (ξ st) .none kV doc pm an cdv ct) ⟨us,[]⟩=pure (ps.zip us))
    (hbody:∀ (f:Addr) (cdv:Value) (A:Around) (outer:List Env) (s:Shared) (H:Hp) (vs:List V) (Q:VK) (E:XK),Room k (A.deeper (envOfC qual (ξ st) s.heap.objs.size f cdv))→sp vs H Q E →
      ∃ t,PSs (cxI P w K mg base N qual (ξ st) f cdv A outer s H E) (θ7 st) t∧t {nx:=fun _ H'=>Q .non H',rt:=Q} (start N vs) H):Callee P w K mg base (k+1) x ps sp:=by
  obtain ⟨f,fd,h1,F⟩:=h
  exact ⟨f,fd,h1,F.kp,F.binds hb,F.okI S len fun cdv A outer s H vs Q E hr hsp=>hbody f cdv A outer s H vs Q E hr hsp⟩
end L2
namespace L2
open PySem PySem.Spec PyProof.Rows
noncomputable def θ9 (P:Program) (w:World) (K:PySem.W.Frag) (a:Addr) (kvs:List (Int×Addr)):Prop:=(a == sysModules)=false∧∀ h,K.In h→h.DictOf (τ5 P w) a (kvs.map fun p=>((Sum.inl p.1:Key),Value.ref p.2))
noncomputable def tabV:Option Addr→V
  | some f=>.ref f
  | none=>.non
theorem kd_at {kvs:List (Int×Addr)} {n:Int}:valueAt (kvs.map fun p=>((Sum.inl p.1:Key),Value.ref p.2)) (Sum.inl n)=(kvs.lookup n).map Value.ref:=by
  induction kvs with
  | nil=>rfl
  | cons p r ih =>
    unfold valueAt at ih ⊢
    rw [List.map_cons,List.find?_cons]
    by_cases e:p.1=n
    · subst e
      simp [List.lookup]
    · have e1:decide ((Sum.inl p.1:Key)=Sum.inl n)=false:=decide_eq_false fun z=>e (Sum.inl.inj z)
      have e2:(n == p.1)=false:=by simpa using fun z:n=p.1=>e z.symm
      simp only [e1,List.lookup,e2]
      exact ih
section
variable {X:Cx} {o i e:Expr} {pos apos cpos:Pos} {to ti te:TE}
noncomputable def tKGet (P:Program) (w:World) (K:PySem.W.Frag) (to te:TE):TE:=fun σ H Q=>to σ H fun x H1=>∃ a kvs,x=.ref a∧θ9 P w K a kvs∧te σ H1 fun y H2=>∃ n,y=.int n∧Q (tabV (kvs.lookup n)) H2
theorem pe_kget (ho:PE X o to) (he:PE X e te) (m:M1 X o "get" apos e cpos):PE X (.Call (.Attribute o "get" apos) [e] [] cpos) (tKGet X.prog X.w X.K to te):=by
  intro pins s σ H Q I h
  refine wpAny_Call_method m.base m.few m.line PySem.F.plainAttrs_dict PySem.F.slot_dict_get PySem.F.type_dict_get (thn (ho pins s σ H _ I h) fun u s1 ⟨x,H1,I1,rx,a,kvs,ex,kd,q1⟩=>?_)
  subst ex
  obtain rfl:u=Value.ref a:=rx
  have dd:=kd.2 _ I1.kIn
  refine ⟨dd.typeIs,fun b z=>?_,?_⟩
  · cases z
    obtain ⟨ob,_,_,h1,h2,_⟩:=dd
    exact ⟨ob,h1,h2.2.1⟩
  rw [m.trees]
  refine Calls.callWith_builtin rfl (Calls.evalArgs_plain (Calls.spliced_cons (thn (he pins s1 σ H1 _ I1 q1) fun iv s2 ⟨y,H2,I2,ry,n,ey,q2⟩=>Calls.spliced_nil ?_)))
  subst ey
  have d2:=kd.2 _ I2.kIn
  refine call_meetsIn PySem.F.slot_dict_get d2.typeIs PySem.F.entry_dict_get (PySem.F.args_dict_get_2 _ _) (meets_dict_get (τ5 X.prog X.w) a (kV_is (k:=Sum.inl n) ry) kd.1) ⟨_,d2.mapOf,?_⟩
  refine ⟨_,H2,I2.tok _,?_,q2⟩
  show ο4 (tabV (kvs.lookup n)) ((valueAt (kvs.map fun p=>((Sum.inl p.1:Key),Value.ref p.2)) (Sum.inl n)).getD .none)
  rw [kd_at]
  cases kvs.lookup n <;> rfl
noncomputable def tKIx (P:Program) (w:World) (K:PySem.W.Frag) (to ti:TE):TE:=fun σ H Q=>to σ H fun x H1=>ti σ H1 fun y H2=>∃ a kvs n f,x=.ref a∧y=.int n∧θ9 P w K a kvs∧kvs.lookup n=some f∧Q (.ref f) H2
theorem pe_kix (ho:PE X o to) (hi:PE X i ti) (hs:NoSl i):PE X (.Subscript o i pos) (tKIx X.prog X.w X.K to ti):=by
  intro pins s σ H Q I h
  refine subD_of PySem.F.slot_dict_getitem.lookup hs (thn (ho pins s σ H _ I h) fun u s1 ⟨x,H1,I1,rx,q1⟩=>thn (hi pins s1 σ H1 _ I1 q1) fun iv s2 ⟨y,H2,I2,ry,a,kvs,n,f,ex,ey,kd,l,q2⟩=>?_)
  subst ex ey
  obtain rfl:u=Value.ref a:=rx
  have d2:=kd.2 _ I2.kIn
  refine ⟨d2.typeIs,wpAny_getItem_of (kV_is (k:=Sum.inl n) ry) d2.mapOf (v:=.ref f) ?_ ⟨.ref f,H2,I2.tok _,rfl,q2⟩⟩
  show valueAt (kvs.map fun p=>((Sum.inl p.1:Key),Value.ref p.2)) (Sum.inl n)=some (.ref f)
  rw [kd_at,l]
  rfl
noncomputable def tKIn (P:Program) (w:World) (K:PySem.W.Frag) (ti to:TE):TE:=fun σ H Q=>ti σ H fun y H1=>to σ H1 fun x H2=>∃ a kvs n,x=.ref a∧y=.int n∧θ9 P w K a kvs∧Q (.bl (kvs.lookup n).isSome) H2
theorem pc_kin (hi:PE X i ti) (ho:PE X o to):PC X .In i o (tKIn X.prog X.w X.K ti to):=by
  intro pins s σ H Q I h
  refine thn (hi pins s σ H _ I h) fun iv s1 ⟨y,H1,I1,ry,q1⟩=>thn (ho pins s1 σ H1 _ I1 q1) fun u s2 ⟨x,H2,I2,rx,a,kvs,n,ex,ey,kd,q2⟩=>?_
  subst ex ey
  obtain rfl:u=Value.ref a:=rx
  have d2:=kd.2 _ I2.kIn
  refine wpAny_in_of (kV_is (k:=Sum.inl n) ry) kd.1 d2.mapOf ?_
  have e:(valueAt (kvs.map fun p=>((Sum.inl p.1:Key),Value.ref p.2)) (Sum.inl n)).isSome=(kvs.lookup n).isSome:=by
    rw [kd_at,Option.isSome_map]
  show EP X pins σ Q (.bool (valueAt (kvs.map fun p=>((Sum.inl p.1:Key),Value.ref p.2)) (Sum.inl n)).isSome) _
  rw [e]
  exact ⟨.bl _,H2,I2.tok _,rfl,q2⟩
end
structure Fa (P:Program) (w:World) (K:PySem.W.Frag) (mg:Str→Option Value) (base:Heap) (k:Nat) (f:Addr) (ps:List Str) (sp:Sp):Prop where
  kp:PySem.W.keepIn K (.ref f)=true
  ex:∃ fd,ιe K fd ps []∧FnOk P w K mg base (CXI P w) k f fd ps sp
noncomputable def HasF (K:PySem.W.Frag) (f:Addr) (qual:Str) (st:Stmt):Prop:=∃ fd,Fun K qual qual st f fd
theorem Ψ0 {P:Program} {w:World} {K:PySem.W.Frag} {mg:Str→Option Value} {base:Heap} {qual:Str} {st:Stmt} {N ps:List Str} {k:Nat} {sp:Sp} {f:Addr} (h:HasF K f qual st) (S:FnScope N ps (ξ st)) (len:∀ vs H Q E,sp vs H Q E→vs.length=ps.length)
    (hb:∀ (kV doc pm:Value) (an:Option Addr) (cdv ct:Value) (us:List Value),us.length=ps.length→bindArgs (PySem.W.fnOf qual qual (Φd st) (θ7 st) (ξ st) .none kV doc pm an cdv ct) ⟨us,[]⟩=pure (ps.zip us))
    (hbody:∀ (cdv:Value) (A:Around) (outer:List Env) (s:Shared) (H:Hp) (vs:List V) (Q:VK) (E:XK),Room k (A.deeper (envOfC qual (ξ st) s.heap.objs.size f cdv))→sp vs H Q E →
      ∃ t,PSs (cxI P w K mg base N qual (ξ st) f cdv A outer s H E) (θ7 st) t∧t {nx:=fun _ H'=>Q .non H',rt:=Q} (start N vs) H):Fa P w K mg base (k+1) f ps sp:=by
  obtain ⟨fd,F⟩:=h
  exact ⟨F.kp,fd,F.binds hb,F.okI S len fun cdv A outer s H vs Q E hr hsp=>hbody cdv A outer s H vs Q E hr hsp⟩
section
variable {P:Program} {w:World} {K:PySem.W.Frag} {mg:Str→Option Value} {base:Heap} {N:List Str} {qual:Str} {scope:Scope} {f:Addr} {cd:Value} {A:Around} {outer:List Env} {s:Shared} {H:Hp} {E:XK}
variable {x:Str} {p pos:Pos} {fe e:Expr} {es:List Expr} {tf:TE} {t:TA} {k':Nat}
noncomputable def tFun (P:Program) (w:World) (K:PySem.W.Frag) (mg:Str→Option Value) (base:Heap) (k':Nat) (E:XK) (tf:TE) (t:TA):TE:=fun σ H Q=>tf σ H fun y H1=>∃ g,y=.ref g∧PySem.W.keepIn K (.ref g)=true ∧
  t σ H1 fun vs H2=>∃ k ps sp,k≤k'∧Fa P w K mg base k g ps sp∧sp vs H2 Q E
theorem υh (hr:Room k' (cxI P w K mg base N qual scope f cd A outer s H E).A) (hf:PE (cxI P w K mg base N qual scope f cd A outer s H E) fe tf) (ha:PA (cxI P w K mg base N qual scope f cd A outer s H E) (e::es) t)
    (hc:eval (.Call fe (e::es) [] pos) (cxI P w K mg base N qual scope f cd A outer s H E).env=(do
      callWith pos (← eval fe (cxI P w K mg base N qual scope f cd A outer s H E).env) [] (backTo pos (starEach (e::es) (cxI P w K mg base N qual scope f cd A outer s H E).env)) (backToKw pos (keywordEach [] (cxI P w K mg base N qual scope f cd A outer s H E).env))):=by rfl)
    (he:starEach (e::es) (cxI P w K mg base N qual scope f cd A outer s H E).env=(false,eval e (cxI P w K mg base N qual scope f cd A outer s H E).env)::starEach es (cxI P w K mg base N qual scope f cd A outer s H E).env:=by rfl)
    (hpl:(backTo pos (starEach es (cxI P w K mg base N qual scope f cd A outer s H E).env)).any (·.1)=false:=by rfl) :
    PE (cxI P w K mg base N qual scope f cd A outer s H E) (.Call fe (e::es) [] pos) (tFun P w K mg base k' E tf t):=by
  intro pins s0 σ H0 Q I h
  rw [hc]
  refine wpAny_bind (thn (hf pins s0 σ H0 _ I h) fun u s1 ⟨y,H1,I1,ry,g,ey,kp,q1⟩=>?_)
  subst ey
  obtain rfl:u=Value.ref g:=ry
  refine PySem.W.callWith_K (h₀:=base) I1.ok.mod.kin kp (thn (ha pos pins s1 σ H1 _ I1 q1) fun us s2 ⟨vs,H2,I2,r,k,ps,sp,hk,fa,q2⟩=>⟨I2.kIn,?_⟩) he hpl
  obtain ⟨fd,b,F⟩:=fa.ex
  exact run_fn (X:=cxI P w K mg base N qual scope f cd A outer s H E) F (hr.mono hk) b .nil passI I2 r (by rw [List.append_nil]; exact q2)
end
end L2
namespace HT
open PySem PyProof.Rows
theorem Ωk {vs:List Value} {ns:List Int} (h:IntsAre vs ns):∀ i (hi:i < vs.length) (hj:i < ns.length),∃ t,vs[i]=.int ns[i] t:=by
  induction h with
  | nil=>intro i hi; exact absurd hi (by simp)
  | cons n t r ih =>
    intro i hi hj
    cases i with
    | zero=>exact ⟨t,rfl⟩
    | succ i=>exact ih i (by simpa using hi) (by simpa using hj)
section
open PySem.SeqAt
open PySem.AutoSeq1 (wpAny_loadPart')
open PySem.MeetsSeq PySem.MeetsSeq2 PySem.MeetsSeq3 PySem.SeqRoads2
theorem lt_loopInts (l b:Addr) (items items2:Array Value) (n n2:Nat) (dd dd2:Option Addr) (sl sl2:Array (Option Value)) (ns ms:List Int) (hi:IntsAre items.toList ns) (hj:IntsAre items2.toList ms) (hsz:items.size=items2.size) (k:Nat) :
    ∀ i:Nat,items.size - i=k→Meets (Builtin.«list.__eq__.loop» ⟨[.ref l,.ref b,rawInt i,rawInt 0],[]⟩)
      (fun A R s=>s.heap.get? l=some {cls:=.type "list",dict:=dd,data:=.seq items n,slots:=sl}∧s.heap.get? b=some {cls:=.type "list",dict:=dd2,data:=.seq items2 n2,slots:=sl2} ∧
        R (.ok (.ret (.bool (κf (ns.drop i) (ms.drop i))))) s):=by
  have z1:items.size=ns.length:=by rw [← hi.length]; simp
  have z2:items2.size=ms.length:=by rw [← hj.length]; simp
  induction k with
  | zero =>
    intro i hk prog w A R s h
    obtain ⟨hp,g,d,tk,os⟩:=s; obtain ⟨hl,hb,h⟩:=h
    wp_walk using wpAny_loadPart' hl,wpAny_loadPart' hb
    have hi1:items[((i:Nat):Int).toNat]?=none:=by simp; omega
    have hi2:items2[((i:Nat):Int).toNat]?=none:=by simp; omega
    rw [List.drop_eq_nil_of_le (by omega),List.drop_eq_nil_of_le (by omega),lexLt_nil_nil] at h
    rw [hi1,hi2]
    wp_walk using wpAny_loadPart' hl,wpAny_loadPart' hb
    show R (.ok (.ret (.bool (decide (items.size < items2.size))))) _
    rw [decide_eq_false (by omega)]
    exact h
  | succ k ih =>
    intro i hk prog w A R s h
    obtain ⟨hp,g,d,tk,os⟩:=s; obtain ⟨hl,hb,h⟩:=h
    wp_walk using wpAny_loadPart' hl,wpAny_loadPart' hb
    have hlt:i < items.size:=by omega
    have hlt2:i < items2.size:=by omega
    have hi1:items[((i:Nat):Int).toNat]?=some items[i]:=by simp [hlt]
    have hi2:items2[((i:Nat):Int).toNat]?=some items2[i]:=by simp [hlt2]
    have hc:((i:Int)+1)=((i+1:Nat):Int):=by push_cast; rfl
    obtain ⟨t,e1⟩:=Ωk hi i (by simpa using hlt) (by omega)
    obtain ⟨u,e2⟩:=Ωk hj i (by simpa using hlt2) (by omega)
    have e1':items[i]=.int ns[i] t:=by simpa using e1
    have e2':items2[i]=.int ms[i] u:=by simpa using e2
    rw [List.drop_eq_getElem_cons (i:=i) (l:=ns) (by omega),List.drop_eq_getElem_cons (i:=i) (l:=ms) (by omega),ψn] at h
    rw [hi1,hi2,e1',e2']
    obtain ⟨e,he,hiff⟩:=eqAt_int A.in1 ⟨hp,g,d,tk,os⟩ ns[i] t ms[i] u
    refine wpAny_bind (he prog w _ _ ?_)
    cases e with
    | true =>
      rw [if_pos (hiff.mp rfl)] at h
      wp_walk
      rw [hc]
      exact ⟨plainId_quiet plain_eq_loop _,codeAny_builtin entry_eq_loop (by
        rw [Around.under_plainId plain_eq_loop _]
        exact ih (i+1) (by omega) prog w A R _ ⟨hl,hb,h⟩)⟩
    | false =>
      rw [if_neg (fun q=>absurd (hiff.mpr q) Bool.false_ne_true)] at h
      wp_walk using wpAny_loadPart' hl,wpAny_loadPart' hb
      rw [hi1,hi2,e1',e2']
      have hri:=rcLt_int A.in1 ⟨hp,g,d,tk,os⟩ ns[i] t ms[i] u prog w
      wp_walk using hri
      exact h
theorem list_lt_ints (l b:Addr) (items items2:Array Value) (n n2:Nat) (dd dd2:Option Addr) (sl sl2:Array (Option Value)) (ns ms:List Int) (hi:IntsAre items.toList ns) (hj:IntsAre items2.toList ms) (hsz:items.size=items2.size) :
    Meets (Builtin.«list.__lt__» ⟨[.ref l,.ref b],[]⟩)
      (fun A R s=>s.heap.get? l=some {cls:=.type "list",dict:=dd,data:=.seq items n,slots:=sl}∧s.heap.get? b=some {cls:=.type "list",dict:=dd2,data:=.seq items2 n2,slots:=sl2} ∧
        R (.ok (.ret (.bool (κf ns ms)))) s):=by
  intro prog w A R s h
  obtain ⟨hp,g,d,tk,os⟩:=s; obtain ⟨hl,hb,h⟩:=h
  have f3:=AutoSeq1.sub_list_list
  wp_walk using wpAny_loadPart' hl,wpAny_loadPart' hb
  exact ⟨plainId_quiet plain_eq_loop _,codeAny_builtin entry_eq_loop (by
    rw [Around.under_plainId plain_eq_loop _]
    exact lt_loopInts l b items items2 n n2 dd dd2 sl sl2 ns ms hi hj hsz _ 0 rfl prog w A R _ ⟨hl,hb,by simpa using h⟩)⟩
end
section
variable {prog:Program} {w:World} {A:Around} {E:Value→Shared→Prop} {s:Shared}
theorem lt_lstInts {l b:Addr} {its its2:List Value} {ns ms:List Int} {Q:Value→Shared→Prop} {o o2:Obj} {n n2:Nat} (hl:s.heap.get? l=some o) (hc:o.cls=.type "list") (hd:o.data=.seq its.toArray n) (hb:s.heap.get? b=some o2) (hc2:o2.cls=.type "list") (hd2:o2.data=.seq its2.toArray n2) (hi:IntsAre its ns) (hj:IntsAre its2 ms) (hsz:ns.length=ms.length)
    (hu:A.units < cLine) (h:Q (.bool (κf ns ms)) s):wpAny (model prog w) A (compareOp .Lt (.ref l) (.ref b)) Q E s:=by
  obtain ⟨cls,dd,data,sl⟩:=o
  obtain ⟨cls2,dd2,data2,sl2⟩:=o2
  simp only at hc hd hc2 hd2
  subst hc hd hc2 hd2
  exact richCompare_meets_room (op:=.Lt) ⟨_,hl,rfl⟩ ⟨_,hb,rfl⟩ PySem.F.slot_list_lt PySem.F.entry_list_lt (PySem.F.args_list_lt_2 _ _) (list_lt_ints l b its.toArray its2.toArray n n2 dd dd2 sl sl2 ns ms (by simpa using hi) (by simpa using hj) (by simp [hi.length,hj.length,hsz]))
    ⟨hl,hb,show Value.bool (κf ns ms)≠Value.notImplemented∧Q (.bool (κf ns ms)) s from ⟨(fun x=>nomatch x),h⟩⟩ hu
end
end HT
namespace L2
open PySem PySem.Spec PyProof.Rows
noncomputable def rLtL (K:PySem.W.Frag):R2:=fun x y H Q=>∃ a b ns ms,x=.ref a∧y=.ref b∧SqL K H a (ns.map V.int)∧SqL K H b (ms.map V.int)∧ns.length=ms.length∧Q (.bl (HT.κf ns ms)) H
theorem op_ltL {X:Cx} (hu:X.A.units < cLine):OpR X (compareOp .Lt) (rLtL X.K):=by
  intro pins s σ H x y v u Q I rx ry h
  obtain ⟨a,b,ns,ms,rfl,rfl,ha,hb,hl,q⟩:=h
  cases rx
  cases ry
  obtain ⟨its,r1,⟨o,n,ho,hc,_,hd⟩,_⟩:=I.list ha
  obtain ⟨its2,r2,⟨o2,n2,ho2,hc2,_,hd2⟩,_⟩:=I.list hb
  exact HT.lt_lstInts ho hc hd ho2 hc2 hd2 (Φg r1) (Φg r2) hl hu ⟨.bl (HT.κf ns ms),H,I,rfl,q⟩
theorem ζm {K:PySem.W.Frag} {H:Hp}:∀ ns:List Int,DpAll K H (ns.map V.int) (ns.map PyData.int)
  | []=>.nil
  | n::ns=>.cons (.int n) (ζm ns)
end L2
namespace L2
open PySem PySem.Spec PyProof.Rows
theorem can_ints:∀ ns:List Int,PyData.canLayAll0 (ns.map PyData.int)=true
  | []=>by simp only [List.map_nil,PyData.canLayAll0]
  | n::ns=>by simp only [List.map_cons,PyData.canLayAll0,PyData.canLay0,can_ints ns,Bool.and_self]
theorem dep_ints:∀ ns:List Int,PyData.depthAll (ns.map PyData.int)≤1
  | []=>by simp [PyData.depthAll]
  | n::ns=>by
    have:=dep_ints ns
    simp only [List.map_cons,PyData.depthAll,PyData.depth]
    omega
theorem ι8 (ns:List Int):SeqAt.shaped (.list (ns.map PyData.int))=true:=by
  have h:=dep_ints ns
  unfold SeqAt.shaped
  rw [Bool.and_eq_true]
  constructor
  · simp only [PyData.canLay0]
    exact can_ints ns
  · refine decide_eq_true ?_
    simp only [PyData.depth]
    omega
theorem eqv_ints:∀ ns ms:List Int,PyData.eqvAll (ns.map PyData.int) (ms.map PyData.int)=decide (ns=ms)
  | [],[]=>by simp [PyData.eqvAll]
  | [],m::ms=>by simp [PyData.eqvAll]
  | n::ns,[]=>by simp [PyData.eqvAll]
  | n::ns,m::ms=>by
    simp only [List.map_cons,PyData.eqvAll,PyData.eqv,eqv_ints ns ms]
    by_cases a:n=m <;> by_cases b:ns=ms <;> simp [a,b]
theorem rd_eqL {K:PySem.W.Frag} {H:Hp} {Q:VK} {a b:Addr} {ns ms:List Int} (ha:SqL K H a (ns.map V.int)) (hb:SqL K H b (ms.map V.int)) (q:Q (.bl (decide (ns=ms))) H):rEqD K (.ref a) (.ref b) H Q :=
  ⟨_,_,.lst ha (ζm ns),.lst hb (ζm ms),ι8 ns,ι8 ms,by
    rw [show PyData.eqv (.list (ns.map PyData.int)) (.list (ms.map PyData.int))=PyData.eqvAll (ns.map PyData.int) (ms.map PyData.int) by simp only [PyData.eqv],eqv_ints]
    exact q⟩
theorem rd_neL {K:PySem.W.Frag} {H:Hp} {Q:VK} {a b:Addr} {ns ms:List Int} (ha:SqL K H a (ns.map V.int)) (hb:SqL K H b (ms.map V.int)) (q:Q (.bl (!decide (ns=ms))) H):rNeD K (.ref a) (.ref b) H Q :=
  ⟨_,_,.lst ha (ζm ns),.lst hb (ζm ms),ι8 ns,ι8 ms,by
    rw [show PyData.eqv (.list (ns.map PyData.int)) (.list (ms.map PyData.int))=PyData.eqvAll (ns.map PyData.int) (ms.map PyData.int) by simp only [PyData.eqv],eqv_ints]
    exact q⟩
theorem rd_ltL {K:PySem.W.Frag} {H:Hp} {Q:VK} {a b:Addr} {ns ms:List Int} (ha:SqL K H a (ns.map V.int)) (hb:SqL K H b (ms.map V.int)) (hl:ns.length=ms.length) (q:Q (.bl (HT.κf ns ms)) H):rLtL K (.ref a) (.ref b) H Q :=
  ⟨a,b,ns,ms,rfl,rfl,ha,hb,hl,q⟩
end L2
namespace BM
open PySem PySem.Spec PyProof.Rows L2
noncomputable abbrev M:=Ra23.M
structure Hd where
  a:Addr
  dx:Addr
  r:Addr
  q:Addr
noncomputable def regV (m:M):List V:=(List.range 16).map fun i=>V.int (m.r i:Int)
noncomputable def memV (m:M):List V:=(List.range 65536).map fun i=>V.int (m.mem i:Int)
noncomputable def Γn (r q:Addr) (m:M) (hv:Nat):List (Str×V):=[("registers",.ref r),("following",.int m.at_),("condition",.int m.cc),("mask",.int m.mask),("memory",.ref q),("halves",.int hv)]
structure Ok (m:M):Prop where
  reg:∀ i,m.r i < 2^32
  at_:m.at_ < 2^24
  cc:m.cc < 4
  mask:m.mask < 16
  mem:∀ p,m.mem p < 256
structure Mach (C:Addr) (d:Hd) (H:Hp) (m:M) (hv:Nat):Prop where
  ob:H d.a=some (.ins C d.dx (Γn d.r d.q m hv))
  rg:H d.r=some (.lst (regV m))
  mm:H d.q=some (.lst (memV m))
  ok:Ok m
  hv:hv≤3
noncomputable def Keep (d:Hd) (H H':Hp):Prop:=∀ b o,H b=some o→b≠d.a→b≠d.r→b≠d.q→H' b=some o
theorem Keep.refl (d:Hd) (H:Hp):Keep d H H:=fun _ _ h _ _ _=>h
theorem Keep.trans {d:Hd} {H H1 H2:Hp} (a:Keep d H H1) (b:Keep d H1 H2):Keep d H H2:=fun c o h n1 n2 n3=>b c o (a c o h n1 n2 n3) n1 n2 n3
theorem Keep.of_same {d:Hd} {H H':Hp} (h:Δ7 H H'):Keep d H H':=fun b o e _ _ _=>h b o e
theorem Keep.a {d:Hd} {H:Hp} {o:HO}:Keep d H (upd H d.a o):=fun b _ h n _ _=>by rw [ψ n]; exact h
theorem Keep.r {d:Hd} {H:Hp} {o:HO}:Keep d H (upd H d.r o):=fun b _ h _ n _=>by rw [ψ n]; exact h
theorem Keep.q {d:Hd} {H:Hp} {o:HO}:Keep d H (upd H d.q o):=fun b _ h _ _ n=>by rw [ψ n]; exact h
theorem Keep.new {d:Hd} {H:Hp} {x:Addr} {o:HO} (hx:H x=none):Keep d H (upd H x o):=fun b _ h _ _ _=>by rw [ψ (ρ h hx)]; exact h
theorem regV_len (m:M):(regV m).length=16:=by unfold regV; rw [List.length_map,List.length_range]
theorem memV_len (m:M):(memV m).length=65536:=by unfold memV; rw [List.length_map,List.length_range]
theorem map_set {f g:Nat→V} {n k:Nat} (hk:k < n) (h:∀ i,i≠k→g i=f i):((List.range n).map f).set k (g k)=(List.range n).map g:=by
  apply List.ext_getElem?
  intro i
  rw [List.getElem?_set]
  by_cases e:k=i
  · subst e
    simp [hk]
  · rw [if_neg e,List.getElem?_map,List.getElem?_map]
    cases q:(List.range n)[i]? with
    | none=>rfl
    | some j =>
      have:j=i:=by
        obtain ⟨h1,h2⟩:=List.getElem?_eq_some_iff.mp q
        rw [List.getElem_range] at h2
        exact h2.symm
      subst this
      simp [h j (Ne.symm e)]
theorem regV_set {m:M} {k x:Nat} (hk:k < 16):(regV m).set k (.int (x:Int))=regV (Ra23.set m k x):=by
  have h:=map_set (f:=fun i=>V.int (m.r i:Int)) (g:=fun i=>V.int ((Ra23.set m k x).r i:Int)) hk (fun i hi=>by show V.int (((if i=k then x else m.r i:Nat)):Int)=_; rw [if_neg hi])
  have e:V.int ((Ra23.set m k x).r k:Int)=V.int (x:Int):=by show V.int (((if k=k then x else m.r k:Nat)):Int)=_; rw [if_pos rfl]
  rw [e] at h
  exact h
theorem memV_set {m:M} {p x:Nat} (hp:p < 65536):(memV m).set p (.int (x:Int))=memV (Ra23.byteIn m p x):=by
  have h:=map_set (f:=fun i=>V.int (m.mem i:Int)) (g:=fun i=>V.int ((Ra23.byteIn m p x).mem i:Int)) hp (fun i hi=>by show V.int (((if i=p then x else m.mem i:Nat)):Int)=_; rw [if_neg hi])
  have e:V.int ((Ra23.byteIn m p x).mem p:Int)=V.int (x:Int):=by show V.int (((if p=p then x else m.mem p:Nat)):Int)=_; rw [if_pos rfl]
  rw [e] at h
  exact h
theorem regV_at {m:M} {k:Nat} (hk:k < 16):atI (regV m) (k:Int)=some (.int (m.r k:Int)):=atI_nat (by unfold regV; rw [List.getElem?_map,List.getElem?_range hk] <;> rfl)
theorem memV_at {m:M} {p:Nat} (hp:p < 65536):atI (memV m) (p:Int)=some (.int (m.mem p:Int)):=atI_nat (by unfold memV; rw [List.getElem?_map,List.getElem?_range hp] <;> rfl)
theorem ixN_nat {n k:Nat} (h:k < n):ixN n (k:Int)=some k:=by
  unfold ixN
  rw [if_pos (Int.natCast_nonneg k),if_pos (by omega)]
  simp
theorem regV_ix {m:M} {k:Nat} (hk:k < 16):ixN (regV m).length (k:Int)=some k:=by rw [regV_len]; exact ixN_nat hk
theorem memV_ix {m:M} {p:Nat} (hp:p < 65536):ixN (memV m).length (p:Int)=some p:=by rw [memV_len]; exact ixN_nat hp
section
variable {C:Addr} {d:Hd} {H:Hp} {m:M} {hv:Nat}
theorem Mach.nar (x:Mach C d H m hv):d.a≠d.r:=οa x.ob x.rg (by intro z; cases z)
theorem Mach.naq (x:Mach C d H m hv):d.a≠d.q:=οa x.ob x.mm (by intro z; cases z)
theorem Mach.nrq (x:Mach C d H m hv):d.r≠d.q:=οa x.rg x.mm (by
  intro z
  have e:=congrArg (fun o=>match o with | HO.lst xs=>xs.length | _=>0) z
  simp only [regV_len,memV_len] at e
  exact absurd e (by decide))
theorem Mach.setR (x:Mach C d H m hv) {k v:Nat} (hk:k < 16) (hv':v < 2^32):Mach C d (upd H d.r (.lst ((regV m).set k (.int (v:Int))))) (Ra23.set m k v) hv:=by
  refine ⟨?_,?_,?_,⟨fun i=>?_,x.ok.at_,x.ok.cc,x.ok.mask,x.ok.mem⟩,x.hv⟩
  · rw [ψ x.nar]; exact x.ob
  · rw [ο,regV_set hk]
  · rw [ψ (Ne.symm x.nrq)]; exact x.mm
  · show (if i=k then v else m.r i) < _
    split
    · exact hv'
    · exact x.ok.reg i
theorem Mach.setB (x:Mach C d H m hv) {p v:Nat} (hp:p < 65536) (hv':v < 256):Mach C d (upd H d.q (.lst ((memV m).set p (.int (v:Int))))) (Ra23.byteIn m p v) hv:=by
  refine ⟨?_,?_,?_,⟨x.ok.reg,x.ok.at_,x.ok.cc,x.ok.mask,fun i=>?_⟩,x.hv⟩
  · rw [ψ x.naq]; exact x.ob
  · rw [ψ x.nrq]; exact x.rg
  · rw [ο,memV_set hp]
  · show (if i=p then v else m.mem i) < _
    split
    · exact hv'
    · exact x.ok.mem i
theorem Mach.keep {H':Hp} (x:Mach C d H m hv) (s:Δ7 H H'):Mach C d H' m hv:=⟨s _ _ x.ob,s _ _ x.rg,s _ _ x.mm,x.ok,x.hv⟩
theorem Mach.new {y:Addr} {o:HO} (x:Mach C d H m hv) (hy:H y=none):Mach C d (upd H y o) m hv:=x.keep fun b _ h=>by rw [ψ (ρ h hy)]; exact h
end
section
variable {r q:Addr} {m:M} {hv:Nat}
theorem οl:(Γn r q m hv).lookup ("registers":Str)=some (.ref r):=rfl
theorem χl:(Γn r q m hv).lookup ("following":Str)=some (.int m.at_):=rfl
theorem ωl:(Γn r q m hv).lookup ("condition":Str)=some (.int m.cc):=rfl
theorem f_mask:(Γn r q m hv).lookup ("mask":Str)=some (.int m.mask):=rfl
theorem f_memory:(Γn r q m hv).lookup ("memory":Str)=some (.ref q):=rfl
theorem f_halves:(Γn r q m hv).lookup ("halves":Str)=some (.int hv):=rfl
theorem ηk (n:Nat):Ψh "following" (.int (n:Int)) (Γn r q m hv)=Γn r q {m with at_:=n} hv:=rfl
theorem θk (n:Nat):Ψh "condition" (.int (n:Int)) (Γn r q m hv)=Γn r q {m with cc:=n} hv:=rfl
theorem p_mask (n:Nat):Ψh "mask" (.int (n:Int)) (Γn r q m hv)=Γn r q {m with mask:=n} hv:=rfl
theorem p_halves (n:Nat):Ψh "halves" (.int (n:Int)) (Γn r q m hv)=Γn r q m n:=rfl
theorem p_memory (q':Addr):Ψh "memory" (.ref q') (Γn r q m hv)=Γn r q' m hv:=rfl
end
theorem mkS {N P:List Str} {sc:Scope} (a:sc.kind=.function:=by rfl) (b:sc.isCoroutine=false:=by rfl) (c:sc.isGenerator=false:=by rfl) (d:N.Nodup:=by decide +kernel) (e:N.take P.length=P:=by rfl) (f:∀ x∈P,sc.names.lookup x=some .local∨sc.names.lookup x=some .cell:=by decide +kernel) (g:∀ y∈sc.names,y.2≠.free:=by decide +kernel):FnScope N P sc:=⟨a,b,c,d,e,f,g⟩
section
variable {σ:L2.St} {H:Hp} {Q:VK} {D:Ends} {ta tb tc:TE} {tA:TA} {t u:TS} {c d:TT} {K:PySem.W.Frag} {r r':R2}
theorem rd_var {i:Nat} {v:V} (h:σ[i]?=some (some v)) (q:Q v H):φ2 i σ H Q:=⟨v,h,q⟩
theorem rd_c {v:V} (q:Q v H):tC v σ H Q:=q
theorem rd_op (q:ta σ H fun x H1=>tb σ H1 fun y H2=>r x y H2 Q):tOp r ta tb σ H Q:=q
theorem rd_un {r:V→Hp→VK→Prop} (q:ta σ H fun x H1=>r x H1 Q):tUn r ta σ H Q:=q
theorem rd_i0 {g:Int→Int→V} {i j:Int} (q:Q (g i j) H):rI0 g (.int i) (.int j) H Q:=⟨i,j,rfl,rfl,q⟩
theorem ζ7 {g:Int→Int→V} {C:Int→Int→Prop} {i j:Int} (c:C i j) (q:Q (g i j) H):rI C g (.int i) (.int j) H Q:=⟨i,j,rfl,rfl,c,q⟩
theorem rd_u {g:Int→V} {i:Int} (q:Q (g i) H):rU g (.int i) H Q:=⟨i,rfl,q⟩
theorem rd_eqI {i j:Int} (q:Q (.bl (decide (i=j))) H):rEq (.int i) (.int j) H Q:=⟨rfl,by
  have e:decide (V.int i=V.int j)=decide (i=j):=by
    by_cases h:i=j
    · rw [decide_eq_true h,decide_eq_true (by rw [h])]
    · rw [decide_eq_false h,decide_eq_false (fun z=>h (V.int.inj z))]
  rw [e]; exact q⟩
theorem rd_neI {i j:Int} (q:Q (.bl (!decide (i=j))) H):rNe (.int i) (.int j) H Q:=⟨rfl,by
  have e:decide (V.int i=V.int j)=decide (i=j):=by
    by_cases h:i=j
    · rw [decide_eq_true h,decide_eq_true (by rw [h])]
    · rw [decide_eq_false h,decide_eq_false (fun z=>h (V.int.inj z))]
  rw [e]; exact q⟩
theorem rd_neB {i j:Bool} (q:Q (.bl (i != j)) H):rNe (.bl i) (.bl j) H Q:=⟨rfl,by
  have e:(!decide (V.bl i=V.bl j))=(i != j):=by cases i <;> cases j <;> decide
  rw [e]; exact q⟩
theorem rd_seq (q:t {D with nx:=u D} σ H):tSeq t u D σ H:=q
theorem rd_ret (q:ta σ H D.rt):tRet ta D σ H:=q
theorem rd_retN (q:D.rt .non H):tRetN D σ H:=q
theorem rd_drop (q:ta σ H fun _ H1=>D.nx σ H1):tDrop ta D σ H:=q
theorem rd_next (q:D.nx σ H):tNext D σ H:=q
theorem rd_asg {g:TG} (q:ta σ H fun x H1=>g x σ H1 D.nx):tAsg ta g D σ H:=q
theorem rd_gname {i:Nat} {v:V} {R:L2.St→Hp→Prop} (q:R (σ.set i (some v)) H):gName i v σ H R:=q
theorem rd_gsub {to ti:TE} {s:TSet} {v:V} {R:L2.St→Hp→Prop} (q:to σ H fun o H1=>ti σ H1 fun i H2=>s o i v H2 fun H3=>R σ H3):gSub to ti s v σ H R:=q
theorem rd_ifS (q:c σ H fun b H1=>if b=true then t D σ H1 else u D σ H1):tIfS c t u D σ H:=q
theorem rd_test {R:Bool→Hp→Prop} (q:ta σ H fun x H'=>∃ k,x=.bl k∧R k H'):tTest ta σ H R:=q
theorem rd_b {R:Bool→Hp→Prop} (q:ta σ H fun x H'=>∃ k,x=.bl k∧R k H'):tB ta σ H R:=q
theorem rd_bl {b:Bool} {R:Bool→Prop} (q:R b):∃ k,V.bl b=.bl k∧R k:=⟨b,rfl,q⟩
theorem rd_if (q:c σ H fun b H1=>if b=true then ta σ H1 Q else tb σ H1 Q):tIf c ta tb σ H Q:=q
theorem rd_and {R:Bool→Hp→Prop} (q:c σ H fun b H1=>if b=true then d σ H1 R else R false H1):tAnd c d σ H R:=q
theorem rd_or {R:Bool→Hp→Prop} (q:c σ H fun b H1=>if b=true then R true H1 else d σ H1 R):tOr c d σ H R:=q
theorem rd_not {R:Bool→Hp→Prop} (q:c σ H fun b H1=>R (!b) H1):tNot c σ H R:=q
theorem rd_chain (q:ta σ H fun x H1=>tb σ H1 fun y H2=>r x y H2 fun z H3=>∃ k,z=.bl k∧(if k=true then tc σ H3 fun w' H4=>r' y w' H4 Q else Q (.bl false) H3)):tChain r r' ta tb tc σ H Q:=q
theorem rd_cons {R:List V→Hp→Prop} (q:ta σ H fun x H1=>tA σ H1 fun xs H2=>R (x::xs) H2):tCons ta tA σ H R:=q
theorem rd_nil {R:List V→Hp→Prop} (q:R [] H):tNil σ H R:=q
theorem rd_call {sp:Sp} {E:XK} (q:tA σ H fun vs H1=>sp (vs++[]) H1 Q E):tCall sp [] E tA σ H Q:=q
theorem rd_cb {r:List V→Hp→VK→Prop} (q:tA σ H fun vs H1=>r vs H1 Q):tCB r tA σ H Q:=q
theorem rd_raise {C:Addr} {E:XK} (q:tA σ H fun vs H1=>∃ n,vs=[.int n]∧∀ d,H1 d=none→E (.ref C) (some d) (upd H1 d (.xd [("number",.int n)]))):tRaise C E tA D σ H:=q
end
structure MC (K:PySem.W.Frag) (C:Addr):Prop where
  cl:Cls K C
  n1:κ2 K C "registers"
  n2:κ2 K C "following"
  n3:κ2 K C "condition"
  n4:κ2 K C "mask"
  n5:κ2 K C "memory"
  n6:κ2 K C "halves"
section
variable {σ:L2.St} {H:Hp} {Q:VK} {D:Ends} {K:PySem.W.Frag} {C:Addr} {d:Hd} {m:M} {hv i:Nat} {tv ta:TE}
theorem οh (hM:Mach C d H m hv) (T:MC K C) (hσ:σ[i]?=some (some (.ref d.a))) (q:Q (.ref d.r) H):χ5 K (φ2 i) "registers" σ H Q:=⟨_,hσ,d.a,C,d.dx,_,_,rfl,hM.ob,T.cl,T.n1,οl,q⟩
theorem ρh (hM:Mach C d H m hv) (T:MC K C) (hσ:σ[i]?=some (some (.ref d.a))) (q:Q (.int m.at_) H):χ5 K (φ2 i) "following" σ H Q:=⟨_,hσ,d.a,C,d.dx,_,_,rfl,hM.ob,T.cl,T.n2,χl,q⟩
theorem τh (hM:Mach C d H m hv) (T:MC K C) (hσ:σ[i]?=some (some (.ref d.a))) (q:Q (.int m.cc) H):χ5 K (φ2 i) "condition" σ H Q:=⟨_,hσ,d.a,C,d.dx,_,_,rfl,hM.ob,T.cl,T.n3,ωl,q⟩
theorem rd_mask (hM:Mach C d H m hv) (T:MC K C) (hσ:σ[i]?=some (some (.ref d.a))) (q:Q (.int m.mask) H):χ5 K (φ2 i) "mask" σ H Q:=⟨_,hσ,d.a,C,d.dx,_,_,rfl,hM.ob,T.cl,T.n4,f_mask,q⟩
theorem Ψj (hM:Mach C d H m hv) (T:MC K C) (hσ:σ[i]?=some (some (.ref d.a))) (q:Q (.ref d.q) H):χ5 K (φ2 i) "memory" σ H Q:=⟨_,hσ,d.a,C,d.dx,_,_,rfl,hM.ob,T.cl,T.n5,f_memory,q⟩
theorem rd_halves (hM:Mach C d H m hv) (T:MC K C) (hσ:σ[i]?=some (some (.ref d.a))) (q:Q (.int hv) H):χ5 K (φ2 i) "halves" σ H Q:=⟨_,hσ,d.a,C,d.dx,_,_,rfl,hM.ob,T.cl,T.n6,f_halves,q⟩
theorem rd_ixR {z:Int} (hM:Mach C d H m hv) (h:0≤z∧z < 16) (q:Q (.int (m.r z.toNat)) H):rIxL K (.ref d.r) (.int z) H Q:=by
  obtain ⟨k,rfl⟩:∃ k:Nat,z=k:=⟨z.toNat,by omega⟩
  rw [Int.toNat_natCast] at q
  exact ⟨d.r,_,_,_,rfl,rfl,SqL.of hM.rg,regV_at (by omega),q⟩
theorem rd_ixM {z:Int} (hM:Mach C d H m hv) (h:0≤z∧z < 65536) (q:Q (.int (m.mem z.toNat)) H):rIxL K (.ref d.q) (.int z) H Q:=by
  obtain ⟨k,rfl⟩:∃ k:Nat,z=k:=⟨z.toNat,by omega⟩
  rw [Int.toNat_natCast] at q
  exact ⟨d.q,_,_,_,rfl,rfl,SqL.of hM.mm,memV_at (by omega),q⟩
theorem θ1 {z y:Int} {v:Nat} {R:Hp→Prop} (hM:Mach C d H m hv) (h:0≤z∧z < 16) (e:y=(v:Int)) (hv':v < 2^32) (q:∀ H',Mach C d H' (Ra23.set m z.toNat v) hv→Keep d H H'→R H'):rSetL (.ref d.r) (.int z) (.int y) H R:=by
  obtain ⟨k,rfl⟩:∃ k:Nat,z=k:=⟨z.toNat,by omega⟩
  subst e
  rw [Int.toNat_natCast] at q
  exact ⟨d.r,_,_,k,rfl,rfl,hM.rg,regV_ix (by omega),q _ (hM.setR (by omega) hv') Keep.r⟩
theorem Φ1 {z y:Int} {v:Nat} {R:Hp→Prop} (hM:Mach C d H m hv) (h:0≤z∧z < 65536) (e:y=(v:Int)) (hv':v < 256) (q:∀ H',Mach C d H' (Ra23.byteIn m z.toNat v) hv→Keep d H H'→R H'):rSetL (.ref d.q) (.int z) (.int y) H R:=by
  obtain ⟨k,rfl⟩:∃ k:Nat,z=k:=⟨z.toNat,by omega⟩
  subst e
  rw [Int.toNat_natCast] at q
  exact ⟨d.q,_,_,k,rfl,rfl,hM.mm,memV_ix (by omega),q _ (hM.setB (by omega) hv') Keep.q⟩
theorem Mach.upA {m':M} {hv':Nat} (hM:Mach C d H m hv) (hr:m'.r=m.r) (hm:m'.mem=m.mem) (ok:Ok m') (h3:hv'≤3):Mach C d (upd H d.a (.ins C d.dx (Γn d.r d.q m' hv'))) m' hv':=by
  refine ⟨ο,?_,?_,ok,h3⟩
  · rw [ψ (Ne.symm hM.nar),hM.rg]; unfold regV; rw [hr]
  · rw [ψ (Ne.symm hM.naq),hM.mm]; unfold memV; rw [hm]
noncomputable def stF (K:PySem.W.Frag) (ta:TE) (f:Str) (y:V) (σ:L2.St) (H:Hp) (R:Hp→Prop):Prop:=ta σ H fun x H2=>∃ a C dx fs,x=.ref a∧H2 a=some (.ins C dx fs)∧Cls K C∧κ2 K C f∧fs.length < 1000∧R (upd H2 a (.ins C dx (Ψh f y fs)))
theorem rd_sfld {f:Str} (q:tv σ H fun y H1=>stF K ta f y σ H1 fun H2=>D.nx σ H2):sFld K ta tv f D σ H:=q
theorem ρ1 {y:Int} {v:Nat} {R:Hp→Prop} (hM:Mach C d H m hv) (T:MC K C) (hσ:σ[i]?=some (some (.ref d.a))) (e:y=(v:Int)) (h:v < 4) (q:∀ H',Mach C d H' {m with cc:=v} hv→Keep d H H'→R H'):stF K (φ2 i) "condition" (.int y) σ H R:=by
  subst e
  refine ⟨_,hσ,d.a,C,d.dx,_,rfl,hM.ob,T.cl,T.n3,(by show 6 < 1000; decide),?_⟩
  rw [θk]
  exact q _ (hM.upA rfl rfl ⟨hM.ok.reg,hM.ok.at_,h,hM.ok.mask,hM.ok.mem⟩ hM.hv) Keep.a
theorem rd_stK {y:Int} {v:Nat} {R:Hp→Prop} (hM:Mach C d H m hv) (T:MC K C) (hσ:σ[i]?=some (some (.ref d.a))) (e:y=(v:Int)) (h:v < 16) (q:∀ H',Mach C d H' {m with mask:=v} hv→Keep d H H'→R H'):stF K (φ2 i) "mask" (.int y) σ H R:=by
  subst e
  refine ⟨_,hσ,d.a,C,d.dx,_,rfl,hM.ob,T.cl,T.n4,(by show 6 < 1000; decide),?_⟩
  rw [p_mask]
  exact q _ (hM.upA rfl rfl ⟨hM.ok.reg,hM.ok.at_,hM.ok.cc,h,hM.ok.mem⟩ hM.hv) Keep.a
theorem υn {y:Int} {v:Nat} {R:Hp→Prop} (hM:Mach C d H m hv) (T:MC K C) (hσ:σ[i]?=some (some (.ref d.a))) (e:y=(v:Int)) (h:v < 2^24) (q:∀ H',Mach C d H' {m with at_:=v} hv→Keep d H H'→R H'):stF K (φ2 i) "following" (.int y) σ H R:=by
  subst e
  refine ⟨_,hσ,d.a,C,d.dx,_,rfl,hM.ob,T.cl,T.n2,(by show 6 < 1000; decide),?_⟩
  rw [ηk]
  exact q _ (hM.upA rfl rfl ⟨hM.ok.reg,h,hM.ok.cc,hM.ok.mask,hM.ok.mem⟩ hM.hv) Keep.a
theorem rd_stH {y:Int} {v:Nat} {R:Hp→Prop} (hM:Mach C d H m hv) (T:MC K C) (hσ:σ[i]?=some (some (.ref d.a))) (e:y=(v:Int)) (h:v≤3) (q:∀ H',Mach C d H' m v→Keep d H H'→R H'):stF K (φ2 i) "halves" (.int y) σ H R:=by
  subst e
  refine ⟨_,hσ,d.a,C,d.dx,_,rfl,hM.ob,T.cl,T.n6,(by show 6 < 1000; decide),?_⟩
  rw [p_halves]
  exact q _ (hM.upA rfl rfl hM.ok h) Keep.a
end
theorem rd_truI {K:PySem.W.Frag} {H:Hp} {i:Int} {R:Bool→Prop} (q:R (i != 0)):∃ k,TruV K (.int i) H k∧R k:=⟨_,rfl,q⟩
noncomputable def Out (C CI CS:Addr) (d:Hd) (hv:Nat) (H:Hp) (Q:VK) (E:XK):Ra23.End→Prop
  | .done m=>∀ H',Mach C d H' m hv→Keep d H H'→Q .non H'
  | .stop c m=>∀ H' x,Mach C d H' m hv→Keep d H H'→H' x=some (.xd [("number",.int (c:Int))])→E (.ref CI) (some x) H'
  | .call c m=>∀ H' x,Mach C d H' m hv→Keep d H H'→H' x=some (.xd [("number",.int (c:Int))])→E (.ref CS) (some x) H'
theorem Out.keep {C CI CS:Addr} {d:Hd} {hv:Nat} {H H1:Hp} {Q:VK} {E:XK} {e:Ra23.End} (k:Keep d H H1) (o:Out C CI CS d hv H Q E e):Out C CI CS d hv H1 Q E e:=by
  cases e with
  | done m=>exact fun H' hM k'=>o H' hM (k.trans k')
  | stop c m=>exact fun H' x hM k' z=>o H' x hM (k.trans k') z
  | call c m=>exact fun H' x hM k' z=>o H' x hM (k.trans k') z
theorem Out.raise {C CI CS:Addr} {d:Hd} {hv c:Nat} {H:Hp} {Q:VK} {E:XK} {m:M} (hM:Mach C d H m hv) (o:Out C CI CS d hv H Q E (.stop c m)):∀ x,H x=none→E (.ref CI) (some x) (upd H x (.xd [("number",.int (c:Int))])) :=
  fun x hx=>o _ x (hM.new hx) (Keep.new hx) ο
noncomputable def GI (mg:Str→Option Value) (x:Str) (n:Int):Prop:=∃ t,mg x=some (.int n t)
theorem Ω1 {X:Cx} {x:Str} {n:Int} {pos:Pos} (h:GI X.mg x n) (hg:Gl X x) (hd:(x == ("__debug__":Str))=false:=by decide):PE X (.Name x pos) (tC (.int n)) :=
  let ⟨t,e⟩:=h
  pe_glob hg e (v:=.int n) ⟨t,rfl⟩ hd
structure Rz (P:Program) (w:World) (K:PySem.W.Frag) (mg:Str→Option Value) (base:Heap) (x:Str) (C:Addr):Prop where
  ex:∃ f fd,XC K C f∧PySem.W.isFn K (.ref f)=true∧PySem.W.keepIn K (.ref C)=true∧mg x=some (.ref C)∧FnOk P w K mg base (CXI P w) 1 f fd ["self","number"] (spXI K)∧ιe K fd ["self","number"] []
section
variable {P:Program} {w:World} {K:PySem.W.Frag} {mg:Str→Option Value} {base:Heap} {N:List Str} {qual:Str} {scope:Scope} {f:Addr} {cd:Value} {A:Around} {outer:List Env} {s:Shared} {H:Hp} {E:XK}
theorem Ω4 {x:Str} {C:Addr} {k':Nat} {p cp pos:Pos} {arg:Expr} {ta:TA} (z:Rz P w K mg base x C) (hr:Room k' (cxI P w K mg base N qual scope f cd A outer s H E).A) (hk:2≤k') (hg:Gl (cxI P w K mg base N qual scope f cd A outer s H E) x)
    (ha:PA (cxI P w K mg base N qual scope f cd A outer s H E) [arg] ta) (hdb:(x == ("__debug__":Str))=false:=by decide)
    (he:starEach [arg] (cxI P w K mg base N qual scope f cd A outer s H E).env=[(false,eval arg (cxI P w K mg base N qual scope f cd A outer s H E).env)]:=by rfl) :
    PS (cxI P w K mg base N qual scope f cd A outer s H E) (.Raise (some (.Call (.Name x p) [arg] [] cp)) none pos) (tRaise C E ta) :=
  let ⟨g,gd,h1,h2,h3,h4,h5,h6⟩:=z.ex
  ps_raise h1 h2 h3 h5 h6 (hr.mono hk) hg h4 ha hdb he
end
structure Txt (P:Program) (w:World) (K:PySem.W.Frag) (mg:Str→Option Value) (base:Heap) (C CI CS:Addr):Prop where
  mc:MC K C
  rI:Rz P w K mg base "Interruption" CI
  rS:Rz P w K mg base "SupervisorCall" CS
  ne:CI≠CS
  gMEMORY_SIZE:GI mg "MEMORY_SIZE" 65536
  gPLACE_BITS:GI mg "PLACE_BITS" 16777215
  gWORD_BITS:GI mg "WORD_BITS" 4294967295
  gDIGIT:GI mg "DIGIT" 32
  gDIGIT_AND_ON:GI mg "DIGIT_AND_ON" 33
  gFIELD_END:GI mg "FIELD_END" 34
  gEXECUTE:GI mg "EXECUTE" 68
  gREFUSED:GI mg "REFUSED" (-2)
  gMOST_STEPS:GI mg "MOST_STEPS" 1000000
  gNEXT_PLACE:GI mg "NEXT_PLACE" 16
  gCONDITION:GI mg "CONDITION" 17
  gMASK:GI mg "MASK" 18
  gPART:GI mg "PART" 256
  babs:mg "abs"=none
  blen:mg "len"=none
  brange:mg "range"=none
  benum:mg "enumerate"=none
  blist:mg "list"=none
  bexc:mg "Exception"=none
section
variable {P:Program} {w:World} {K:PySem.W.Frag} {mg:Str→Option Value} {base:Heap}
theorem sc_xi1:FnScope ["self","number"] ["self","number"] (ξ (ω1 (top 1) 0)):=mkS
theorem sc_xi2:FnScope ["self","number"] ["self","number"] (ξ (ω1 (top 2) 0)):=mkS
theorem xi_end {e C d:Addr} {n:Int} {t':Addr} {H:Hp} {Q:VK} (q:∀ d t' H',d≠e→H d=none→H' e=some (XO e (xob C t' (some d)))→H' d=some (.xd [("number",.int n)])→(∀ b,b≠e→b≠d→H' b=H b)→Q .non H')
    (hd:upd H e (XO e (xob C t' none)) d=none) (nd:d≠e):Q .non (upd (upd (upd H e (XO e (xob C t' none))) d (.xd [("number",.int n)])) e (XO e (xob C t' (some d)))):=by
  refine q d t' _ nd ?_ ο ?_ (fun b b1 b2=>?_)
  · rw [ψ nd] at hd; exact hd
  · rw [ψ nd,ο]
  · rw [ψ b1,ψ b2,ψ b1]
theorem ok_xi1 {f:Addr} {fd:FuncData} (F:Fun K "__init__" "Interruption.__init__" (ω1 (top 1) 0) f fd) (hb:mg "Exception"=none):FnOk P w K mg base (CXI P w) 1 f fd ["self","number"] (spXI K):=by
  refine F.okI sc_xi1 (fun vs H Q E h=>?_) fun cdv A outer s H vs Q E hr h=>?_
  · obtain ⟨e,C,g,n,t,rfl,_⟩:=h
    rfl
  obtain ⟨e,C,g,n,t,rfl,eo,xc,q⟩:=h
  refine ⟨_,η (χ (pe_xinit rfl hb (pv 0))) (θ (ps_xfld (pv 0) (pv 1) rfl)),?_⟩
  refine ⟨_,rfl,e,C,g,t,none,rfl,eo,xc,fun t'=>?_⟩
  refine ⟨_,rfl,_,rfl,e,C,g,t',rfl,ο,xc,fun d hd nd=>?_⟩
  exact xi_end q hd nd
theorem ok_xi2 {f:Addr} {fd:FuncData} (F:Fun K "__init__" "SupervisorCall.__init__" (ω1 (top 2) 0) f fd) (hb:mg "Exception"=none):FnOk P w K mg base (CXI P w) 1 f fd ["self","number"] (spXI K):=by
  refine F.okI sc_xi2 (fun vs H Q E h=>?_) fun cdv A outer s H vs Q E hr h=>?_
  · obtain ⟨e,C,g,n,t,rfl,_⟩:=h
    rfl
  obtain ⟨e,C,g,n,t,rfl,eo,xc,q⟩:=h
  refine ⟨_,η (χ (pe_xinit rfl hb (pv 0))) (θ (ps_xfld (pv 0) (pv 1) rfl)),?_⟩
  refine ⟨_,rfl,e,C,g,t,none,rfl,eo,xc,fun t'=>?_⟩
  refine ⟨_,rfl,_,rfl,e,C,g,t',rfl,ο,xc,fun d hd nd=>?_⟩
  exact xi_end q hd nd
end
section
variable {K:PySem.W.Frag} {σ:L2.St} {H:Hp} {Q:VK} {D:Ends} {ta:TE} {g:TG} {tb:TS} {te:TE} {tt:TT} {vs:List Nat} {wi:TI} {tA:TA} {R:It→Hp→Prop}
noncomputable abbrev Lp (D:Ends) (N:L2.St→Hp→Prop):Ends:={D with nx:=N,ct:=N,bk:=D.nx}
noncomputable def FR (J:It) (g:TG) (tb:TS) (D:Ends) (σ:L2.St) (H:Hp):Prop:=∃ W:Nat→Nat→L2.St→Hp→Prop,(∃ m,W 0 m σ H)∧∀ i m σ H,W i m σ H →
 (J.stop i H∧D.nx σ H)∨(J.go i H∧∃ N:L2.St→Hp→Prop,(∀ σ' H',N σ' H'→∃ m',m' < m∧W (i+1) m' σ' H')∧∀ x H',J.yld i H x H'→g x σ H' fun σ2 H2=>tb {D with nx:=N,ct:=N,bk:=D.nx} σ2 H2)
theorem rd_for (q:wi σ H fun J H1=>FR J g tb D σ H1):tFor wi g tb D σ H:=q
theorem rd_iR1 (q:tA σ H fun vs H1=>∃ j:Int,vs=[.int j] ∧ -(2^62)≤j∧j < 2^62∧R (Itr 0 j.toNat) H1):iRng1 tA σ H R:=q
theorem rd_iR2 (q:tA σ H fun vs H1=>∃ i j:Int,vs=[.int i,.int j]∧(-(2^62)≤i∧i < 2^62 ∧ -(2^62)≤j∧j < 2^62)∧R (Itr i (j - i).toNat) H1):iRng2 tA σ H R:=q
theorem rd_iR3 (q:tA σ H fun vs H1=>∃ (i j c:Int) (n:Nat),vs=[.int i,.int j,.int c]∧RgC i j c n∧R (Itc i c n) H1):iRng3 tA σ H R:=q
theorem rd_iL (q:ta σ H fun x H1=>∃ a,x=.ref a∧(∃ xs,SqL K H1 a xs)∧R (Itl K a) H1):iList K ta σ H R:=q
theorem rd_iE (q:tA σ H fun vs H1=>∃ a xs,vs=[.ref a]∧SqL K H1 a xs∧R (Ite K a) H1):iEnum K tA σ H R:=q
theorem FR.r {lo:Int} {n:Nat} (Pv:Nat→L2.St→Hp→Prop) (h0:Pv 0 σ H) (hs:∀ i σ H,i < n→Pv i σ H→g (.int (lo+i)) σ H fun σ2 H2=>tb (Lp D (Pv (i+1))) σ2 H2) (hd:∀ σ H,Pv n σ H→D.nx σ H):FR (Itr lo n) g tb D σ H:=for_range Pv h0 hs hd
theorem FR.c {lo c:Int} {n:Nat} (Pv:Nat→L2.St→Hp→Prop) (h0:Pv 0 σ H) (hs:∀ i σ H,i < n→Pv i σ H→g (.int (lo+(i:Nat)*c)) σ H fun σ2 H2=>tb (Lp D (Pv (i+1))) σ2 H2) (hd:∀ σ H,Pv n σ H→D.nx σ H):FR (Itc lo c n) g tb D σ H:=for_rangeC Pv h0 hs hd
theorem FR.l {a:Addr} {xs:List V} (Pv:Nat→L2.St→Hp→Prop) (h0:Pv 0 σ H) (hl:∀ i σ H,i≤xs.length→Pv i σ H→SqL K H a xs) (hs:∀ i x σ H,xs[i]?=some x→Pv i σ H→g x σ H fun σ2 H2=>tb (Lp D (Pv (i+1))) σ2 H2) (hd:∀ σ H,Pv xs.length σ H→D.nx σ H):FR (Itl K a) g tb D σ H:=for_list Pv h0 hl hs hd
theorem FR.e {a:Addr} {xs:List V} (Pv:Nat→L2.St→Hp→Prop) (h0:Pv 0 σ H) (hl:∀ i σ H,i≤xs.length→Pv i σ H→SqL K H a xs) (hs:∀ i x σ H t,xs[i]?=some x→Pv i σ H→H t=none→g (.ref t) σ (upd H t (.tup [.int (i:Nat),x])) fun σ2 H2=>tb (Lp D (Pv (i+1))) σ2 H2) (hd:∀ σ H,Pv xs.length σ H→D.nx σ H):FR (Ite K a) g tb D σ H:=by
 refine ⟨fun i m σ H=>m=xs.length - i∧i≤xs.length∧Pv i σ H,⟨xs.length,by simp,Nat.zero_le _,h0⟩,?_⟩
 rintro i m σ H ⟨rfl,hi,p⟩
 have q:=hl i σ H hi p
 by_cases hlt:i < xs.length
 ·refine .inr ⟨⟨xs,xs[i],q,by simp [hlt]⟩,Pv (i+1),fun σ' H' p'=>⟨xs.length - (i+1),by omega,rfl,hlt,p'⟩,fun x H' y=>?_⟩
  obtain ⟨t,x',rfl,ht,rfl,y⟩:=y
  exact hs i x' σ H t (y xs q) p ht
 ·have e:i=xs.length:=by omega
  subst e
  exact .inl ⟨⟨xs,q,Nat.le_refl _⟩,hd σ H p⟩
theorem ζj {i j:Nat} {t:Addr} {x y:V} {N:L2.St→Hp→Prop} (ht:H t=some (.tup [x,y])) (q:N ((σ.set i (some x)).set j (some y)) H):gTup K 2 (gCons (gName i) (gCons (gName j) gNil)) (.ref t) σ H N :=
 ⟨t,_,rfl,SqT.of ht,rfl,x,_,rfl,y,_,rfl,rfl,q⟩
theorem yes_of {σ2:L2.St} {H2:Hp} {A B:Hp→Prop} (h:A H2):tYes σ2 H2 (fun b H3=>if b=true then A H3 else B H3):=by
 show (if true=true then A H2 else B H2)
 rw [if_pos rfl]
 exact h
noncomputable def LC (J:It) (g:TG) (tt:TT) (te:TE) (vs:List Nat) (σ:L2.St) (H1:Hp) (D:Addr) (Qd:Hp→Prop):Prop:=∃ W:Nat→Nat→Hp→Prop,(∃ m,W 0 m (upd H1 D (.lst [])))∧∀ i m H,W i m H →
 (J.stop i H∧Qd H)∨(J.go i H∧∃ Nx:Hp→Prop,(∀ H',Nx H'→∃ m',m' < m∧W (i+1) m' H')∧∀ x H',J.yld i H x H'→g x (υa σ vs) H' fun σ2 H2=>υa σ2 vs=υa σ vs∧tt σ2 H2 fun b H3 =>
  if b=true then te σ2 H3 fun y H4=>∃ acc,H4 D=some (.lst acc)∧acc.length < sizeLine∧Nx (upd H4 D (.lst (acc++[y]))) else Nx H3)
theorem rd_lc (q:wi σ H fun J H1=>∀ D,H1 D=none→LC J g tt te vs σ H1 D (Q (.ref D))):tLc wi g tt te vs σ H Q:=q
theorem LC.r {lo:Int} {n:Nat} {D:Addr} {Qd:Hp→Prop} {i:Nat} (f:Nat→V) (hn:n≤sizeLine) (hw:∀ x:V,υa ((υa σ vs).set i (some x)) vs=υa σ vs)
  (hs:∀ k H' (R:VK),k < n→(∀ b,b≠D→H' b=H b)→R (f k) H'→te ((υa σ vs).set i (some (.int (lo+k)))) H' R) (hd:Qd (upd H D (.lst ((List.range n).map f)))):LC (Itr lo n) (gName i) tYes te vs σ H D Qd:=by
 refine lc_range (fun k H'=>H'=upd H D (.lst ((List.range k).map f))) rfl (fun k H' hk p=>?_) (fun H' p=>by rw [p]; exact hd)
 subst p
 refine ⟨hw _,yes_of (hs k _ _ hk (fun b hb=>ψ hb) ⟨_,ο,by rw [List.length_map,List.length_range]; omega,?_⟩)⟩
 rw [ψ3,List.range_succ,List.map_append]
 rfl
theorem LC.l {a:Addr} {xs:List V} {D:Addr} {Qd:Hp→Prop} {i:Nat} (f:V→V) (hz:xs.length≤sizeLine) (ha:H a=some (.lst xs)) (hD:H D=none) (hw:∀ x:V,υa ((υa σ vs).set i (some x)) vs=υa σ vs)
  (hs:∀ (k:Nat) (x:V) (H':Hp) (R:VK),xs[k]?=some x→(∀ b,b≠D→H' b=H b)→R (f x) H'→te ((υa σ vs).set i (some x)) H' R) (hd:Qd (upd H D (.lst (xs.map f)))):LC (Itl K a) (gName i) tYes te vs σ H D Qd:=by
 have na:a≠D:=fun e=>by rw [e,hD] at ha; cases ha
 refine lc_list (xs:=xs) (fun k H'=>H'=upd H D (.lst ((xs.take k).map f))) (by rw [List.take_zero]; rfl) (fun k H' _ p=>by rw [p]; exact SqL.of (by rw [ψ na]; exact ha)) (fun k x H' hx p=>?_) (fun H' p=>by rw [p,List.take_length]; exact hd)
 subst p
 have hk:k < xs.length:=(List.getElem?_eq_some_iff.mp hx).1
 refine ⟨hw _,yes_of (hs k x _ _ hx (fun b hb=>ψ hb) ⟨_,ο,by rw [List.length_map,List.length_take]; omega,?_⟩)⟩
 rw [ψ3,List.take_add_one,hx,List.map_append]
 rfl
theorem rd_part {R:Option Int→Hp→Prop} (q:ta σ H fun x H1=>∃ i,x=.int i∧R (some i) H1):tPart ta σ H R:=q
theorem rd_nopart {R:Option Int→Hp→Prop} (q:R none H):tNoPart σ H R:=q
theorem rd_int1 {z:Int} {R:Int→Prop} (q:R z):∃ i,V.int z=.int i∧R i:=⟨z,rfl,q⟩
theorem rd_lst (q:tA σ H fun xs H1=>xs.length≤sizeLine∧∀ p,H1 p=none→Q (.ref p) (upd H1 p (.lst xs))):tLst tA σ H Q:=q
theorem rd_bm {T:String} {r:V→List V→Hp→VK→Prop} (q:ta σ H fun x H1=>tyV K T x H1∧tA σ H1 fun xs H2=>r x xs H2 Q):tBM K T r ta tA σ H Q:=q
theorem θ2 {a:Addr} {xs:List V} {y:V} (h:H a=some (.lst xs)) (hz:xs.length < sizeLine) (q:Q .non (upd H a (.lst (xs++[y])))):rAppend (.ref a) [y] H Q:=⟨a,xs,y,rfl,rfl,h,hz,q⟩
theorem rd_sl {r:V→Option Int→Option Int→Hp→VK→Prop} {tl th:TO} (q:ta σ H fun x H1=>tl σ H1 fun l H2=>th σ H2 fun u H3=>r x l u H3 Q):tSl r ta tl th σ H Q:=q
end
structure MachB (C:Addr) (d:Hd) (H:Hp) (m:M) (hv:Nat):Prop where
 ob:H d.a=some (.ins C d.dx (Γn d.r d.q m hv))
 rg:H d.r=some (.lst (regV m))
 mm:∃ xs,H d.q=some (.lst xs)
 nrq:d.r≠d.q
 ok:Ok m
 hv:hv≤3
theorem Mach.b {C:Addr} {d:Hd} {H:Hp} {m:M} {hv:Nat} (x:Mach C d H m hv):MachB C d H m hv:=⟨x.ob,x.rg,⟨_,x.mm⟩,x.nrq,x.ok,x.hv⟩
section
variable {C:Addr} {d:Hd} {H:Hp} {m:M} {hv:Nat}
theorem MachB.nar (x:MachB C d H m hv):d.a≠d.r:=οa x.ob x.rg (by intro z; cases z)
theorem MachB.naq (x:MachB C d H m hv):d.a≠d.q:=let ⟨_,h⟩:=x.mm; οa x.ob h (by intro z; cases z)
theorem MachB.keep {H':Hp} (x:MachB C d H m hv) (s:Δ7 H H'):MachB C d H' m hv:=let ⟨xs,h⟩:=x.mm; ⟨s _ _ x.ob,s _ _ x.rg,⟨xs,s _ _ h⟩,x.nrq,x.ok,x.hv⟩
theorem MachB.new {y:Addr} {o:HO} (x:MachB C d H m hv) (hy:H y=none):MachB C d (upd H y o) m hv:=x.keep fun b _ h=>by rw [ψ (ρ h hy)]; exact h
theorem MachB.setR (x:MachB C d H m hv) {k v:Nat} (hk:k < 16) (hv':v < 2^32):MachB C d (upd H d.r (.lst ((regV m).set k (.int (v:Int))))) (Ra23.set m k v) hv:=by
 obtain ⟨xs,hx⟩:=x.mm
 refine ⟨?_,?_,⟨xs,?_⟩,x.nrq,⟨fun i=>?_,x.ok.at_,x.ok.cc,x.ok.mask,x.ok.mem⟩,x.hv⟩
 ·rw [ψ x.nar]; exact x.ob
 ·rw [ο,regV_set hk]
 ·rw [ψ (Ne.symm x.nrq)]; exact hx
 ·show (if i=k then v else m.r i) < _
  split
  ·exact hv'
  ·exact x.ok.reg i
theorem MachB.upA {m':M} {hv':Nat} (x:MachB C d H m hv) (hr:m'.r=m.r) (ok:Ok m') (h3:hv'≤3):MachB C d (upd H d.a (.ins C d.dx (Γn d.r d.q m' hv'))) m' hv':=by
 obtain ⟨xs,hx⟩:=x.mm
 refine ⟨ο,?_,⟨xs,?_⟩,x.nrq,ok,h3⟩
 ·rw [ψ (Ne.symm x.nar),x.rg]; unfold regV; rw [hr]
 ·rw [ψ (Ne.symm x.naq)]; exact hx
end
section
variable {σ:L2.St} {H:Hp} {Q:VK} {K:PySem.W.Frag} {C:Addr} {d:Hd} {m:M} {hv i:Nat}
theorem rb_registers (hM:MachB C d H m hv) (T:MC K C) (hσ:σ[i]?=some (some (.ref d.a))) (q:Q (.ref d.r) H):χ5 K (φ2 i) "registers" σ H Q:=⟨_,hσ,d.a,C,d.dx,_,_,rfl,hM.ob,T.cl,T.n1,οl,q⟩
theorem rb_following (hM:MachB C d H m hv) (T:MC K C) (hσ:σ[i]?=some (some (.ref d.a))) (q:Q (.int m.at_) H):χ5 K (φ2 i) "following" σ H Q:=⟨_,hσ,d.a,C,d.dx,_,_,rfl,hM.ob,T.cl,T.n2,χl,q⟩
theorem rb_condition (hM:MachB C d H m hv) (T:MC K C) (hσ:σ[i]?=some (some (.ref d.a))) (q:Q (.int m.cc) H):χ5 K (φ2 i) "condition" σ H Q:=⟨_,hσ,d.a,C,d.dx,_,_,rfl,hM.ob,T.cl,T.n3,ωl,q⟩
theorem rb_mask (hM:MachB C d H m hv) (T:MC K C) (hσ:σ[i]?=some (some (.ref d.a))) (q:Q (.int m.mask) H):χ5 K (φ2 i) "mask" σ H Q:=⟨_,hσ,d.a,C,d.dx,_,_,rfl,hM.ob,T.cl,T.n4,f_mask,q⟩
theorem rb_ixR {z:Int} (hM:MachB C d H m hv) (h:0≤z∧z < 16) (q:Q (.int (m.r z.toNat)) H):rIxL K (.ref d.r) (.int z) H Q:=by
 obtain ⟨k,rfl⟩:∃ k:Nat,z=k:=⟨z.toNat,by omega⟩
 rw [Int.toNat_natCast] at q
 exact ⟨d.r,_,_,_,rfl,rfl,SqL.of hM.rg,regV_at (by omega),q⟩
theorem rb_setR {z y:Int} {v:Nat} {R:Hp→Prop} (hM:MachB C d H m hv) (h:0≤z∧z < 16) (e:y=(v:Int)) (hv':v < 2^32) (q:∀ H',MachB C d H' (Ra23.set m z.toNat v) hv→Keep d H H'→R H'):rSetL (.ref d.r) (.int z) (.int y) H R:=by
 obtain ⟨k,rfl⟩:∃ k:Nat,z=k:=⟨z.toNat,by omega⟩
 subst e
 rw [Int.toNat_natCast] at q
 exact ⟨d.r,_,_,k,rfl,rfl,hM.rg,regV_ix (by omega),q _ (hM.setR (by omega) hv') Keep.r⟩
theorem rb_stC {y:Int} {v:Nat} {R:Hp→Prop} (hM:MachB C d H m hv) (T:MC K C) (hσ:σ[i]?=some (some (.ref d.a))) (e:y=(v:Int)) (h:v < 4) (q:∀ H',MachB C d H' {m with cc:=v} hv→Keep d H H'→R H'):stF K (φ2 i) "condition" (.int y) σ H R:=by
 subst e
 refine ⟨_,hσ,d.a,C,d.dx,_,rfl,hM.ob,T.cl,T.n3,(by show 6 < 1000; decide),?_⟩
 rw [θk]
 exact q _ (hM.upA rfl ⟨hM.ok.reg,hM.ok.at_,h,hM.ok.mask,hM.ok.mem⟩ hM.hv) Keep.a
theorem rb_stK {y:Int} {v:Nat} {R:Hp→Prop} (hM:MachB C d H m hv) (T:MC K C) (hσ:σ[i]?=some (some (.ref d.a))) (e:y=(v:Int)) (h:v < 16) (q:∀ H',MachB C d H' {m with mask:=v} hv→Keep d H H'→R H'):stF K (φ2 i) "mask" (.int y) σ H R:=by
 subst e
 refine ⟨_,hσ,d.a,C,d.dx,_,rfl,hM.ob,T.cl,T.n4,(by show 6 < 1000; decide),?_⟩
 rw [p_mask]
 exact q _ (hM.upA rfl ⟨hM.ok.reg,hM.ok.at_,hM.ok.cc,h,hM.ok.mem⟩ hM.hv) Keep.a
theorem rb_stA {y:Int} {v:Nat} {R:Hp→Prop} (hM:MachB C d H m hv) (T:MC K C) (hσ:σ[i]?=some (some (.ref d.a))) (e:y=(v:Int)) (h:v < 2^24) (q:∀ H',MachB C d H' {m with at_:=v} hv→Keep d H H'→R H'):stF K (φ2 i) "following" (.int y) σ H R:=by
 subst e
 refine ⟨_,hσ,d.a,C,d.dx,_,rfl,hM.ob,T.cl,T.n2,(by show 6 < 1000; decide),?_⟩
 rw [ηk]
 exact q _ (hM.upA rfl ⟨hM.ok.reg,h,hM.ok.cc,hM.ok.mask,hM.ok.mem⟩ hM.hv) Keep.a
end
noncomputable def Rs (CI:Addr) (H:Hp) (E:XK) (c:Nat):Prop:=∀ x,H x=none→E (.ref CI) (some x) (upd H x (.xd [("number",.int (c:Int))]))
theorem Δ {c A B:Prop} [Decidable c] (h1:c→A) (h2:¬ c→B):if decide c=true then A else B:=by
 by_cases h:c
 ·rw [decide_eq_true h]; exact τc (h1 h)
 ·rw [decide_eq_false h]; exact Γ9 (h2 h)
theorem υ1 {c A B:Prop} [Decidable c] (h1:¬ c→A) (h2:c→B):if (!decide c)=true then A else B:=by
 by_cases h:c
 ·rw [decide_eq_true h]; exact Γ9 (h2 h)
 ·rw [decide_eq_false h]; exact τc (h1 h)
theorem Ω2 {b:Bool} {A B:Prop} (h1:b=true→A) (h2:b=false→B):if b=true then A else B:=by
 cases b with
 | true=>exact τc (h1 rfl)
 | false=>exact Γ9 (h2 rfl)
theorem rd_iteI {z:Int} {A B:Prop} (h1:z≠0→A) (h2:z=0→B):if (z != 0)=true then A else B:=by
 by_cases h:z=0
 ·subst h; exact Γ9 (h2 rfl)
 ·have e:(z != 0)=true:=by simpa using h
  rw [e]; exact τc (h1 h)
noncomputable def rAbs:List V→Hp→VK→Prop:=fun xs H Q=>∃ i,xs=[.int i]∧Q (.int (if i < 0 then -i else i)) H
theorem φ5 {X:Cx}:CallR X (.builtin "abs") rAbs:=call_abs
theorem rd_absR {i:Int} {H:Hp} {Q:VK} (q:Q (.int (i.natAbs:Int)) H):rAbs [.int i] H Q:=by
 refine ⟨i,rfl,?_⟩
 have e:(if i < 0 then -i else i)=(i.natAbs:Int):=by split <;> omega
 rw [e]
 exact q
local macro_rules | `(tactic| left) => `(tactic| repeat (first
 | with_reducible refine rd_op ?_ | with_reducible refine rd_c ?_ | ((with_reducible show φ2 _ _ _ _); refine rd_var rfl ?_) | with_reducible refine rd_i0 ?_ | with_reducible refine rd_un ?_ | with_reducible refine rd_u ?_
 | with_reducible refine rd_eqI ?_ | with_reducible refine rd_neI ?_ | with_reducible refine rd_neB ?_ | with_reducible refine rd_seq ?_ | with_reducible refine rd_ret ?_ | with_reducible refine rd_retN ?_ | with_reducible refine rd_drop ?_
 | with_reducible refine rd_next ?_ | with_reducible refine rd_asg ?_ | with_reducible refine rd_gname ?_ | with_reducible refine rd_gsub ?_ | with_reducible refine rd_ifS ?_ | with_reducible refine rd_test ?_ | with_reducible refine rd_b ?_
 | with_reducible refine rd_bl ?_ | with_reducible refine rd_if ?_ | with_reducible refine rd_and ?_ | with_reducible refine rd_or ?_ | with_reducible refine rd_not ?_ | with_reducible refine rd_chain ?_ | with_reducible refine rd_cons ?_
 | with_reducible refine rd_nil ?_ | with_reducible refine rd_call ?_ | with_reducible refine rd_cb ?_ | with_reducible refine rd_raise ?_ | with_reducible refine rd_sfld ?_ | with_reducible refine rd_tru ?_ | with_reducible refine rd_truI ?_
 | ((with_reducible show χ5 _ (φ2 _) "registers" _ _ _); refine οh (by assumption) (by assumption) rfl ?_)
 | ((with_reducible show χ5 _ (φ2 _) "memory" _ _ _); refine Ψj (by assumption) (by assumption) rfl ?_)
 | ((with_reducible show χ5 _ (φ2 _) "condition" _ _ _); refine τh (by assumption) (by assumption) rfl ?_)
 | ((with_reducible show χ5 _ (φ2 _) "mask" _ _ _); refine rd_mask (by assumption) (by assumption) rfl ?_)
 | ((with_reducible show χ5 _ (φ2 _) "following" _ _ _); refine ρh (by assumption) (by assumption) rfl ?_)
 | ((with_reducible show χ5 _ (φ2 _) "halves" _ _ _); refine rd_halves (by assumption) (by assumption) rfl ?_)
 | with_reducible refine rd_absR ?_
 | with_reducible refine rd_ixR (by assumption) (by omega) ?_ | with_reducible refine rd_ixM (by assumption) (by omega) ?_
 | with_reducible refine rd_for ?_ | with_reducible refine rd_iR1 ?_ | with_reducible refine rd_iR2 ?_ | with_reducible refine rd_iR3 ?_ | with_reducible refine rd_iL ?_ | with_reducible refine rd_iE ?_ | with_reducible refine rd_lc ?_ | with_reducible refine rd_lst ?_ | with_reducible refine rd_bm ?_ | with_reducible refine rd_sl ?_ | with_reducible refine rd_part ?_ | with_reducible refine rd_nopart ?_ | with_reducible refine rd_int1 ?_))
theorem tn (p:Nat):((p:Int)).toNat=p:=Int.toNat_natCast p
theorem tn1 (p:Nat):((p:Int)+1).toNat=p+1:=by omega
theorem tn2 (p:Nat):((p:Int)+2).toNat=p+2:=by omega
theorem tn3 (p:Nat):((p:Int)+3).toNat=p+3:=by omega
theorem Ψ4 (m:M) (p n x:Nat):Ra23.put m p (n+1) x=Ra23.byteIn (Ra23.put m p n (x / 256)) (p+n) (x%256):=by
 unfold Ra23.put Ra23.byteIn
 congr 1
 funext q
 dsimp only
 by_cases h1:q=p+n
 ·subst h1
  have e:n+1 - 1 - (p+n - p)=0:=by omega
  rw [if_pos (by omega),if_pos rfl,e,Nat.pow_zero,Nat.div_one]
 ·rw [if_neg h1]
  by_cases h2:p≤q∧q < p+n
  ·have e:n+1 - 1 - (q - p)=(n - 1 - (q - p))+1:=by omega
   rw [if_pos (by omega),if_pos h2,e,Nat.pow_succ,Nat.mul_comm,Nat.div_div_eq_div_mul]
  ·rw [if_neg (by omega),if_neg h2]
theorem Φe (m:M) (p x:Nat):Ra23.put m p 0 x=m:=by
 unfold Ra23.put
 have e:(fun q=>if p≤q∧q < p+0 then x / 256^(0 - 1 - (q - p))%256 else m.mem q)=m.mem:=by
  funext q
  rw [if_neg (by omega)]
 rw [e]
theorem put2 (m:M) (p x:Nat):Ra23.put m p 2 x=Ra23.byteIn (Ra23.byteIn m p (x / 256%256)) (p+1) (x%256):=by
 rw [Ψ4,Ψ4,Φe,Nat.add_zero]
theorem put4 (m:M) (p x:Nat):Ra23.put m p 4 x=Ra23.byteIn (Ra23.byteIn (Ra23.byteIn (Ra23.byteIn m p (x / 16777216%256)) (p+1) (x / 65536%256)) (p+2) (x / 256%256)) (p+3) (x%256):=by
 have e1:x / 256 / 256 / 256=x / 16777216:=by omega
 have e2:x / 256 / 256=x / 65536:=by omega
 rw [Ψ4,Ψ4,Ψ4,Ψ4,Φe,Nat.add_zero,e1,e2]
section
variable {P:Program} {w:World} {K:PySem.W.Frag} {mg:Str→Option Value} {base:Heap} {C CI CS:Addr}
noncomputable def ξ1 (C CI CS:Addr):Sp:=fun vs H Q _=>∃ n:Nat,vs=[.int n]∧n < 2^32∧Q (.int (Ra23.signed n)) H
theorem sc_signed:FnScope ["word"] ["word"] (ξ (top 8)):=mkS
theorem ok_signed (T:Txt P w K mg base C CI CS) (h:Has K mg "signed" "signed" (top 8)):Callee P w K mg base 1 "signed" ["word"] (ξ1 C CI CS):=by
 refine ω (k:=0) h sc_signed (fun vs H Q E h=>?_) (fun _ _ _ _ _ _=>ml1 fun _=>rfl) fun f cdv A outer s H vs Q E hr h=>?_
 ·obtain ⟨n,rfl,_⟩:=h
  rfl
 obtain ⟨n,rfl,hn,q⟩:=h
 refine ⟨_,(θ (ω0 (υ ο2 (υ op_xor (pv 0) ι) ι))),?_⟩
 left
 have e:Builtin.bitXor (n:Int) 2147483648 - 2147483648=Ra23.signed n:=by
  have z:=xor_top (w:=n) (k:=31) hn
  have y:=οj n 2147483648
  rw [show ((2147483648:Nat):Int)=2147483648 from rfl] at y
  rw [y]
  exact z
 show Q (.int (Builtin.bitXor (n:Int) 2147483648 - 2147483648)) H
 rw [e]
 exact q
noncomputable def φ0 (n:Nat):Int:=if n < 2^63 then (n:Int) else (n:Int) - 2^64
noncomputable def Δ2 (C CI CS:Addr):Sp:=fun vs H Q _=>∃ n:Nat,vs=[.int n]∧n < 2^64∧Q (.int (φ0 n)) H
theorem ψh:FnScope ["double"] ["double"] (ξ (top 9)):=mkS
theorem θi (T:Txt P w K mg base C CI CS) (h:Has K mg "signed_double" "signed_double" (top 9)):Callee P w K mg base 1 "signed_double" ["double"] (Δ2 C CI CS):=by
 refine ω (k:=0) h ψh (fun vs H Q E h=>?_) (fun _ _ _ _ _ _=>ml1 fun _=>rfl) fun f cdv A outer s H vs Q E hr h=>?_
 ·obtain ⟨n,rfl,_⟩:=h
  rfl
 obtain ⟨n,rfl,hn,q⟩:=h
 refine ⟨_,(θ (ω0 (υ ο2 (υ op_xor (pv 0) ι) ι))),?_⟩
 left
 have e:Builtin.bitXor (n:Int) 9223372036854775808 - 9223372036854775808=φ0 n:=by
  have z:=xor_top (w:=n) (k:=63) hn
  have y:=οj n 9223372036854775808
  rw [show ((9223372036854775808:Nat):Int)=9223372036854775808 from rfl] at y
  rw [y]
  exact z
 show Q (.int (Builtin.bitXor (n:Int) 9223372036854775808 - 9223372036854775808)) H
 rw [e]
 exact q
noncomputable def Γ4 (C CI CS:Addr):Sp:=fun vs H Q _=>∃ i j:Int,vs=[.int i,.int j]∧Q (.int (Ra23.ccBy i j)) H
theorem sc_order:FnScope ["first","second"] ["first","second"] (ξ (top 10)):=mkS
theorem ok_order (T:Txt P w K mg base C CI CS) (h:Has K mg "order" "order" (top 10)):Callee P w K mg base 1 "order" ["first","second"] (Γ4 C CI CS):=by
 refine ω (k:=0) h sc_order (fun vs H Q E h=>?_) (fun _ _ _ _ _ _=>ml2 fun _ _=>rfl) fun f cdv A outer s H vs Q E hr h=>?_
 ·obtain ⟨i,j,rfl,_⟩:=h
  rfl
 obtain ⟨i,j,rfl,q⟩:=h
 refine ⟨_,(η (ρ0 (Ψ ψ1 (pv 0) (pv 1) (Ω _)) (θ (ω0 ι)) ι0) (θ (ω0 (Ψ1 (Ψ ξg (pv 0) (pv 1) (Ω _)) ι ι)))),?_⟩
 unfold Ra23.ccBy at q
 left
 refine Δ (fun c=>?_) (fun c=>?_)
 ·rw [if_pos c] at q
  left
  exact q
 ·rw [if_neg c] at q
  left
  refine Δ (fun c=>?_) (fun c=>?_)
  ·rw [if_pos c] at q
   exact q
  ·rw [if_neg c] at q
   exact q
theorem ccOf_by (z:Int):Ra23.ccBy z 0=Ra23.ccOf z:=rfl
noncomputable def concl (m:M) (z:Int) (b:Bool):Ra23.End:=if b=true then .done {m with cc:=Ra23.ccOf z} else if 8≤m.mask then .stop 8 {m with cc:=3} else .done {m with cc:=3}
noncomputable def η8 (C CI CS:Addr):Sp:=fun vs H Q E=>∃ (d:Hd) (m:M) (hv:Nat) (z:Int) (b:Bool),vs=[.ref d.a,.int z,.bl b]∧Mach C d H m hv∧Out C CI CS d hv H Q E (concl m z b)
theorem ccOf_lt (z:Int):Ra23.ccOf z < 4:=by unfold Ra23.ccOf; split <;> (try split) <;> decide
theorem ζe (a b:Int):Ra23.ccBy a b < 4:=by unfold Ra23.ccBy; split <;> (try split) <;> decide
theorem mask8 {n:Nat} (h:n < 16):Builtin.bitAnd (n:Int) 8≠0↔8≤n:=by
 have y:=Ξ3 n 8
 rw [show ((8:Nat):Int)=8 from rfl] at y
 rw [y]
 have:∀ n:Nat,n < 16→((n &&& 8≠0)↔8≤n):=by decide
 have:=this n h
 omega
theorem sc_conclude:FnScope ["machine","result","fits"] ["machine","result","fits"] (ξ (top 11)):=mkS
theorem ok_conclude (T:Txt P w K mg base C CI CS) (h:Has K mg "conclude" "conclude" (top 11)) (c_order:Callee P w K mg base 1 "order" ["first","second"] (Γ4 C CI CS)):Callee P w K mg base 3 "conclude" ["machine","result","fits"] (η8 C CI CS):=by
 refine ω (k:=2) h sc_conclude (fun vs H Q E h=>?_) (fun _ _ _ _ _ _=>ml3 fun _ _ _=>rfl) fun f cdv A outer s H vs Q E hr h=>?_
 ·obtain ⟨d,m,hv,z,b,rfl,_⟩:=h
  rfl
 obtain ⟨d,m,hv,z,b,rfl,hM,o⟩:=h
 have hmc:=T.mc
 refine ⟨_,(η (ρ0 (ν4 (pv 2)) (η (ξ0 (pv 0) (τ c_order hr (by decide) rfl (ζ (pv 1) (ζ ι ν))) rfl) (θ ps_retN)) ι0) (η (ξ0 (pv 0) ι rfl) (θ (ρ0 (ηj (υ ν0 (Γ (pv 0) rfl) ι) (fun _=>rfl)) (θ (Ω4 T.rI hr (by decide) rfl (ζ ι ν))) ι0)))),?_⟩
 left
 refine Ω2 (fun c=>?_) (fun c=>?_)
 ·subst c
  left
  refine ⟨_,_,rfl,?_⟩
  rw [ccOf_by]
  refine ρ1 hM hmc rfl rfl (ccOf_lt z) fun H' hM' k=>?_
  left
  exact o H' hM' k
 ·subst c
  left
  refine ρ1 (v:=3) hM hmc rfl rfl (by decide) fun H' hM' k=>?_
  left
  have hk:=hM.ok.mask
  have o':Out C CI CS d hv H Q E (if 8≤m.mask then .stop 8 {m with cc:=3} else .done {m with cc:=3}):=o
  refine rd_iteI (fun c=>?_) (fun c=>?_)
  ·rw [if_pos ((mask8 hk).mp c)] at o'
   left
   exact ⟨8,rfl,(o'.keep k).raise hM'⟩
  ·rw [if_neg (fun q=>(mask8 hk).mpr q c)] at o'
   exact o' H' hM' k
noncomputable def φ6 (C CI CS:Addr):Sp:=fun vs H Q E=>∃ k:Nat,vs=[.int k]∧(k%2=1→Rs CI H E 6)∧(k%2=0→Q .non H)
theorem sc_need_even:FnScope ["number"] ["number"] (ξ (top 12)):=mkS
theorem ok_need_even (T:Txt P w K mg base C CI CS) (h:Has K mg "need_even" "need_even" (top 12)):Callee P w K mg base 3 "need_even" ["number"] (φ6 C CI CS):=by
 refine ω (k:=2) h sc_need_even (fun vs H Q E h=>?_) (fun _ _ _ _ _ _=>ml1 fun _=>rfl) fun f cdv A outer s H vs Q E hr h=>?_
 ·obtain ⟨k,rfl,_⟩:=h
  rfl
 obtain ⟨k,rfl,q1,q2⟩:=h
 refine ⟨_,(θ (ρ0 (ηj (υ ν0 (pv 0) ι) (fun _=>rfl)) (θ (Ω4 T.rI hr (by decide) rfl (ζ ι ν))) ι0)),?_⟩
 left
 have e:Builtin.bitAnd (k:Int) 1=((k%2:Nat):Int):=by
  have y:=Ξ3 k 1
  rw [show ((1:Nat):Int)=1 from rfl] at y
  rw [y,Nat.and_one_is_mod]
 rw [e]
 refine rd_iteI (fun c=>?_) (fun c=>?_)
 ·left
  exact ⟨6,rfl,q1 (by omega)⟩
 ·exact q2 (by omega)
noncomputable def τ0 (C CI CS:Addr):Sp:=fun vs H Q E=>∃ p n:Int,vs=[.int p,.int n]∧(65536 < p+n→Rs CI H E 5)∧(p+n≤65536→Q .non H)
theorem sc_need_room:FnScope ["place","size"] ["place","size"] (ξ (top 13)):=mkS
theorem ok_need_room (T:Txt P w K mg base C CI CS) (h:Has K mg "need_room" "need_room" (top 13)):Callee P w K mg base 3 "need_room" ["place","size"] (τ0 C CI CS):=by
 refine ω (k:=2) h sc_need_room (fun vs H Q E h=>?_) (fun _ _ _ _ _ _=>ml2 fun _ _=>rfl) fun f cdv A outer s H vs Q E hr h=>?_
 ·obtain ⟨p,n,rfl,_⟩:=h
  rfl
 obtain ⟨p,n,rfl,q1,q2⟩:=h
 refine ⟨_,(θ (ρ0 (Ψ op_gt (υ η0 (pv 0) (pv 1)) (Ω1 T.gMEMORY_SIZE rfl) (Ω _)) (θ (Ω4 T.rI hr (by decide) rfl (ζ ι ν))) ι0)),?_⟩
 left
 refine Δ (fun c=>?_) (fun c=>?_)
 ·left
  exact ⟨5,rfl,q1 (by omega)⟩
 ·exact q2 (by omega)
noncomputable def ζ1 (C CI CS:Addr):Sp:=fun vs H Q E=>∃ p n:Int,vs=[.int p,.int n]∧0 < n∧(p%n≠0→Rs CI H E 6)∧(p%n=0→65536≤p→Rs CI H E 5)∧(p%n=0→p < 65536→Q .non H)
theorem sc_need_unit:FnScope ["place","size"] ["place","size"] (ξ (top 14)):=mkS
theorem ok_need_unit (T:Txt P w K mg base C CI CS) (h:Has K mg "need_unit" "need_unit" (top 14)):Callee P w K mg base 3 "need_unit" ["place","size"] (ζ1 C CI CS):=by
 refine ω (k:=2) h sc_need_unit (fun vs H Q E h=>?_) (fun _ _ _ _ _ _=>ml2 fun _ _=>rfl) fun f cdv A outer s H vs Q E hr h=>?_
 ·obtain ⟨p,n,rfl,_⟩:=h
  rfl
 obtain ⟨p,n,rfl,hn,q1,q2,q3⟩:=h
 refine ⟨_,(η (ρ0 (Ψ ξb (υ ιk (pv 0) (pv 1)) ι (Ω _)) (θ (Ω4 T.rI hr (by decide) rfl (ζ ι ν))) ι0) (θ (ρ0 (Ψ κk (pv 0) (Ω1 T.gMEMORY_SIZE rfl) (Ω _)) (θ (Ω4 T.rI hr (by decide) rfl (ζ ι ν))) ι0))),?_⟩
 left
 refine ζ7 hn ?_
 left
 refine υ1 (fun c=>?_) (fun c=>?_)
 ·left
  exact ⟨6,rfl,q1 c⟩
 ·left
  refine Δ (fun c'=>?_) (fun c'=>?_)
  ·left
   exact ⟨5,rfl,q2 c c'⟩
  ·exact q3 c (by omega)
end
section
variable {P:Program} {w:World} {K:PySem.W.Frag} {mg:Str→Option Value} {base:Heap} {C CI CS:Addr}
theorem sh8 {z:Int} {H:Hp} {Q:VK} {j:Int} {n:Nat} (ez:∃ k:Nat,z=k∧k < 2^64) (ej:j=(n:Int)) (hn:n≤1000000) (q:Q (.int (z*2^n)) H):rI CPow (fun i j=>.int (i*2^j.toNat)) (.int z) (.int j) H Q:=by
 obtain ⟨k,rfl,hk⟩:=ez
 subst ej
 refine ζ7 ⟨by omega,by omega,by omega⟩ ?_
 rw [Int.toNat_natCast]
 exact q
theorem θ4 {a b k:Nat} (h:b < 2^k):Builtin.bitOr ((a:Int)*2^k) (b:Int)=((a*2^k+b:Nat):Int):=by
 have e:(a:Int)*2^k=((a*2^k:Nat):Int):=by push_cast; rfl
 rw [e,τ3,ω9 h]
theorem get2 (m:M) (p:Nat):Ra23.get m p 2=m.mem p*256+m.mem (p+1):=by
 show (0*256+m.mem (p+0))*256+m.mem (p+1)=_
 rw [Nat.add_zero]; omega
theorem get4 (m:M) (p:Nat):Ra23.get m p 4=((m.mem p*256+m.mem (p+1))*256+m.mem (p+2))*256+m.mem (p+3):=by
 show (((0*256+m.mem (p+0))*256+m.mem (p+1))*256+m.mem (p+2))*256+m.mem (p+3)=_
 rw [Nat.add_zero]; omega
noncomputable def Ξf (C CI CS:Addr):Sp:=fun vs H Q E=>∃ (d:Hd) (m:M) (hv p:Nat),vs=[.ref d.a,.int p]∧Mach C d H m hv∧(p%2≠0→Rs CI H E 6)∧(p%2=0→65536≤p→Rs CI H E 5)∧(p%2=0→p < 65536→Q (.int (Ra23.half (Ra23.get m p 2))) H)
theorem half_math {a b:Nat} (ha:a < 256) (hb:b < 256):(if Builtin.bitAnd ((a*2^8+b:Nat):Int) 32768≠0 then Builtin.bitOr ((a*2^8+b:Nat):Int) 4294901760 else ((a*2^8+b:Nat):Int))=((Ra23.half (a*256+b):Nat):Int):=by
 have y:Builtin.bitAnd ((a*2^8+b:Nat):Int) 32768=(((a*2^8+b) / 32768%2*32768:Nat):Int):=by
  have z:=PySem.W.kbt_bit ((a*2^8+b:Nat):Int) 15
  rw [show ((2:Int)^15)=32768 from rfl] at z
  rw [z]
  omega
 have e2:Builtin.bitOr ((a*2^8+b:Nat):Int) 4294901760=((a*2^8+b+4294901760:Nat):Int):=by
  have z:=τ3 (a*2^8+b) 4294901760
  rw [show ((4294901760:Nat):Int)=4294901760 from rfl] at z
  rw [z,Nat.or_comm]
  have l:=ω9 (k:=16) (a:=65535) (b:=a*2^8+b) (by omega)
  rw [show 65535*2^16=4294901760 from rfl] at l
  rw [l]
  all_goals omega
 rw [e2,y]
 unfold Ra23.half Ra23.W
 by_cases h:a*256+b < 2^15
 ·rw [if_neg (by omega),if_pos h]
  all_goals omega
 ·rw [if_pos (by omega),if_neg h]
  all_goals omega
theorem ρn:FnScope ["machine","place","half"] ["machine","place"] (ξ (top 15)):=mkS
theorem ok_half_at (T:Txt P w K mg base C CI CS) (h:Has K mg "half_at" "half_at" (top 15)) (c_need_unit:Callee P w K mg base 3 "need_unit" ["place","size"] (ζ1 C CI CS)):Callee P w K mg base 4 "half_at" ["machine","place"] (Ξf C CI CS):=by
 refine ω (k:=3) h ρn (fun vs H Q E h=>?_) (fun _ _ _ _ _ _=>ml2 fun _ _=>rfl) fun f cdv A outer s H vs Q E hr h=>?_
 ·obtain ⟨d,m,hv,p,rfl,_⟩:=h
  rfl
 obtain ⟨d,m,hv,p,rfl,hM,q1,q2,q3⟩:=h
 have hmc:=T.mc
 refine ⟨_,(η (χ (τ c_need_unit hr (by decide) rfl (ζ (pv 1) (ζ ι ν)))) (η (Ξ (i:=2) ρn.nd rfl (Or.inl rfl) (υ ζ3 (υ φ3 (ο0 Φ (Γ (pv 0) rfl) (pv 1) (fun _ _=>rfl)) ι) (ο0 Φ (Γ (pv 0) rfl) (υ η0 (pv 1) ι) (fun _ _=>rfl)))) (θ (ω0 (Ψ1 (ηj (υ ν0 (pv 2) ι) (fun _=>rfl)) (υ ζ3 (pv 2) ι) (pv 2)))))),?_⟩
 left
 refine ⟨_,_,rfl,by decide,fun c=>q1 (by omega),fun c c'=>q2 (by omega) (by omega),fun c c'=>?_⟩
 left
 refine sh8 (n:=8) ⟨_,rfl,by have:=hM.ok.mem (Int.toNat p); omega⟩ rfl (by decide) ?_
 left
 rw [tn,tn1]
 have ha:=hM.ok.mem p
 have hb:=hM.ok.mem (p+1)
 rw [θ4 (k:=8) (by omega)]
 have e:=half_math ha hb
 have q:=q3 (by omega) (by omega)
 rw [get2,← e] at q
 refine rd_iteI (fun c=>?_) (fun c=>?_)
 ·rw [if_pos c] at q
  left
  exact q
 ·rw [if_neg (by rw [c]; decide)] at q
  left
  exact q
noncomputable def φj (C CI CS:Addr):Sp:=fun vs H Q E=>∃ (d:Hd) (m:M) (hv p x:Nat),vs=[.ref d.a,.int p,.int x]∧Mach C d H m hv∧(p%2≠0→Rs CI H E 6)∧(p%2=0→65536≤p→Rs CI H E 5) ∧
 (p%2=0→p < 65536→∀ H',Mach C d H' (Ra23.put m p 2 (x%65536)) hv→Keep d H H'→Q .non H')
theorem and255 (x:Nat):Builtin.bitAnd (x:Int) 255=((x%256:Nat):Int):=by
 have z:=PySem.W.kbt_mask (x:Int) 8
 rw [show ((2:Int)^8 - 1)=255 from rfl] at z
 rw [z]
 push_cast
 rfl
theorem shr255 (x n:Nat):Builtin.bitAnd ((x:Int) / 2^n) 255=((x / 2^n%256:Nat):Int):=by
 have e:(x:Int) / 2^n=((x / 2^n:Nat):Int):=by push_cast; rfl
 rw [e,and255]
theorem χh {z j:Int} {n:Nat} {H:Hp} {Q:VK} (ej:j=(n:Int)) (q:Q (.int (z / 2^n)) H):rI (fun _ j=>0≤j) (fun i j=>.int (i / 2^j.toNat)) (.int z) (.int j) H Q:=by
 subst ej
 refine ζ7 (Int.natCast_nonneg n) ?_
 rw [Int.toNat_natCast]
 exact q
theorem sc_put_half:FnScope ["machine","place","word"] ["machine","place","word"] (ξ (top 16)):=mkS
theorem ok_put_half (T:Txt P w K mg base C CI CS) (h:Has K mg "put_half" "put_half" (top 16)) (c_need_unit:Callee P w K mg base 3 "need_unit" ["place","size"] (ζ1 C CI CS)):Callee P w K mg base 4 "put_half" ["machine","place","word"] (φj C CI CS):=by
 refine ω (k:=3) h sc_put_half (fun vs H Q E h=>?_) (fun _ _ _ _ _ _=>ml3 fun _ _ _=>rfl) fun f cdv A outer s H vs Q E hr h=>?_
 ·obtain ⟨d,m,hv,p,x,rfl,_⟩:=h
  rfl
 obtain ⟨d,m,hv,p,x,rfl,hM,q1,q2,q3⟩:=h
 have hmc:=T.mc
 refine ⟨_,(η (χ (τ c_need_unit hr (by decide) rfl (ζ (pv 1) (ζ ι ν)))) (η (Γ0 (υ ν0 (υ ρ2 (pv 2) ι) ι) (Δ0 (Γ (pv 0) rfl) (pv 1) κ0)) (θ (Γ0 (υ ν0 (pv 2) ι) (Δ0 (Γ (pv 0) rfl) (υ η0 (pv 1) ι) κ0))))),?_⟩
 left
 refine ⟨_,_,rfl,by decide,fun c=>q1 (by omega),fun c c'=>q2 (by omega) (by omega),fun c c'=>?_⟩
 left
 refine χh (n:=8) rfl ?_
 left
 refine Φ1 hM (by omega) (shr255 x 8) (Nat.mod_lt _ (by decide)) fun H1 hM1 k1=>?_
 left
 refine Φ1 hM1 (by omega) (and255 x) (Nat.mod_lt _ (by decide)) fun H2 hM2 k2=>?_
 rw [tn,tn1] at hM2
 refine q3 (by omega) (by omega) H2 ?_ (k1.trans k2)
 have e1:x%65536 / 256%256=x / 2^8%256:=by omega
 have e2:x%65536%256=x%256:=by omega
 rw [put2,e1,e2]
 exact hM2
noncomputable def Δf (C CI CS:Addr):Sp:=fun vs H Q E=>∃ (d:Hd) (m:M) (hv p:Nat),vs=[.ref d.a,.int p]∧Mach C d H m hv∧(p%4≠0→Rs CI H E 6)∧(p%4=0→65536≤p→Rs CI H E 5)∧(p%4=0→p < 65536→Q (.int (Ra23.get m p 4)) H)
theorem word_math {a b c e:Nat} (ha:a < 256) (hb:b < 256) (hc:c < 256) (he:e < 256) :
  Builtin.bitOr (Builtin.bitOr (Builtin.bitOr ((a:Int)*2^24) ((b:Int)*2^16)) ((c:Int)*2^8)) (e:Int)=(((((a*256+b)*256+c)*256+e:Nat)):Int):=by
 have e1:(b:Int)*2^16=((b*2^16:Nat):Int):=by omega
 have e2:(c:Int)*2^8=((c*2^8:Nat):Int):=by omega
 rw [e1,θ4 (k:=24) (by omega),e2]
 have e3:a*2^24+b*2^16=(a*256+b)*2^16:=by omega
 rw [e3,τ3,ω9 (k:=16) (by omega)]
 have e4:∀ u:Nat,u*2^16+c*2^8=(u*256+c)*2^8:=fun u=>by rw [Nat.add_mul,Nat.mul_assoc]
 rw [e4,τ3,ω9 (k:=8) (by omega)]
theorem οn:FnScope ["machine","place","memory"] ["machine","place"] (ξ (top 17)):=mkS
theorem ok_word_at (T:Txt P w K mg base C CI CS) (h:Has K mg "word_at" "word_at" (top 17)) (c_need_unit:Callee P w K mg base 3 "need_unit" ["place","size"] (ζ1 C CI CS)):Callee P w K mg base 4 "word_at" ["machine","place"] (Δf C CI CS):=by
 refine ω (k:=3) h οn (fun vs H Q E h=>?_) (fun _ _ _ _ _ _=>ml2 fun _ _=>rfl) fun f cdv A outer s H vs Q E hr h=>?_
 ·obtain ⟨d,m,hv,p,rfl,_⟩:=h
  rfl
 obtain ⟨d,m,hv,p,rfl,hM,q1,q2,q3⟩:=h
 have hmc:=T.mc
 refine ⟨_,(η (χ (τ c_need_unit hr (by decide) rfl (ζ (pv 1) (ζ ι ν)))) (η (Ξ (i:=2) οn.nd rfl (Or.inl rfl) (Γ (pv 0) rfl)) (θ (ω0 (υ ζ3 (υ ζ3 (υ ζ3 (υ φ3 (ο0 Φ (pv 2) (pv 1) (fun _ _=>rfl)) ι) (υ φ3 (ο0 Φ (pv 2) (υ η0 (pv 1) ι) (fun _ _=>rfl)) ι)) (υ φ3 (ο0 Φ (pv 2) (υ η0 (pv 1) ι) (fun _ _=>rfl)) ι)) (ο0 Φ (pv 2) (υ η0 (pv 1) ι) (fun _ _=>rfl))))))),?_⟩
 left
 refine ⟨_,_,rfl,by decide,fun c=>q1 (by omega),fun c c'=>q2 (by omega) (by omega),fun c c'=>?_⟩
 left
 refine sh8 (n:=24) ⟨_,rfl,by have:=hM.ok.mem (Int.toNat p); omega⟩ rfl (by decide) ?_
 left
 refine sh8 (n:=16) ⟨_,rfl,by have:=hM.ok.mem (Int.toNat (p+1)); omega⟩ rfl (by decide) ?_
 left
 refine sh8 (n:=8) ⟨_,rfl,by have:=hM.ok.mem (Int.toNat (p+2)); omega⟩ rfl (by decide) ?_
 left
 rw [tn,tn1,tn2,tn3,word_math (hM.ok.mem _) (hM.ok.mem _) (hM.ok.mem _) (hM.ok.mem _),← get4]
 exact q3 (by omega) (by omega)
noncomputable def Ωc (C CI CS:Addr):Sp:=fun vs H Q E=>∃ (d:Hd) (m:M) (hv p x:Nat),vs=[.ref d.a,.int p,.int x]∧x < 2^32∧Mach C d H m hv∧(p%4≠0→Rs CI H E 6)∧(p%4=0→65536≤p→Rs CI H E 5) ∧
 (p%4=0→p < 65536→∀ H',Mach C d H' (Ra23.put m p 4 x) hv→Keep d H H'→Q .non H')
theorem ωj:FnScope ["machine","place","word","memory"] ["machine","place","word"] (ξ (top 18)):=mkS
theorem ok_put_word (T:Txt P w K mg base C CI CS) (h:Has K mg "put_word" "put_word" (top 18)) (c_need_unit:Callee P w K mg base 3 "need_unit" ["place","size"] (ζ1 C CI CS)):Callee P w K mg base 4 "put_word" ["machine","place","word"] (Ωc C CI CS):=by
 refine ω (k:=3) h ωj (fun vs H Q E h=>?_) (fun _ _ _ _ _ _=>ml3 fun _ _ _=>rfl) fun f cdv A outer s H vs Q E hr h=>?_
 ·obtain ⟨d,m,hv,p,x,rfl,_⟩:=h
  rfl
 obtain ⟨d,m,hv,p,x,rfl,hx,hM,q1,q2,q3⟩:=h
 have hmc:=T.mc
 refine ⟨_,(η (χ (τ c_need_unit hr (by decide) rfl (ζ (pv 1) (ζ ι ν)))) (η (Ξ (i:=3) ωj.nd rfl (Or.inl rfl) (Γ (pv 0) rfl)) (η (Γ0 (υ ρ2 (pv 2) ι) (Δ0 (pv 3) (pv 1) κ0)) (η (Γ0 (υ ν0 (υ ρ2 (pv 2) ι) ι) (Δ0 (pv 3) (υ η0 (pv 1) ι) κ0)) (η (Γ0 (υ ν0 (υ ρ2 (pv 2) ι) ι) (Δ0 (pv 3) (υ η0 (pv 1) ι) κ0)) (θ (Γ0 (υ ν0 (pv 2) ι) (Δ0 (pv 3) (υ η0 (pv 1) ι) κ0)))))))),?_⟩
 left
 refine ⟨_,_,rfl,by decide,fun c=>q1 (by omega),fun c c'=>q2 (by omega) (by omega),fun c c'=>?_⟩
 left
 refine χh (n:=24) rfl ?_
 left
 refine Φ1 (v:=x / 2^24%256) hM (by omega) (by omega) (Nat.mod_lt _ (by decide)) fun H1 hM1 k1=>?_
 left
 refine χh (n:=16) rfl ?_
 left
 refine Φ1 hM1 (by omega) (shr255 x 16) (Nat.mod_lt _ (by decide)) fun H2 hM2 k2=>?_
 left
 refine χh (n:=8) rfl ?_
 left
 refine Φ1 hM2 (by omega) (shr255 x 8) (Nat.mod_lt _ (by decide)) fun H3 hM3 k3=>?_
 left
 refine Φ1 hM3 (by omega) (and255 x) (Nat.mod_lt _ (by decide)) fun H4 hM4 k4=>?_
 rw [tn,tn1,tn2,tn3] at hM4
 refine q3 (by omega) (by omega) H4 ?_ (((k1.trans k2).trans k3).trans k4)
 rw [put4]
 exact hM4
end
section
variable {P:Program} {w:World} {K:PySem.W.Frag} {mg:Str→Option Value} {base:Heap} {C CI CS:Addr}
noncomputable def θ5 (C CI CS:Addr):Sp:=fun vs H Q E=>∃ (d:Hd) (m:M) (hv k:Nat),vs=[.ref d.a,.int k]∧k < 16∧Mach C d H m hv∧(k%2=1→Rs CI H E 6)∧(k%2=0→Q (.int ((m.r k*2^32+m.r (k+1):Nat):Int)) H)
theorem sc_pair_at:FnScope ["machine","k"] ["machine","k"] (ξ (top 19)):=mkS
theorem ok_pair_at (T:Txt P w K mg base C CI CS) (h:Has K mg "pair_at" "pair_at" (top 19)) (c_need_even:Callee P w K mg base 3 "need_even" ["number"] (φ6 C CI CS)):Callee P w K mg base 4 "pair_at" ["machine","k"] (θ5 C CI CS):=by
 refine ω (k:=3) h sc_pair_at (fun vs H Q E h=>?_) (fun _ _ _ _ _ _=>ml2 fun _ _=>rfl) fun f cdv A outer s H vs Q E hr h=>?_
 ·obtain ⟨d,m,hv,k,rfl,_⟩:=h
  rfl
 obtain ⟨d,m,hv,k,rfl,hk,hM,q1,q2⟩:=h
 have hmc:=T.mc
 refine ⟨_,(η (χ (τ c_need_even hr (by decide) rfl (ζ (pv 1) ν))) (θ (ω0 (υ ζ3 (υ φ3 (ο0 Φ (Γ (pv 0) rfl) (pv 1) (fun _ _=>rfl)) ι) (ο0 Φ (Γ (pv 0) rfl) (υ η0 (pv 1) ι) (fun _ _=>rfl)))))),?_⟩
 left
 refine ⟨_,rfl,q1,fun c=>?_⟩
 left
 refine sh8 (n:=32) ⟨_,rfl,by have:=hM.ok.reg (Int.toNat k); omega⟩ rfl (by decide) ?_
 left
 rw [tn,tn1,θ4 (k:=32) (hM.ok.reg _)]
 exact q2 c
noncomputable def Γ3 (C CI CS:Addr):Sp:=fun vs H Q E=>∃ (d:Hd) (m:M) (hv k:Nat) (z:Int),vs=[.ref d.a,.int k,.int z]∧k < 16∧k%2=0∧Mach C d H m hv ∧
 ∀ H',Mach C d H' (Ra23.set (Ra23.set m k (z / 2^32%2^32).toNat) (k+1) (z%2^32).toNat) hv→Keep d H H'→Q .non H'
theorem κe (z:Int):Builtin.bitAnd z 4294967295=z%2^32:=by
 have y:=PySem.W.kbt_mask z 32
 rw [show ((2:Int)^32 - 1)=4294967295 from rfl] at y
 exact y
theorem ν2 (z:Int):Builtin.bitAnd z 4294967295=(((z%2^32).toNat:Nat):Int):=by
 rw [κe]
 omega
theorem sc_put_pair:FnScope ["machine","k","double"] ["machine","k","double"] (ξ (top 20)):=mkS
theorem ok_put_pair (T:Txt P w K mg base C CI CS) (h:Has K mg "put_pair" "put_pair" (top 20)):Callee P w K mg base 1 "put_pair" ["machine","k","double"] (Γ3 C CI CS):=by
 refine ω (k:=0) h sc_put_pair (fun vs H Q E h=>?_) (fun _ _ _ _ _ _=>ml3 fun _ _ _=>rfl) fun f cdv A outer s H vs Q E hr h=>?_
 ·obtain ⟨d,m,hv,k,z,rfl,_⟩:=h
  rfl
 obtain ⟨d,m,hv,k,z,rfl,hk,hk2,hM,q⟩:=h
 have hmc:=T.mc
 refine ⟨_,(η (Γ0 (υ ν0 (υ ρ2 (pv 2) ι) (Ω1 T.gWORD_BITS rfl)) (Δ0 (Γ (pv 0) rfl) (pv 1) κ0)) (θ (Γ0 (υ ν0 (pv 2) (Ω1 T.gWORD_BITS rfl)) (Δ0 (Γ (pv 0) rfl) (υ η0 (pv 1) ι) κ0)))),?_⟩
 left
 refine χh (n:=32) rfl ?_
 left
 refine θ1 hM (by omega) (ν2 _) (by omega) fun H1 hM1 k1=>?_
 left
 refine θ1 hM1 (by omega) (ν2 _) (by omega) fun H2 hM2 k2=>?_
 rw [tn,tn1] at hM2
 exact q H2 hM2 (k1.trans k2)
noncomputable def Ω7 (C CI CS:Addr):Sp:=fun vs H Q E=>∃ (d:Hd) (m:M) (hv p:Nat),vs=[.ref d.a,.int p]∧p+1 < 65536∧Mach C d H m hv∧Q (.int (Ra23.address m (256*m.mem p+m.mem (p+1)))) H
theorem Δb (x:Nat):Builtin.bitAnd (x:Int) 15=((x%16:Nat):Int):=by
 have z:=PySem.W.kbt_mask (x:Int) 4
 rw [show ((2:Int)^4 - 1)=15 from rfl] at z
 rw [z]
 omega
theorem κb (x:Nat):Builtin.bitAnd (x:Int) 16777215=((x%2^24:Nat):Int):=by
 have z:=PySem.W.kbt_mask (x:Int) 24
 rw [show ((2:Int)^24 - 1)=16777215 from rfl] at z
 rw [z]
 omega
theorem ο3:FnScope ["machine","at","high","place","base"] ["machine","at"] (ξ (top 21)):=mkS
theorem ok_place_told (T:Txt P w K mg base C CI CS) (h:Has K mg "place_told" "place_told" (top 21)):Callee P w K mg base 1 "place_told" ["machine","at"] (Ω7 C CI CS):=by
 refine ω (k:=0) h ο3 (fun vs H Q E h=>?_) (fun _ _ _ _ _ _=>ml2 fun _ _=>rfl) fun f cdv A outer s H vs Q E hr h=>?_
 ·obtain ⟨d,m,hv,p,rfl,_⟩:=h
  rfl
 obtain ⟨d,m,hv,p,rfl,hp,hM,q⟩:=h
 have hmc:=T.mc
 refine ⟨_,(η (Ξ (i:=2) ο3.nd rfl (Or.inl rfl) (ο0 Φ (Γ (pv 0) rfl) (pv 1) (fun _ _=>rfl))) (η (Ξ (i:=3) ο3.nd rfl (Or.inl rfl) (υ ζ3 (υ φ3 (υ ν0 (pv 2) ι) ι) (ο0 Φ (Γ (pv 0) rfl) (υ η0 (pv 1) ι) (fun _ _=>rfl)))) (η (Ξ (i:=4) ο3.nd rfl (Or.inl rfl) (υ ρ2 (pv 2) ι)) (η (ρ0 (Ψ ξb (pv 4) ι (Ω _)) (θ (Ξ (i:=3) ο3.nd rfl (Or.inl rfl) (υ η0 (pv 3) (ο0 Φ (Γ (pv 0) rfl) (pv 4) (fun _ _=>rfl))))) ι0) (θ (ω0 (υ ν0 (pv 3) (Ω1 T.gPLACE_BITS rfl)))))))),?_⟩
 left
 rw [tn,Δb]
 refine sh8 (n:=8) ⟨_,rfl,by omega⟩ rfl (by decide) ?_
 left
 have ha:=hM.ok.mem p
 have hb:=hM.ok.mem (p+1)
 rw [tn1,θ4 (k:=8) (by omega)]
 refine χh (n:=4) rfl ?_
 have e4:((m.mem p:Nat):Int) / 2^4=((m.mem p / 16:Nat):Int):=by omega
 rw [e4]
 left
 have ea:(256*m.mem p+m.mem (p+1)) / 4096=m.mem p / 16:=by omega
 have eb:(256*m.mem p+m.mem (p+1))%4096=m.mem p%16*2^8+m.mem (p+1):=by omega
 unfold Ra23.address at q
 rw [ea,eb] at q
 refine υ1 (fun c=>?_) (fun c=>?_)
 ·left
  rw [tn]
  rw [if_neg (by omega)] at q
  have es:(((m.mem p%16*2^8+m.mem (p+1):Nat):Int)+((m.r (m.mem p / 16):Nat):Int))=((m.r (m.mem p / 16)+(m.mem p%16*2^8+m.mem (p+1)):Nat):Int):=by omega
  rw [es,κb]
  exact q
 ·left
  rw [if_pos (by omega),Nat.zero_add] at q
  rw [κb]
  exact q
end
theorem op_fdivB {X:Cx}:OpR X (binaryOp .FloorDiv) (rI (fun _ j=>0 < j∧j < 2^128) fun i j=>.int (i / j)):=opI fun i j _ _ _ _ _ hc q=>by
 have h1:(0:Int) < j:=hc.1
 have h2:j < 2^128:=hc.2
 refine floordiv_int (by omega) (by rw [Int.fdiv_eq_ediv_of_nonneg i (by omega)]; exact q) (.inl (PyProof.noPylong_of_log2 ?_))
 have h3:j.natAbs < 2^128:=by omega
 have h4:j.natAbs.log2 < 128:=(Nat.log2_lt (by omega)).mpr h3
 omega
section
variable {P:Program} {w:World} {K:PySem.W.Frag} {mg:Str→Option Value} {base:Heap} {C CI CS:Addr}
noncomputable def SpK (G:M→Nat→Nat→Ra23.End) (C CI CS:Addr):Sp:=fun vs H Q E=>∃ (d:Hd) (m:M) (hv k x:Nat),vs=[.ref d.a,.int k,.int x]∧k < 16∧x < 2^32∧Mach C d H m hv∧Out C CI CS d hv H Q E (G m k x)
noncomputable def fitsW (z:Int):Bool:=decide (-2147483648≤z∧z≤2147483647)
noncomputable def χ6 (C CI CS:Addr):Sp:=fun vs H Q _=>∃ z:Int,vs=[.int z]∧Q (.bl (fitsW z)) H
theorem sc_fits_word:FnScope ["number"] ["number"] (ξ (top 53)):=mkS
theorem ok_fits_word (T:Txt P w K mg base C CI CS) (h:Has K mg "fits_word" "fits_word" (top 53)):Callee P w K mg base 1 "fits_word" ["number"] (χ6 C CI CS):=by
 refine ω (k:=0) h sc_fits_word (fun vs H Q E h=>?_) (fun _ _ _ _ _ _=>ml1 fun _=>rfl) fun f cdv A outer s H vs Q E hr h=>?_
 ·obtain ⟨z,rfl,_⟩:=h
  rfl
 obtain ⟨z,rfl,q⟩:=h
 refine ⟨_,(θ (ω0 (pe_chain ρ6 ρ6 (Ψe υ6 ι) (pv 0) ι))),?_⟩
 unfold fitsW at q
 left
 refine Δ (fun c=>?_) (fun c=>?_)
 ·left
  have e:decide (-2147483648≤z∧z≤2147483647)=decide (z≤2147483647):=by
   by_cases h:z≤2147483647
   ·rw [decide_eq_true h,decide_eq_true ⟨c,h⟩]
   ·rw [decide_eq_false h,decide_eq_false (fun q=>h q.2)]
  rw [e] at q
  exact q
 ·rw [decide_eq_false (fun q=>c q.1)] at q
  exact q
noncomputable def ι5 (C CI CS:Addr):Sp:=fun vs H Q E=>∃ (d:Hd) (m:M) (hv k:Nat) (z:Int),vs=[.ref d.a,.int k,.int z]∧k < 16∧Mach C d H m hv∧Out C CI CS d hv H Q E (Ra23.fixed m k z)
theorem ηl (m:M) (k:Nat) (z:Int):Ra23.fixed m k z=concl (Ra23.set m k (z%2^32).toNat) z (fitsW z):=by
 unfold Ra23.fixed concl fitsW Ra23.wrap
 by_cases h:z < -(2^31)∨2^31≤z
 ·rw [if_pos h,decide_eq_false (by omega)]
  rfl
 ·rw [if_neg h,decide_eq_true (by omega)]
  rfl
theorem sc_settle:FnScope ["machine","k","result"] ["machine","k","result"] (ξ (top 54)):=mkS
theorem ok_settle (T:Txt P w K mg base C CI CS) (h:Has K mg "settle" "settle" (top 54)) (c_conclude:Callee P w K mg base 3 "conclude" ["machine","result","fits"] (η8 C CI CS)) (c_fits_word:Callee P w K mg base 1 "fits_word" ["number"] (χ6 C CI CS)):Callee P w K mg base 4 "settle" ["machine","k","result"] (ι5 C CI CS):=by
 refine ω (k:=3) h sc_settle (fun vs H Q E h=>?_) (fun _ _ _ _ _ _=>ml3 fun _ _ _=>rfl) fun f cdv A outer s H vs Q E hr h=>?_
 ·obtain ⟨d,m,hv,k,z,rfl,_⟩:=h
  rfl
 obtain ⟨d,m,hv,k,z,rfl,hk,hM,o⟩:=h
 have hmc:=T.mc
 refine ⟨_,(η (Γ0 (υ ν0 (pv 2) (Ω1 T.gWORD_BITS rfl)) (Δ0 (Γ (pv 0) rfl) (pv 1) κ0)) (θ (χ (τ c_conclude hr (by decide) rfl (ζ (pv 0) (ζ (pv 2) (ζ (τ c_fits_word hr (by decide) rfl (ζ (pv 2) ν)) ν))))))),?_⟩
 left
 refine θ1 hM (by omega) (ν2 z) (by omega) fun H1 hM1 k1=>?_
 rw [tn] at hM1
 left
 refine ⟨_,rfl,?_⟩
 left
 refine ⟨d,_,hv,z,_,rfl,hM1,?_⟩
 rw [ηl] at o
 exact o.keep k1
theorem Γh:FnScope ["machine","k","x"] ["machine","k","x"] (ξ (top 55)):=mkS
theorem νi {f:Addr} (T:Txt P w K mg base C CI CS) (h:HasF K f "make_positive" (top 55)) (c_settle:Callee P w K mg base 4 "settle" ["machine","k","result"] (ι5 C CI CS)) (c_signed:Callee P w K mg base 1 "signed" ["word"] (ξ1 C CI CS)):Fa P w K mg base 5 f ["machine","k","x"] (SpK (fun m k x=>Ra23.fixed m k ((Ra23.signed x).natAbs:Int)) C CI CS):=by
 refine Ψ0 (k:=4) h Γh (fun vs H Q E h=>?_) (fun _ _ _ _ _ _=>ml3 fun _ _ _=>rfl) fun cdv A outer s H vs Q E hr h=>?_
 ·obtain ⟨d,m,hv,k,x,rfl,_⟩:=h
  rfl
 obtain ⟨d,m,hv,k,x,rfl,hk,hx,hM,o⟩:=h
 have hmc:=T.mc
 refine ⟨_,(θ (χ (τ c_settle hr (by decide) rfl (ζ (pv 0) (ζ (pv 1) (ζ (ζ2 φ5 rfl T.babs PyProof.Rows.Boot.«abs» (ζ (τ c_signed hr (by decide) rfl (ζ (pv 2) ν)) ν)) ν)))))),?_⟩
 left
 refine ⟨x,rfl,hx,?_⟩
 left
 exact ⟨d,m,hv,k,_,rfl,hk,hM,o⟩
theorem Δh:FnScope ["machine","k","x"] ["machine","k","x"] (ξ (top 56)):=mkS
theorem ξi {f:Addr} (T:Txt P w K mg base C CI CS) (h:HasF K f "make_negative" (top 56)) (c_settle:Callee P w K mg base 4 "settle" ["machine","k","result"] (ι5 C CI CS)) (c_signed:Callee P w K mg base 1 "signed" ["word"] (ξ1 C CI CS)):Fa P w K mg base 5 f ["machine","k","x"] (SpK (fun m k x=>Ra23.fixed m k (-((Ra23.signed x).natAbs:Int))) C CI CS):=by
 refine Ψ0 (k:=4) h Δh (fun vs H Q E h=>?_) (fun _ _ _ _ _ _=>ml3 fun _ _ _=>rfl) fun cdv A outer s H vs Q E hr h=>?_
 ·obtain ⟨d,m,hv,k,x,rfl,_⟩:=h
  rfl
 obtain ⟨d,m,hv,k,x,rfl,hk,hx,hM,o⟩:=h
 have hmc:=T.mc
 refine ⟨_,(θ (χ (τ c_settle hr (by decide) rfl (ζ (pv 0) (ζ (pv 1) (ζ (Ψe υ6 (ζ2 φ5 rfl T.babs PyProof.Rows.Boot.«abs» (ζ (τ c_signed hr (by decide) rfl (ζ (pv 2) ν)) ν))) ν)))))),?_⟩
 left
 refine ⟨x,rfl,hx,?_⟩
 left
 exact ⟨d,m,hv,k,_,rfl,hk,hM,o⟩
theorem ι4 {x:Nat} (hx:x < 2^32) : -2147483648≤Ra23.signed x∧Ra23.signed x≤2147483647:=by
 unfold Ra23.signed
 split <;> omega
theorem signed_wrap {x:Nat} (hx:x < 2^32):(Ra23.signed x%2^32).toNat=x:=by
 unfold Ra23.signed
 split <;> omega
theorem Ξh:FnScope ["machine","k","x"] ["machine","k","x"] (ξ (top 57)):=mkS
theorem οi {f:Addr} (T:Txt P w K mg base C CI CS) (h:HasF K f "load_and_test" (top 57)) (c_settle:Callee P w K mg base 4 "settle" ["machine","k","result"] (ι5 C CI CS)) (c_signed:Callee P w K mg base 1 "signed" ["word"] (ξ1 C CI CS)):Fa P w K mg base 5 f ["machine","k","x"] (SpK (fun m k x=>.done {Ra23.set m k x with cc:=Ra23.ccOf (Ra23.signed x)}) C CI CS):=by
 refine Ψ0 (k:=4) h Ξh (fun vs H Q E h=>?_) (fun _ _ _ _ _ _=>ml3 fun _ _ _=>rfl) fun cdv A outer s H vs Q E hr h=>?_
 ·obtain ⟨d,m,hv,k,x,rfl,_⟩:=h
  rfl
 obtain ⟨d,m,hv,k,x,rfl,hk,hx,hM,o⟩:=h
 have hmc:=T.mc
 refine ⟨_,(θ (χ (τ c_settle hr (by decide) rfl (ζ (pv 0) (ζ (pv 1) (ζ (τ c_signed hr (by decide) rfl (ζ (pv 2) ν)) ν)))))),?_⟩
 left
 refine ⟨x,rfl,hx,?_⟩
 left
 refine ⟨d,m,hv,k,_,rfl,hk,hM,?_⟩
 rw [ηl,signed_wrap hx]
 have e:fitsW (Ra23.signed x)=true:=decide_eq_true (ι4 hx)
 rw [e]
 exact o
theorem sc_negate:FnScope ["machine","k","x"] ["machine","k","x"] (ξ (top 58)):=mkS
theorem ok_negate {f:Addr} (T:Txt P w K mg base C CI CS) (h:HasF K f "negate" (top 58)) (c_settle:Callee P w K mg base 4 "settle" ["machine","k","result"] (ι5 C CI CS)) (c_signed:Callee P w K mg base 1 "signed" ["word"] (ξ1 C CI CS)):Fa P w K mg base 5 f ["machine","k","x"] (SpK (fun m k x=>Ra23.fixed m k (-(Ra23.signed x))) C CI CS):=by
 refine Ψ0 (k:=4) h sc_negate (fun vs H Q E h=>?_) (fun _ _ _ _ _ _=>ml3 fun _ _ _=>rfl) fun cdv A outer s H vs Q E hr h=>?_
 ·obtain ⟨d,m,hv,k,x,rfl,_⟩:=h
  rfl
 obtain ⟨d,m,hv,k,x,rfl,hk,hx,hM,o⟩:=h
 have hmc:=T.mc
 refine ⟨_,(θ (χ (τ c_settle hr (by decide) rfl (ζ (pv 0) (ζ (pv 1) (ζ (Ψe υ6 (τ c_signed hr (by decide) rfl (ζ (pv 2) ν))) ν)))))),?_⟩
 left
 refine ⟨x,rfl,hx,?_⟩
 left
 exact ⟨d,m,hv,k,_,rfl,hk,hM,o⟩
noncomputable def Ω3 (C CI CS:Addr):Sp:=SpK (fun m k x=>.done {Ra23.set m k x with cc:=Ra23.ccOf0 x}) C CI CS
theorem οm:FnScope ["machine","k","result"] ["machine","k","result"] (ξ (top 59)):=mkS
theorem ψm (T:Txt P w K mg base C CI CS) (h:Has K mg "settle_bits" "settle_bits" (top 59)):Callee P w K mg base 1 "settle_bits" ["machine","k","result"] (Ω3 C CI CS):=by
 refine ω (k:=0) h οm (fun vs H Q E h=>?_) (fun _ _ _ _ _ _=>ml3 fun _ _ _=>rfl) fun f cdv A outer s H vs Q E hr h=>?_
 ·obtain ⟨d,m,hv,k,x,rfl,_⟩:=h
  rfl
 obtain ⟨d,m,hv,k,x,rfl,hk,hx,hM,o⟩:=h
 have hmc:=T.mc
 refine ⟨_,(η (Γ0 (pv 2) (Δ0 (Γ (pv 0) rfl) (pv 1) κ0)) (θ (ξ0 (pv 0) (Ψ1 (Ψ ψ1 (pv 2) ι (Ω _)) ι ι) rfl))),?_⟩
 left
 refine θ1 hM (by omega) rfl hx fun H1 hM1 k1=>?_
 rw [tn] at hM1
 left
 have o':∀ H',Mach C d H' {Ra23.set m k x with cc:=if x=0 then 0 else 1} hv→Keep d H H'→Q .non H':=o
 refine Δ (fun c=>?_) (fun c=>?_)
 ·rw [if_pos (by omega)] at o'
  left
  exact ρ1 (v:=0) hM1 hmc rfl rfl (by decide) fun H2 hM2 k2=>o' H2 hM2 (k1.trans k2)
 ·rw [if_neg (by omega)] at o'
  left
  exact ρ1 (v:=1) hM1 hmc rfl rfl (by decide) fun H2 hM2 k2=>o' H2 hM2 (k1.trans k2)
theorem Ω9:FnScope ["machine","k","x"] ["machine","k","x"] (ξ (top 60)):=mkS
theorem ξa {f:Addr} (T:Txt P w K mg base C CI CS) (h:HasF K f "bits_and" (top 60)) (c_settle_bits:Callee P w K mg base 1 "settle_bits" ["machine","k","result"] (Ω3 C CI CS)):Fa P w K mg base 2 f ["machine","k","x"] (SpK (fun m k x=>.done {Ra23.set m k (m.r k &&& x) with cc:=Ra23.ccOf0 (m.r k &&& x)}) C CI CS):=by
 refine Ψ0 (k:=1) h Ω9 (fun vs H Q E h=>?_) (fun _ _ _ _ _ _=>ml3 fun _ _ _=>rfl) fun cdv A outer s H vs Q E hr h=>?_
 ·obtain ⟨d,m,hv,k,x,rfl,_⟩:=h
  rfl
 obtain ⟨d,m,hv,k,x,rfl,hk,hx,hM,o⟩:=h
 have hmc:=T.mc
 refine ⟨_,(θ (χ (τ c_settle_bits hr (by decide) rfl (ζ (pv 0) (ζ (pv 1) (ζ (υ ν0 (ο0 Φ (Γ (pv 0) rfl) (pv 1) (fun _ _=>rfl)) (pv 2)) ν)))))),?_⟩
 left
 rw [tn,Ξ3]
 exact ⟨d,m,hv,k,_,rfl,hk,Nat.and_lt_two_pow _ hx,hM,o⟩
theorem ηb:FnScope ["machine","k","x"] ["machine","k","x"] (ξ (top 62)):=mkS
theorem οb {f:Addr} (T:Txt P w K mg base C CI CS) (h:HasF K f "bits_or" (top 62)) (c_settle_bits:Callee P w K mg base 1 "settle_bits" ["machine","k","result"] (Ω3 C CI CS)):Fa P w K mg base 2 f ["machine","k","x"] (SpK (fun m k x=>.done {Ra23.set m k (m.r k ||| x) with cc:=Ra23.ccOf0 (m.r k ||| x)}) C CI CS):=by
 refine Ψ0 (k:=1) h ηb (fun vs H Q E h=>?_) (fun _ _ _ _ _ _=>ml3 fun _ _ _=>rfl) fun cdv A outer s H vs Q E hr h=>?_
 ·obtain ⟨d,m,hv,k,x,rfl,_⟩:=h
  rfl
 obtain ⟨d,m,hv,k,x,rfl,hk,hx,hM,o⟩:=h
 have hmc:=T.mc
 refine ⟨_,(θ (χ (τ c_settle_bits hr (by decide) rfl (ζ (pv 0) (ζ (pv 1) (ζ (υ ζ3 (ο0 Φ (Γ (pv 0) rfl) (pv 1) (fun _ _=>rfl)) (pv 2)) ν)))))),?_⟩
 left
 rw [tn,τ3]
 exact ⟨d,m,hv,k,_,rfl,hk,Nat.or_lt_two_pow (hM.ok.reg k) hx,hM,o⟩
theorem Φ4:FnScope ["machine","k","x"] ["machine","k","x"] (ξ (top 64)):=mkS
theorem η5 {f:Addr} (T:Txt P w K mg base C CI CS) (h:HasF K f "bits_exclusive" (top 64)) (c_settle_bits:Callee P w K mg base 1 "settle_bits" ["machine","k","result"] (Ω3 C CI CS)):Fa P w K mg base 2 f ["machine","k","x"] (SpK (fun m k x=>.done {Ra23.set m k (m.r k ^^^ x) with cc:=Ra23.ccOf0 (m.r k ^^^ x)}) C CI CS):=by
 refine Ψ0 (k:=1) h Φ4 (fun vs H Q E h=>?_) (fun _ _ _ _ _ _=>ml3 fun _ _ _=>rfl) fun cdv A outer s H vs Q E hr h=>?_
 ·obtain ⟨d,m,hv,k,x,rfl,_⟩:=h
  rfl
 obtain ⟨d,m,hv,k,x,rfl,hk,hx,hM,o⟩:=h
 have hmc:=T.mc
 refine ⟨_,(θ (χ (τ c_settle_bits hr (by decide) rfl (ζ (pv 0) (ζ (pv 1) (ζ (υ op_xor (ο0 Φ (Γ (pv 0) rfl) (pv 1) (fun _ _=>rfl)) (pv 2)) ν)))))),?_⟩
 left
 rw [tn,οj]
 exact ⟨d,m,hv,k,_,rfl,hk,Nat.xor_lt_two_pow (hM.ok.reg k) hx,hM,o⟩
theorem ηd:FnScope ["machine","k","x"] ["machine","k","x"] (ξ (top 66)):=mkS
theorem ξd {f:Addr} (T:Txt P w K mg base C CI CS) (h:HasF K f "compare_unsigned" (top 66)) (c_order:Callee P w K mg base 1 "order" ["first","second"] (Γ4 C CI CS)):Fa P w K mg base 2 f ["machine","k","x"] (SpK (fun m k x=>.done {m with cc:=Ra23.ccBy (m.r k) x}) C CI CS):=by
 refine Ψ0 (k:=1) h ηd (fun vs H Q E h=>?_) (fun _ _ _ _ _ _=>ml3 fun _ _ _=>rfl) fun cdv A outer s H vs Q E hr h=>?_
 ·obtain ⟨d,m,hv,k,x,rfl,_⟩:=h
  rfl
 obtain ⟨d,m,hv,k,x,rfl,hk,hx,hM,o⟩:=h
 have hmc:=T.mc
 refine ⟨_,(θ (ξ0 (pv 0) (τ c_order hr (by decide) rfl (ζ (ο0 Φ (Γ (pv 0) rfl) (pv 1) (fun _ _=>rfl)) (ζ (pv 2) ν))) rfl)),?_⟩
 left
 rw [tn]
 refine ⟨_,_,rfl,?_⟩
 exact ρ1 hM hmc rfl rfl (ζe _ _) o
theorem θg:FnScope ["machine","k","x"] ["machine","k","x"] (ξ (top 67)):=mkS
theorem χg {f:Addr} (T:Txt P w K mg base C CI CS) (h:HasF K f "compare_signed" (top 67)) (c_order:Callee P w K mg base 1 "order" ["first","second"] (Γ4 C CI CS)) (c_signed:Callee P w K mg base 1 "signed" ["word"] (ξ1 C CI CS)):Fa P w K mg base 2 f ["machine","k","x"] (SpK (fun m k x=>.done {m with cc:=Ra23.ccBy (Ra23.signed (m.r k)) (Ra23.signed x)}) C CI CS):=by
 refine Ψ0 (k:=1) h θg (fun vs H Q E h=>?_) (fun _ _ _ _ _ _=>ml3 fun _ _ _=>rfl) fun cdv A outer s H vs Q E hr h=>?_
 ·obtain ⟨d,m,hv,k,x,rfl,_⟩:=h
  rfl
 obtain ⟨d,m,hv,k,x,rfl,hk,hx,hM,o⟩:=h
 have hmc:=T.mc
 refine ⟨_,(θ (ξ0 (pv 0) (τ c_order hr (by decide) rfl (ζ (τ c_signed hr (by decide) rfl (ζ (ο0 Φ (Γ (pv 0) rfl) (pv 1) (fun _ _=>rfl)) ν)) (ζ (τ c_signed hr (by decide) rfl (ζ (pv 2) ν)) ν))) rfl)),?_⟩
 left
 rw [tn]
 refine ⟨_,rfl,hM.ok.reg k,?_⟩
 left
 refine ⟨_,rfl,hx,?_⟩
 left
 refine ⟨_,_,rfl,?_⟩
 exact ρ1 hM hmc rfl rfl (ζe _ _) o
theorem sc_load:FnScope ["machine","k","x"] ["machine","k","x"] (ξ (top 68)):=mkS
theorem ok_load {f:Addr} (T:Txt P w K mg base C CI CS) (h:HasF K f "load" (top 68)):Fa P w K mg base 1 f ["machine","k","x"] (SpK (fun m k x=>.done (Ra23.set m k x)) C CI CS):=by
 refine Ψ0 (k:=0) h sc_load (fun vs H Q E h=>?_) (fun _ _ _ _ _ _=>ml3 fun _ _ _=>rfl) fun cdv A outer s H vs Q E hr h=>?_
 ·obtain ⟨d,m,hv,k,x,rfl,_⟩:=h
  rfl
 obtain ⟨d,m,hv,k,x,rfl,hk,hx,hM,o⟩:=h
 have hmc:=T.mc
 refine ⟨_,(θ (Γ0 (pv 2) (Δ0 (Γ (pv 0) rfl) (pv 1) κ0))),?_⟩
 left
 refine θ1 hM (by omega) rfl hx fun H1 hM1 k1=>?_
 rw [tn] at hM1
 exact o H1 hM1 k1
theorem νg:FnScope ["machine","k","x"] ["machine","k","x"] (ξ (top 69)):=mkS
theorem Γg {f:Addr} (T:Txt P w K mg base C CI CS) (h:HasF K f "add" (top 69)) (c_settle:Callee P w K mg base 4 "settle" ["machine","k","result"] (ι5 C CI CS)) (c_signed:Callee P w K mg base 1 "signed" ["word"] (ξ1 C CI CS)):Fa P w K mg base 5 f ["machine","k","x"] (SpK (fun m k x=>Ra23.fixed m k (Ra23.signed (m.r k)+Ra23.signed x)) C CI CS):=by
 refine Ψ0 (k:=4) h νg (fun vs H Q E h=>?_) (fun _ _ _ _ _ _=>ml3 fun _ _ _=>rfl) fun cdv A outer s H vs Q E hr h=>?_
 ·obtain ⟨d,m,hv,k,x,rfl,_⟩:=h
  rfl
 obtain ⟨d,m,hv,k,x,rfl,hk,hx,hM,o⟩:=h
 have hmc:=T.mc
 refine ⟨_,(θ (χ (τ c_settle hr (by decide) rfl (ζ (pv 0) (ζ (pv 1) (ζ (υ η0 (τ c_signed hr (by decide) rfl (ζ (ο0 Φ (Γ (pv 0) rfl) (pv 1) (fun _ _=>rfl)) ν)) (τ c_signed hr (by decide) rfl (ζ (pv 2) ν))) ν)))))),?_⟩
 left
 rw [tn]
 refine ⟨_,rfl,hM.ok.reg k,?_⟩
 left
 refine ⟨_,rfl,hx,?_⟩
 left
 exact ⟨d,m,hv,k,_,rfl,hk,hM,o⟩
theorem Φ9:FnScope ["machine","k","x"] ["machine","k","x"] (ξ (top 71)):=mkS
theorem κa {f:Addr} (T:Txt P w K mg base C CI CS) (h:HasF K f "subtract" (top 71)) (c_settle:Callee P w K mg base 4 "settle" ["machine","k","result"] (ι5 C CI CS)) (c_signed:Callee P w K mg base 1 "signed" ["word"] (ξ1 C CI CS)):Fa P w K mg base 5 f ["machine","k","x"] (SpK (fun m k x=>Ra23.fixed m k (Ra23.signed (m.r k) - Ra23.signed x)) C CI CS):=by
 refine Ψ0 (k:=4) h Φ9 (fun vs H Q E h=>?_) (fun _ _ _ _ _ _=>ml3 fun _ _ _=>rfl) fun cdv A outer s H vs Q E hr h=>?_
 ·obtain ⟨d,m,hv,k,x,rfl,_⟩:=h
  rfl
 obtain ⟨d,m,hv,k,x,rfl,hk,hx,hM,o⟩:=h
 have hmc:=T.mc
 refine ⟨_,(θ (χ (τ c_settle hr (by decide) rfl (ζ (pv 0) (ζ (pv 1) (ζ (υ ο2 (τ c_signed hr (by decide) rfl (ζ (ο0 Φ (Γ (pv 0) rfl) (pv 1) (fun _ _=>rfl)) ν)) (τ c_signed hr (by decide) rfl (ζ (pv 2) ν))) ν)))))),?_⟩
 left
 rw [tn]
 refine ⟨_,rfl,hM.ok.reg k,?_⟩
 left
 refine ⟨_,rfl,hx,?_⟩
 left
 exact ⟨d,m,hv,k,_,rfl,hk,hM,o⟩
end
section
variable {P:Program} {w:World} {K:PySem.W.Frag} {mg:Str→Option Value} {base:Heap} {C CI CS:Addr}
noncomputable def gMul (m:M) (k x:Nat):Ra23.End:=if k%2=1 then .stop 6 m else
  let y:=((Ra23.signed (m.r (k+1))*Ra23.signed x)%2^64).toNat
  .done (Ra23.set (Ra23.set m k (y / Ra23.W)) (k+1) (y%Ra23.W))
theorem split64 (z:Int):(z / 2^32%2^32).toNat=(z%2^64).toNat / Ra23.W∧(z%2^32).toNat=(z%2^64).toNat%Ra23.W:=by
 unfold Ra23.W
 constructor <;> omega
theorem Ψ9:FnScope ["machine","k","x"] ["machine","k","x"] (ξ (top 73)):=mkS
theorem νa {f:Addr} (T:Txt P w K mg base C CI CS) (h:HasF K f "multiply" (top 73)) (c_need_even:Callee P w K mg base 3 "need_even" ["number"] (φ6 C CI CS)) (c_put_pair:Callee P w K mg base 1 "put_pair" ["machine","k","double"] (Γ3 C CI CS)) (c_signed:Callee P w K mg base 1 "signed" ["word"] (ξ1 C CI CS)):Fa P w K mg base 4 f ["machine","k","x"] (SpK gMul C CI CS):=by
 refine Ψ0 (k:=3) h Ψ9 (fun vs H Q E h=>?_) (fun _ _ _ _ _ _=>ml3 fun _ _ _=>rfl) fun cdv A outer s H vs Q E hr h=>?_
 ·obtain ⟨d,m,hv,k,x,rfl,_⟩:=h
  rfl
 obtain ⟨d,m,hv,k,x,rfl,hk,hx,hM,o⟩:=h
 have hmc:=T.mc
 refine ⟨_,(η (χ (τ c_need_even hr (by decide) rfl (ζ (pv 1) ν))) (θ (χ (τ c_put_pair hr (by decide) rfl (ζ (pv 0) (ζ (pv 1) (ζ (υ χ3 (τ c_signed hr (by decide) rfl (ζ (ο0 Φ (Γ (pv 0) rfl) (υ η0 (pv 1) ι) (fun _ _=>rfl)) ν)) (τ c_signed hr (by decide) rfl (ζ (pv 2) ν))) ν))))))),?_⟩
 unfold gMul at o
 left
 refine ⟨k,rfl,fun c=>?_,fun c=>?_⟩
 ·rw [if_pos c] at o
  exact o.raise hM
 rw [if_neg (by omega)] at o
 left
 rw [tn1]
 refine ⟨_,rfl,hM.ok.reg (k+1),?_⟩
 left
 refine ⟨_,rfl,hx,?_⟩
 left
 have r1:=ι4 (hM.ok.reg (k+1))
 refine ζ7 (.inl ⟨by omega,by omega⟩) ?_
 left
 refine ⟨d,m,hv,k,_,rfl,hk,c,hM,fun H' hM' k'=>?_⟩
 obtain ⟨e1,e2⟩:=split64 (Ra23.signed (m.r (k+1))*Ra23.signed x)
 rw [e1,e2] at hM'
 exact o H' hM' k'
theorem tdiv_abs {z d:Int}:Int.tdiv z d=if (decide (z < 0) != decide (d < 0))=true then -((z.natAbs:Int) / (d.natAbs:Int)) else (z.natAbs:Int) / (d.natAbs:Int):=by
 cases z with
 | ofNat a =>
  cases d with
  | ofNat b =>
   have e1:decide (Int.ofNat a < 0)=false:=decide_eq_false (by simp)
   have e2:decide (Int.ofNat b < 0)=false:=decide_eq_false (by simp)
   rw [e1,e2]
   rfl
  | negSucc b =>
   have e1:decide (Int.ofNat a < 0)=false:=decide_eq_false (by simp)
   have e2:decide (Int.negSucc b < 0)=true:=decide_eq_true (Int.negSucc_lt_zero b)
   rw [e1,e2]
   rfl
 | negSucc a =>
  cases d with
  | ofNat b =>
   have e1:decide (Int.negSucc a < 0)=true:=decide_eq_true (Int.negSucc_lt_zero a)
   have e2:decide (Int.ofNat b < 0)=false:=decide_eq_false (by simp)
   rw [e1,e2]
   rfl
  | negSucc b =>
   have e1:decide (Int.negSucc a < 0)=true:=decide_eq_true (Int.negSucc_lt_zero a)
   have e2:decide (Int.negSucc b < 0)=true:=decide_eq_true (Int.negSucc_lt_zero b)
   rw [e1,e2]
   rfl
noncomputable def gDiv (m:M) (k x:Nat):Ra23.End:=if k%2=1 then .stop 6 m else
  if Ra23.signed x=0 then .stop 9 m else if Int.tdiv (φ0 (m.r k*2^32+m.r (k+1))) (Ra23.signed x) < -(2^31)∨2^31≤Int.tdiv (φ0 (m.r k*2^32+m.r (k+1))) (Ra23.signed x) then .stop 9 m
  else .done (Ra23.set (Ra23.set m k (Ra23.wrap (Int.tmod (φ0 (m.r k*2^32+m.r (k+1))) (Ra23.signed x)))) (k+1) (Ra23.wrap (Int.tdiv (φ0 (m.r k*2^32+m.r (k+1))) (Ra23.signed x))))
theorem ι1:FnScope ["machine","k","x","dividend","divisor","quotient"] ["machine","k","x"] (ξ (top 75)):=mkS
theorem οc {f:Addr} (T:Txt P w K mg base C CI CS) (h:HasF K f "divide" (top 75)) (c_pair_at:Callee P w K mg base 4 "pair_at" ["machine","k"] (θ5 C CI CS)) (c_signed:Callee P w K mg base 1 "signed" ["word"] (ξ1 C CI CS)) (c_signed_double:Callee P w K mg base 1 "signed_double" ["double"] (Δ2 C CI CS)) (c_fits_word:Callee P w K mg base 1 "fits_word" ["number"] (χ6 C CI CS)):Fa P w K mg base 5 f ["machine","k","x"] (SpK gDiv C CI CS):=by
 refine Ψ0 (k:=4) h ι1 (fun vs H Q E h=>?_) (fun _ _ _ _ _ _=>ml3 fun _ _ _=>rfl) fun cdv A outer s H vs Q E hr h=>?_
 ·obtain ⟨d,m,hv,k,x,rfl,_⟩:=h
  rfl
 obtain ⟨d,m,hv,k,x,rfl,hk,hx,hM,o⟩:=h
 have hmc:=T.mc
 refine ⟨_,(η (Ξ (i:=3) ι1.nd rfl (Or.inl rfl) (τ c_signed_double hr (by decide) rfl (ζ (τ c_pair_at hr (by decide) rfl (ζ (pv 0) (ζ (pv 1) ν))) ν))) (η (Ξ (i:=4) ι1.nd rfl (Or.inl rfl) (τ c_signed hr (by decide) rfl (ζ (pv 2) ν))) (η (ρ0 (Ψ ψ1 (pv 4) ι (Ω _)) (θ (Ω4 T.rI hr (by decide) rfl (ζ ι ν))) ι0) (η (Ξ (i:=5) ι1.nd rfl (Or.inl rfl) (υ op_fdivB (ζ2 φ5 rfl T.babs PyProof.Rows.Boot.«abs» (ζ (pv 3) ν)) (ζ2 φ5 rfl T.babs PyProof.Rows.Boot.«abs» (ζ (pv 4) ν)))) (η (ρ0 (Ψ ξb (ξ2 ξg (pv 3) ι (Ω _)) (ξ2 ξg (pv 4) ι (Ω _)) (Ω _)) (θ (Ξ (i:=5) ι1.nd rfl (Or.inl rfl) (Ψe υ6 (pv 5)))) ι0) (η (ρ0 (φn (ν4 (τ c_fits_word hr (by decide) rfl (ζ (pv 5) ν)))) (θ (Ω4 T.rI hr (by decide) rfl (ζ ι ν))) ι0) (η (Γ0 (υ ν0 (υ ο2 (pv 3) (υ χ3 (pv 5) (pv 4))) (Ω1 T.gWORD_BITS rfl)) (Δ0 (Γ (pv 0) rfl) (pv 1) κ0)) (θ (Γ0 (υ ν0 (pv 5) (Ω1 T.gWORD_BITS rfl)) (Δ0 (Γ (pv 0) rfl) (υ η0 (pv 1) ι) κ0)))))))))),?_⟩
 unfold gDiv at o
 left
 refine ⟨d,m,hv,k,rfl,hk,hM,fun c=>?_,fun c=>?_⟩
 ·rw [if_pos c] at o
  exact o.raise hM
 rw [if_neg (by omega)] at o
 have r1:=hM.ok.reg k
 have r2:=hM.ok.reg (k+1)
 have rx:=ι4 hx
 left
 refine ⟨_,rfl,by omega,?_⟩
 generalize φ0 (m.r k*2^32+m.r (k+1))=z at o ⊢
 left
 refine ⟨_,rfl,hx,?_⟩
 left
 refine Δ (fun c0=>?_) (fun c0=>?_)
 ·rw [if_pos c0] at o
  left
  exact ⟨9,rfl,o.raise hM⟩
 rw [if_neg c0] at o
 left
 refine ζ7 ⟨by omega,by omega⟩ ?_
 left
 have ht:=@tdiv_abs z (Ra23.signed x)
 refine Ω2 (fun c=>?_) (fun c=>?_)
 ·rw [if_pos c] at ht
  left
  rw [← ht]
  generalize hq:Int.tdiv z (Ra23.signed x)=q at o ht ⊢
  refine ⟨_,rfl,?_⟩
  left
  refine Ω2 (fun c1=>?_) (fun c1=>?_)
  ·have c2:¬ (-2147483648≤q∧q≤2147483647):=fun h=>by
    unfold fitsW at c1
    rw [decide_eq_true h] at c1
    cases c1
   rw [if_pos (by omega)] at o
   left
   exact ⟨9,rfl,o.raise hM⟩
  ·have c2 : -2147483648≤q∧q≤2147483647:=Decidable.byContradiction fun h=>by
    unfold fitsW at c1
    rw [decide_eq_false h] at c1
    cases c1
   rw [if_neg (by omega)] at o
   left
   refine ζ7 (.inl ⟨by omega,by omega⟩) ?_
   left
   refine θ1 hM (by omega) (ν2 _) (by omega) fun H1 hM1 k1=>?_
   left
   refine θ1 hM1 (by omega) (ν2 _) (by omega) fun H2 hM2 k2=>?_
   rw [tn,tn1] at hM2
   refine o H2 ?_ (k1.trans k2)
   have e:z - q*Ra23.signed x=Int.tmod z (Ra23.signed x):=by
    rw [Int.tmod_def,hq,Int.mul_comm]
   rw [e] at hM2
   exact hM2
 ·rw [if_neg (by rw [c]; decide)] at ht
  left
  rw [← ht]
  generalize hq:Int.tdiv z (Ra23.signed x)=q at o ht ⊢
  refine ⟨_,rfl,?_⟩
  left
  refine Ω2 (fun c1=>?_) (fun c1=>?_)
  ·have c2:¬ (-2147483648≤q∧q≤2147483647):=fun h=>by
    unfold fitsW at c1
    rw [decide_eq_true h] at c1
    cases c1
   rw [if_pos (by omega)] at o
   left
   exact ⟨9,rfl,o.raise hM⟩
  ·have c2 : -2147483648≤q∧q≤2147483647:=Decidable.byContradiction fun h=>by
    unfold fitsW at c1
    rw [decide_eq_false h] at c1
    cases c1
   rw [if_neg (by omega)] at o
   left
   refine ζ7 (.inl ⟨by omega,by omega⟩) ?_
   left
   refine θ1 hM (by omega) (ν2 _) (by omega) fun H1 hM1 k1=>?_
   left
   refine θ1 hM1 (by omega) (ν2 _) (by omega) fun H2 hM2 k2=>?_
   rw [tn,tn1] at hM2
   refine o H2 ?_ (k1.trans k2)
   have e:z - q*Ra23.signed x=Int.tmod z (Ra23.signed x):=by
    rw [Int.tmod_def,hq,Int.mul_comm]
   rw [e] at hM2
   exact hM2
noncomputable def ι3 (C CI CS:Addr):Sp:=fun vs H Q E=>∃ (d:Hd) (m:M) (hv k:Nat) (z:Int) (b:Bool),vs=[.ref d.a,.int k,.int z,.bl b]∧k < 16∧Mach C d H m hv ∧
 ∀ H',Mach C d H' {Ra23.set m k (z%2^32).toNat with cc:=Ra23.ccOf0 (z%2^32).toNat+if b=true then 2 else 0} hv→Keep d H H'→Q .non H'
theorem set_same (m:M) (k v:Nat):(Ra23.set m k v).r k=v:=by show (if k=k then v else m.r k)=v; rw [if_pos rfl]
theorem ωe:FnScope ["machine","k","result","carry"] ["machine","k","result","carry"] (ξ (top 77)):=mkS
theorem ζf (T:Txt P w K mg base C CI CS) (h:Has K mg "settle_unsigned" "settle_unsigned" (top 77)):Callee P w K mg base 1 "settle_unsigned" ["machine","k","result","carry"] (ι3 C CI CS):=by
 refine ω (k:=0) h ωe (fun vs H Q E h=>?_) (fun _ _ _ _ _ _=>ml4 fun _ _ _ _=>rfl) fun f cdv A outer s H vs Q E hr h=>?_
 ·obtain ⟨d,m,hv,k,z,b,rfl,_⟩:=h
  rfl
 obtain ⟨d,m,hv,k,z,b,rfl,hk,hM,o⟩:=h
 have hmc:=T.mc
 refine ⟨_,(η (Γ0 (υ ν0 (pv 2) (Ω1 T.gWORD_BITS rfl)) (Δ0 (Γ (pv 0) rfl) (pv 1) κ0)) (θ (ξ0 (pv 0) (υ η0 (Ψ1 (Ψ ψ1 (ο0 Φ (Γ (pv 0) rfl) (pv 1) (fun _ _=>rfl)) ι (Ω _)) ι ι) (Ψ1 (ν4 (pv 3)) ι ι)) rfl))),?_⟩
 left
 refine θ1 hM (by omega) (ν2 z) (by omega) fun H1 hM1 k1=>?_
 rw [tn] at hM1
 left
 rw [tn,set_same]
 unfold Ra23.ccOf0 at o
 refine Δ (fun c=>?_) (fun c=>?_)
 ·rw [if_pos (by omega)] at o
  left
  refine Ω2 (fun c=>?_) (fun c=>?_)
  ·subst c
   left
   exact ρ1 (v:=2) hM1 hmc rfl rfl (by decide) fun H2 hM2 k2=>o H2 hM2 (k1.trans k2)
  ·subst c
   left
   exact ρ1 (v:=0) hM1 hmc rfl rfl (by decide) fun H2 hM2 k2=>o H2 hM2 (k1.trans k2)
 ·rw [if_neg (by omega)] at o
  left
  refine Ω2 (fun c=>?_) (fun c=>?_)
  ·subst c
   left
   exact ρ1 (v:=3) hM1 hmc rfl rfl (by decide) fun H2 hM2 k2=>o H2 hM2 (k1.trans k2)
  ·subst c
   left
   exact ρ1 (v:=1) hM1 hmc rfl rfl (by decide) fun H2 hM2 k2=>o H2 hM2 (k1.trans k2)
theorem θb:FnScope ["machine","k","x","result"] ["machine","k","x"] (ξ (top 78)):=mkS
theorem ψk {f:Addr} (T:Txt P w K mg base C CI CS) (h:HasF K f "add_unsigned" (top 78)) (c_settle_unsigned:Callee P w K mg base 1 "settle_unsigned" ["machine","k","result","carry"] (ι3 C CI CS)):Fa P w K mg base 2 f ["machine","k","x"] (SpK (fun m k x=>.done {Ra23.set m k ((m.r k+x)%Ra23.W) with cc:=Ra23.ccOf0 ((m.r k+x)%Ra23.W)+if Ra23.W≤m.r k+x then 2 else 0}) C CI CS):=by
 refine Ψ0 (k:=1) h θb (fun vs H Q E h=>?_) (fun _ _ _ _ _ _=>ml3 fun _ _ _=>rfl) fun cdv A outer s H vs Q E hr h=>?_
 ·obtain ⟨d,m,hv,k,x,rfl,_⟩:=h
  rfl
 obtain ⟨d,m,hv,k,x,rfl,hk,hx,hM,o⟩:=h
 have hmc:=T.mc
 refine ⟨_,(η (Ξ (i:=3) θb.nd rfl (Or.inl rfl) (υ η0 (ο0 Φ (Γ (pv 0) rfl) (pv 1) (fun _ _=>rfl)) (pv 2))) (θ (χ (τ c_settle_unsigned hr (by decide) rfl (ζ (pv 0) (ζ (pv 1) (ζ (pv 3) (ζ (ξ2 op_gt (pv 3) (Ω1 T.gWORD_BITS rfl) (Ω _)) ν)))))))),?_⟩
 left
 rw [tn]
 refine ⟨d,m,hv,k,_,_,rfl,hk,hM,fun H' hM' k'=>o H' ?_ k'⟩
 have e:(((m.r k:Nat):Int)+(x:Int))%2^32=(((m.r k+x)%Ra23.W:Nat):Int):=by unfold Ra23.W; omega
 rw [e,tn] at hM'
 have e2:(if decide (((m.r k:Nat):Int)+(x:Int) > 4294967295)=true then 2 else 0)=(if Ra23.W≤m.r k+x then 2 else 0):=by
  unfold Ra23.W
  by_cases c:4294967296≤m.r k+x
  ·rw [decide_eq_true (by omega),if_pos rfl,if_pos c]
  ·rw [decide_eq_false (by omega),if_neg (by decide),if_neg c]
 rw [← e2]
 exact hM'
theorem φ4:FnScope ["machine","k","x","result"] ["machine","k","x"] (ξ (top 79)):=mkS
theorem ηc {f:Addr} (T:Txt P w K mg base C CI CS) (h:HasF K f "subtract_unsigned" (top 79)) (c_settle_unsigned:Callee P w K mg base 1 "settle_unsigned" ["machine","k","result","carry"] (ι3 C CI CS)):Fa P w K mg base 2 f ["machine","k","x"] (SpK (fun m k x=>.done {Ra23.set m k ((m.r k+Ra23.W - x)%Ra23.W) with cc:=Ra23.ccOf0 ((m.r k+Ra23.W - x)%Ra23.W)+if x≤m.r k then 2 else 0}) C CI CS):=by
 refine Ψ0 (k:=1) h φ4 (fun vs H Q E h=>?_) (fun _ _ _ _ _ _=>ml3 fun _ _ _=>rfl) fun cdv A outer s H vs Q E hr h=>?_
 ·obtain ⟨d,m,hv,k,x,rfl,_⟩:=h
  rfl
 obtain ⟨d,m,hv,k,x,rfl,hk,hx,hM,o⟩:=h
 have hmc:=T.mc
 refine ⟨_,(η (Ξ (i:=3) φ4.nd rfl (Or.inl rfl) (υ ο2 (ο0 Φ (Γ (pv 0) rfl) (pv 1) (fun _ _=>rfl)) (pv 2))) (θ (χ (τ c_settle_unsigned hr (by decide) rfl (ζ (pv 0) (ζ (pv 1) (ζ (pv 3) (ζ (ξ2 κk (pv 3) ι (Ω _)) ν)))))))),?_⟩
 left
 rw [tn]
 refine ⟨d,m,hv,k,_,_,rfl,hk,hM,fun H' hM' k'=>o H' ?_ k'⟩
 have rk:=hM.ok.reg k
 have e:(((m.r k:Nat):Int) - (x:Int))%2^32=(((m.r k+Ra23.W - x)%Ra23.W:Nat):Int):=by unfold Ra23.W; omega
 rw [e,tn] at hM'
 have e2:(if decide (((m.r k:Nat):Int) - (x:Int)≥0)=true then 2 else 0)=(if x≤m.r k then 2 else 0):=by
  by_cases c:x≤m.r k
  ·rw [decide_eq_true (by omega),if_pos rfl,if_pos c]
  ·rw [decide_eq_false (by omega),if_neg (by decide),if_neg c]
 rw [← e2]
 exact hM'
end
noncomputable def TabOk (P:Program) (w:World) (K:PySem.W.Frag) (mg:Str→Option Value) (base:Heap) (nm:Str) (lev:Nat) (ps:List Str) (S:Nat→Sp) (no:Nat→Prop):Prop :=
 ∃ a kvs,mg nm=some (.ref a)∧θ9 P w K a kvs∧∀ op:Nat,(∀ f,kvs.lookup (op:Int)=some f→Fa P w K mg base lev f ps (S op))∧(kvs.lookup (op:Int)=none→no op)
theorem Fa.mono {P:Program} {w:World} {K:PySem.W.Frag} {mg:Str→Option Value} {base:Heap} {k k':Nat} {f:Addr} {ps:List Str} {sp:Sp} (c:Fa P w K mg base k f ps sp) (h:k≤k'):Fa P w K mg base k' f ps sp :=
 let ⟨fd,h3,h4⟩:=c.ex
 ⟨c.kp,fd,h3,h4.mono h⟩
theorem υ4 {P:Program} {w:World} {K:PySem.W.Frag} {σ:L2.St} {H:Hp} {Q:VK} {to te:TE} (q:to σ H fun x H1=>∃ a kvs,x=.ref a∧θ9 P w K a kvs∧te σ H1 fun y H2=>∃ n,y=.int n∧Q (tabV (kvs.lookup n)) H2):tKGet P w K to te σ H Q:=q
theorem κ4 {P:Program} {w:World} {K:PySem.W.Frag} {mg:Str→Option Value} {base:Heap} {k':Nat} {E:XK} {σ:L2.St} {H:Hp} {Q:VK} {tf:TE} {t:TA} (q:tf σ H fun y H1=>∃ g,y=.ref g∧PySem.W.keepIn K (.ref g)=true ∧
 t σ H1 fun vs H2=>∃ k ps sp,k≤k'∧Fa P w K mg base k g ps sp∧sp vs H2 Q E):tFun P w K mg base k' E tf t σ H Q:=q
theorem Ωe {X:Cx} {x:Str} {a:Addr} {pos:Pos} (h:X.mg x=some (.ref a)) (hg:Gl X x) (hd:(x == ("__debug__":Str))=false:=by decide):PE X (.Name x pos) (tC (.ref a)):=pe_glob hg h (v:=.ref a) rfl hd
section
variable {P:Program} {w:World} {K:PySem.W.Frag} {mg:Str→Option Value} {base:Heap} {C CI CS:Addr}
noncomputable def ω2 (m:M) (op k x:Nat):Ra23.End:=match op with
 | 16=>Ra23.fixed m k ((Ra23.signed x).natAbs:Int)
 | 17=>Ra23.fixed m k (-((Ra23.signed x).natAbs:Int))
 | 18=>.done {Ra23.set m k x with cc:=Ra23.ccOf (Ra23.signed x)}
 | 19=>Ra23.fixed m k (-(Ra23.signed x))
 | op=>if 20≤op∧op < 32 then (Ra23.binary m (op - 16) k x).getD (.stop 1 m) else .stop 1 m
noncomputable def Φ3 (C CI CS:Addr):Sp:=fun vs H Q E=>∃ (d:Hd) (m:M) (hv op k x:Nat),vs=[.ref d.a,.int op,.int k,.int x]∧k < 16∧x < 2^32∧Mach C d H m hv∧Out C CI CS d hv H Q E (ω2 m op k x)
theorem ωc:FnScope ["machine","operation","k","x","action"] ["machine","operation","k","x"] (ξ (top 81)):=mkS
theorem υm (T:Txt P w K mg base C CI CS) (h:Has K mg "with_number" "with_number" (top 81)) (tab:TabOk P w K mg base "OPERATIONS_arithmetic" 6 ["machine","k","x"] (fun op=>SpK (fun m k x=>ω2 m op k x) C CI CS) (fun op=>∀ m k x,ω2 m op k x=.stop 1 m)):Callee P w K mg base 7 "with_number" ["machine","operation","k","x"] (Φ3 C CI CS):=by
 refine ω (k:=6) h ωc (fun vs H Q E h=>?_) (fun _ _ _ _ _ _=>ml4 fun _ _ _ _=>rfl) fun f cdv A outer s H vs Q E hr h=>?_
 ·obtain ⟨d,m,hv,op,k,x,rfl,_⟩:=h
  rfl
 obtain ⟨d,m,hv,op,k,x,rfl,hk,hx,hM,o⟩:=h
 have hmc:=T.mc
 obtain ⟨ta,kvs,g_OPERATIONS_arithmetic,kd,hop⟩:=tab
 refine ⟨_,(η (Ξ (i:=4) ωc.nd rfl (Or.inl rfl) (pe_kget (Ωe g_OPERATIONS_arithmetic rfl) (pv 1) ⟨rfl,rfl,rfl,rfl⟩)) (η (ρ0 (Ψ op_isN (pv 4) pe_non (Ω _)) (θ (Ω4 T.rI hr (by decide) rfl (ζ ι ν))) ι0) (θ (χ (υh hr (pv 4) (ζ (pv 0) (ζ (pv 2) (ζ (pv 3) ν)))))))),?_⟩
 left
 refine υ4 ?_
 left
 refine ⟨ta,kvs,rfl,kd,?_⟩
 left
 try refine ⟨_,rfl,?_⟩
 left
 obtain ⟨h1,h2⟩:=hop op
 cases hl:kvs.lookup (op:Int) with
 | none =>
  rw [h2 hl] at o
  refine ⟨rfl,?_⟩
  left
  refine τc ?_
  left
  exact ⟨1,rfl,o.raise hM⟩
 | some g =>
  have fa:=h1 g hl
  refine ⟨rfl,?_⟩
  left
  refine Γ9 ?_
  left
  refine κ4 ?_
  left
  refine ⟨g,rfl,fa.kp,?_⟩
  left
  exact ⟨6,_,_,by decide,fa,d,m,hv,k,x,rfl,hk,hx,hM,o⟩
noncomputable def sp_link (C CI CS:Addr):Sp:=fun vs H Q E=>∃ (d:Hd) (m:M) (hv:Nat),vs=[.ref d.a]∧Mach C d H m hv∧Q (.int (Ra23.linked m hv m.at_)) H
theorem link_math {a b c e:Nat} (hb:b < 4) (hc:c < 16) (he:e < 2^24):Builtin.bitOr (Builtin.bitOr (Builtin.bitOr ((a:Int)*2^30) ((b:Int)*2^28)) ((c:Int)*2^24)) (e:Int)=((a*2^30+b*2^28+c*2^24+e:Nat):Int):=by
 have e1:(b:Int)*2^28=((b*2^28:Nat):Int):=by omega
 have e2:(c:Int)*2^24=((c*2^24:Nat):Int):=by omega
 rw [e1,θ4 (k:=30) (by omega),e2]
 have e3:a*2^30+b*2^28=(a*4+b)*2^28:=by omega
 rw [e3,τ3,ω9 (k:=28) (by omega)]
 have e4:∀ u:Nat,u*2^28+c*2^24=(u*16+c)*2^24:=fun u=>by rw [Nat.add_mul,Nat.mul_assoc]
 rw [e4,τ3,ω9 (k:=24) he]
theorem sc_link:FnScope ["machine"] ["machine"] (ξ (top 83)):=mkS
theorem ok_link (T:Txt P w K mg base C CI CS) (h:Has K mg "link" "link" (top 83)):Callee P w K mg base 1 "link" ["machine"] (sp_link C CI CS):=by
 refine ω (k:=0) h sc_link (fun vs H Q E h=>?_) (fun _ _ _ _ _ _=>ml1 fun _=>rfl) fun f cdv A outer s H vs Q E hr h=>?_
 ·obtain ⟨d,m,hv,rfl,_⟩:=h
  rfl
 obtain ⟨d,m,hv,rfl,hM,q⟩:=h
 have hmc:=T.mc
 refine ⟨_,(θ (ω0 (υ ζ3 (υ ζ3 (υ ζ3 (υ φ3 (Γ (pv 0) rfl) ι) (υ φ3 (Γ (pv 0) rfl) ι)) (υ φ3 (Γ (pv 0) rfl) ι)) (Γ (pv 0) rfl)))),?_⟩
 have h1:=hM.hv
 have h2:=hM.ok.cc
 have h3:=hM.ok.mask
 left
 refine sh8 (n:=30) ⟨_,rfl,by omega⟩ rfl (by decide) ?_
 left
 refine sh8 (n:=28) ⟨_,rfl,by omega⟩ rfl (by decide) ?_
 left
 refine sh8 (n:=24) ⟨_,rfl,by omega⟩ rfl (by decide) ?_
 left
 rw [link_math h2 h3 hM.ok.at_]
 exact q
noncomputable def SpJ (G:M→Nat→Nat→Bool→Nat→Ra23.End) (C CI CS:Addr):Sp:=fun vs H Q E=>∃ (d:Hd) (m:M) (hv k:Nat) (b:Bool) (p:Nat),vs=[.ref d.a,.int k,.bl b,.int p]∧k < 16∧p < 2^24∧Mach C d H m hv∧Out C CI CS d hv H Q E (G m hv k b p)
theorem Ωf:FnScope ["machine","k","wanted","place"] ["machine","k","wanted","place"] (ξ (top 84)):=mkS
theorem τg {f:Addr} (T:Txt P w K mg base C CI CS) (h:HasF K f "jump_with_link" (top 84)) (c_link:Callee P w K mg base 1 "link" ["machine"] (sp_link C CI CS)):Fa P w K mg base 2 f ["machine","k","wanted","place"] (SpJ (fun m hv k b p=>.done {Ra23.set m k (Ra23.linked m hv m.at_) with at_:=if b=true then p else m.at_}) C CI CS):=by
 refine Ψ0 (k:=1) h Ωf (fun vs H Q E h=>?_) (fun _ _ _ _ _ _=>ml4 fun _ _ _ _=>rfl) fun cdv A outer s H vs Q E hr h=>?_
 ·obtain ⟨d,m,hv,k,b,p,rfl,_⟩:=h
  rfl
 obtain ⟨d,m,hv,k,b,p,rfl,hk,hp,hM,o⟩:=h
 have hmc:=T.mc
 refine ⟨_,(η (Γ0 (τ c_link hr (by decide) rfl (ζ (pv 0) ν)) (Δ0 (Γ (pv 0) rfl) (pv 1) κ0)) (θ (ρ0 (ν4 (pv 2)) (θ (ξ0 (pv 0) (pv 3) rfl)) ι0))),?_⟩
 have h1:=hM.hv
 have h2:=hM.ok.cc
 have h3:=hM.ok.mask
 have h4:=hM.ok.at_
 left
 refine ⟨d,m,hv,rfl,hM,?_⟩
 left
 refine θ1 hM (by omega) rfl (by unfold Ra23.linked; omega) fun H1 hM1 k1=>?_
 rw [tn] at hM1
 left
 refine Ω2 (fun c=>?_) (fun c=>?_)
 ·subst c
  left
  exact υn hM1 hmc rfl rfl hp fun H2 hM2 k2=>o H2 hM2 (k1.trans k2)
 ·subst c
  exact o H1 hM1 k1
theorem Ξe:FnScope ["machine","k","wanted","place"] ["machine","k","wanted","place"] (ξ (top 85)):=mkS
theorem ηf {f:Addr} (T:Txt P w K mg base C CI CS) (h:HasF K f "jump_with_count" (top 85)):Fa P w K mg base 1 f ["machine","k","wanted","place"] (SpJ (fun m hv k b p=>.done {Ra23.set m k ((m.r k+Ra23.W - 1)%Ra23.W) with at_:=if b=true∧(m.r k+Ra23.W - 1)%Ra23.W≠0 then p else m.at_}) C CI CS):=by
 refine Ψ0 (k:=0) h Ξe (fun vs H Q E h=>?_) (fun _ _ _ _ _ _=>ml4 fun _ _ _ _=>rfl) fun cdv A outer s H vs Q E hr h=>?_
 ·obtain ⟨d,m,hv,k,b,p,rfl,_⟩:=h
  rfl
 obtain ⟨d,m,hv,k,b,p,rfl,hk,hp,hM,o⟩:=h
 have hmc:=T.mc
 refine ⟨_,(η (Γ0 (υ ν0 (υ ο2 (ο0 Φ (Γ (pv 0) rfl) (pv 1) (fun _ _=>rfl)) ι) ι) (Δ0 (Γ (pv 0) rfl) (pv 1) κ0)) (θ (ρ0 (pw_and (ν4 (pv 2)) (ζk (Ψ ξb (ο0 Φ (Γ (pv 0) rfl) (pv 1) (fun _ _=>rfl)) ι (Ω _)))).pt (θ (ξ0 (pv 0) (pv 3) rfl)) ι0))),?_⟩
 have rk:=hM.ok.reg k
 obtain ⟨y,hy⟩:∃ y,(m.r k+Ra23.W - 1)%Ra23.W=y:=⟨_,rfl⟩
 have o:∀ H',Mach C d H' {Ra23.set m k y with at_:=if b=true∧y≠0 then p else m.at_} hv→Keep d H H'→Q .non H':=by
  rw [← hy]
  exact o
 left
 rw [tn]
 refine θ1 (v:=y) hM (by omega) (by rw [κe,← hy]; unfold Ra23.W; omega) (by rw [← hy]; unfold Ra23.W; omega) fun H1 hM1 k1=>?_
 rw [tn] at hM1
 left
 refine Ω2 (fun c=>?_) (fun c=>?_)
 ·subst c
  left
  rw [tn,set_same]
  refine υ1 (fun c=>?_) (fun c=>?_)
  ·left
   refine υn hM1 hmc rfl rfl hp fun H2 hM2 k2=>o H2 ?_ (k1.trans k2)
   rw [if_pos ⟨rfl,fun z=>c (by rw [z]; rfl)⟩]
   exact hM2
  ·refine o H1 ?_ k1
   rw [if_neg (fun z=>z.2 (Int.ofNat.inj c))]
   exact hM1
 ·subst c
  refine Γ9 ?_
  refine o H1 ?_ k1
  rw [if_neg (by simp)]
  exact hM1
theorem taken_math {c k:Nat} (hc:c < 4) (hk:k < 16):(Builtin.bitAnd (8 / 2^c) (k:Int)=0)↔k.testBit (3 - c)=false:=by
 have e:(8:Int) / 2^c=((8 / 2^c:Nat):Int):=by
  have:∀ c:Nat,c < 4→(8:Int) / 2^c=((8 / 2^c:Nat):Int):=by decide
  exact this c hc
 rw [e,Ξ3]
 have:∀ c:Nat,c < 4→∀ k:Nat,k < 16→((8 / 2^c &&& k)=0↔k.testBit (3 - c)=false):=by decide
 have key:∀ n:Nat,((n:Int)=0↔n=0):=fun n=>by omega
 rw [key]
 exact this c hc k hk
theorem Ωb:FnScope ["machine","k","wanted","place"] ["machine","k","wanted","place"] (ξ (top 86)):=mkS
theorem νc {f:Addr} (T:Txt P w K mg base C CI CS) (h:HasF K f "jump_on_condition" (top 86)):Fa P w K mg base 1 f ["machine","k","wanted","place"] (SpJ (fun m hv k b p=>.done {m with at_:=if b=true∧Ra23.taken m k=true then p else m.at_}) C CI CS):=by
 refine Ψ0 (k:=0) h Ωb (fun vs H Q E h=>?_) (fun _ _ _ _ _ _=>ml4 fun _ _ _ _=>rfl) fun cdv A outer s H vs Q E hr h=>?_
 ·obtain ⟨d,m,hv,k,b,p,rfl,_⟩:=h
  rfl
 obtain ⟨d,m,hv,k,b,p,rfl,hk,hp,hM,o⟩:=h
 have hmc:=T.mc
 refine ⟨_,(θ (ρ0 (pw_and (ν4 (pv 2)) (ζk (Ψ ξb (υ ν0 (υ ρ2 ι (Γ (pv 0) rfl)) (pv 1)) ι (Ω _)))).pt (θ (ξ0 (pv 0) (pv 3) rfl)) ι0)),?_⟩
 left
 unfold Ra23.taken at o
 refine Ω2 (fun c=>?_) (fun c=>?_)
 ·subst c
  left
  refine χh rfl ?_
  left
  have tm:=taken_math hM.ok.cc hk
  refine υ1 (fun c=>?_) (fun c=>?_)
  ·left
   refine υn hM hmc rfl rfl hp fun H2 hM2 k2=>o H2 ?_ k2
   rw [if_pos ⟨rfl,by
    cases q:k.testBit (3 - m.cc) with
    | true=>rfl
    | false=>exact absurd (tm.mpr q) c⟩]
   exact hM2
  ·refine o H ?_ (Keep.refl _ _)
   rw [tm.mp c,if_neg (by simp)]
   exact hM
 ·subst c
  refine Γ9 ?_
  refine o H ?_ (Keep.refl _ _)
  rw [if_neg (by simp)]
  exact hM
noncomputable def jmp (m:M) (hv op k:Nat) (b:Bool) (p:Nat):Ra23.End:=match op with
 | 5=>.done {Ra23.set m k (Ra23.linked m hv m.at_) with at_:=if b=true then p else m.at_}
 | 6=>.done {Ra23.set m k ((m.r k+Ra23.W - 1)%Ra23.W) with at_:=if b=true∧(m.r k+Ra23.W - 1)%Ra23.W≠0 then p else m.at_}
 | _=>.done {m with at_:=if b=true∧Ra23.taken m k=true then p else m.at_}
noncomputable def sp_jump (C CI CS:Addr):Sp:=fun vs H Q E=>∃ (d:Hd) (m:M) (hv op k:Nat) (b:Bool) (p:Nat),vs=[.ref d.a,.int op,.int k,.bl b,.int p]∧5≤op∧op≤7∧k < 16∧p < 2^24∧Mach C d H m hv∧Out C CI CS d hv H Q E (jmp m hv op k b p)
theorem rd_kix {P:Program} {w:World} {K:PySem.W.Frag} {σ:L2.St} {H:Hp} {Q:VK} {to ti:TE} (q:to σ H fun x H1=>ti σ H1 fun y H2=>∃ a kvs n f,x=.ref a∧y=.int n∧θ9 P w K a kvs∧kvs.lookup n=some f∧Q (.ref f) H2):tKIx P w K to ti σ H Q:=q
theorem sc_jump:FnScope ["machine","operation","k","wanted","place"] ["machine","operation","k","wanted","place"] (ξ (top 88)):=mkS
theorem ok_jump (T:Txt P w K mg base C CI CS) (h:Has K mg "jump" "jump" (top 88)) (tab:TabOk P w K mg base "JUMPS" 3 ["machine","k","wanted","place"] (fun op=>SpJ (fun m hv k b p=>jmp m hv op k b p) C CI CS) (fun op=>op < 5∨7 < op)):Callee P w K mg base 4 "jump" ["machine","operation","k","wanted","place"] (sp_jump C CI CS):=by
 refine ω (k:=3) h sc_jump (fun vs H Q E h=>?_) (fun _ _ _ _ _ _=>ml5 fun _ _ _ _ _=>rfl) fun f cdv A outer s H vs Q E hr h=>?_
 ·obtain ⟨d,m,hv,op,k,b,p,rfl,_⟩:=h
  rfl
 obtain ⟨d,m,hv,op,k,b,p,rfl,ho1,ho2,hk,hp,hM,o⟩:=h
 have hmc:=T.mc
 obtain ⟨ta,kvs,g_JUMPS,kd,hop⟩:=tab
 refine ⟨_,(θ (χ (υh hr (pe_kix (Ωe g_JUMPS rfl) (pv 1) (fun _ _=>rfl)) (ζ (pv 0) (ζ (pv 2) (ζ (pv 3) (ζ (pv 4) ν))))))),?_⟩
 obtain ⟨h1,h2⟩:=hop op
 cases hl:kvs.lookup (op:Int) with
 | none=>exact absurd (h2 hl) (by omega)
 | some g =>
  have fa:=h1 g hl
  left
  refine κ4 ?_
  refine rd_kix ?_
  left
  refine ⟨ta,kvs,_,g,rfl,rfl,kd,hl,?_⟩
  refine ⟨g,rfl,fa.kp,?_⟩
  left
  exact ⟨3,_,_,by decide,fa,d,m,hv,k,b,p,rfl,hk,hp,hM,o⟩
noncomputable def Γ2 (C CI CS:Addr):Sp:=fun vs H Q E=>∃ (d:Hd) (m:M) (hv x:Nat),vs=[.ref d.a,.int x]∧Mach C d H m hv∧Out C CI CS d hv H Q E (.done {m with cc:=x / 2^28%4,mask:=x / 2^24%16})
theorem and3 (x:Nat):Builtin.bitAnd (x:Int) 3=((x%4:Nat):Int):=by
 have z:=PySem.W.kbt_mask (x:Int) 2
 rw [show ((2:Int)^2 - 1)=3 from rfl] at z
 rw [z]
 omega
theorem shrN (x n:Nat):(x:Int) / 2^n=((x / 2^n:Nat):Int):=by push_cast; rfl
theorem Ω6:FnScope ["machine","word"] ["machine","word"] (ξ (top 90)):=mkS
theorem η7 (T:Txt P w K mg base C CI CS) (h:Has K mg "set_condition_and_mask" "set_condition_and_mask" (top 90)):Callee P w K mg base 1 "set_condition_and_mask" ["machine","word"] (Γ2 C CI CS):=by
 refine ω (k:=0) h Ω6 (fun vs H Q E h=>?_) (fun _ _ _ _ _ _=>ml2 fun _ _=>rfl) fun f cdv A outer s H vs Q E hr h=>?_
 ·obtain ⟨d,m,hv,x,rfl,_⟩:=h
  rfl
 obtain ⟨d,m,hv,x,rfl,hM,o⟩:=h
 have hmc:=T.mc
 refine ⟨_,(η (ξ0 (pv 0) (υ ν0 (υ ρ2 (pv 1) ι) ι) rfl) (θ (ξ0 (pv 0) (υ ν0 (υ ρ2 (pv 1) ι) ι) rfl))),?_⟩
 left
 refine χh (n:=28) rfl ?_
 left
 rw [shrN,and3]
 refine ρ1 hM hmc rfl rfl (by omega) fun H1 hM1 k1=>?_
 left
 refine χh (n:=24) rfl ?_
 left
 rw [shrN,Δb]
 exact rd_stK hM1 hmc rfl rfl (by omega) fun H2 hM2 k2=>o H2 hM2 (k1.trans k2)
noncomputable def ι9 (C CI CS:Addr):Sp:=fun vs H Q E=>∃ (d:Hd) (m:M) (hv op k j:Nat),vs=[.ref d.a,.int op,.int k,.int j]∧k < 16∧j < 16∧Mach C d H m hv∧Out C CI CS d hv H Q E (Ra23.rr m hv m.at_ op k j)
theorem arith_hi {m:M} {op k x:Nat} (h:20≤op):ω2 m op k x=if 20≤op∧op < 32 then (Ra23.binary m (op - 16) k x).getD (.stop 1 m) else .stop 1 m:=by
 unfold ω2
 split <;> first | omega | rfl
theorem rr_arith {m:M} {i n op k j:Nat} (h:16≤op):Ra23.rr m i n op k j=ω2 m op k (m.r j):=by
 by_cases h20:20≤op
 ·rw [arith_hi h20]
  unfold Ra23.rr
  split <;> first | (exfalso; omega) | rfl
 ·have hc:op=16∨op=17∨op=18∨op=19:=by omega
  rcases hc with rfl | rfl | rfl | rfl <;> rfl
theorem rr_none {m:M} {i n op k j:Nat} (h:op < 16) (h4:op≠4) (h5:¬ (5≤op∧op≤7)) (h10:op≠10):Ra23.rr m i n op k j=.stop 1 m:=by
 unfold Ra23.rr
 split <;> first | omega | (rw [if_neg (by omega)])
theorem ρ9:FnScope ["machine","operation","k","j","x"] ["machine","operation","k","j"] (ξ (top 91)):=mkS
theorem Ωh (T:Txt P w K mg base C CI CS) (h:Has K mg "two_registers" "two_registers" (top 91)) (c_with_number:Callee P w K mg base 7 "with_number" ["machine","operation","k","x"] (Φ3 C CI CS)) (c_jump:Callee P w K mg base 4 "jump" ["machine","operation","k","wanted","place"] (sp_jump C CI CS)) (c_set_condition_and_mask:Callee P w K mg base 1 "set_condition_and_mask" ["machine","word"] (Γ2 C CI CS)):Callee P w K mg base 8 "two_registers" ["machine","operation","k","j"] (ι9 C CI CS):=by
 refine ω (k:=7) h ρ9 (fun vs H Q E h=>?_) (fun _ _ _ _ _ _=>ml4 fun _ _ _ _=>rfl) fun f cdv A outer s H vs Q E hr h=>?_
 ·obtain ⟨d,m,hv,op,k,j,rfl,_⟩:=h
  rfl
 obtain ⟨d,m,hv,op,k,j,rfl,hk,hj,hM,o⟩:=h
 have hmc:=T.mc
 refine ⟨_,(η (Ξ (i:=4) ρ9.nd rfl (Or.inl rfl) (ο0 Φ (Γ (pv 0) rfl) (pv 3) (fun _ _=>rfl))) (θ (ρ0 (Ψ κk (pv 1) ι (Ω _)) (θ (χ (τ c_with_number hr (by decide) rfl (ζ (pv 0) (ζ (pv 1) (ζ (pv 2) (ζ (pv 4) ν))))))) (θ (ρ0 (η4 ρ6 ρ6 ι (pv 1) ι) (θ (χ (τ c_jump hr (by decide) rfl (ζ (pv 0) (ζ (pv 1) (ζ (pv 2) (ζ (ξ2 ξb (pv 3) ι (Ω _)) (ζ (υ ν0 (pv 4) (Ω1 T.gPLACE_BITS rfl)) ν)))))))) (θ (ρ0 (Ψ ψ1 (pv 1) ι (Ω _)) (θ (χ (τ c_set_condition_and_mask hr (by decide) rfl (ζ (pv 0) (ζ (ο0 Φ (Γ (pv 0) rfl) (pv 2) (fun _ _=>rfl)) ν))))) (θ (ρ0 (Ψ ψ1 (pv 1) ι (Ω _)) (θ (Ω4 T.rS hr (by decide) rfl (ζ (υ ζ3 (υ φ3 (pv 2) ι) (pv 3)) ν))) (θ (Ω4 T.rI hr (by decide) rfl (ζ ι ν)))))))))))),?_⟩
 left
 rw [tn]
 refine Δ (fun c=>?_) (fun c=>?_)
 ·rw [rr_arith (by omega)] at o
  left
  exact ⟨d,m,hv,op,k,_,rfl,hk,hM.ok.reg j,hM,o⟩
 left
 refine Δ (fun c5=>?_) (fun c5=>?_)
 ·left
  refine Δ (fun c7=>?_) (fun c7=>?_)
  ·left
   rw [κb]
   refine ⟨d,m,hv,op,k,_,_,rfl,by omega,by omega,hk,Nat.mod_lt _ (by decide),hM,?_⟩
   have hc:op=5∨op=6∨op=7:=by omega
   have ej:(!decide ((j:Int)=0))=decide (j≠0):=by
    by_cases q:j=0
    ·subst q; rfl
    ·rw [decide_eq_false (by omega),decide_eq_true q]; rfl
   rw [ej]
   rcases hc with rfl | rfl | rfl
   ·have e:Ra23.rr m hv m.at_ 5 k j=jmp m hv 5 k (decide (j≠0)) (m.r j%2^24):=by
     show Ra23.End.done _=Ra23.End.done _
     by_cases q:j=0 <;> simp [q]
    rw [← e]
    exact o
   ·have e:Ra23.rr m hv m.at_ 6 k j=jmp m hv 6 k (decide (j≠0)) (m.r j%2^24):=by
     show Ra23.End.done _=Ra23.End.done _
     by_cases q:j=0 <;> simp [q]
    rw [← e]
    exact o
   ·have e:Ra23.rr m hv m.at_ 7 k j=jmp m hv 7 k (decide (j≠0)) (m.r j%2^24):=by
     show Ra23.End.done _=Ra23.End.done _
     by_cases q:j=0 <;> simp [q]
    rw [← e]
    exact o
  ·left
   refine Δ (fun c4=>?_) (fun c4=>?_)
   ·have e4:op=4:=by omega
    subst e4
    left
    rw [tn]
    exact ⟨d,m,hv,_,rfl,hM,o⟩
   left
   refine Δ (fun c10=>?_) (fun c10=>?_)
   ·have e10:op=10:=by omega
    subst e10
    left
    refine sh8 (n:=4) ⟨_,rfl,by omega⟩ rfl (by decide) ?_
    left
    rw [θ4 (k:=4) (by omega)]
    refine ⟨_,rfl,fun x hx=>?_⟩
    have e:k*2^4+j=16*k+j:=by omega
    rw [e]
    exact o _ x (hM.new hx) (Keep.new hx) ο
   ·rw [rr_none (by omega) (by omega) (by omega) (by omega)] at o
    left
    exact ⟨1,rfl,o.raise hM⟩
 ·left
  refine Γ9 ?_
  left
  refine Δ (fun c4=>?_) (fun c4=>?_)
  ·have e4:op=4:=by omega
   subst e4
   left
   rw [tn]
   exact ⟨d,m,hv,_,rfl,hM,o⟩
  left
  refine Δ (fun c10=>?_) (fun c10=>?_)
  ·have e10:op=10:=by omega
   subst e10
   left
   refine sh8 (n:=4) ⟨_,rfl,by omega⟩ rfl (by decide) ?_
   left
   rw [θ4 (k:=4) (by omega)]
   refine ⟨_,rfl,fun x hx=>?_⟩
   have e:k*2^4+j=16*k+j:=by omega
   rw [e]
   exact o _ x (hM.new hx) (Keep.new hx) ο
  ·rw [rr_none (by omega) (by omega) (by omega) (by omega)] at o
   left
   exact ⟨1,rfl,o.raise hM⟩
end
noncomputable def TabAt (P:Program) (w:World) (K:PySem.W.Frag) (mg:Str→Option Value) (base:Heap) (nm:Str) (lev:Nat) (ps:List Str) (keys:List Nat) (S:Nat→Sp):Prop :=
 ∃ a kvs,mg nm=some (.ref a)∧θ9 P w K a kvs∧∀ op:Nat,(op∈keys→∃ f,kvs.lookup (op:Int)=some f∧Fa P w K mg base lev f ps (S op))∧(op∉keys→kvs.lookup (op:Int)=none)
section
variable {P:Program} {w:World} {K:PySem.W.Frag} {mg:Str→Option Value} {base:Heap} {C CI CS:Addr}
theorem put1 (m:M) (p x:Nat):Ra23.put m p 1 x=Ra23.byteIn m p (x%256):=by
 rw [Ψ4,Φe]
 rfl
theorem get1 (m:M) (p:Nat):Ra23.get m p 1=m.mem p:=by
 show (0*256+m.mem (p+0))=_
 rw [Nat.add_zero,Nat.zero_mul,Nat.zero_add]
theorem Out.q {C CI CS:Addr} {d:Hd} {hv:Nat} {H:Hp} {Q:VK} {E:XK} {e:Ra23.End} (o:Out C CI CS d hv H Q E e):Out C CI CS d hv H (fun _ H1=>Q .non H1) E e:=by cases e <;> exact o
noncomputable def SpB (G:M→Nat→Nat→Ra23.End) (C CI CS:Addr):Sp:=fun vs H Q E=>∃ (d:Hd) (m:M) (hv i p:Nat),vs=[.ref d.a,.int i,.int p]∧i < 256∧p < 65536∧Mach C d H m hv∧Out C CI CS d hv H Q E (G m i p)
theorem ζb:FnScope ["machine","given","place","common"] ["machine","given","place"] (ξ (top 93)):=mkS
theorem φk {f:Addr} (T:Txt P w K mg base C CI CS) (h:HasF K f "examine_bits" (top 93)):Fa P w K mg base 1 f ["machine","given","place"] (SpB (fun m i p=>.done {m with cc:=if m.mem p &&& i=0 then 0 else if m.mem p &&& i=i then 3 else 1}) C CI CS):=by
 refine Ψ0 (k:=0) h ζb (fun vs H Q E h=>?_) (fun _ _ _ _ _ _=>ml3 fun _ _ _=>rfl) fun cdv A outer s H vs Q E hr h=>?_
 ·obtain ⟨d,m,hv,i,p,rfl,_⟩:=h
  rfl
 obtain ⟨d,m,hv,i,p,rfl,hi,hp,hM,o⟩:=h
 have hmc:=T.mc
 refine ⟨_,(η (Ξ (i:=3) ζb.nd rfl (Or.inl rfl) (υ ν0 (ο0 Φ (Γ (pv 0) rfl) (pv 2) (fun _ _=>rfl)) (pv 1))) (θ (ρ0 (Ψ ψ1 (pv 3) ι (Ω _)) (θ (ξ0 (pv 0) ι rfl)) (θ (ξ0 (pv 0) (Ψ1 (Ψ ψ1 (pv 3) (pv 1) (Ω _)) ι ι) rfl))))),?_⟩
 left
 rw [tn,Ξ3]
 refine Δ (fun c=>?_) (fun c=>?_)
 ·left
  refine ρ1 hM hmc rfl (v:=0) rfl (by decide) fun H1 hM1 k1=>o H1 ?_ k1
  rw [if_pos (by omega)]
  exact hM1
 ·left
  refine Δ (fun c2=>?_) (fun c2=>?_)
  ·left
   refine ρ1 hM hmc rfl (v:=3) rfl (by decide) fun H1 hM1 k1=>o H1 ?_ k1
   rw [if_neg (by omega),if_pos (by omega)]
   exact hM1
  ·left
   refine ρ1 hM hmc rfl (v:=1) rfl (by decide) fun H1 hM1 k1=>o H1 ?_ k1
   rw [if_neg (by omega),if_neg (by omega)]
   exact hM1
theorem ρm:FnScope ["machine","given","place"] ["machine","given","place"] (ξ (top 94)):=mkS
theorem ωm {f:Addr} (T:Txt P w K mg base C CI CS) (h:HasF K f "move" (top 94)):Fa P w K mg base 1 f ["machine","given","place"] (SpB (fun m i p=>.done (Ra23.byteIn m p i)) C CI CS):=by
 refine Ψ0 (k:=0) h ρm (fun vs H Q E h=>?_) (fun _ _ _ _ _ _=>ml3 fun _ _ _=>rfl) fun cdv A outer s H vs Q E hr h=>?_
 ·obtain ⟨d,m,hv,i,p,rfl,_⟩:=h
  rfl
 obtain ⟨d,m,hv,i,p,rfl,hi,hp,hM,o⟩:=h
 have hmc:=T.mc
 refine ⟨_,(θ (Γ0 (pv 1) (Δ0 (Γ (pv 0) rfl) (pv 2) κ0))),?_⟩
 left
 refine Φ1 hM (by omega) rfl hi fun H1 hM1 k1=>o H1 ?_ k1
 rw [tn] at hM1
 exact hM1
noncomputable def Ψ3 (C CI CS:Addr):Sp:=fun vs H Q E=>∃ (d:Hd) (m:M) (hv p x:Nat),vs=[.ref d.a,.int p,.int x]∧p < 65536∧x < 256∧Mach C d H m hv∧Out C CI CS d hv H Q E (.done {Ra23.byteIn m p x with cc:=Ra23.ccOf0 x})
theorem ξm:FnScope ["machine","place","result"] ["machine","place","result"] (ξ (top 96)):=mkS
theorem χm (T:Txt P w K mg base C CI CS) (h:Has K mg "settle_byte" "settle_byte" (top 96)):Callee P w K mg base 1 "settle_byte" ["machine","place","result"] (Ψ3 C CI CS):=by
 refine ω (k:=0) h ξm (fun vs H Q E h=>?_) (fun _ _ _ _ _ _=>ml3 fun _ _ _=>rfl) fun f cdv A outer s H vs Q E hr h=>?_
 ·obtain ⟨d,m,hv,p,x,rfl,_⟩:=h
  rfl
 obtain ⟨d,m,hv,p,x,rfl,hp,hx,hM,o⟩:=h
 have hmc:=T.mc
 refine ⟨_,(η (Γ0 (pv 2) (Δ0 (Γ (pv 0) rfl) (pv 1) κ0)) (θ (ξ0 (pv 0) (Ψ1 (Ψ ψ1 (pv 2) ι (Ω _)) ι ι) rfl))),?_⟩
 left
 refine Φ1 hM (by omega) rfl hx fun H1 hM1 k1=>?_
 rw [tn] at hM1
 left
 have o':∀ H',Mach C d H' {Ra23.byteIn m p x with cc:=if x=0 then 0 else 1} hv→Keep d H H'→Q .non H':=o
 refine Δ (fun c=>?_) (fun c=>?_)
 ·left
  refine ρ1 hM1 hmc rfl (v:=0) rfl (by decide) fun H2 hM2 k2=>o' H2 ?_ (k1.trans k2)
  rw [if_pos (by omega)]
  exact hM2
 ·left
  refine ρ1 hM1 hmc rfl (v:=1) rfl (by decide) fun H2 hM2 k2=>o' H2 ?_ (k1.trans k2)
  rw [if_neg (by omega)]
  exact hM2
theorem sc_byte_and:FnScope ["machine","given","place"] ["machine","given","place"] (ξ (top 97)):=mkS
theorem ok_byte_and {f:Addr} (T:Txt P w K mg base C CI CS) (h:HasF K f "byte_and" (top 97)) (c_settle_byte:Callee P w K mg base 1 "settle_byte" ["machine","place","result"] (Ψ3 C CI CS)):Fa P w K mg base 2 f ["machine","given","place"] (SpB (fun m i p=>.done {Ra23.byteIn m p (m.mem p &&& i) with cc:=Ra23.ccOf0 (m.mem p &&& i)}) C CI CS):=by
 refine Ψ0 (k:=1) h sc_byte_and (fun vs H Q E h=>?_) (fun _ _ _ _ _ _=>ml3 fun _ _ _=>rfl) fun cdv A outer s H vs Q E hr h=>?_
 ·obtain ⟨d,m,hv,i,p,rfl,_⟩:=h
  rfl
 obtain ⟨d,m,hv,i,p,rfl,hi,hp,hM,o⟩:=h
 have hmc:=T.mc
 refine ⟨_,(θ (χ (τ c_settle_byte hr (by decide) rfl (ζ (pv 0) (ζ (pv 2) (ζ (υ ν0 (ο0 Φ (Γ (pv 0) rfl) (pv 2) (fun _ _=>rfl)) (pv 1)) ν)))))),?_⟩
 left
 rw [tn,Ξ3]
 exact ⟨d,m,hv,p,_,rfl,hp,Nat.and_lt_two_pow (n:=8) _ hi,hM,o⟩
theorem ηg:FnScope ["machine","given","place"] ["machine","given","place"] (ξ (top 98)):=mkS
theorem φg {f:Addr} (T:Txt P w K mg base C CI CS) (h:HasF K f "compare" (top 98)) (c_order:Callee P w K mg base 1 "order" ["first","second"] (Γ4 C CI CS)):Fa P w K mg base 2 f ["machine","given","place"] (SpB (fun m i p=>.done {m with cc:=Ra23.ccBy (m.mem p) i}) C CI CS):=by
 refine Ψ0 (k:=1) h ηg (fun vs H Q E h=>?_) (fun _ _ _ _ _ _=>ml3 fun _ _ _=>rfl) fun cdv A outer s H vs Q E hr h=>?_
 ·obtain ⟨d,m,hv,i,p,rfl,_⟩:=h
  rfl
 obtain ⟨d,m,hv,i,p,rfl,hi,hp,hM,o⟩:=h
 have hmc:=T.mc
 refine ⟨_,(θ (ξ0 (pv 0) (τ c_order hr (by decide) rfl (ζ (ο0 Φ (Γ (pv 0) rfl) (pv 2) (fun _ _=>rfl)) (ζ (pv 1) ν))) rfl)),?_⟩
 left
 rw [tn]
 refine ⟨_,_,rfl,?_⟩
 exact ρ1 hM hmc rfl rfl (ζe _ _) o
theorem sc_byte_or:FnScope ["machine","given","place"] ["machine","given","place"] (ξ (top 100)):=mkS
theorem ok_byte_or {f:Addr} (T:Txt P w K mg base C CI CS) (h:HasF K f "byte_or" (top 100)) (c_settle_byte:Callee P w K mg base 1 "settle_byte" ["machine","place","result"] (Ψ3 C CI CS)):Fa P w K mg base 2 f ["machine","given","place"] (SpB (fun m i p=>.done {Ra23.byteIn m p (m.mem p ||| i) with cc:=Ra23.ccOf0 (m.mem p ||| i)}) C CI CS):=by
 refine Ψ0 (k:=1) h sc_byte_or (fun vs H Q E h=>?_) (fun _ _ _ _ _ _=>ml3 fun _ _ _=>rfl) fun cdv A outer s H vs Q E hr h=>?_
 ·obtain ⟨d,m,hv,i,p,rfl,_⟩:=h
  rfl
 obtain ⟨d,m,hv,i,p,rfl,hi,hp,hM,o⟩:=h
 have hmc:=T.mc
 refine ⟨_,(θ (χ (τ c_settle_byte hr (by decide) rfl (ζ (pv 0) (ζ (pv 2) (ζ (υ ζ3 (ο0 Φ (Γ (pv 0) rfl) (pv 2) (fun _ _=>rfl)) (pv 1)) ν)))))),?_⟩
 left
 rw [tn,τ3]
 exact ⟨d,m,hv,p,_,rfl,hp,Nat.or_lt_two_pow (n:=8) (hM.ok.mem p) hi,hM,o⟩
theorem ιg:FnScope ["machine","given","place"] ["machine","given","place"] (ξ (top 101)):=mkS
theorem ψg {f:Addr} (T:Txt P w K mg base C CI CS) (h:HasF K f "byte_exclusive" (top 101)) (c_settle_byte:Callee P w K mg base 1 "settle_byte" ["machine","place","result"] (Ψ3 C CI CS)):Fa P w K mg base 2 f ["machine","given","place"] (SpB (fun m i p=>.done {Ra23.byteIn m p (m.mem p ^^^ i) with cc:=Ra23.ccOf0 (m.mem p ^^^ i)}) C CI CS):=by
 refine Ψ0 (k:=1) h ιg (fun vs H Q E h=>?_) (fun _ _ _ _ _ _=>ml3 fun _ _ _=>rfl) fun cdv A outer s H vs Q E hr h=>?_
 ·obtain ⟨d,m,hv,i,p,rfl,_⟩:=h
  rfl
 obtain ⟨d,m,hv,i,p,rfl,hi,hp,hM,o⟩:=h
 have hmc:=T.mc
 refine ⟨_,(θ (χ (τ c_settle_byte hr (by decide) rfl (ζ (pv 0) (ζ (pv 2) (ζ (υ op_xor (ο0 Φ (Γ (pv 0) rfl) (pv 2) (fun _ _=>rfl)) (pv 1)) ν)))))),?_⟩
 left
 rw [tn,οj]
 exact ⟨d,m,hv,p,_,rfl,hp,Nat.xor_lt_two_pow (n:=8) (hM.ok.mem p) hi,hM,o⟩
noncomputable def sing (m:M) (op i p:Nat):Ra23.End:=match op with
 | 145=>.done {m with cc:=if m.mem p &&& i=0 then 0 else if m.mem p &&& i=i then 3 else 1}
 | 146=>.done (Ra23.byteIn m p i)
 | 148=>.done {Ra23.byteIn m p (m.mem p &&& i) with cc:=Ra23.ccOf0 (m.mem p &&& i)}
 | 149=>.done {m with cc:=Ra23.ccBy (m.mem p) i}
 | 150=>.done {Ra23.byteIn m p (m.mem p ||| i) with cc:=Ra23.ccOf0 (m.mem p ||| i)}
 | 151=>.done {Ra23.byteIn m p (m.mem p ^^^ i) with cc:=Ra23.ccOf0 (m.mem p ^^^ i)}
 | _=>.stop 1 m
noncomputable def oneB (m:M) (op i p:Nat):Ra23.End:=if op=147 then .stop 1 m else if 65536 < p+1 then .stop 5 m else sing m op i p
noncomputable def χj (C CI CS:Addr):Sp:=fun vs H Q E=>∃ (d:Hd) (m:M) (hv op i p:Nat),vs=[.ref d.a,.int op,.int i,.int p]∧145≤op∧op≤151∧i < 256∧Mach C d H m hv∧Out C CI CS d hv H Q E (oneB m op i p)
theorem Δj:FnScope ["machine","operation","given","place","action"] ["machine","operation","given","place"] (ξ (top 103)):=mkS
theorem ok_one_byte (T:Txt P w K mg base C CI CS) (h:Has K mg "one_byte" "one_byte" (top 103)) (tab:TabAt P w K mg base "OPERATIONS_single" 3 ["machine","given","place"] [145,146,148,149,150,151] (fun op=>SpB (fun m i p=>sing m op i p) C CI CS)) (c_need_room:Callee P w K mg base 3 "need_room" ["place","size"] (τ0 C CI CS)):Callee P w K mg base 4 "one_byte" ["machine","operation","given","place"] (χj C CI CS):=by
 refine ω (k:=3) h Δj (fun vs H Q E h=>?_) (fun _ _ _ _ _ _=>ml4 fun _ _ _ _=>rfl) fun f cdv A outer s H vs Q E hr h=>?_
 ·obtain ⟨d,m,hv,op,i,p,rfl,_⟩:=h
  rfl
 obtain ⟨d,m,hv,op,i,p,rfl,ho1,ho2,hi,hM,o⟩:=h
 have hmc:=T.mc
 obtain ⟨ta,kvs,g_OPERATIONS_single,kd,hop⟩:=tab
 refine ⟨_,(η (Ξ (i:=4) Δj.nd rfl (Or.inl rfl) (pe_kget (Ωe g_OPERATIONS_single rfl) (pv 1) ⟨rfl,rfl,rfl,rfl⟩)) (η (ρ0 (Ψ op_isN (pv 4) pe_non (Ω _)) (θ (Ω4 T.rI hr (by decide) rfl (ζ ι ν))) ι0) (η (χ (τ c_need_room hr (by decide) rfl (ζ (pv 3) (ζ ι ν)))) (θ (χ (υh hr (pv 4) (ζ (pv 0) (ζ (pv 2) (ζ (pv 3) ν))))))))),?_⟩
 unfold oneB at o
 left
 refine υ4 ?_
 left
 refine ⟨ta,kvs,rfl,kd,?_⟩
 left
 try refine ⟨_,rfl,?_⟩
 left
 obtain ⟨h1,h2⟩:=hop op
 by_cases q:op=147
 ·rw [if_pos q] at o
  rw [h2 (by rw [q]; decide)]
  refine ⟨rfl,?_⟩
  left
  refine τc ?_
  left
  exact ⟨1,rfl,o.raise hM⟩
 ·rw [if_neg q] at o
  obtain ⟨g,hl,fa⟩:=h1 (by simp; omega)
  rw [hl]
  refine ⟨rfl,?_⟩
  left
  refine Γ9 ?_
  left
  refine ⟨_,_,rfl,fun c=>?_,fun c=>?_⟩
  ·rw [if_pos (by omega)] at o
   exact o.raise hM
  rw [if_neg (by omega)] at o
  left
  refine κ4 ?_
  left
  refine ⟨g,rfl,fa.kp,?_⟩
  left
  exact ⟨3,_,_,by decide,fa,d,m,hv,i,p,rfl,hi,by omega,hM,o⟩
noncomputable def SpS (G:M→Nat→Nat→Ra23.End) (C CI CS:Addr):Sp:=fun vs H Q E=>∃ (d:Hd) (m:M) (hv k n:Nat),vs=[.ref d.a,.int k,.int n]∧k < 16∧n < 64∧Mach C d H m hv∧Out C CI CS d hv H Q E (G m k n)
theorem shl_s {z:Int} {H:Hp} {Q:VK} {j:Int} {n:Nat} (ez : -(2^63)≤z∧z < 2^64) (ej:j=(n:Int)) (hn:n < 64) (q:Q (.int (z*2^n)) H):rI CPow (fun i j=>.int (i*2^j.toNat)) (.int z) (.int j) H Q:=by
 subst ej
 refine ζ7 ⟨by omega,by omega,by omega⟩ ?_
 rw [Int.toNat_natCast]
 exact q
theorem mulN (x n:Nat):(x:Int)*2^n=((x*2^n:Nat):Int):=by push_cast; rfl
theorem shr_lt {x n b:Nat} (h:x < b):x / 2^n < b:=Nat.lt_of_le_of_lt (Nat.div_le_self _ _) h
theorem sc_right:FnScope ["machine","k","count"] ["machine","k","count"] (ξ (top 105)):=mkS
theorem ok_right {f:Addr} (T:Txt P w K mg base C CI CS) (h:HasF K f "right" (top 105)):Fa P w K mg base 1 f ["machine","k","count"] (SpS (fun m k n=>.done (Ra23.set m k (m.r k / 2^n))) C CI CS):=by
 refine Ψ0 (k:=0) h sc_right (fun vs H Q E h=>?_) (fun _ _ _ _ _ _=>ml3 fun _ _ _=>rfl) fun cdv A outer s H vs Q E hr h=>?_
 ·obtain ⟨d,m,hv,k,n,rfl,_⟩:=h
  rfl
 obtain ⟨d,m,hv,k,n,rfl,hk,hn,hM,o⟩:=h
 have hmc:=T.mc
 refine ⟨_,(θ (Γ0 (υ ρ2 (ο0 Φ (Γ (pv 0) rfl) (pv 1) (fun _ _=>rfl)) (pv 2)) (Δ0 (Γ (pv 0) rfl) (pv 1) κ0))),?_⟩
 left
 refine χh (n:=n) rfl ?_
 left
 rw [tn,shrN]
 refine θ1 hM (by omega) rfl (shr_lt (hM.ok.reg k)) fun H1 hM1 k1=>o H1 ?_ k1
 rw [tn] at hM1
 exact hM1
theorem sc_left:FnScope ["machine","k","count"] ["machine","k","count"] (ξ (top 106)):=mkS
theorem ok_left {f:Addr} (T:Txt P w K mg base C CI CS) (h:HasF K f "left" (top 106)):Fa P w K mg base 1 f ["machine","k","count"] (SpS (fun m k n=>.done (Ra23.set m k (m.r k*2^n%Ra23.W))) C CI CS):=by
 refine Ψ0 (k:=0) h sc_left (fun vs H Q E h=>?_) (fun _ _ _ _ _ _=>ml3 fun _ _ _=>rfl) fun cdv A outer s H vs Q E hr h=>?_
 ·obtain ⟨d,m,hv,k,n,rfl,_⟩:=h
  rfl
 obtain ⟨d,m,hv,k,n,rfl,hk,hn,hM,o⟩:=h
 have hmc:=T.mc
 have rk:=hM.ok.reg k
 refine ⟨_,(θ (Γ0 (υ ν0 (υ φ3 (ο0 Φ (Γ (pv 0) rfl) (pv 1) (fun _ _=>rfl)) (pv 2)) (Ω1 T.gWORD_BITS rfl)) (Δ0 (Γ (pv 0) rfl) (pv 1) κ0))),?_⟩
 left
 rw [tn]
 refine shl_s (n:=n) ⟨by omega,by omega⟩ rfl hn ?_
 left
 rw [mulN]
 refine θ1 (v:=m.r k*2^n%Ra23.W) hM (by omega) (by rw [κe]; unfold Ra23.W; omega) (Nat.mod_lt _ (by decide)) fun H1 hM1 k1=>o H1 ?_ k1
 rw [tn] at hM1
 exact hM1
theorem Ψa:FnScope ["machine","k","count","result"] ["machine","k","count"] (ξ (top 107)):=mkS
theorem οk {f:Addr} (T:Txt P w K mg base C CI CS) (h:HasF K f "right_signed" (top 107)) (c_signed:Callee P w K mg base 1 "signed" ["word"] (ξ1 C CI CS)) (c_order:Callee P w K mg base 1 "order" ["first","second"] (Γ4 C CI CS)):Fa P w K mg base 2 f ["machine","k","count"] (SpS (fun m k n=>.done {Ra23.set m k (Ra23.wrap (Ra23.signed (m.r k) / 2^n)) with cc:=Ra23.ccOf (Ra23.signed (m.r k) / 2^n)}) C CI CS):=by
 refine Ψ0 (k:=1) h Ψa (fun vs H Q E h=>?_) (fun _ _ _ _ _ _=>ml3 fun _ _ _=>rfl) fun cdv A outer s H vs Q E hr h=>?_
 ·obtain ⟨d,m,hv,k,n,rfl,_⟩:=h
  rfl
 obtain ⟨d,m,hv,k,n,rfl,hk,hn,hM,o⟩:=h
 have hmc:=T.mc
 have rk:=hM.ok.reg k
 refine ⟨_,(η (Ξ (i:=3) Ψa.nd rfl (Or.inl rfl) (υ ρ2 (τ c_signed hr (by decide) rfl (ζ (ο0 Φ (Γ (pv 0) rfl) (pv 1) (fun _ _=>rfl)) ν)) (pv 2))) (η (Γ0 (υ ν0 (pv 3) (Ω1 T.gWORD_BITS rfl)) (Δ0 (Γ (pv 0) rfl) (pv 1) κ0)) (θ (ξ0 (pv 0) (τ c_order hr (by decide) rfl (ζ (pv 3) (ζ ι ν))) rfl)))),?_⟩
 left
 rw [tn]
 refine ⟨_,rfl,rk,?_⟩
 left
 refine χh (n:=n) rfl ?_
 left
 refine θ1 hM (by omega) (ν2 _) (by omega) fun H1 hM1 k1=>?_
 rw [tn] at hM1
 left
 refine ⟨_,_,rfl,?_⟩
 exact ρ1 hM1 hmc rfl rfl (ζe _ _) fun H2 hM2 k2=>o H2 hM2 (k1.trans k2)
theorem kept_math {a n e:Nat} {S:Int} (ha:a < 2^(e+1)) (hs:S%2^e=(a:Int)%2^e):Builtin.bitOr (Builtin.bitAnd (a:Int) ((2^e:Nat):Int)) (Builtin.bitAnd (S*2^n) (2^e - 1))=((a / 2^e*2^e+a*2^n%2^e:Nat):Int):=by
 have h1:(a &&& 2^e)=a / 2^e*2^e:=by
  have z:=and_high (x:=a) (k:=e) (n:=1) ha
  rw [show 2^(e+1) - 2^e=2^e from by rw [Nat.pow_succ]; omega] at z
  exact z
 have h2:S*2^n%2^e=((a*2^n%2^e:Nat):Int):=by
  rw [Int.mul_emod,hs,← Int.mul_emod]
  push_cast
  rfl
 rw [Ξ3,h1,PySem.W.kbt_mask,h2,τ3,ω9 (Nat.mod_lt _ (Nat.two_pow_pos e))]
noncomputable def gSla (m:M) (k n:Nat):Ra23.End :=
 let x:=m.r k / 2^31*2^31+m.r k*2^n%2^31
 concl (Ra23.set m k x) (Ra23.signed (m.r k)*2^n) (decide (Ra23.signed x=Ra23.signed (m.r k)*2^n))
theorem ζ4:FnScope ["machine","k","count","word","exact","kept"] ["machine","k","count"] (ξ (top 108)):=mkS
theorem Δm {f:Addr} (T:Txt P w K mg base C CI CS) (h:HasF K f "left_signed" (top 108)) (c_signed:Callee P w K mg base 1 "signed" ["word"] (ξ1 C CI CS)) (c_conclude:Callee P w K mg base 3 "conclude" ["machine","result","fits"] (η8 C CI CS)):Fa P w K mg base 4 f ["machine","k","count"] (SpS gSla C CI CS):=by
 refine Ψ0 (k:=3) h ζ4 (fun vs H Q E h=>?_) (fun _ _ _ _ _ _=>ml3 fun _ _ _=>rfl) fun cdv A outer s H vs Q E hr h=>?_
 ·obtain ⟨d,m,hv,k,n,rfl,_⟩:=h
  rfl
 obtain ⟨d,m,hv,k,n,rfl,hk,hn,hM,o⟩:=h
 have hmc:=T.mc
 have rk:=hM.ok.reg k
 have rs:=ι4 rk
 refine ⟨_,(η (Ξ (i:=3) ζ4.nd rfl (Or.inl rfl) (ο0 Φ (Γ (pv 0) rfl) (pv 1) (fun _ _=>rfl))) (η (Ξ (i:=4) ζ4.nd rfl (Or.inl rfl) (υ φ3 (τ c_signed hr (by decide) rfl (ζ (pv 3) ν)) (pv 2))) (η (Ξ (i:=5) ζ4.nd rfl (Or.inl rfl) (υ ζ3 (υ ν0 (pv 3) ι) (υ ν0 (pv 4) ι))) (η (Γ0 (pv 5) (Δ0 (Γ (pv 0) rfl) (pv 1) κ0)) (θ (χ (τ c_conclude hr (by decide) rfl (ζ (pv 0) (ζ (pv 4) (ζ (ξ2 ψ1 (τ c_signed hr (by decide) rfl (ζ (pv 5) ν)) (pv 4) (Ω _)) ν)))))))))),?_⟩
 left
 rw [tn]
 refine ⟨_,rfl,rk,?_⟩
 left
 refine shl_s (n:=n) ⟨by omega,by omega⟩ rfl hn ?_
 left
 have km:=kept_math (a:=m.r k) (n:=n) (e:=31) (S:=Ra23.signed (m.r k)) rk (by unfold Ra23.signed; split <;> omega)
 rw [show ((2^31:Nat):Int)=2147483648 from rfl,show ((2:Int)^31 - 1)=2147483647 from rfl] at km
 rw [km]
 have xb:m.r k / 2^31*2^31+m.r k*2^n%2^31 < 2^32:=by
  have:=Nat.mod_lt (m.r k*2^n) (show 0 < 2^31 by decide)
  omega
 dsimp only [gSla] at o
 generalize m.r k / 2^31*2^31+m.r k*2^n%2^31=x at xb o ⊢
 refine θ1 hM (by omega) rfl xb fun H1 hM1 k1=>?_
 rw [tn] at hM1
 left
 refine ⟨_,rfl,xb,?_⟩
 left
 exact ⟨d,_,hv,_,_,rfl,hM1,(Out.keep k1 o).q⟩
noncomputable def two (m:M) (k x:Nat):M:=Ra23.set (Ra23.set m k (x / Ra23.W%Ra23.W)) (k+1) (x%Ra23.W)
theorem two_of (z:Int) (m:M) (k:Nat):Ra23.set (Ra23.set m k (z / 2^32%2^32).toNat) (k+1) (z%2^32).toNat=two m k (z%2^64).toNat:=by
 obtain ⟨e1,e2⟩:=split64 z
 unfold two
 have e3:(z%2^64).toNat / Ra23.W%Ra23.W=(z%2^64).toNat / Ra23.W:=Nat.mod_eq_of_lt (by unfold Ra23.W; omega)
 rw [e1,e2,e3]
theorem pair_lt {m:M} {k:Nat} (h:Ok m):m.r k*2^32+m.r (k+1) < 2^64:=by
 have:=h.reg k
 have:=h.reg (k+1)
 omega
noncomputable def Φm (m:M) (k:Nat) (e:Ra23.End):Ra23.End:=if k%2=1 then .stop 6 m else e
theorem sc_pair_right:FnScope ["machine","k","count"] ["machine","k","count"] (ξ (top 109)):=mkS
theorem ok_pair_right {f:Addr} (T:Txt P w K mg base C CI CS) (h:HasF K f "pair_right" (top 109)) (c_put_pair:Callee P w K mg base 1 "put_pair" ["machine","k","double"] (Γ3 C CI CS)) (c_pair_at:Callee P w K mg base 4 "pair_at" ["machine","k"] (θ5 C CI CS)):Fa P w K mg base 5 f ["machine","k","count"] (SpS (fun m k n=>Φm m k (.done (two m k ((m.r k*2^32+m.r (k+1)) / 2^n)))) C CI CS):=by
 refine Ψ0 (k:=4) h sc_pair_right (fun vs H Q E h=>?_) (fun _ _ _ _ _ _=>ml3 fun _ _ _=>rfl) fun cdv A outer s H vs Q E hr h=>?_
 ·obtain ⟨d,m,hv,k,n,rfl,_⟩:=h
  rfl
 obtain ⟨d,m,hv,k,n,rfl,hk,hn,hM,o⟩:=h
 have hmc:=T.mc
 refine ⟨_,(θ (χ (τ c_put_pair hr (by decide) rfl (ζ (pv 0) (ζ (pv 1) (ζ (υ ρ2 (τ c_pair_at hr (by decide) rfl (ζ (pv 0) (ζ (pv 1) ν))) (pv 2)) ν)))))),?_⟩
 dsimp only [Φm] at o
 left
 refine ⟨d,m,hv,k,rfl,hk,hM,fun c=>?_,fun c=>?_⟩
 ·rw [if_pos c] at o
  exact o.raise hM
 rw [if_neg (by omega)] at o
 left
 refine χh (n:=n) rfl ?_
 left
 refine ⟨d,m,hv,k,_,rfl,hk,c,hM,fun H' hM' k'=>o H' ?_ k'⟩
 rw [two_of,shrN] at hM'
 have b:=shr_lt (n:=n) (pair_lt (k:=k) hM.ok)
 have e:∀ x:Nat,x < 2^64→((x:Int)%2^64).toNat=x:=fun x hx=>by omega
 rw [e _ b] at hM'
 exact hM'
theorem sc_pair_left:FnScope ["machine","k","count"] ["machine","k","count"] (ξ (top 110)):=mkS
theorem ok_pair_left {f:Addr} (T:Txt P w K mg base C CI CS) (h:HasF K f "pair_left" (top 110)) (c_put_pair:Callee P w K mg base 1 "put_pair" ["machine","k","double"] (Γ3 C CI CS)) (c_pair_at:Callee P w K mg base 4 "pair_at" ["machine","k"] (θ5 C CI CS)):Fa P w K mg base 5 f ["machine","k","count"] (SpS (fun m k n=>Φm m k (.done (two m k ((m.r k*2^32+m.r (k+1))*2^n%2^64)))) C CI CS):=by
 refine Ψ0 (k:=4) h sc_pair_left (fun vs H Q E h=>?_) (fun _ _ _ _ _ _=>ml3 fun _ _ _=>rfl) fun cdv A outer s H vs Q E hr h=>?_
 ·obtain ⟨d,m,hv,k,n,rfl,_⟩:=h
  rfl
 obtain ⟨d,m,hv,k,n,rfl,hk,hn,hM,o⟩:=h
 have hmc:=T.mc
 refine ⟨_,(θ (χ (τ c_put_pair hr (by decide) rfl (ζ (pv 0) (ζ (pv 1) (ζ (υ φ3 (τ c_pair_at hr (by decide) rfl (ζ (pv 0) (ζ (pv 1) ν))) (pv 2)) ν)))))),?_⟩
 dsimp only [Φm] at o
 have pl:=pair_lt (k:=k) hM.ok
 left
 refine ⟨d,m,hv,k,rfl,hk,hM,fun c=>?_,fun c=>?_⟩
 ·rw [if_pos c] at o
  exact o.raise hM
 rw [if_neg (by omega)] at o
 left
 refine shl_s (n:=n) ⟨by omega,by omega⟩ rfl hn ?_
 left
 refine ⟨d,m,hv,k,_,rfl,hk,c,hM,fun H' hM' k'=>o H' ?_ k'⟩
 rw [two_of,mulN] at hM'
 have e:∀ x:Nat,((x:Int)%2^64).toNat=x%2^64:=fun x=>by omega
 rw [e] at hM'
 exact hM'
theorem ψ4:FnScope ["machine","k","count","result"] ["machine","k","count"] (ξ (top 111)):=mkS
theorem ιc {f:Addr} (T:Txt P w K mg base C CI CS) (h:HasF K f "pair_right_signed" (top 111)) (c_put_pair:Callee P w K mg base 1 "put_pair" ["machine","k","double"] (Γ3 C CI CS)) (c_pair_at:Callee P w K mg base 4 "pair_at" ["machine","k"] (θ5 C CI CS)) (c_signed_double:Callee P w K mg base 1 "signed_double" ["double"] (Δ2 C CI CS)) (c_order:Callee P w K mg base 1 "order" ["first","second"] (Γ4 C CI CS)):Fa P w K mg base 5 f ["machine","k","count"] (SpS (fun m k n=>Φm m k (.done {two m k ((φ0 (m.r k*2^32+m.r (k+1)) / 2^n)%2^64).toNat with cc:=Ra23.ccOf (φ0 (m.r k*2^32+m.r (k+1)) / 2^n)})) C CI CS):=by
 refine Ψ0 (k:=4) h ψ4 (fun vs H Q E h=>?_) (fun _ _ _ _ _ _=>ml3 fun _ _ _=>rfl) fun cdv A outer s H vs Q E hr h=>?_
 ·obtain ⟨d,m,hv,k,n,rfl,_⟩:=h
  rfl
 obtain ⟨d,m,hv,k,n,rfl,hk,hn,hM,o⟩:=h
 have hmc:=T.mc
 refine ⟨_,(η (Ξ (i:=3) ψ4.nd rfl (Or.inl rfl) (υ ρ2 (τ c_signed_double hr (by decide) rfl (ζ (τ c_pair_at hr (by decide) rfl (ζ (pv 0) (ζ (pv 1) ν))) ν)) (pv 2))) (η (χ (τ c_put_pair hr (by decide) rfl (ζ (pv 0) (ζ (pv 1) (ζ (pv 3) ν))))) (θ (ξ0 (pv 0) (τ c_order hr (by decide) rfl (ζ (pv 3) (ζ ι ν))) rfl)))),?_⟩
 dsimp only [Φm] at o
 have pl:=pair_lt (k:=k) hM.ok
 left
 refine ⟨d,m,hv,k,rfl,hk,hM,fun c=>?_,fun c=>?_⟩
 ·rw [if_pos c] at o
  exact o.raise hM
 rw [if_neg (by omega)] at o
 left
 refine ⟨_,rfl,pl,?_⟩
 left
 refine χh (n:=n) rfl ?_
 left
 refine ⟨d,m,hv,k,_,rfl,hk,c,hM,fun H' hM' k'=>?_⟩
 rw [two_of] at hM'
 left
 refine ⟨_,_,rfl,?_⟩
 exact ρ1 hM' hmc rfl rfl (ζe _ _) fun H2 hM2 k2=>o H2 hM2 (k'.trans k2)
noncomputable def gSlda (m:M) (k n:Nat):Ra23.End :=
 let y:=m.r k*2^32+m.r (k+1)
 let x:=y / 2^63*2^63+y*2^n%2^63
 Φm m k (concl (two m k x) (φ0 y*2^n) (decide (φ0 x=φ0 y*2^n)))
theorem Δ1:FnScope ["machine","k","count","double","exact","kept"] ["machine","k","count"] (ξ (top 112)):=mkS
theorem ιd {f:Addr} (T:Txt P w K mg base C CI CS) (h:HasF K f "pair_left_signed" (top 112)) (c_put_pair:Callee P w K mg base 1 "put_pair" ["machine","k","double"] (Γ3 C CI CS)) (c_pair_at:Callee P w K mg base 4 "pair_at" ["machine","k"] (θ5 C CI CS)) (c_signed_double:Callee P w K mg base 1 "signed_double" ["double"] (Δ2 C CI CS)) (c_conclude:Callee P w K mg base 3 "conclude" ["machine","result","fits"] (η8 C CI CS)):Fa P w K mg base 5 f ["machine","k","count"] (SpS gSlda C CI CS):=by
 refine Ψ0 (k:=4) h Δ1 (fun vs H Q E h=>?_) (fun _ _ _ _ _ _=>ml3 fun _ _ _=>rfl) fun cdv A outer s H vs Q E hr h=>?_
 ·obtain ⟨d,m,hv,k,n,rfl,_⟩:=h
  rfl
 obtain ⟨d,m,hv,k,n,rfl,hk,hn,hM,o⟩:=h
 have hmc:=T.mc
 refine ⟨_,(η (Ξ (i:=3) Δ1.nd rfl (Or.inl rfl) (τ c_pair_at hr (by decide) rfl (ζ (pv 0) (ζ (pv 1) ν)))) (η (Ξ (i:=4) Δ1.nd rfl (Or.inl rfl) (υ φ3 (τ c_signed_double hr (by decide) rfl (ζ (pv 3) ν)) (pv 2))) (η (Ξ (i:=5) Δ1.nd rfl (Or.inl rfl) (υ ζ3 (υ ν0 (pv 3) ι) (υ ν0 (pv 4) ι))) (η (χ (τ c_put_pair hr (by decide) rfl (ζ (pv 0) (ζ (pv 1) (ζ (pv 5) ν))))) (θ (χ (τ c_conclude hr (by decide) rfl (ζ (pv 0) (ζ (pv 4) (ζ (ξ2 ψ1 (τ c_signed_double hr (by decide) rfl (ζ (pv 5) ν)) (pv 4) (Ω _)) ν)))))))))),?_⟩
 dsimp only [gSlda,Φm] at o
 have pl:=pair_lt (k:=k) hM.ok
 obtain ⟨y,hy⟩:∃ y:Nat,m.r k*2^32+m.r (k+1)=y:=⟨_,rfl⟩
 rw [hy] at pl
 simp only [hy] at o
 left
 refine ⟨d,m,hv,k,rfl,hk,hM,fun c=>?_,fun c=>?_⟩
 ·rw [if_pos c] at o
  exact o.raise hM
 rw [if_neg (by omega)] at o
 rw [hy]
 left
 refine ⟨_,rfl,pl,?_⟩
 left
 have rs : -(2^63)≤φ0 y∧φ0 y < 2^64:=by unfold φ0; split <;> omega
 refine shl_s (n:=n) rs rfl hn ?_
 left
 have km:=kept_math (a:=y) (n:=n) (e:=63) (S:=φ0 y) pl (by unfold φ0; split <;> omega)
 rw [show ((2^63:Nat):Int)=9223372036854775808 from rfl,show ((2:Int)^63 - 1)=9223372036854775807 from rfl] at km
 rw [km]
 have xb:y / 2^63*2^63+y*2^n%2^63 < 2^64:=by
  have:=Nat.mod_lt (y*2^n) (show 0 < 2^63 by decide)
  omega
 have hxx:∃ x:Nat,x=y / 2^63*2^63+y*2^n%2^63:=⟨_,rfl⟩
 obtain ⟨x,hx⟩:=hxx
 rw [← hx] at xb ⊢
 simp only [← hx] at o
 refine ⟨d,m,hv,k,_,rfl,hk,c,hM,fun H' hM' k'=>?_⟩
 have ex:∀ x:Nat,x < 2^64→((x:Int)%2^64).toNat=x:=fun x hx=>by omega
 rw [two_of,ex x xb] at hM'
 left
 refine ⟨_,rfl,xb,?_⟩
 left
 exact ⟨d,_,hv,_,_,rfl,hM',(Out.keep k' o).q⟩
end
section
variable {P:Program} {w:World} {K:PySem.W.Frag} {mg:Str→Option Value} {base:Heap} {C CI CS:Addr}
theorem and63 (x:Nat):Builtin.bitAnd (x:Int) 63=((x%64:Nat):Int):=by
 have z:=PySem.W.kbt_mask (x:Int) 6
 rw [show ((2:Int)^6 - 1)=63 from rfl] at z
 rw [z]
 omega
noncomputable def shf (m:M) (op k n:Nat):Ra23.End :=
 if op=136 then Ra23.End.done (Ra23.set m k (m.r k / 2^n)) else
 if op=137 then Ra23.End.done (Ra23.set m k (m.r k*2^n%Ra23.W)) else
 if op=138 then Ra23.End.done {Ra23.set m k (Ra23.wrap (Ra23.signed (m.r k) / 2^n)) with cc:=Ra23.ccOf (Ra23.signed (m.r k) / 2^n)} else
 if op=139 then gSla m k n else
 if op=140 then Φm m k (.done (two m k ((m.r k*2^32+m.r (k+1)) / 2^n))) else
 if op=141 then Φm m k (.done (two m k ((m.r k*2^32+m.r (k+1))*2^n%2^64))) else
 if op=142 then Φm m k (.done {two m k ((φ0 (m.r k*2^32+m.r (k+1)) / 2^n)%2^64).toNat with cc:=Ra23.ccOf (φ0 (m.r k*2^32+m.r (k+1)) / 2^n)}) else
 gSlda m k n
theorem shf_at136 {m:M} {k n:Nat}:shf m 136 k n=Ra23.End.done (Ra23.set m k (m.r k / 2^n)):=by
 unfold shf
 rw [if_pos rfl]
theorem shf_at137 {m:M} {k n:Nat}:shf m 137 k n=Ra23.End.done (Ra23.set m k (m.r k*2^n%Ra23.W)):=by
 unfold shf
 rw [if_neg (by decide),if_pos rfl]
theorem shf_at138 {m:M} {k n:Nat}:shf m 138 k n=Ra23.End.done {Ra23.set m k (Ra23.wrap (Ra23.signed (m.r k) / 2^n)) with cc:=Ra23.ccOf (Ra23.signed (m.r k) / 2^n)}:=by
 unfold shf
 rw [if_neg (by decide),if_neg (by decide),if_pos rfl]
theorem shf_at139 {m:M} {k n:Nat}:shf m 139 k n=gSla m k n:=by
 unfold shf
 rw [if_neg (by decide),if_neg (by decide),if_neg (by decide),if_pos rfl]
theorem shf_at140 {m:M} {k n:Nat}:shf m 140 k n=Φm m k (.done (two m k ((m.r k*2^32+m.r (k+1)) / 2^n))):=by
 unfold shf
 rw [if_neg (by decide),if_neg (by decide),if_neg (by decide),if_neg (by decide),if_pos rfl]
theorem shf_at141 {m:M} {k n:Nat}:shf m 141 k n=Φm m k (.done (two m k ((m.r k*2^32+m.r (k+1))*2^n%2^64))):=by
 unfold shf
 rw [if_neg (by decide),if_neg (by decide),if_neg (by decide),if_neg (by decide),if_neg (by decide),if_pos rfl]
theorem shf_at142 {m:M} {k n:Nat}:shf m 142 k n=Φm m k (.done {two m k ((φ0 (m.r k*2^32+m.r (k+1)) / 2^n)%2^64).toNat with cc:=Ra23.ccOf (φ0 (m.r k*2^32+m.r (k+1)) / 2^n)}):=by
 unfold shf
 rw [if_neg (by decide),if_neg (by decide),if_neg (by decide),if_neg (by decide),if_neg (by decide),if_neg (by decide),if_pos rfl]
theorem shf_at143 {m:M} {k n:Nat}:shf m 143 k n=gSlda m k n:=by
 unfold shf
 rw [if_neg (by decide),if_neg (by decide),if_neg (by decide),if_neg (by decide),if_neg (by decide),if_neg (by decide),if_neg (by decide)]
theorem concl_if (m:M) (x z:Int):(if x≠z then (if 8≤m.mask then Ra23.End.stop 8 {m with cc:=3} else .done {m with cc:=3}) else .done {m with cc:=Ra23.ccOf x})=concl m z (decide (x=z)):=by
 unfold concl
 by_cases h:x=z
 ·subst h
  rw [decide_eq_true rfl,if_pos rfl,if_neg (fun q=>q rfl)]
 ·rw [decide_eq_false h,if_neg (show ¬ false=true by decide),if_pos h]
theorem shf_136 {m:M} {k p:Nat}:Ra23.shift m 8 k p=shf m 136 k (p%64):=by
 rw [shf_at136]
 unfold Ra23.shift; rw [if_neg (by omega)]
 simp only []
theorem shf_137 {m:M} {k p:Nat}:Ra23.shift m 9 k p=shf m 137 k (p%64):=by
 rw [shf_at137]
 unfold Ra23.shift; rw [if_neg (by omega)]
 simp only []
theorem shf_138 {m:M} {k p:Nat}:Ra23.shift m 10 k p=shf m 138 k (p%64):=by
 rw [shf_at138]
 unfold Ra23.shift; rw [if_neg (by omega)]
 simp only []
theorem shf_139 {m:M} {k p:Nat}:Ra23.shift m 11 k p=shf m 139 k (p%64):=by
 rw [shf_at139]
 unfold Ra23.shift gSla
 rw [if_neg (by omega)]
 simp only []
 exact concl_if _ _ _
theorem shf_140 {m:M} {k p:Nat}:Ra23.shift m 12 k p=shf m 140 k (p%64):=by
 rw [shf_at140]
 unfold Ra23.shift Φm
 by_cases c:k%2=1
 ·rw [if_pos ⟨by omega,c⟩,if_pos c]
 ·rw [if_neg (by omega),if_neg c]
  have e:Ra23.W=2^32:=rfl
  simp only [two,φ0,e]
theorem shf_141 {m:M} {k p:Nat}:Ra23.shift m 13 k p=shf m 141 k (p%64):=by
 rw [shf_at141]
 unfold Ra23.shift Φm
 by_cases c:k%2=1
 ·rw [if_pos ⟨by omega,c⟩,if_pos c]
 ·rw [if_neg (by omega),if_neg c]
  have e:Ra23.W=2^32:=rfl
  simp only [two,φ0,e]
theorem shf_142 {m:M} {k p:Nat}:Ra23.shift m 14 k p=shf m 142 k (p%64):=by
 rw [shf_at142]
 unfold Ra23.shift Φm
 by_cases c:k%2=1
 ·rw [if_pos ⟨by omega,c⟩,if_pos c]
 ·rw [if_neg (by omega),if_neg c]
  have e:Ra23.W=2^32:=rfl
  simp only [two,φ0,e]
theorem shf_143 {m:M} {k p:Nat}:Ra23.shift m 15 k p=shf m 143 k (p%64):=by
 rw [shf_at143]
 unfold Ra23.shift gSlda Φm
 by_cases c:k%2=1
 ·rw [if_pos ⟨by omega,c⟩,if_pos c]
 ·rw [if_neg (by omega),if_neg c]
  have e:Ra23.W=2^32:=rfl
  simp only [two,φ0,e]
  exact concl_if _ _ _
theorem shf_eq {m:M} {op k p:Nat} (h1:136≤op) (h2:op≤143):Ra23.shift m (op - 128) k p=shf m op k (p%64):=by
 have hc:op=136∨op=137∨op=138∨op=139∨op=140∨op=141∨op=142∨op=143:=by omega
 rcases hc with rfl | rfl | rfl | rfl | rfl | rfl | rfl | rfl
 ·rw [show 136 - 128=8 from rfl,shf_136]
 ·rw [show 137 - 128=9 from rfl,shf_137]
 ·rw [show 138 - 128=10 from rfl,shf_138]
 ·rw [show 139 - 128=11 from rfl,shf_139]
 ·rw [show 140 - 128=12 from rfl,shf_140]
 ·rw [show 141 - 128=13 from rfl,shf_141]
 ·rw [show 142 - 128=14 from rfl,shf_142]
 ·rw [show 143 - 128=15 from rfl,shf_143]
noncomputable def sp_shift (C CI CS:Addr):Sp:=fun vs H Q E=>∃ (d:Hd) (m:M) (hv op k p:Nat),vs=[.ref d.a,.int op,.int k,.int p]∧136≤op∧op≤143∧k < 16∧Mach C d H m hv∧Out C CI CS d hv H Q E (Ra23.shift m (op - 128) k p)
theorem sc_shift:FnScope ["machine","operation","k","place"] ["machine","operation","k","place"] (ξ (top 114)):=mkS
theorem ok_shift (T:Txt P w K mg base C CI CS) (h:Has K mg "shift" "shift" (top 114)) (tab:TabAt P w K mg base "SHIFTS" 5 ["machine","k","count"] [136,137,138,139,140,141,142,143] (fun op=>SpS (fun m k n=>shf m op k n) C CI CS)):Callee P w K mg base 6 "shift" ["machine","operation","k","place"] (sp_shift C CI CS):=by
 refine ω (k:=5) h sc_shift (fun vs H Q E h=>?_) (fun _ _ _ _ _ _=>ml4 fun _ _ _ _=>rfl) fun f cdv A outer s H vs Q E hr h=>?_
 ·obtain ⟨d,m,hv,op,k,p,rfl,_⟩:=h
  rfl
 obtain ⟨d,m,hv,op,k,p,rfl,ho1,ho2,hk,hM,o⟩:=h
 have hmc:=T.mc
 obtain ⟨ta,kvs,g_SHIFTS,kd,hop⟩:=tab
 refine ⟨_,(θ (χ (υh hr (pe_kix (Ωe g_SHIFTS rfl) (pv 1) (fun _ _=>rfl)) (ζ (pv 0) (ζ (pv 2) (ζ (υ ν0 (pv 3) ι) ν)))))),?_⟩
 rw [shf_eq ho1 ho2] at o
 obtain ⟨h1,h2⟩:=hop op
 obtain ⟨g,hl,fa⟩:=h1 (by simp; omega)
 left
 refine κ4 ?_
 refine rd_kix ?_
 left
 refine ⟨ta,kvs,_,g,rfl,rfl,kd,hl,?_⟩
 refine ⟨g,rfl,fa.kp,?_⟩
 left
 rw [and63]
 exact ⟨5,_,_,by decide,fa,d,m,hv,k,_,rfl,hk,Nat.mod_lt _ (by decide),hM,o.q⟩
noncomputable def Φ7 (m:M) (k j:Nat):Nat:=Ra23.wrap (Ra23.signed (m.r k)+Ra23.signed (m.r j))
noncomputable def stepC (m:M) (j:Nat):Nat:=m.r (if j%2=0 then j+1 else j)
theorem wrap_sum {a b:Nat}:((a:Int)+(b:Int))%2^32=((Ra23.wrap (Ra23.signed a+Ra23.signed b):Nat):Int):=by
 unfold Ra23.wrap Ra23.signed
 split <;> split <;> omega
theorem stepY_lt (m:M) (k j:Nat):Φ7 m k j < 2^32:=by unfold Φ7 Ra23.wrap; omega
theorem or1 {j:Nat} (h:j < 16):Builtin.bitOr (j:Int) 1=(((if j%2=0 then j+1 else j):Nat):Int):=by
 have z:=τ3 j 1
 rw [show ((1:Nat):Int)=1 from rfl] at z
 rw [z]
 have:∀ j:Nat,j < 16→(j ||| 1)=(if j%2=0 then j+1 else j):=by decide
 rw [this j h]
noncomputable def τ4 (C CI CS:Addr):Sp:=fun vs H Q E=>∃ (d:Hd) (m:M) (hv k j:Nat),vs=[.ref d.a,.int k,.int j]∧k < 16∧j < 16∧Mach C d H m hv ∧
 ∀ H',Mach C d H' (Ra23.set m k (Φ7 m k j)) hv→Keep d H H'→Q (.bl (decide (Ra23.signed (stepC m j) < Ra23.signed (Φ7 m k j)))) H'
theorem υ9:FnScope ["machine","k","j","limit"] ["machine","k","j"] (ξ (top 116)):=mkS
theorem ηi (T:Txt P w K mg base C CI CS) (h:Has K mg "step_is_above" "step_is_above" (top 116)) (c_signed:Callee P w K mg base 1 "signed" ["word"] (ξ1 C CI CS)):Callee P w K mg base 2 "step_is_above" ["machine","k","j"] (τ4 C CI CS):=by
 refine ω (k:=1) h υ9 (fun vs H Q E h=>?_) (fun _ _ _ _ _ _=>ml3 fun _ _ _=>rfl) fun f cdv A outer s H vs Q E hr h=>?_
 ·obtain ⟨d,m,hv,k,j,rfl,_⟩:=h
  rfl
 obtain ⟨d,m,hv,k,j,rfl,hk,hj,hM,o⟩:=h
 have hmc:=T.mc
 refine ⟨_,(η (Ξ (i:=3) υ9.nd rfl (Or.inl rfl) (τ c_signed hr (by decide) rfl (ζ (ο0 Φ (Γ (pv 0) rfl) (υ ζ3 (pv 2) ι) (fun _ _=>rfl)) ν))) (η (Γ0 (υ ν0 (υ η0 (ο0 Φ (Γ (pv 0) rfl) (pv 1) (fun _ _=>rfl)) (ο0 Φ (Γ (pv 0) rfl) (pv 2) (fun _ _=>rfl))) (Ω1 T.gWORD_BITS rfl)) (Δ0 (Γ (pv 0) rfl) (pv 1) κ0)) (θ (ω0 (ξ2 op_gt (τ c_signed hr (by decide) rfl (ζ (ο0 Φ (Γ (pv 0) rfl) (pv 1) (fun _ _=>rfl)) ν)) (pv 3) (Ω _)))))),?_⟩
 left
 rw [or1 hj]
 refine rd_ixR hM (by split <;> omega) ?_
 rw [tn]
 refine ⟨_,rfl,hM.ok.reg _,?_⟩
 left
 rw [tn,tn]
 refine θ1 (v:=Φ7 m k j) hM (by omega) (by rw [κe,wrap_sum]; rfl) (stepY_lt m k j) fun H1 hM1 k1=>?_
 rw [tn] at hM1
 left
 rw [tn,set_same]
 refine ⟨_,rfl,stepY_lt m k j,?_⟩
 left
 exact o H1 hM1 k1
noncomputable def SpR (G:M→Nat→Nat→Nat→Ra23.End) (C CI CS:Addr):Sp:=fun vs H Q E=>∃ (d:Hd) (m:M) (hv k j p:Nat),vs=[.ref d.a,.int k,.int j,.int p]∧k < 16∧j < 16∧p < 2^24∧Mach C d H m hv∧Out C CI CS d hv H Q E (G m k j p)
theorem sc_jump_above:FnScope ["machine","k","j","place"] ["machine","k","j","place"] (ξ (top 117)):=mkS
theorem ok_jump_above {f:Addr} (T:Txt P w K mg base C CI CS) (h:HasF K f "jump_above" (top 117)) (c_step_is_above:Callee P w K mg base 2 "step_is_above" ["machine","k","j"] (τ4 C CI CS)):Fa P w K mg base 3 f ["machine","k","j","place"] (SpR (fun m k j p=>.done {Ra23.set m k (Φ7 m k j) with at_:=if Ra23.signed (stepC m j) < Ra23.signed (Φ7 m k j) then p else m.at_}) C CI CS):=by
 refine Ψ0 (k:=2) h sc_jump_above (fun vs H Q E h=>?_) (fun _ _ _ _ _ _=>ml4 fun _ _ _ _=>rfl) fun cdv A outer s H vs Q E hr h=>?_
 ·obtain ⟨d,m,hv,k,j,p,rfl,_⟩:=h
  rfl
 obtain ⟨d,m,hv,k,j,p,rfl,hk,hj,hp,hM,o⟩:=h
 have hmc:=T.mc
 refine ⟨_,(θ (ρ0 (ν4 (τ c_step_is_above hr (by decide) rfl (ζ (pv 0) (ζ (pv 1) (ζ (pv 2) ν))))) (θ (ξ0 (pv 0) (pv 3) rfl)) ι0)),?_⟩
 left
 refine ⟨d,m,hv,k,j,rfl,hk,hj,hM,fun H1 hM1 k1=>?_⟩
 left
 refine Δ (fun c=>?_) (fun c=>?_)
 ·left
  refine υn hM1 hmc rfl rfl hp fun H2 hM2 k2=>o H2 ?_ (k1.trans k2)
  rw [if_pos c]
  exact hM2
 ·refine o H1 ?_ k1
  rw [if_neg c]
  exact hM1
theorem ζg:FnScope ["machine","k","j","place"] ["machine","k","j","place"] (ξ (top 118)):=mkS
theorem υg {f:Addr} (T:Txt P w K mg base C CI CS) (h:HasF K f "jump_not_above" (top 118)) (c_step_is_above:Callee P w K mg base 2 "step_is_above" ["machine","k","j"] (τ4 C CI CS)):Fa P w K mg base 3 f ["machine","k","j","place"] (SpR (fun m k j p=>.done {Ra23.set m k (Φ7 m k j) with at_:=if Ra23.signed (stepC m j) < Ra23.signed (Φ7 m k j) then m.at_ else p}) C CI CS):=by
 refine Ψ0 (k:=2) h ζg (fun vs H Q E h=>?_) (fun _ _ _ _ _ _=>ml4 fun _ _ _ _=>rfl) fun cdv A outer s H vs Q E hr h=>?_
 ·obtain ⟨d,m,hv,k,j,p,rfl,_⟩:=h
  rfl
 obtain ⟨d,m,hv,k,j,p,rfl,hk,hj,hp,hM,o⟩:=h
 have hmc:=T.mc
 refine ⟨_,(θ (ρ0 (φn (ν4 (τ c_step_is_above hr (by decide) rfl (ζ (pv 0) (ζ (pv 1) (ζ (pv 2) ν)))))) (θ (ξ0 (pv 0) (pv 3) rfl)) ι0)),?_⟩
 left
 refine ⟨d,m,hv,k,j,rfl,hk,hj,hM,fun H1 hM1 k1=>?_⟩
 left
 refine υ1 (fun c=>?_) (fun c=>?_)
 ·left
  refine υn hM1 hmc rfl rfl hp fun H2 hM2 k2=>o H2 ?_ (k1.trans k2)
  rw [if_neg c]
  exact hM2
 ·refine o H1 ?_ k1
  rw [if_pos c]
  exact hM1
noncomputable def inM (m:M) (p n:Nat) (e:Ra23.End):Ra23.End:=if p%n≠0 then .stop 6 m else if 65536≤p then .stop 5 m else e
theorem ρ4 {m:M} {p n:Nat} {f:Nat→Ra23.End} (h:n=1∨n=2∨n=4∨n=8):Ra23.word m p n f=inM m p n (f (Ra23.get m p n)):=by
 unfold Ra23.word inM Ra23.inside Ra23.MEMORY
 by_cases c:p%n≠0
 ·rw [if_pos c,if_pos c]
 ·rw [if_neg c,if_neg c]
  have c:p%n=0:=by omega
  by_cases c2:65536≤p
  ·have h3:¬ p+n≤65536:=by rcases h with rfl | rfl | rfl | rfl <;> omega
   rw [decide_eq_false h3,if_pos rfl,if_pos c2]
  ·have h3:p+n≤65536:=by rcases h with rfl | rfl | rfl | rfl <;> omega
   rw [decide_eq_true h3,if_neg (by decide),if_neg c2]
noncomputable def SpM (G:M→Nat→Nat→Ra23.End) (C CI CS:Addr):Sp:=fun vs H Q E=>∃ (d:Hd) (m:M) (hv k p:Nat),vs=[.ref d.a,.int k,.int p]∧k < 16∧p < 2^24∧Mach C d H m hv∧Out C CI CS d hv H Q E (G m k p)
theorem sc_store_half:FnScope ["machine","k","place"] ["machine","k","place"] (ξ (top 125)):=mkS
theorem ok_store_half {f:Addr} (T:Txt P w K mg base C CI CS) (h:HasF K f "store_half" (top 125)) (c_put_half:Callee P w K mg base 4 "put_half" ["machine","place","word"] (φj C CI CS)):Fa P w K mg base 5 f ["machine","k","place"] (SpM (fun m k p=>inM m p 2 (.done (Ra23.put m p 2 (m.r k%65536)))) C CI CS):=by
 refine Ψ0 (k:=4) h sc_store_half (fun vs H Q E h=>?_) (fun _ _ _ _ _ _=>ml3 fun _ _ _=>rfl) fun cdv A outer s H vs Q E hr h=>?_
 ·obtain ⟨d,m,hv,k,p,rfl,_⟩:=h
  rfl
 obtain ⟨d,m,hv,k,p,rfl,hk,hp,hM,o⟩:=h
 have hmc:=T.mc
 refine ⟨_,(θ (χ (τ c_put_half hr (by decide) rfl (ζ (pv 0) (ζ (pv 2) (ζ (ο0 Φ (Γ (pv 0) rfl) (pv 1) (fun _ _=>rfl)) ν)))))),?_⟩
 dsimp only [inM] at o
 left
 rw [tn]
 refine ⟨d,m,hv,p,m.r k,rfl,hM,fun c=>?_,fun c c2=>?_,fun c c2 H' hM' k'=>?_⟩
 ·rw [if_pos c] at o
  exact o.raise hM
 ·rw [if_neg (by omega),if_pos c2] at o
  exact o.raise hM
 ·rw [if_neg (by omega),if_neg (by omega)] at o
  exact o H' hM' k'
theorem sc_load_place:FnScope ["machine","k","place"] ["machine","k","place"] (ξ (top 126)):=mkS
theorem ok_load_place {f:Addr} (T:Txt P w K mg base C CI CS) (h:HasF K f "load_place" (top 126)):Fa P w K mg base 1 f ["machine","k","place"] (SpM (fun m k p=>.done (Ra23.set m k p)) C CI CS):=by
 refine Ψ0 (k:=0) h sc_load_place (fun vs H Q E h=>?_) (fun _ _ _ _ _ _=>ml3 fun _ _ _=>rfl) fun cdv A outer s H vs Q E hr h=>?_
 ·obtain ⟨d,m,hv,k,p,rfl,_⟩:=h
  rfl
 obtain ⟨d,m,hv,k,p,rfl,hk,hp,hM,o⟩:=h
 have hmc:=T.mc
 refine ⟨_,(θ (Γ0 (pv 2) (Δ0 (Γ (pv 0) rfl) (pv 1) κ0))),?_⟩
 left
 refine θ1 hM (by omega) rfl (by omega) fun H1 hM1 k1=>o H1 ?_ k1
 rw [tn] at hM1
 exact hM1
theorem sc_store_byte:FnScope ["machine","k","place"] ["machine","k","place"] (ξ (top 127)):=mkS
theorem ok_store_byte {f:Addr} (T:Txt P w K mg base C CI CS) (h:HasF K f "store_byte" (top 127)) (c_need_room:Callee P w K mg base 3 "need_room" ["place","size"] (τ0 C CI CS)):Fa P w K mg base 4 f ["machine","k","place"] (SpM (fun m k p=>inM m p 1 (.done (Ra23.put m p 1 (m.r k%256)))) C CI CS):=by
 refine Ψ0 (k:=3) h sc_store_byte (fun vs H Q E h=>?_) (fun _ _ _ _ _ _=>ml3 fun _ _ _=>rfl) fun cdv A outer s H vs Q E hr h=>?_
 ·obtain ⟨d,m,hv,k,p,rfl,_⟩:=h
  rfl
 obtain ⟨d,m,hv,k,p,rfl,hk,hp,hM,o⟩:=h
 have hmc:=T.mc
 refine ⟨_,(η (χ (τ c_need_room hr (by decide) rfl (ζ (pv 2) (ζ ι ν)))) (θ (Γ0 (υ ν0 (ο0 Φ (Γ (pv 0) rfl) (pv 1) (fun _ _=>rfl)) ι) (Δ0 (Γ (pv 0) rfl) (pv 2) κ0)))),?_⟩
 dsimp only [inM] at o
 rw [if_neg (by omega)] at o
 left
 refine ⟨_,_,rfl,fun c=>?_,fun c=>?_⟩
 ·rw [if_pos (by omega)] at o
  exact o.raise hM
 rw [if_neg (by omega)] at o
 left
 rw [tn,and255]
 refine Φ1 hM (by omega) rfl (Nat.mod_lt _ (by decide)) fun H1 hM1 k1=>o H1 ?_ k1
 rw [tn] at hM1
 rw [put1,Nat.mod_mod]
 exact hM1
theorem byte_in {r x:Nat} (hr:r < 2^32) (hx:x < 256):Builtin.bitOr (Builtin.bitAnd (r:Int) 4294967040) (x:Int)=((r / 256*256+x:Nat):Int):=by
 have z:=Ξ3 r 4294967040
 rw [show ((4294967040:Nat):Int)=4294967040 from rfl] at z
 have a:=and_high (x:=r) (k:=8) (n:=24) hr
 rw [show 2^(8+24) - 2^8=4294967040 from rfl,show (2:Nat)^8=256 from rfl] at a
 rw [z,a,τ3]
 exact congrArg _ (ω9 (k:=8) hx)
theorem sc_load_byte:FnScope ["machine","k","place"] ["machine","k","place"] (ξ (top 128)):=mkS
theorem ok_load_byte {f:Addr} (T:Txt P w K mg base C CI CS) (h:HasF K f "load_byte" (top 128)) (c_need_room:Callee P w K mg base 3 "need_room" ["place","size"] (τ0 C CI CS)):Fa P w K mg base 4 f ["machine","k","place"] (SpM (fun m k p=>inM m p 1 (.done (Ra23.set m k (m.r k / 256*256+m.mem p)))) C CI CS):=by
 refine Ψ0 (k:=3) h sc_load_byte (fun vs H Q E h=>?_) (fun _ _ _ _ _ _=>ml3 fun _ _ _=>rfl) fun cdv A outer s H vs Q E hr h=>?_
 ·obtain ⟨d,m,hv,k,p,rfl,_⟩:=h
  rfl
 obtain ⟨d,m,hv,k,p,rfl,hk,hp,hM,o⟩:=h
 have hmc:=T.mc
 refine ⟨_,(η (χ (τ c_need_room hr (by decide) rfl (ζ (pv 2) (ζ ι ν)))) (θ (Γ0 (υ ζ3 (υ ν0 (ο0 Φ (Γ (pv 0) rfl) (pv 1) (fun _ _=>rfl)) ι) (ο0 Φ (Γ (pv 0) rfl) (pv 2) (fun _ _=>rfl))) (Δ0 (Γ (pv 0) rfl) (pv 1) κ0)))),?_⟩
 dsimp only [inM] at o
 rw [if_neg (by omega)] at o
 left
 refine ⟨_,_,rfl,fun c=>?_,fun c=>?_⟩
 ·rw [if_pos (by omega)] at o
  exact o.raise hM
 rw [if_neg (by omega)] at o
 have h1:=hM.ok.reg k
 have h2:=hM.ok.mem p
 left
 rw [tn,tn,byte_in h1 h2]
 refine θ1 hM (by omega) rfl (by omega) fun H1 hM1 k1=>o H1 ?_ k1
 rw [tn] at hM1
 exact hM1
theorem half_lt {x:Nat} (h:x < 65536):Ra23.half x < 2^32:=by unfold Ra23.half Ra23.W; split <;> omega
theorem get2_lt {m:M} (h:Ok m) (p:Nat):Ra23.get m p 2 < 65536:=by
 have:=h.mem p
 have:=h.mem (p+1)
 rw [get2]
 omega
theorem get4_lt {m:M} (h:Ok m) (p:Nat):Ra23.get m p 4 < 2^32:=by
 have:=h.mem p
 have:=h.mem (p+1)
 have:=h.mem (p+2)
 have:=h.mem (p+3)
 rw [get4]
 omega
theorem φ9:FnScope ["machine","k","place","product"] ["machine","k","place"] (ξ (top 129)):=mkS
theorem κi {f:Addr} (T:Txt P w K mg base C CI CS) (h:HasF K f "multiply_half" (top 129)) (c_signed:Callee P w K mg base 1 "signed" ["word"] (ξ1 C CI CS)) (c_half_at:Callee P w K mg base 4 "half_at" ["machine","place"] (Ξf C CI CS)):Fa P w K mg base 5 f ["machine","k","place"] (SpM (fun m k p=>inM m p 2 (.done (Ra23.set m k (Ra23.wrap (Ra23.signed (m.r k)*Ra23.signed (Ra23.half (Ra23.get m p 2))))))) C CI CS):=by
 refine Ψ0 (k:=4) h φ9 (fun vs H Q E h=>?_) (fun _ _ _ _ _ _=>ml3 fun _ _ _=>rfl) fun cdv A outer s H vs Q E hr h=>?_
 ·obtain ⟨d,m,hv,k,p,rfl,_⟩:=h
  rfl
 obtain ⟨d,m,hv,k,p,rfl,hk,hp,hM,o⟩:=h
 have hmc:=T.mc
 refine ⟨_,(η (Ξ (i:=3) φ9.nd rfl (Or.inl rfl) (υ χ3 (τ c_signed hr (by decide) rfl (ζ (ο0 Φ (Γ (pv 0) rfl) (pv 1) (fun _ _=>rfl)) ν)) (τ c_signed hr (by decide) rfl (ζ (τ c_half_at hr (by decide) rfl (ζ (pv 0) (ζ (pv 2) ν))) ν)))) (θ (Γ0 (υ ν0 (pv 3) (Ω1 T.gWORD_BITS rfl)) (Δ0 (Γ (pv 0) rfl) (pv 1) κ0)))),?_⟩
 dsimp only [inM] at o
 left
 rw [tn]
 refine ⟨_,rfl,hM.ok.reg k,?_⟩
 left
 refine ⟨d,m,hv,p,rfl,hM,fun c=>?_,fun c c2=>?_,fun c c2=>?_⟩
 ·rw [if_pos c] at o
  exact o.raise hM
 ·rw [if_neg (by omega),if_pos c2] at o
  exact o.raise hM
 rw [if_neg (by omega),if_neg (by omega)] at o
 left
 refine ⟨_,rfl,half_lt (get2_lt hM.ok p),?_⟩
 left
 have r1:=ι4 (hM.ok.reg k)
 refine ζ7 (.inl ⟨by omega,by omega⟩) ?_
 left
 refine θ1 hM (by omega) (ν2 _) (by omega) fun H1 hM1 k1=>o H1 ?_ k1
 rw [tn] at hM1
 exact hM1
theorem sc_store_word:FnScope ["machine","k","place"] ["machine","k","place"] (ξ (top 132)):=mkS
theorem ok_store_word {f:Addr} (T:Txt P w K mg base C CI CS) (h:HasF K f "store_word" (top 132)) (c_put_word:Callee P w K mg base 4 "put_word" ["machine","place","word"] (Ωc C CI CS)):Fa P w K mg base 5 f ["machine","k","place"] (SpM (fun m k p=>inM m p 4 (.done (Ra23.put m p 4 (m.r k)))) C CI CS):=by
 refine Ψ0 (k:=4) h sc_store_word (fun vs H Q E h=>?_) (fun _ _ _ _ _ _=>ml3 fun _ _ _=>rfl) fun cdv A outer s H vs Q E hr h=>?_
 ·obtain ⟨d,m,hv,k,p,rfl,_⟩:=h
  rfl
 obtain ⟨d,m,hv,k,p,rfl,hk,hp,hM,o⟩:=h
 have hmc:=T.mc
 refine ⟨_,(θ (χ (τ c_put_word hr (by decide) rfl (ζ (pv 0) (ζ (pv 2) (ζ (ο0 Φ (Γ (pv 0) rfl) (pv 1) (fun _ _=>rfl)) ν)))))),?_⟩
 dsimp only [inM] at o
 left
 rw [tn]
 refine ⟨d,m,hv,p,m.r k,rfl,hM.ok.reg k,hM,fun c=>?_,fun c c2=>?_,fun c c2 H' hM' k'=>?_⟩
 ·rw [if_pos c] at o
  exact o.raise hM
 ·rw [if_neg (by omega),if_pos c2] at o
  exact o.raise hM
 ·rw [if_neg (by omega),if_neg (by omega)] at o
  exact o H' hM' k'
end
section
variable {P:Program} {w:World} {K:PySem.W.Frag} {mg:Str→Option Value} {base:Heap} {C CI CS:Addr}
noncomputable def Ψ6 (k j:Nat):List V:=(Ra23.span k j).map fun n:Nat=>V.int (n:Int)
noncomputable def ω3 (C CI CS:Addr):Sp:=fun vs H Q _=>∃ k j:Nat,vs=[.int k,.int j]∧k < 16∧j < 16∧∀ p,H p=none→Q (.ref p) (upd H p (.lst (Ψ6 k j)))
theorem Δ3:FnScope ["k","j","more"] ["k","j"] (ξ (top 119)):=mkS
theorem οg (T:Txt P w K mg base C CI CS) (h:Has K mg "registers_from" "registers_from" (top 119)):Callee P w K mg base 1 "registers_from" ["k","j"] (ω3 C CI CS):=by
 refine ω (k:=0) h Δ3 (fun vs H Q E h=>?_) (fun _ _ _ _ _ _=>ml2 fun _ _=>rfl) fun f cdv A outer s H vs Q E hr h=>?_
 ·obtain ⟨k,j,rfl,_⟩:=h
  rfl
 obtain ⟨k,j,rfl,hk,hj,q⟩:=h
 refine ⟨_,(θ (ω0 (pe_lc (own:=[("more",2)]) rfl Δ3.nd (νb rfl T.brange (ζ (υ η0 (υ ιk (υ ο2 (pv 1) (pv 0)) ι) ι) ν)) (blkOk_by (by kernel_rfl)) (fun _ _ _ _ _=>(κ1 (i:=2) Δ3.nd rfl (Or.inl rfl))) (fun _ _ _ _ _=>pts_nil) (fun _ _ _ _ _=>(υ ιk (υ η0 (pv 0) (pv 2)) ι))))),?_⟩
 left
 refine ζ7 (by decide) ?_
 left
 refine ⟨_,rfl,by omega,by omega,fun D hD=>?_⟩
 have en:(((j:Int) - (k:Int))%16+1).toNat=(j+16 - k)%16+1:=by omega
 rw [en]
 refine LC.r (fun t=>.int (((k+t)%16:Nat):Int)) (by have:16≤sizeLine:=(by decide); omega) (fun x=>rfl) (fun t H' R ht hb r=>?_) ?_
 ·left
  refine ζ7 (by decide) ?_
  have e:((k:Int)+(0+(t:Int)))%16=(((k+t)%16:Nat):Int):=by omega
  rw [e]
  exact r
 ·have e:(List.range ((j+16 - k)%16+1)).map (fun t=>V.int (((k+t)%16:Nat):Int))=Ψ6 k j:=by
   unfold Ψ6 Ra23.span
   rw [List.map_map]
   rfl
  rw [e]
  exact q D hD
theorem span_len (k j:Nat):(Ra23.span k j).length=(j+16 - k)%16+1:=by unfold Ra23.span; rw [List.length_map,List.length_range]
theorem ξe (k j:Nat):(Ψ6 k j).length=(Ra23.span k j).length:=by unfold Ψ6; rw [List.length_map]
theorem spanV_at {k j i:Nat} {x:V} (h:(Ψ6 k j)[i]?=some x):x=.int (((Ra23.span k j).getD i 0:Nat):Int)∧i < (Ra23.span k j).length∧(Ra23.span k j).getD i 0 < 16:=by
 unfold Ψ6 at h
 rw [List.getElem?_map] at h
 cases q:(Ra23.span k j)[i]? with
 | none=>rw [q] at h; cases h
 | some n =>
  rw [q] at h
  have hn:(Ra23.span k j).getD i 0=n:=by rw [List.getD_eq_getElem?_getD,q]; rfl
  rw [hn]
  refine ⟨(Option.some.inj h).symm,(List.getElem?_eq_some_iff.mp q).1,?_⟩
  have hm:=List.mem_of_getElem? q
  unfold Ra23.span at hm
  obtain ⟨t,_,rfl⟩:=List.mem_map.mp hm
  exact Nat.mod_lt _ (by decide)
noncomputable def stm (m:M) (k j p i:Nat):M:=(List.range i).foldl (fun n t=>Ra23.put n (p+4*t) 4 (m.r ((Ra23.span k j).getD t 0))) m
theorem stm_succ (m:M) (k j p i:Nat):stm m k j p (i+1)=Ra23.put (stm m k j p i) (p+4*i) 4 (m.r ((Ra23.span k j).getD i 0)):=by
 unfold stm
 rw [List.range_succ,List.foldl_append]
 rfl
theorem stm_r (m:M) (k j p:Nat):∀ i,(stm m k j p i).r=m.r
 | 0=>rfl
 | i+1=>by rw [stm_succ]; exact stm_r m k j p i
noncomputable def ldm (m:M) (k j p i:Nat):M:=(List.range i).foldl (fun n t=>Ra23.set n ((Ra23.span k j).getD t 0) (Ra23.get m (p+4*t) 4)) m
theorem ldm_succ (m:M) (k j p i:Nat):ldm m k j p (i+1)=Ra23.set (ldm m k j p i) ((Ra23.span k j).getD i 0) (Ra23.get m (p+4*i) 4):=by
 unfold ldm
 rw [List.range_succ,List.foldl_append]
 rfl
theorem ldm_mem (m:M) (k j p:Nat):∀ i,(ldm m k j p i).mem=m.mem
 | 0=>rfl
 | i+1=>by rw [ldm_succ]; exact ldm_mem m k j p i
theorem Keep.at {C:Addr} {d:Hd} {H H':Hp} {m:M} {hv:Nat} {L:Addr} {o:HO} (hM:Mach C d H m hv) (hL:H L=none) {H1:Hp} (h1:H1 L=some o) (k:Keep d H1 H'):H' L=some o:=by
 refine k L o h1 (fun e=>?_) (fun e=>?_) (fun e=>?_)
 ·rw [e,hM.ob] at hL; cases hL
 ·rw [e,hM.rg] at hL; cases hL
 ·rw [e,hM.mm] at hL; cases hL
noncomputable def υc (m:M) (k j p:Nat) (e:Ra23.End):Ra23.End:=if p%4≠0 then .stop 6 m else if Ra23.inside p (4*(Ra23.span k j).length)=false then .stop 5 m else e
theorem κj {m:M} {k j p:Nat} {e:Ra23.End} (h:p%4=0) (h2:¬ p+4*(Ra23.span k j).length≤65536):υc m k j p e=.stop 5 m:=by
 unfold υc Ra23.inside Ra23.MEMORY
 rw [if_neg (by omega),decide_eq_false h2,if_pos rfl]
theorem gMany_yes {m:M} {k j p:Nat} {e:Ra23.End} (h:p%4=0) (h2:p+4*(Ra23.span k j).length≤65536):υc m k j p e=e:=by
 unfold υc Ra23.inside Ra23.MEMORY
 rw [if_neg (by omega),decide_eq_true h2,if_neg (by decide)]
theorem Δ4:FnScope ["machine","k","j","place","numbers","index","number"] ["machine","k","j","place"] (ξ (top 120)):=mkS
theorem ok_store_many {f:Addr} (T:Txt P w K mg base C CI CS) (h:HasF K f "store_many" (top 120)) (c_registers_from:Callee P w K mg base 1 "registers_from" ["k","j"] (ω3 C CI CS)) (c_need_unit:Callee P w K mg base 3 "need_unit" ["place","size"] (ζ1 C CI CS)) (c_need_room:Callee P w K mg base 3 "need_room" ["place","size"] (τ0 C CI CS)) (c_put_word:Callee P w K mg base 4 "put_word" ["machine","place","word"] (Ωc C CI CS)):Fa P w K mg base 5 f ["machine","k","j","place"] (SpR (fun m k j p=>υc m k j p (.done (stm m k j p (Ra23.span k j).length))) C CI CS):=by
 refine Ψ0 (k:=4) h Δ4 (fun vs H Q E h=>?_) (fun _ _ _ _ _ _=>ml4 fun _ _ _ _=>rfl) fun cdv A outer s H vs Q E hr h=>?_
 ·obtain ⟨d,m,hv,k,j,p,rfl,_⟩:=h
  rfl
 obtain ⟨d,m,hv,k,j,p,rfl,hk,hj,hp,hM,o⟩:=h
 have hmc:=T.mc
 refine ⟨_,(η (Ξ (i:=4) Δ4.nd rfl (Or.inl rfl) (τ c_registers_from hr (by decide) rfl (ζ (pv 1) (ζ (pv 2) ν)))) (η (χ (τ c_need_unit hr (by decide) rfl (ζ (pv 3) (ζ ι ν)))) (η (χ (τ c_need_room hr (by decide) rfl (ζ (pv 3) (ζ (υ χ3 ι (ζ2 Γ1 rfl T.blen PyProof.Rows.Boot.«len» (ζ (pv 4) ν))) ν)))) (θ (ξ4 PassesOwn.leaving rfl (pi_enum rfl T.benum (ζ (pv 4) ν)) (pg_tup (n:=2) rfl (Δ6 (κ1 (i:=5) Δ4.nd rfl (Or.inl rfl)) (Δ6 (κ1 (i:=6) Δ4.nd rfl (Or.inl rfl)) pgs_nil))) (θ (χ (τ c_put_word hr (by decide) rfl (ζ (pv 0) (ζ (υ η0 (pv 3) (υ χ3 ι (pv 5))) (ζ (ο0 Φ (Γ (pv 0) rfl) (pv 6) (fun _ _=>rfl)) ν))))))))))),?_⟩
 have sl:=span_len k j
 left
 refine ⟨k,j,rfl,hk,hj,fun L hL=>?_⟩
 have hM1:=hM.new (o:=.lst (Ψ6 k j)) hL
 have o1:=o.keep (Keep.new (o:=.lst (Ψ6 k j)) hL)
 have hL1:(upd H L (.lst (Ψ6 k j))) L=some (.lst (Ψ6 k j)):=ο
 generalize hH1:upd H L (.lst (Ψ6 k j))=H1 at hM1 o1 hL1 ⊢
 left
 refine ⟨_,_,rfl,by decide,fun c=>?_,fun c c2=>?_,fun c c2=>?_⟩
 ·have e:υc m k j p (.done (stm m k j p (Ra23.span k j).length))=.stop 6 m:=by unfold υc; rw [if_pos (by omega)]
  dsimp only at o1
  rw [e] at o1
  exact o1.raise hM1
 ·dsimp only at o1
  rw [κj (by omega) (by omega)] at o1
  exact o1.raise hM1
 left
 refine ⟨L,Ψ6 k j,rfl,.inl (SqL.of hL1),?_⟩
 left
 refine ζ7 (.inl ⟨by omega,by omega⟩) ?_
 left
 rw [ξe]
 refine ⟨_,_,rfl,fun c3=>?_,fun c3=>?_⟩
 ·dsimp only at o1
  rw [κj (by omega) (by omega)] at o1
  exact o1.raise hM1
 dsimp only at o1
 rw [gMany_yes (by omega) (by omega)] at o1
 left
 refine ⟨L,_,rfl,SqL.of hL1,?_⟩
 refine FR.e (xs:=Ψ6 k j) (fun i σ' H'=>(∃ o5 o6,σ'=[some (.ref d.a),some (.int k),some (.int j),some (.int p),some (.ref L),o5,o6])∧Mach C d H' (stm m k j p i) hv∧Keep d H1 H') ⟨⟨none,none,rfl⟩,hM1,Keep.refl _ _⟩ (fun i σ' H' _ h=>SqL.of (Keep.at hM hL hL1 h.2.2)) (fun i x σ' H' t hx h ht=>?_) (fun σ' H' h=>?_)
 ·obtain ⟨⟨o5,o6,rfl⟩,hM',k'⟩:=h
  obtain ⟨rfl,hi,hn⟩:=spanV_at hx
  refine ζj ο ?_
  have hM2:=hM'.new (o:=.tup [.int (i:Int),.int (((Ra23.span k j).getD i 0:Nat):Int)]) ht
  have k2:=k'.trans (Keep.new (o:=.tup [.int (i:Int),.int (((Ra23.span k j).getD i 0:Nat):Int)]) ht)
  generalize upd H' t _=H2 at hM2 k2 ⊢
  left
  refine ζ7 (.inl ⟨by omega,by omega⟩) ?_
  left
  rw [tn,stm_r]
  have e:(p:Int)+4*(i:Int)=((p+4*i:Nat):Int):=by omega
  rw [e]
  refine ⟨d,_,hv,p+4*i,_,rfl,hM.ok.reg _,hM2,fun c=>absurd c (by omega),fun _ c=>absurd c (by omega),fun _ _ H3 hM3 k3=>?_⟩
  refine ⟨⟨_,_,rfl⟩,?_,k2.trans k3⟩
  rw [stm_succ]
  exact hM3
 ·obtain ⟨_,hM',k'⟩:=h
  rw [ξe] at hM'
  exact o1 H' hM' k'
theorem ω6:FnScope ["machine","k","j","place","numbers","index","number"] ["machine","k","j","place"] (ξ (top 121)):=mkS
theorem ok_load_many {f:Addr} (T:Txt P w K mg base C CI CS) (h:HasF K f "load_many" (top 121)) (c_registers_from:Callee P w K mg base 1 "registers_from" ["k","j"] (ω3 C CI CS)) (c_need_unit:Callee P w K mg base 3 "need_unit" ["place","size"] (ζ1 C CI CS)) (c_need_room:Callee P w K mg base 3 "need_room" ["place","size"] (τ0 C CI CS)) (c_word_at:Callee P w K mg base 4 "word_at" ["machine","place"] (Δf C CI CS)):Fa P w K mg base 5 f ["machine","k","j","place"] (SpR (fun m k j p=>υc m k j p (.done (ldm m k j p (Ra23.span k j).length))) C CI CS):=by
 refine Ψ0 (k:=4) h ω6 (fun vs H Q E h=>?_) (fun _ _ _ _ _ _=>ml4 fun _ _ _ _=>rfl) fun cdv A outer s H vs Q E hr h=>?_
 ·obtain ⟨d,m,hv,k,j,p,rfl,_⟩:=h
  rfl
 obtain ⟨d,m,hv,k,j,p,rfl,hk,hj,hp,hM,o⟩:=h
 have hmc:=T.mc
 refine ⟨_,(η (Ξ (i:=4) ω6.nd rfl (Or.inl rfl) (τ c_registers_from hr (by decide) rfl (ζ (pv 1) (ζ (pv 2) ν)))) (η (χ (τ c_need_unit hr (by decide) rfl (ζ (pv 3) (ζ ι ν)))) (η (χ (τ c_need_room hr (by decide) rfl (ζ (pv 3) (ζ (υ χ3 ι (ζ2 Γ1 rfl T.blen PyProof.Rows.Boot.«len» (ζ (pv 4) ν))) ν)))) (θ (ξ4 PassesOwn.leaving rfl (pi_enum rfl T.benum (ζ (pv 4) ν)) (pg_tup (n:=2) rfl (Δ6 (κ1 (i:=5) ω6.nd rfl (Or.inl rfl)) (Δ6 (κ1 (i:=6) ω6.nd rfl (Or.inl rfl)) pgs_nil))) (θ (Γ0 (τ c_word_at hr (by decide) rfl (ζ (pv 0) (ζ (υ η0 (pv 3) (υ χ3 ι (pv 5))) ν))) (Δ0 (Γ (pv 0) rfl) (pv 6) κ0)))))))),?_⟩
 have sl:=span_len k j
 left
 refine ⟨k,j,rfl,hk,hj,fun L hL=>?_⟩
 have hM1:=hM.new (o:=.lst (Ψ6 k j)) hL
 have o1:=o.keep (Keep.new (o:=.lst (Ψ6 k j)) hL)
 have hL1:(upd H L (.lst (Ψ6 k j))) L=some (.lst (Ψ6 k j)):=ο
 generalize hH1:upd H L (.lst (Ψ6 k j))=H1 at hM1 o1 hL1 ⊢
 left
 refine ⟨_,_,rfl,by decide,fun c=>?_,fun c c2=>?_,fun c c2=>?_⟩
 ·have e:υc m k j p (.done (ldm m k j p (Ra23.span k j).length))=.stop 6 m:=by unfold υc; rw [if_pos (by omega)]
  dsimp only at o1
  rw [e] at o1
  exact o1.raise hM1
 ·dsimp only at o1
  rw [κj (by omega) (by omega)] at o1
  exact o1.raise hM1
 left
 refine ⟨L,Ψ6 k j,rfl,.inl (SqL.of hL1),?_⟩
 left
 refine ζ7 (.inl ⟨by omega,by omega⟩) ?_
 left
 rw [ξe]
 refine ⟨_,_,rfl,fun c3=>?_,fun c3=>?_⟩
 ·dsimp only at o1
  rw [κj (by omega) (by omega)] at o1
  exact o1.raise hM1
 dsimp only at o1
 rw [gMany_yes (by omega) (by omega)] at o1
 left
 refine ⟨L,_,rfl,SqL.of hL1,?_⟩
 refine FR.e (xs:=Ψ6 k j) (fun i σ' H'=>(∃ o5 o6,σ'=[some (.ref d.a),some (.int k),some (.int j),some (.int p),some (.ref L),o5,o6])∧Mach C d H' (ldm m k j p i) hv∧Keep d H1 H') ⟨⟨none,none,rfl⟩,hM1,Keep.refl _ _⟩ (fun i σ' H' _ h=>SqL.of (Keep.at hM hL hL1 h.2.2)) (fun i x σ' H' t hx h ht=>?_) (fun σ' H' h=>?_)
 ·obtain ⟨⟨o5,o6,rfl⟩,hM',k'⟩:=h
  obtain ⟨rfl,hi,hn⟩:=spanV_at hx
  refine ζj ο ?_
  have hM2:=hM'.new (o:=.tup [.int (i:Int),.int (((Ra23.span k j).getD i 0:Nat):Int)]) ht
  have k2:=k'.trans (Keep.new (o:=.tup [.int (i:Int),.int (((Ra23.span k j).getD i 0:Nat):Int)]) ht)
  generalize upd H' t _=H2 at hM2 k2 ⊢
  left
  refine ζ7 (.inl ⟨by omega,by omega⟩) ?_
  left
  have e:(p:Int)+4*(i:Int)=((p+4*i:Nat):Int):=by omega
  rw [e]
  refine ⟨d,_,hv,p+4*i,rfl,hM2,fun c=>absurd c (by omega),fun _ c=>absurd c (by omega),fun _ _=>?_⟩
  left
  have eg:Ra23.get (ldm m k j p i) (p+4*i) 4=Ra23.get m (p+4*i) 4:=by rw [get4,get4,ldm_mem]
  rw [eg]
  refine θ1 hM2 (by omega) rfl (get4_lt hM.ok _) fun H3 hM3 k3=>?_
  rw [tn] at hM3
  refine ⟨⟨_,_,rfl⟩,?_,k2.trans k3⟩
  rw [ldm_succ]
  exact hM3
 ·obtain ⟨_,hM',k'⟩:=h
  rw [ξe] at hM'
  exact o1 H' hM' k'
end
section
variable {P:Program} {w:World} {K:PySem.W.Frag} {mg:Str→Option Value} {base:Heap} {C CI CS:Addr}
noncomputable def spn (m:M) (op k j p:Nat):Ra23.End :=
 if op=134 then .done {Ra23.set m k (Φ7 m k j) with at_:=if Ra23.signed (stepC m j) < Ra23.signed (Φ7 m k j) then p else m.at_} else
 if op=135 then .done {Ra23.set m k (Φ7 m k j) with at_:=if Ra23.signed (stepC m j) < Ra23.signed (Φ7 m k j) then m.at_ else p} else
 if op=144 then υc m k j p (.done (stm m k j p (Ra23.span k j).length)) else
 υc m k j p (.done (ldm m k j p (Ra23.span k j).length))
theorem rs_134 {m:M} {k j p:Nat}:Ra23.rsOrSi m m.at_ 134 k j p=spn m 134 k j p:=by
 unfold spn
 rw [if_pos rfl]
 unfold Ra23.rsOrSi Φ7 stepC
 rfl
theorem rs_135 {m:M} {k j p:Nat}:Ra23.rsOrSi m m.at_ 135 k j p=spn m 135 k j p:=by
 unfold spn
 rw [if_neg (by decide),if_pos rfl]
 unfold Ra23.rsOrSi Φ7 stepC
 rfl
theorem rs_144 {m:M} {k j p:Nat}:Ra23.rsOrSi m m.at_ 144 k j p=spn m 144 k j p:=by
 unfold spn
 rw [if_neg (by decide),if_neg (by decide),if_pos rfl]
 unfold Ra23.rsOrSi υc stm
 rfl
theorem rs_152 {m:M} {k j p:Nat}:Ra23.rsOrSi m m.at_ 152 k j p=spn m 152 k j p:=by
 unfold spn
 rw [if_neg (by decide),if_neg (by decide),if_neg (by decide)]
 unfold Ra23.rsOrSi υc ldm
 rfl
theorem rs_sh {m:M} {n op k j p:Nat} (h1:136≤op) (h2:op≤143):Ra23.rsOrSi m n op k j p=Ra23.shift m (op - 128) k p:=by
 unfold Ra23.rsOrSi
 split <;> first | (exfalso; omega) | (rw [if_pos ⟨h1,h2⟩]) | (rw [if_pos (by omega)])
theorem rs_no {m:M} {n op k j p:Nat} (h1:op < 145∨151 < op) (h2:op < 136∨143 < op) (h3:op≠134) (h4:op≠135) (h5:op≠144) (h6:op≠152):Ra23.rsOrSi m n op k j p=.stop 1 m:=by
 unfold Ra23.rsOrSi
 split <;> first | (exfalso; omega) | (rw [if_neg (by omega)])
noncomputable def κ9 (C CI CS:Addr):Sp:=fun vs H Q E=>∃ (d:Hd) (m:M) (hv op k j p:Nat),vs=[.ref d.a,.int op,.int k,.int j,.int p]∧(op < 145∨151 < op)∧k < 16∧j < 16∧p < 2^24∧Mach C d H m hv∧Out C CI CS d hv H Q E (Ra23.rsOrSi m m.at_ op k j p)
theorem τ9:FnScope ["machine","operation","k","j","place","action"] ["machine","operation","k","j","place"] (ξ (top 123)):=mkS
theorem ζi (T:Txt P w K mg base C CI CS) (h:Has K mg "two_and_place" "two_and_place" (top 123)) (tab:TabAt P w K mg base "OPERATIONS_spans" 5 ["machine","k","j","place"] [134,135,144,152] (fun op=>SpR (fun m k j p=>spn m op k j p) C CI CS)) (c_shift:Callee P w K mg base 6 "shift" ["machine","operation","k","place"] (sp_shift C CI CS)):Callee P w K mg base 7 "two_and_place" ["machine","operation","k","j","place"] (κ9 C CI CS):=by
 refine ω (k:=6) h τ9 (fun vs H Q E h=>?_) (fun _ _ _ _ _ _=>ml5 fun _ _ _ _ _=>rfl) fun f cdv A outer s H vs Q E hr h=>?_
 ·obtain ⟨d,m,hv,op,k,j,p,rfl,_⟩:=h
  rfl
 obtain ⟨d,m,hv,op,k,j,p,rfl,ho,hk,hj,hp,hM,o⟩:=h
 have hmc:=T.mc
 obtain ⟨ta,kvs,g_OPERATIONS_spans,kd,hop⟩:=tab
 refine ⟨_,(η (ρ0 (η4 ρ6 ρ6 ι (pv 1) ι) (η (χ (τ c_shift hr (by decide) rfl (ζ (pv 0) (ζ (pv 1) (ζ (pv 2) (ζ (pv 4) ν)))))) (θ ps_retN)) ι0) (η (Ξ (i:=5) τ9.nd rfl (Or.inl rfl) (pe_kget (Ωe g_OPERATIONS_spans rfl) (pv 1) ⟨rfl,rfl,rfl,rfl⟩)) (η (ρ0 (Ψ op_isN (pv 5) pe_non (Ω _)) (θ (Ω4 T.rI hr (by decide) rfl (ζ ι ν))) ι0) (θ (χ (υh hr (pv 5) (ζ (pv 0) (ζ (pv 2) (ζ (pv 3) (ζ (pv 4) ν)))))))))),?_⟩
 left
 have rest:¬ (136≤op∧op≤143)→Out C CI CS d hv H Q E (Ra23.rsOrSi m m.at_ op k j p)→(kvs.lookup (op:Int)=none∧Out C CI CS d hv H Q E (.stop 1 m))∨∃ g,kvs.lookup (op:Int)=some g∧Fa P w K mg base 5 g ["machine","k","j","place"] (SpR (fun m k j p=>spn m op k j p) C CI CS)∧Out C CI CS d hv H Q E (spn m op k j p):=by
  intro c o
  by_cases q:op∈[134,135,144,152]
  ·obtain ⟨g,hl,fa⟩:=(hop op).1 q
   refine .inr ⟨g,hl,fa,?_⟩
   have hc:op=134∨op=135∨op=144∨op=152:=by simpa using q
   rcases hc with rfl | rfl | rfl | rfl
   ·rw [← rs_134]; exact o
   ·rw [← rs_135]; exact o
   ·rw [← rs_144]; exact o
   ·rw [← rs_152]; exact o
  ·refine .inl ⟨(hop op).2 q,?_⟩
   simp only [List.mem_cons,List.not_mem_nil,or_false,not_or] at q
   rw [rs_no ho (by omega) q.1 q.2.1 q.2.2.1 q.2.2.2] at o
   exact o
 refine Δ (fun c1=>?_) (fun c1=>?_)
 ·left
  refine Δ (fun c2=>?_) (fun c2=>?_)
  ·rw [rs_sh (by omega) (by omega)] at o
   left
   exact ⟨d,m,hv,op,k,p,rfl,by omega,by omega,hk,hM,o.q⟩
  ·have o:=o
   left
   refine υ4 ?_
   left
   refine ⟨ta,kvs,rfl,kd,?_⟩
   left
   rcases rest (by omega) o with ⟨hl,o⟩ | ⟨g,hl,fa,o⟩
   ·rw [hl]
    refine ⟨rfl,?_⟩
    left
    refine τc ?_
    left
    exact ⟨1,rfl,o.raise hM⟩
   ·rw [hl]
    refine ⟨rfl,?_⟩
    left
    refine Γ9 ?_
    left
    refine κ4 ?_
    left
    refine ⟨g,rfl,fa.kp,?_⟩
    left
    exact ⟨5,_,_,by decide,fa,d,m,hv,k,j,p,rfl,hk,hj,hp,hM,o.q⟩
 ·left
  refine Γ9 ?_
  left
  refine υ4 ?_
  left
  refine ⟨ta,kvs,rfl,kd,?_⟩
  left
  rcases rest (by omega) o with ⟨hl,o⟩ | ⟨g,hl,fa,o⟩
  ·rw [hl]
   refine ⟨rfl,?_⟩
   left
   refine τc ?_
   left
   exact ⟨1,rfl,o.raise hM⟩
  ·rw [hl]
   refine ⟨rfl,?_⟩
   left
   refine Γ9 ?_
   left
   refine κ4 ?_
   left
   refine ⟨g,rfl,fa.kp,?_⟩
   left
   exact ⟨5,_,_,by decide,fa,d,m,hv,k,j,p,rfl,hk,hj,hp,hM,o.q⟩
noncomputable def ηh (C CI CS:Addr):Sp:=fun vs H Q E=>∃ (d:Hd) (m:M) (hv op k p:Nat),vs=[.ref d.a,.int op,.int k,.int p]∧84≤op∧op≤95∧k < 16∧p < 2^24∧Mach C d H m hv∧Out C CI CS d hv H Q E (Ra23.rx m hv m.at_ op k p)
theorem rx_word {m:M} {i n op k p:Nat} (h1:84≤op) (h2:op≤95):Ra23.rx m i n op k p=if (op=92∨op=93)∧k%2=1 then .stop 6 m else inM m p 4 (ω2 m (op - 64) k (Ra23.get m p 4)):=by
 unfold Ra23.rx
 split <;> first
  | (exfalso; omega)
  | (rw [if_pos (by omega)]
     by_cases c:(op=92∨op=93)∧k%2=1
     ·rw [if_pos c,if_pos c]
     ·rw [if_neg c,if_neg c,ρ4 (by omega),arith_hi (by omega),if_pos (by omega)]
      have e:op - 80=op - 64 - 16:=by omega
      rw [e])
theorem sc_with_word:FnScope ["machine","operation","k","place"] ["machine","operation","k","place"] (ξ (top 134)):=mkS
theorem ok_with_word (T:Txt P w K mg base C CI CS) (h:Has K mg "with_word" "with_word" (top 134)) (c_need_even:Callee P w K mg base 3 "need_even" ["number"] (φ6 C CI CS)) (c_with_number:Callee P w K mg base 7 "with_number" ["machine","operation","k","x"] (Φ3 C CI CS)) (c_word_at:Callee P w K mg base 4 "word_at" ["machine","place"] (Δf C CI CS)):Callee P w K mg base 8 "with_word" ["machine","operation","k","place"] (ηh C CI CS):=by
 refine ω (k:=7) h sc_with_word (fun vs H Q E h=>?_) (fun _ _ _ _ _ _=>ml4 fun _ _ _ _=>rfl) fun f cdv A outer s H vs Q E hr h=>?_
 ·obtain ⟨d,m,hv,op,k,p,rfl,_⟩:=h
  rfl
 obtain ⟨d,m,hv,op,k,p,rfl,ho1,ho2,hk,hp,hM,o⟩:=h
 have hmc:=T.mc
 refine ⟨_,(η (ρ0 (pw_or (Ψ ψ1 (pv 1) ι (Ω _)) (Ωj (Ψ ψ1 (pv 1) ι (Ω _)))).pt (θ (χ (τ c_need_even hr (by decide) rfl (ζ (pv 2) ν)))) ι0) (θ (χ (τ c_with_number hr (by decide) rfl (ζ (pv 0) (ζ (υ ο2 (pv 1) ι) (ζ (pv 2) (ζ (τ c_word_at hr (by decide) rfl (ζ (pv 0) (ζ (pv 3) ν))) ν)))))))),?_⟩
 rw [rx_word ho1 ho2] at o
 have fin:¬ ((op=92∨op=93)∧k%2=1)→(p%4≠0→Rs CI H E 6)∧(p%4=0→65536≤p→Rs CI H E 5)∧(p%4=0→p < 65536→Out C CI CS d hv H Q E (ω2 m (op - 64) k (Ra23.get m p 4))):=by
  intro c
  rw [if_neg c] at o
  unfold inM at o
  refine ⟨fun c=>?_,fun c c2=>?_,fun c c2=>?_⟩
  ·rw [if_pos c] at o
   exact o.raise hM
  ·rw [if_neg (by omega),if_pos c2] at o
   exact o.raise hM
  ·rw [if_neg (by omega),if_neg (by omega)] at o
   exact o
 have e:(op:Int) - 64=((op - 64:Nat):Int):=by omega
 left
 refine Δ (fun c1=>?_) (fun c1=>?_)
 ·refine τc ?_
  left
  refine ⟨k,rfl,fun c=>?_,fun c=>?_⟩
  ·rw [if_pos (by omega)] at o
   exact o.raise hM
  obtain ⟨f1,f2,f3⟩:=fin (by omega)
  left
  refine ⟨d,m,hv,p,rfl,hM,f1,f2,fun c c2=>?_⟩
  left
  rw [e]
  exact ⟨d,m,hv,op - 64,k,_,rfl,hk,get4_lt hM.ok p,hM,(f3 c c2).q⟩
 ·left
  refine Δ (fun c2=>?_) (fun c2=>?_)
  ·left
   refine ⟨k,rfl,fun c=>?_,fun c=>?_⟩
   ·rw [if_pos (by omega)] at o
    exact o.raise hM
   obtain ⟨f1,f2,f3⟩:=fin (by omega)
   left
   refine ⟨d,m,hv,p,rfl,hM,f1,f2,fun c c2=>?_⟩
   left
   rw [e]
   exact ⟨d,m,hv,op - 64,k,_,rfl,hk,get4_lt hM.ok p,hM,(f3 c c2).q⟩
  ·obtain ⟨f1,f2,f3⟩:=fin (by omega)
   left
   refine ⟨d,m,hv,p,rfl,hM,f1,f2,fun c c2=>?_⟩
   left
   rw [e]
   exact ⟨d,m,hv,op - 64,k,_,rfl,hk,get4_lt hM.ok p,hM,(f3 c c2).q⟩
end
section
variable {P:Program} {w:World} {K:PySem.W.Frag} {mg:Str→Option Value} {base:Heap} {C CI CS:Addr}
noncomputable def gCvd (m:M) (k p:Nat):Ra23.End:=.done (Ra23.put m p 8 (Ra23.packed ⟨decide (Ra23.signed (m.r k) < 0),(Ra23.signed (m.r k)).natAbs⟩ 8))
noncomputable def gCvb (m:M) (k p:Nat):Ra23.End:=match Ra23.unpacked m p 8 with
  | none=>.stop 7 m
  | some d=>let z:Int:=if d.minus=true then -(d.value:Int) else d.value
   let n:=Ra23.set m k (Ra23.wrap z)
   if z < -(2^31)∨2^31≤z then .stop 9 n else .done n
noncomputable def sto (m:M) (op k p:Nat):Ra23.End :=
 if op=64 then inM m p 2 (.done (Ra23.put m p 2 (m.r k%65536))) else
 if op=65 then .done (Ra23.set m k p) else
 if op=66 then inM m p 1 (.done (Ra23.put m p 1 (m.r k%256))) else
 if op=67 then inM m p 1 (.done (Ra23.set m k (m.r k / 256*256+m.mem p))) else
 if op=76 then inM m p 2 (.done (Ra23.set m k (Ra23.wrap (Ra23.signed (m.r k)*Ra23.signed (Ra23.half (Ra23.get m p 2)))))) else
 if op=78 then inM m p 8 (gCvd m k p) else
 if op=79 then inM m p 8 (gCvb m k p) else
 inM m p 4 (.done (Ra23.put m p 4 (m.r k)))
theorem rx_64 {m:M} {i n k p:Nat}:Ra23.rx m i n 64 k p=sto m 64 k p:=by
 unfold sto
 rw [if_pos rfl]
 exact ρ4 (m:=m) (p:=p) (n:=2) (f:=fun _=>.done (Ra23.put m p 2 (m.r k%65536))) (by decide)
theorem rx_65 {m:M} {i n k p:Nat}:Ra23.rx m i n 65 k p=sto m 65 k p:=by
 unfold sto
 rw [if_neg (by decide),if_pos rfl]
 rfl
theorem rx_66 {m:M} {i n k p:Nat}:Ra23.rx m i n 66 k p=sto m 66 k p:=by
 unfold sto
 rw [if_neg (by decide),if_neg (by decide),if_pos rfl]
 exact ρ4 (m:=m) (p:=p) (n:=1) (f:=fun _=>.done (Ra23.put m p 1 (m.r k%256))) (by decide)
theorem rx_67 {m:M} {i n k p:Nat}:Ra23.rx m i n 67 k p=sto m 67 k p:=by
 unfold sto
 rw [if_neg (by decide),if_neg (by decide),if_neg (by decide),if_pos rfl]
 have e:=ρ4 (m:=m) (p:=p) (n:=1) (f:=fun x=>.done (Ra23.set m k (m.r k / 256*256+x))) (by decide)
 rw [get1] at e
 exact e
theorem rx_76 {m:M} {i n k p:Nat}:Ra23.rx m i n 76 k p=sto m 76 k p:=by
 unfold sto
 rw [if_neg (by decide),if_neg (by decide),if_neg (by decide),if_neg (by decide),if_pos rfl]
 exact ρ4 (m:=m) (p:=p) (n:=2) (f:=fun x=>.done (Ra23.set m k (Ra23.wrap (Ra23.signed (m.r k)*Ra23.signed (Ra23.half x))))) (by decide)
theorem rx_78 {m:M} {i n k p:Nat}:Ra23.rx m i n 78 k p=sto m 78 k p:=by
 unfold sto
 rw [if_neg (by decide),if_neg (by decide),if_neg (by decide),if_neg (by decide),if_neg (by decide),if_pos rfl]
 exact ρ4 (m:=m) (p:=p) (n:=8) (f:=fun _=>gCvd m k p) (by decide)
theorem rx_79 {m:M} {i n k p:Nat}:Ra23.rx m i n 79 k p=sto m 79 k p:=by
 unfold sto
 rw [if_neg (by decide),if_neg (by decide),if_neg (by decide),if_neg (by decide),if_neg (by decide),if_neg (by decide),if_pos rfl]
 exact ρ4 (m:=m) (p:=p) (n:=8) (f:=fun _=>gCvb m k p) (by decide)
theorem rx_80 {m:M} {i n k p:Nat}:Ra23.rx m i n 80 k p=sto m 80 k p:=by
 unfold sto
 rw [if_neg (by decide),if_neg (by decide),if_neg (by decide),if_neg (by decide),if_neg (by decide),if_neg (by decide),if_neg (by decide)]
 exact ρ4 (m:=m) (p:=p) (n:=4) (f:=fun _=>.done (Ra23.put m p 4 (m.r k))) (by decide)
theorem rx_half {m:M} {i n op k p:Nat} (h1:72≤op) (h2:op≤75):Ra23.rx m i n op k p=inM m p 2 (ω2 m (op - 48) k (Ra23.half (Ra23.get m p 2))):=by
 have hc:op=72∨op=73∨op=74∨op=75:=by omega
 rcases hc with rfl | rfl | rfl | rfl
 ·exact ρ4 (m:=m) (p:=p) (n:=2) (f:=fun x=>ω2 m 24 k (Ra23.half x)) (by decide)
 ·exact ρ4 (m:=m) (p:=p) (n:=2) (f:=fun x=>ω2 m 25 k (Ra23.half x)) (by decide)
 ·exact ρ4 (m:=m) (p:=p) (n:=2) (f:=fun x=>ω2 m 26 k (Ra23.half x)) (by decide)
 ·exact ρ4 (m:=m) (p:=p) (n:=2) (f:=fun x=>ω2 m 27 k (Ra23.half x)) (by decide)
theorem rx_jump {m:M} {i op k p:Nat} (h1:69≤op) (h2:op≤71):Ra23.rx m i m.at_ op k p=jmp m i (op - 64) k true p:=by
 have hc:op=69∨op=70∨op=71:=by omega
 rcases hc with rfl | rfl | rfl
 ·rfl
 ·show Ra23.End.done _=Ra23.End.done _
  simp
 ·show Ra23.End.done _=Ra23.End.done _
  simp
theorem no_range {op:Nat} (h1:op < 84∨95 < op):¬ (84≤op∧op < 96):=by omega
theorem rx_no {m:M} {i n op k p:Nat} (h:op∉[64,65,66,67,76,78,79,80]) (h1:op < 84∨95 < op) (h2:op < 72∨75 < op) (h3:op < 69∨71 < op):Ra23.rx m i n op k p=.stop 1 m:=by
 unfold Ra23.rx
 split <;> first | exact absurd (by decide) h | (exfalso; clear h; omega) | (rw [if_neg (no_range h1)])
noncomputable def ν7 (C CI CS:Addr):Sp:=fun vs H Q E=>∃ (d:Hd) (m:M) (hv op k p:Nat),vs=[.ref d.a,.int op,.int k,.int p]∧k < 16∧p < 2^24∧Mach C d H m hv∧Out C CI CS d hv H Q E (Ra23.rx m hv m.at_ op k p)
theorem ξ7:FnScope ["machine","operation","k","place","action"] ["machine","operation","k","place"] (ξ (top 135)):=mkS
theorem ρg (T:Txt P w K mg base C CI CS) (h:Has K mg "one_and_memory" "one_and_memory" (top 135)) (tab:TabAt P w K mg base "OPERATIONS_storage" 6 ["machine","k","place"] [64,65,66,67,76,78,79,80] (fun op=>SpM (fun m k p=>sto m op k p) C CI CS)) (c_with_word:Callee P w K mg base 8 "with_word" ["machine","operation","k","place"] (ηh C CI CS)) (c_with_number:Callee P w K mg base 7 "with_number" ["machine","operation","k","x"] (Φ3 C CI CS)) (c_half_at:Callee P w K mg base 4 "half_at" ["machine","place"] (Ξf C CI CS)) (c_jump:Callee P w K mg base 4 "jump" ["machine","operation","k","wanted","place"] (sp_jump C CI CS)):Callee P w K mg base 9 "one_and_memory" ["machine","operation","k","place"] (ν7 C CI CS):=by
 refine ω (k:=8) h ξ7 (fun vs H Q E h=>?_) (fun _ _ _ _ _ _=>ml4 fun _ _ _ _=>rfl) fun f cdv A outer s H vs Q E hr h=>?_
 ·obtain ⟨d,m,hv,op,k,p,rfl,_⟩:=h
  rfl
 obtain ⟨d,m,hv,op,k,p,rfl,hk,hp,hM,o⟩:=h
 have hmc:=T.mc
 obtain ⟨ta,kvs,g_OPERATIONS_storage,kd,hop⟩:=tab
 refine ⟨_,(θ (ρ0 (η4 ρ6 ρ6 ι (pv 1) ι) (θ (χ (τ c_with_word hr (by decide) rfl (ζ (pv 0) (ζ (pv 1) (ζ (pv 2) (ζ (pv 3) ν))))))) (θ (ρ0 (η4 ρ6 ρ6 ι (pv 1) ι) (θ (χ (τ c_with_number hr (by decide) rfl (ζ (pv 0) (ζ (υ ο2 (pv 1) ι) (ζ (pv 2) (ζ (τ c_half_at hr (by decide) rfl (ζ (pv 0) (ζ (pv 3) ν))) ν))))))) (θ (ρ0 (η4 ρ6 ρ6 ι (pv 1) ι) (θ (χ (τ c_jump hr (by decide) rfl (ζ (pv 0) (ζ (υ ο2 (pv 1) ι) (ζ (pv 2) (ζ pe_bl (ζ (pv 3) ν)))))))) (η (Ξ (i:=4) ξ7.nd rfl (Or.inl rfl) (pe_kget (Ωe g_OPERATIONS_storage rfl) (pv 1) ⟨rfl,rfl,rfl,rfl⟩)) (η (ρ0 (Ψ op_isN (pv 4) pe_non (Ω _)) (θ (Ω4 T.rI hr (by decide) rfl (ζ ι ν))) ι0) (θ (χ (υh hr (pv 4) (ζ (pv 0) (ζ (pv 2) (ζ (pv 3) ν)))))))))))))),?_⟩
 have rest:(op < 84∨95 < op)→(op < 72∨75 < op)→(op < 69∨71 < op)→Out C CI CS d hv H Q E (Ra23.rx m hv m.at_ op k p)→(kvs.lookup (op:Int)=none∧Out C CI CS d hv H Q E (.stop 1 m))∨∃ g,kvs.lookup (op:Int)=some g∧Fa P w K mg base 6 g ["machine","k","place"] (SpM (fun m k p=>sto m op k p) C CI CS)∧Out C CI CS d hv H Q E (sto m op k p):=by
  intro c1 c2 c3 o
  by_cases q:op∈[64,65,66,67,76,78,79,80]
  ·obtain ⟨g,hl,fa⟩:=(hop op).1 q
   refine .inr ⟨g,hl,fa,?_⟩
   have hc:op=64∨op=65∨op=66∨op=67∨op=76∨op=78∨op=79∨op=80:=by simpa using q
   rcases hc with rfl | rfl | rfl | rfl | rfl | rfl | rfl | rfl
   ·rw [← rx_64 (i:=hv) (n:=m.at_)]; exact o
   ·rw [← rx_65 (i:=hv) (n:=m.at_)]; exact o
   ·rw [← rx_66 (i:=hv) (n:=m.at_)]; exact o
   ·rw [← rx_67 (i:=hv) (n:=m.at_)]; exact o
   ·rw [← rx_76 (i:=hv) (n:=m.at_)]; exact o
   ·rw [← rx_78 (i:=hv) (n:=m.at_)]; exact o
   ·rw [← rx_79 (i:=hv) (n:=m.at_)]; exact o
   ·rw [← rx_80 (i:=hv) (n:=m.at_)]; exact o
  ·refine .inl ⟨(hop op).2 q,?_⟩
   rw [rx_no q c1 c2 c3] at o
   exact o
 have tab:(op < 84∨95 < op)→(op < 72∨75 < op)→(op < 69∨71 < op)→_:=fun c1 c2 c3=>rest c1 c2 c3 o
 clear rest
 left
 refine Δ (fun a0=>?_) (fun a0=>?_)
 ·left
  refine Δ (fun b0=>?_) (fun b0=>?_)
  ·left
   exact ⟨d,m,hv,op,k,p,rfl,by omega,by omega,hk,hp,hM,o.q⟩
  ·left
   refine Δ (fun a1=>?_) (fun a1=>?_)
   ·left
    refine Δ (fun b1=>?_) (fun b1=>?_)
    ·rw [rx_half (by omega) (by omega)] at o
     unfold inM at o
     left
     refine ⟨d,m,hv,p,rfl,hM,fun c=>?_,fun c c2=>?_,fun c c2=>?_⟩
     ·rw [if_pos c] at o
      exact o.raise hM
     ·rw [if_neg (by omega),if_pos c2] at o
      exact o.raise hM
     rw [if_neg (by omega),if_neg (by omega)] at o
     left
     have e:(op:Int) - 48=((op - 48:Nat):Int):=by omega
     rw [e]
     exact ⟨d,m,hv,op - 48,k,_,rfl,hk,half_lt (get2_lt hM.ok p),hM,o.q⟩
    ·left
     refine Δ (fun a2=>?_) (fun a2=>?_)
     ·left
      refine Δ (fun b2=>?_) (fun b2=>?_)
      ·rw [rx_jump (by omega) (by omega)] at o
       left
       have e:(op:Int) - 64=((op - 64:Nat):Int):=by omega
       rw [e]
       exact ⟨d,m,hv,op - 64,k,true,p,rfl,by omega,by omega,hk,hp,hM,o.q⟩
      ·left
       left
       refine υ4 ?_
       left
       refine ⟨ta,kvs,rfl,kd,?_⟩
       left
       rcases tab (by omega) (by omega) (by omega) with ⟨hl,o⟩ | ⟨g,hl,fa,o⟩
       ·rw [hl]
        refine ⟨rfl,?_⟩
        left
        refine τc ?_
        left
        exact ⟨1,rfl,o.raise hM⟩
       ·rw [hl]
        refine ⟨rfl,?_⟩
        left
        refine Γ9 ?_
        left
        refine κ4 ?_
        left
        refine ⟨g,rfl,fa.kp,?_⟩
        left
        exact ⟨6,_,_,by decide,fa,d,m,hv,k,p,rfl,hk,hp,hM,o.q⟩
     ·left
      refine Γ9 ?_
      left
      left
      refine υ4 ?_
      left
      refine ⟨ta,kvs,rfl,kd,?_⟩
      left
      rcases tab (by omega) (by omega) (by omega) with ⟨hl,o⟩ | ⟨g,hl,fa,o⟩
      ·rw [hl]
       refine ⟨rfl,?_⟩
       left
       refine τc ?_
       left
       exact ⟨1,rfl,o.raise hM⟩
      ·rw [hl]
       refine ⟨rfl,?_⟩
       left
       refine Γ9 ?_
       left
       refine κ4 ?_
       left
       refine ⟨g,rfl,fa.kp,?_⟩
       left
       exact ⟨6,_,_,by decide,fa,d,m,hv,k,p,rfl,hk,hp,hM,o.q⟩
   ·left
    refine Γ9 ?_
    left
    refine Δ (fun a2=>?_) (fun a2=>?_)
    ·left
     refine Δ (fun b2=>?_) (fun b2=>?_)
     ·rw [rx_jump (by omega) (by omega)] at o
      left
      have e:(op:Int) - 64=((op - 64:Nat):Int):=by omega
      rw [e]
      exact ⟨d,m,hv,op - 64,k,true,p,rfl,by omega,by omega,hk,hp,hM,o.q⟩
     ·left
      left
      refine υ4 ?_
      left
      refine ⟨ta,kvs,rfl,kd,?_⟩
      left
      rcases tab (by omega) (by omega) (by omega) with ⟨hl,o⟩ | ⟨g,hl,fa,o⟩
      ·rw [hl]
       refine ⟨rfl,?_⟩
       left
       refine τc ?_
       left
       exact ⟨1,rfl,o.raise hM⟩
      ·rw [hl]
       refine ⟨rfl,?_⟩
       left
       refine Γ9 ?_
       left
       refine κ4 ?_
       left
       refine ⟨g,rfl,fa.kp,?_⟩
       left
       exact ⟨6,_,_,by decide,fa,d,m,hv,k,p,rfl,hk,hp,hM,o.q⟩
    ·left
     refine Γ9 ?_
     left
     left
     refine υ4 ?_
     left
     refine ⟨ta,kvs,rfl,kd,?_⟩
     left
     rcases tab (by omega) (by omega) (by omega) with ⟨hl,o⟩ | ⟨g,hl,fa,o⟩
     ·rw [hl]
      refine ⟨rfl,?_⟩
      left
      refine τc ?_
      left
      exact ⟨1,rfl,o.raise hM⟩
     ·rw [hl]
      refine ⟨rfl,?_⟩
      left
      refine Γ9 ?_
      left
      refine κ4 ?_
      left
      refine ⟨g,rfl,fa.kp,?_⟩
      left
      exact ⟨6,_,_,by decide,fa,d,m,hv,k,p,rfl,hk,hp,hM,o.q⟩
 ·left
  refine Γ9 ?_
  left
  refine Δ (fun a1=>?_) (fun a1=>?_)
  ·left
   refine Δ (fun b1=>?_) (fun b1=>?_)
   ·rw [rx_half (by omega) (by omega)] at o
    unfold inM at o
    left
    refine ⟨d,m,hv,p,rfl,hM,fun c=>?_,fun c c2=>?_,fun c c2=>?_⟩
    ·rw [if_pos c] at o
     exact o.raise hM
    ·rw [if_neg (by omega),if_pos c2] at o
     exact o.raise hM
    rw [if_neg (by omega),if_neg (by omega)] at o
    left
    have e:(op:Int) - 48=((op - 48:Nat):Int):=by omega
    rw [e]
    exact ⟨d,m,hv,op - 48,k,_,rfl,hk,half_lt (get2_lt hM.ok p),hM,o.q⟩
   ·left
    refine Δ (fun a2=>?_) (fun a2=>?_)
    ·left
     refine Δ (fun b2=>?_) (fun b2=>?_)
     ·rw [rx_jump (by omega) (by omega)] at o
      left
      have e:(op:Int) - 64=((op - 64:Nat):Int):=by omega
      rw [e]
      exact ⟨d,m,hv,op - 64,k,true,p,rfl,by omega,by omega,hk,hp,hM,o.q⟩
     ·left
      left
      refine υ4 ?_
      left
      refine ⟨ta,kvs,rfl,kd,?_⟩
      left
      rcases tab (by omega) (by omega) (by omega) with ⟨hl,o⟩ | ⟨g,hl,fa,o⟩
      ·rw [hl]
       refine ⟨rfl,?_⟩
       left
       refine τc ?_
       left
       exact ⟨1,rfl,o.raise hM⟩
      ·rw [hl]
       refine ⟨rfl,?_⟩
       left
       refine Γ9 ?_
       left
       refine κ4 ?_
       left
       refine ⟨g,rfl,fa.kp,?_⟩
       left
       exact ⟨6,_,_,by decide,fa,d,m,hv,k,p,rfl,hk,hp,hM,o.q⟩
    ·left
     refine Γ9 ?_
     left
     left
     refine υ4 ?_
     left
     refine ⟨ta,kvs,rfl,kd,?_⟩
     left
     rcases tab (by omega) (by omega) (by omega) with ⟨hl,o⟩ | ⟨g,hl,fa,o⟩
     ·rw [hl]
      refine ⟨rfl,?_⟩
      left
      refine τc ?_
      left
      exact ⟨1,rfl,o.raise hM⟩
     ·rw [hl]
      refine ⟨rfl,?_⟩
      left
      refine Γ9 ?_
      left
      refine κ4 ?_
      left
      refine ⟨g,rfl,fa.kp,?_⟩
      left
      exact ⟨6,_,_,by decide,fa,d,m,hv,k,p,rfl,hk,hp,hM,o.q⟩
  ·left
   refine Γ9 ?_
   left
   refine Δ (fun a2=>?_) (fun a2=>?_)
   ·left
    refine Δ (fun b2=>?_) (fun b2=>?_)
    ·rw [rx_jump (by omega) (by omega)] at o
     left
     have e:(op:Int) - 64=((op - 64:Nat):Int):=by omega
     rw [e]
     exact ⟨d,m,hv,op - 64,k,true,p,rfl,by omega,by omega,hk,hp,hM,o.q⟩
    ·left
     left
     refine υ4 ?_
     left
     refine ⟨ta,kvs,rfl,kd,?_⟩
     left
     rcases tab (by omega) (by omega) (by omega) with ⟨hl,o⟩ | ⟨g,hl,fa,o⟩
     ·rw [hl]
      refine ⟨rfl,?_⟩
      left
      refine τc ?_
      left
      exact ⟨1,rfl,o.raise hM⟩
     ·rw [hl]
      refine ⟨rfl,?_⟩
      left
      refine Γ9 ?_
      left
      refine κ4 ?_
      left
      refine ⟨g,rfl,fa.kp,?_⟩
      left
      exact ⟨6,_,_,by decide,fa,d,m,hv,k,p,rfl,hk,hp,hM,o.q⟩
   ·left
    refine Γ9 ?_
    left
    left
    refine υ4 ?_
    left
    refine ⟨ta,kvs,rfl,kd,?_⟩
    left
    rcases tab (by omega) (by omega) (by omega) with ⟨hl,o⟩ | ⟨g,hl,fa,o⟩
    ·rw [hl]
     refine ⟨rfl,?_⟩
     left
     refine τc ?_
     left
     exact ⟨1,rfl,o.raise hM⟩
    ·rw [hl]
     refine ⟨rfl,?_⟩
     left
     refine Γ9 ?_
     left
     refine κ4 ?_
     left
     refine ⟨g,rfl,fa.kp,?_⟩
     left
     exact ⟨6,_,_,by decide,fa,d,m,hv,k,p,rfl,hk,hp,hM,o.q⟩
end
section
variable {P:Program} {w:World} {K:PySem.W.Frag} {mg:Str→Option Value} {base:Heap} {C CI CS:Addr}
theorem φ1 (m:M) (p n:Nat):Ra23.nibbles m p (n+1)=Ra23.nibbles m p n++[m.mem (p+n) / 16,m.mem (p+n)%16]:=by
 unfold Ra23.nibbles
 rw [List.range_succ,List.flatMap_append]
 rfl
noncomputable def Δ9 (m:M) (p n:Nat):List Nat:=Ra23.nibbles m p n++[m.mem (p+n) / 16]
noncomputable def ι7 (l:List Nat):Nat:=l.foldl (fun v x=>10*v+x) 0
theorem dval_snoc (l:List Nat) (x:Nat):ι7 (l++[x])=10*ι7 l+x:=by unfold ι7; rw [List.foldl_append]; rfl
theorem dval_two (l:List Nat) (x y:Nat):ι7 (l++[x,y])=10*(10*ι7 l+x)+y:=by unfold ι7; rw [List.foldl_append]; rfl
noncomputable def Γf (l:List Nat):Bool:=l.all fun x=>decide (x < 10)
theorem ωf (l:List Nat) (x:Nat):Γf (l++[x])=(Γf l && decide (x < 10)):=by unfold Γf; rw [List.all_append]; simp
theorem ψf (l:List Nat) (x y:Nat):Γf (l++[x,y])=(Γf l && (decide (x < 10) && decide (y < 10))):=by unfold Γf; rw [List.all_append]; simp
noncomputable def sgn (m:M) (p n:Nat):Nat:=m.mem (p+n)%16
theorem Ξc (m:M) (p n:Nat):Ra23.unpacked m p (n+1)=if Γf (Δ9 m p n)=false∨sgn m p n < 10 then none else some ⟨sgn m p n == 11 || sgn m p n == 13,ι7 (Δ9 m p n)⟩:=by
 have e1:(Ra23.nibbles m p (n+1)).dropLast=Δ9 m p n:=by
  rw [φ1]
  unfold Δ9
  rw [show [m.mem (p+n) / 16,m.mem (p+n)%16]=[m.mem (p+n) / 16]++[m.mem (p+n)%16] from rfl,← List.append_assoc,List.dropLast_concat]
 have e2:(Ra23.nibbles m p (n+1)).getLast?.getD 0=sgn m p n:=by
  rw [φ1]
  unfold sgn
  simp
 unfold Ra23.unpacked
 simp only [e1,e2]
 rfl
theorem all_nib {m:M} {p:Nat}:∀ {n i:Nat},i≤n→Γf (Ra23.nibbles m p n)=true→Γf (Ra23.nibbles m p i)=true
 | 0,i,h,q=>by
  have e:i=0:=by omega
  subst e
  exact q
 | n+1,i,h,q=>by
  by_cases c:i=n+1
  ·subst c; exact q
  ·rw [φ1,ψf,Bool.and_eq_true] at q
   exact all_nib (by omega) q.1
theorem bad_hi {m:M} {p n i:Nat} (hi:i≤n) (h:¬ m.mem (p+i) / 16 < 10):Γf (Δ9 m p n)=false:=by
 unfold Δ9
 rw [ωf]
 by_cases c:i=n
 ·subst c
  rw [decide_eq_false h,Bool.and_false]
 ·cases q:Γf (Ra23.nibbles m p n) with
  | false=>rfl
  | true =>
   have z:=all_nib (i:=i+1) (by omega) q
   rw [φ1,ψf,decide_eq_false h,Bool.false_and,Bool.and_false] at z
   cases z
theorem bad_lo {m:M} {p n i:Nat} (hi:i < n) (h:¬ m.mem (p+i)%16 < 10):Γf (Δ9 m p n)=false:=by
 unfold Δ9
 rw [ωf]
 cases q:Γf (Ra23.nibbles m p n) with
 | false=>rfl
 | true =>
  have z:=all_nib (i:=i+1) (by omega) q
  rw [φ1,ψf,decide_eq_false h,Bool.and_false,Bool.and_false] at z
  cases z
noncomputable def ν3 (C CI CS:Addr):Sp:=fun vs H Q E=>∃ (d:Hd) (m:M) (hv p n:Nat),vs=[.ref d.a,.int p,.int ((n+1:Nat):Int)]∧p+n < 65536∧Mach C d H m hv∧(Γf (Δ9 m p n)=false→Rs CI H E 7)∧(Γf (Δ9 m p n)=true→Q (.int ((ι7 (Δ9 m p n):Nat):Int)) H)
theorem ο1:FnScope ["machine","place","size","last","magnitude","at","byte"] ["machine","place","size"] (ξ (top 31)):=mkS
theorem υk (T:Txt P w K mg base C CI CS) (h:Has K mg "magnitude_at" "magnitude_at" (top 31)):Callee P w K mg base 3 "magnitude_at" ["machine","place","size"] (ν3 C CI CS):=by
 refine ω (k:=2) h ο1 (fun vs H Q E h=>?_) (fun _ _ _ _ _ _=>ml3 fun _ _ _=>rfl) fun f cdv A outer s H vs Q E hr h=>?_
 ·obtain ⟨d,m,hv,p,n,rfl,_⟩:=h
  rfl
 obtain ⟨d,m,hv,p,n,rfl,hp,hM,hbad,hq⟩:=h
 have hmc:=T.mc
 refine ⟨_,(η (Ξ (i:=3) ο1.nd rfl (Or.inl rfl) (υ ο2 (υ η0 (pv 1) (pv 2)) ι)) (η (Ξ (i:=4) ο1.nd rfl (Or.inl rfl) ι) (η (ξ4 PassesOwn.leaving rfl (ρ7 rfl T.brange (ζ (pv 1) (ζ (υ η0 (pv 3) ι) ν))) (κ1 (i:=5) ο1.nd rfl (Or.inl rfl)) (η (Ξ (i:=6) ο1.nd rfl (Or.inl rfl) (ο0 Φ (Γ (pv 0) rfl) (pv 5) (fun _ _=>rfl))) (η (ρ0 (pw_or (Ψ op_gt (υ ρ2 (pv 6) ι) ι (Ω _)) (Ωj (pw_and (Ψ op_gt (υ ν0 (pv 6) ι) ι (Ω _)) (ζk (Ψ ξb (pv 5) (pv 3) (Ω _)))).pt)).pt (θ (Ω4 T.rI hr (by decide) rfl (ζ ι ν))) ι0) (η (Ξ (i:=4) ο1.nd rfl (Or.inl rfl) (υ η0 (υ χ3 (pv 4) ι) (υ ρ2 (pv 6) ι))) (θ (ρ0 (Ψ ξb (pv 5) (pv 3) (Ω _)) (θ (Ξ (i:=4) ο1.nd rfl (Or.inl rfl) (υ η0 (υ χ3 (pv 4) ι) (υ ν0 (pv 6) ι)))) ι0)))))) (θ (ω0 (pv 4)))))),?_⟩
 left
 refine ⟨_,_,rfl,⟨by omega,by omega,by omega,by omega⟩,?_⟩
 have en:((p:Int)+((n+1:Nat):Int) - 1+1 - (p:Int)).toNat=n+1:=by omega
 rw [en]
 have el:(p:Int)+((n+1:Nat):Int) - 1=((p+n:Nat):Int):=by omega
 rw [el]
 refine FR.r (fun i σ' H'=>H'=H∧∃ o5 o6,σ'=[some (.ref d.a),some (.int p),some (.int ((n+1:Nat):Int)),some (.int ((p+n:Nat):Int)),some (.int (if i≤n then ((ι7 (Ra23.nibbles m p i):Nat):Int) else ((ι7 (Δ9 m p n):Nat):Int))),o5,o6]∧Γf (if i≤n then Ra23.nibbles m p i else Δ9 m p n)=true) ⟨rfl,none,none,rfl,rfl⟩ (fun i σ' H' hi h=>?_) (fun σ' H' h=>?_)
 ·obtain ⟨rfl,o5,o6,rfl,hall⟩:=h
  have hi':i≤n:=by omega
  rw [if_pos hi'] at hall ⊢
  have eat:(p:Int)+(i:Int)=((p+i:Nat):Int):=by omega
  rw [eat]
  have hb:=hM.ok.mem (p+i)
  left
  rw [tn]
  refine χh (n:=4) rfl ?_
  rw [shrN]
  left
  refine Δ (fun c1=>?_) (fun c1=>?_)
  ·refine τc ?_
   left
   exact ⟨7,rfl,hbad (bad_hi hi' (by omega))⟩
  left
  rw [Δb]
  refine Δ (fun c2=>?_) (fun c2=>?_)
  ·left
   refine υ1 (fun c3=>?_) (fun c3=>?_)
   ·left
    exact ⟨7,rfl,hbad (bad_lo (i:=i) (by omega) (by omega))⟩
   ·left
    refine ζ7 (.inr ⟨by decide,by decide⟩) ?_
    left
    refine χh (n:=4) rfl ?_
    rw [shrN]
    left
    refine υ1 (fun c4=>?_) (fun c4=>?_)
    ·left
     refine ζ7 (.inr ⟨by decide,by decide⟩) ?_
     left
     rw [Δb]
     have hn:i < n:=by omega
     refine ⟨rfl,some (.int ((p+i:Nat):Int)),some (.int ((m.mem (p+i):Nat):Int)),?_,?_⟩
     ·rw [if_pos (by omega),φ1,dval_two]
      have e:(((ι7 (Ra23.nibbles m p i):Nat):Int)*10+((m.mem (p+i) / 2^4:Nat):Int))*10+((m.mem (p+i)%16:Nat):Int)=((10*(10*ι7 (Ra23.nibbles m p i)+m.mem (p+i) / 16)+m.mem (p+i)%16:Nat):Int):=by omega
      rw [← e]
      rfl
     ·rw [if_pos (by omega),φ1,ψf,hall,decide_eq_true (by omega),decide_eq_true (by omega)]
      rfl
    ·have hn:i=n:=by omega
     subst hn
     refine ⟨rfl,some (.int ((p+i:Nat):Int)),some (.int ((m.mem (p+i):Nat):Int)),?_,?_⟩
     ·rw [if_neg (by omega)]
      unfold Δ9
      rw [dval_snoc]
      have e:((ι7 (Ra23.nibbles m p i):Nat):Int)*10+((m.mem (p+i) / 2^4:Nat):Int)=((10*ι7 (Ra23.nibbles m p i)+m.mem (p+i) / 16:Nat):Int):=by omega
      rw [← e]
      rfl
     ·rw [if_neg (by omega)]
      unfold Δ9
      rw [ωf,hall,decide_eq_true (by omega)]
      rfl
  ·refine Γ9 ?_
   left
   refine ζ7 (.inr ⟨by decide,by decide⟩) ?_
   left
   refine χh (n:=4) rfl ?_
   rw [shrN]
   left
   refine υ1 (fun c4=>?_) (fun c4=>?_)
   ·left
    refine ζ7 (.inr ⟨by decide,by decide⟩) ?_
    left
    rw [Δb]
    have hn:i < n:=by omega
    refine ⟨rfl,some (.int ((p+i:Nat):Int)),some (.int ((m.mem (p+i):Nat):Int)),?_,?_⟩
    ·rw [if_pos (by omega),φ1,dval_two]
     have e:(((ι7 (Ra23.nibbles m p i):Nat):Int)*10+((m.mem (p+i) / 2^4:Nat):Int))*10+((m.mem (p+i)%16:Nat):Int)=((10*(10*ι7 (Ra23.nibbles m p i)+m.mem (p+i) / 16)+m.mem (p+i)%16:Nat):Int):=by omega
     rw [← e]
     rfl
    ·rw [if_pos (by omega),φ1,ψf,hall,decide_eq_true (by omega),decide_eq_true (by omega)]
     rfl
   ·have hn:i=n:=by omega
    subst hn
    refine ⟨rfl,some (.int ((p+i:Nat):Int)),some (.int ((m.mem (p+i):Nat):Int)),?_,?_⟩
    ·rw [if_neg (by omega)]
     unfold Δ9
     rw [dval_snoc]
     have e:((ι7 (Ra23.nibbles m p i):Nat):Int)*10+((m.mem (p+i) / 2^4:Nat):Int)=((10*ι7 (Ra23.nibbles m p i)+m.mem (p+i) / 16:Nat):Int):=by omega
     rw [← e]
     rfl
    ·rw [if_neg (by omega)]
     unfold Δ9
     rw [ωf,hall,decide_eq_true (by omega)]
     rfl
 ·obtain ⟨rfl,o5,o6,rfl,hall⟩:=h
  rw [if_neg (by omega)] at hall ⊢
  left
  exact hq hall
end
section
variable {P:Program} {w:World} {K:PySem.W.Frag} {mg:Str→Option Value} {base:Heap} {C CI CS:Addr}
noncomputable def PlusOk (K:PySem.W.Frag) (mg:Str→Option Value):Prop:=∃ a,mg "PLUS"=some (.ref a)∧∀ H,SqT K H a [.int 10,.int 12,.int 14,.int 15]
theorem notPlus {s:Nat} (h1:10≤s) (h2:s < 16):(!inV (.int (s:Int)) [.int 10,.int 12,.int 14,.int 15])=(s == 11 || s == 13):=by
 have:∀ s:Nat,s < 16→10≤s→(!inV (.int (s:Int)) [.int 10,.int 12,.int 14,.int 15])=(s == 11 || s == 13):=by decide
 exact this s h2 h1
noncomputable def ζ8 (C CI CS:Addr):Sp:=fun vs H Q E=>∃ (d:Hd) (m:M) (hv p n:Nat),vs=[.ref d.a,.int p,.int ((n+1:Nat):Int)]∧p+n < 65536∧Mach C d H m hv∧(sgn m p n < 10→Rs CI H E 7)∧(10≤sgn m p n→Q (.bl (sgn m p n == 11 || sgn m p n == 13)) H)
theorem Ξj:FnScope ["machine","place","size","half"] ["machine","place","size"] (ξ (top 32)):=mkS
theorem ok_minus_at (T:Txt P w K mg base C CI CS) (h:Has K mg "minus_at" "minus_at" (top 32)) (plus:PlusOk K mg):Callee P w K mg base 3 "minus_at" ["machine","place","size"] (ζ8 C CI CS):=by
 refine ω (k:=2) h Ξj (fun vs H Q E h=>?_) (fun _ _ _ _ _ _=>ml3 fun _ _ _=>rfl) fun f cdv A outer s H vs Q E hr h=>?_
 ·obtain ⟨d,m,hv,p,n,rfl,_⟩:=h
  rfl
 obtain ⟨d,m,hv,p,n,rfl,hp,hM,hbad,hq⟩:=h
 have hmc:=T.mc
 obtain ⟨ap,g_PLUS,hap⟩:=plus
 refine ⟨_,(η (Ξ (i:=3) Ξj.nd rfl (Or.inl rfl) (υ ν0 (ο0 Φ (Γ (pv 0) rfl) (υ ο2 (υ η0 (pv 1) (pv 2)) ι) (fun _ _=>rfl)) ι)) (η (ρ0 (Ψ ξg (pv 3) ι (Ω _)) (θ (Ω4 T.rI hr (by decide) rfl (ζ ι ν))) ι0) (θ (ω0 (ξ2 op_notIn_seq (pv 3) (Ωe g_PLUS rfl) rfl))))),?_⟩
 have hs:sgn m p n < 16:=Nat.mod_lt _ (by decide)
 left
 have el:(p:Int)+((n+1:Nat):Int) - 1=((p+n:Nat):Int):=by omega
 rw [el,tn,Δb]
 show if decide ((((sgn m p n:Nat):Int)) < 10)=true then _ else _
 refine Δ (fun c=>?_) (fun c=>?_)
 ·left
  exact ⟨7,rfl,hbad (by omega)⟩
 ·left
  refine ⟨ap,_,rfl,.inr (hap _),rfl,rfl,?_⟩
  show Q (.bl (!inV (.int ((sgn m p n:Nat):Int)) [.int 10,.int 12,.int 14,.int 15])) H
  rw [notPlus (by omega) hs]
  exact hq (by omega)
noncomputable def Ξ9 (d:Ra23.Dec):Int:=if d.minus=true then -(d.value:Int) else d.value
noncomputable def η3 (C CI CS:Addr):Sp:=fun vs H Q E=>∃ (d:Hd) (m:M) (hv p n:Nat),vs=[.ref d.a,.int p,.int ((n+1:Nat):Int)]∧p+n < 65536∧Mach C d H m hv∧(Ra23.unpacked m p (n+1)=none→Rs CI H E 7)∧(∀ x,Ra23.unpacked m p (n+1)=some x→Q (.int (Ξ9 x)) H)
theorem ξh:FnScope ["machine","place","size","magnitude"] ["machine","place","size"] (ξ (top 33)):=mkS
theorem ok_packed_at (T:Txt P w K mg base C CI CS) (h:Has K mg "packed_at" "packed_at" (top 33)) (c_magnitude_at:Callee P w K mg base 3 "magnitude_at" ["machine","place","size"] (ν3 C CI CS)) (c_minus_at:Callee P w K mg base 3 "minus_at" ["machine","place","size"] (ζ8 C CI CS)):Callee P w K mg base 4 "packed_at" ["machine","place","size"] (η3 C CI CS):=by
 refine ω (k:=3) h ξh (fun vs H Q E h=>?_) (fun _ _ _ _ _ _=>ml3 fun _ _ _=>rfl) fun f cdv A outer s H vs Q E hr h=>?_
 ·obtain ⟨d,m,hv,p,n,rfl,_⟩:=h
  rfl
 obtain ⟨d,m,hv,p,n,rfl,hp,hM,hbad,hq⟩:=h
 have hmc:=T.mc
 refine ⟨_,(η (Ξ (i:=3) ξh.nd rfl (Or.inl rfl) (τ c_magnitude_at hr (by decide) rfl (ζ (pv 0) (ζ (pv 1) (ζ (pv 2) ν))))) (θ (ω0 (Ψ1 (ν4 (τ c_minus_at hr (by decide) rfl (ζ (pv 0) (ζ (pv 1) (ζ (pv 2) ν))))) (Ψe υ6 (pv 3)) (pv 3))))),?_⟩
 rw [Ξc] at hbad hq
 left
 refine ⟨d,m,hv,p,n,rfl,hp,hM,fun c=>hbad (if_pos (.inl c)),fun c=>?_⟩
 left
 refine ⟨d,m,hv,p,n,rfl,hp,hM,fun c2=>hbad (if_pos (.inr c2)),fun c2=>?_⟩
 have hx:=hq _ (if_neg (by rw [c]; simp; omega))
 unfold Ξ9 at hx
 dsimp only at hx
 left
 refine Ω2 (fun c3=>?_) (fun c3=>?_)
 ·left
  rw [if_pos c3] at hx
  exact hx
 ·left
  rw [if_neg (by rw [c3]; decide)] at hx
  exact hx
noncomputable def κ5 (C CI CS:Addr):Sp:=fun vs H Q _=>∃ n:Nat,vs=[.int ((n+1:Nat):Int)]∧n < 100∧Q (.int ((10^(2*n+1):Nat):Int)) H
theorem ρ3:FnScope ["size","limit","more"] ["size"] (ξ (top 35)):=mkS
theorem τk (T:Txt P w K mg base C CI CS) (h:Has K mg "packed_limit" "packed_limit" (top 35)):Callee P w K mg base 1 "packed_limit" ["size"] (κ5 C CI CS):=by
 refine ω (k:=0) h ρ3 (fun vs H Q E h=>?_) (fun _ _ _ _ _ _=>ml1 fun _=>rfl) fun f cdv A outer s H vs Q E hr h=>?_
 ·obtain ⟨n,rfl,_⟩:=h
  rfl
 obtain ⟨n,rfl,hn,hq⟩:=h
 refine ⟨_,(η (Ξ (i:=1) ρ3.nd rfl (Or.inl rfl) ι) (η (ξ4 PassesOwn.leaving rfl (νb rfl T.brange (ζ (υ ο2 (pv 0) ι) ν)) (κ1 (i:=2) ρ3.nd rfl (Or.inl rfl)) (θ (Ξ (i:=1) ρ3.nd rfl (Or.inl rfl) (υ χ3 (pv 1) ι)))) (θ (ω0 (pv 1))))),?_⟩
 left
 refine ⟨_,rfl,by omega,by omega,?_⟩
 have en:(((n+1:Nat):Int) - 1).toNat=n:=by omega
 rw [en]
 refine FR.r (fun i σ' H'=>H'=H∧∃ o2,σ'=[some (.int ((n+1:Nat):Int)),some (.int ((10^(2*i+1):Nat):Int)),o2]) ⟨rfl,none,rfl⟩ (fun i σ' H' hi h=>?_) (fun σ' H' h=>?_)
 ·obtain ⟨rfl,o2,rfl⟩:=h
  left
  refine ζ7 (.inr ⟨by decide,by decide⟩) ?_
  left
  refine ⟨rfl,some (.int (0+(i:Int))),?_⟩
  have e0:10^(2*(i+1)+1)=10^(2*i+1)*100:=by rw [show 2*(i+1)+1=(2*i+1)+2 by omega,Nat.pow_add]
  have e:((10^(2*i+1):Nat):Int)*100=((10^(2*(i+1)+1):Nat):Int):=by
   rw [e0]
   generalize 10^(2*i+1)=z
   omega
  rw [e]
  rfl
 ·obtain ⟨rfl,o2,rfl⟩:=h
  left
  exact hq
theorem put_front (m:M) {q k x b:Nat} (hx:x < 256^k) (hb:b < 256):Ra23.byteIn (Ra23.put m (q+1) k x) q b=Ra23.put m q (k+1) (b*256^k+x):=by
 unfold Ra23.byteIn Ra23.put
 congr 1
 funext t
 show (if t=q then b else if q+1≤t∧t < q+1+k then x / 256^(k - 1 - (t - (q+1)))%256 else m.mem t)=_
 by_cases c:t=q
 ·subst c
  rw [if_pos rfl,if_pos (by omega),Nat.sub_self,Nat.sub_zero,Nat.add_sub_cancel,Nat.add_comm,Nat.add_mul_div_right _ _ (Nat.pow_pos (by decide)),Nat.div_eq_of_lt hx,Nat.zero_add,Nat.mod_eq_of_lt hb]
 ·rw [if_neg c]
  by_cases c2:q+1≤t∧t < q+1+k
  ·rw [if_pos c2,if_pos (by omega)]
   have e:k+1 - 1 - (t - q)=k - 1 - (t - (q+1)):=by omega
   rw [e]
   generalize hg:k - 1 - (t - (q+1))=g
   have e2:256^k=256^(k - 1 - g)*256*256^g:=by rw [← Nat.pow_succ,← Nat.pow_add]; congr 1; omega
   rw [e2,← Nat.mul_assoc,Nat.add_comm,Nat.add_mul_div_right _ _ (Nat.pow_pos (by decide)),← Nat.mul_assoc,Nat.add_mul_mod_self_right]
  ·rw [if_neg c2,if_neg (by omega)]
theorem pf_lt:∀ (k v:Nat),Ra23.packedFrom v k < 16^k
 | 0,v=>by show 0 < 16^0; decide
 | k+1,v=>by
  have:=pf_lt k (v / 10)
  show Ra23.packedFrom (v / 10) k*16+v%10 < _
  rw [Nat.pow_succ]
  omega
theorem pf_top:∀ (k v:Nat),Ra23.packedFrom v (k+1)=v / 10^k%10*16^k+Ra23.packedFrom v k
 | 0,v=>by
  show 0*16+v%10=v / 1%10*1+0
  rw [Nat.div_one]
  omega
 | k+1,v=>by
  show Ra23.packedFrom (v / 10) (k+1)*16+v%10=_+(Ra23.packedFrom (v / 10) k*16+v%10)
  rw [pf_top k (v / 10),Nat.div_div_eq_div_mul,show 10*10^k=10^(k+1) by rw [Nat.pow_succ,Nat.mul_comm],Nat.pow_succ 16 k,Nat.add_mul,← Nat.mul_assoc,Nat.add_assoc]
noncomputable def sg (b:Bool):Nat:=if b=true then 13 else 12
noncomputable def pk (v:Nat) (b:Bool) (i:Nat):Nat:=Ra23.packedFrom v (2*i+1)*16+sg b
theorem sg_lt (b:Bool):sg b < 16:=by cases b <;> decide
theorem pk_lt (v:Nat) (b:Bool) (i:Nat):pk v b i < 256^(i+1):=by
 have h1:=pf_lt (2*i+1) v
 have h2:=sg_lt b
 have e:256^(i+1)=16^(2*i+1)*16:=(by rw [← Nat.pow_succ,show 256=16^2 from rfl,← Nat.pow_mul]; rfl)
 unfold pk
 rw [e]
 omega
theorem pk_succ (v:Nat) (b:Bool) (i:Nat):pk v b (i+1)=(v / 10^(2*i+1) / 10%10*16+v / 10^(2*i+1)%10)*256^(i+1)+pk v b i:=by
 unfold pk
 rw [show 2*(i+1)+1=2*i+1+1+1 by omega,pf_top,pf_top,Nat.div_div_eq_div_mul,← Nat.pow_succ,show 256^(i+1)=16^(2*i+1)*16 from (by rw [← Nat.pow_succ,show 256=16^2 from rfl,← Nat.pow_mul]; rfl),Nat.pow_succ 16 (2*i+1)]
 generalize v / 10^(2*i+1+1)%10=a
 generalize v / 10^(2*i+1)%10=c
 generalize 16^(2*i+1)=z
 generalize Ra23.packedFrom v (2*i+1)=y
 rw [Nat.add_mul,Nat.add_mul,Nat.add_mul]
 have e1:a*(z*16)*16=a*16*(z*16):=Nat.mul_right_comm a (z*16) 16
 have e2:c*z*16=c*(z*16):=by rw [Nat.mul_assoc]
 rw [e1,e2]
 omega
noncomputable def κ3 (C CI CS:Addr):Sp:=fun vs H Q E=>∃ (d:Hd) (m:M) (hv p n v:Nat) (b:Bool),vs=[.ref d.a,.int p,.int ((n+1:Nat):Int),.int v,.bl b]∧p+n < 65536∧n < 100∧Mach C d H m hv∧∀ H',Mach C d H' (Ra23.put m p (n+1) (Ra23.packed ⟨b,v⟩ (n+1))) hv→Keep d H H'→Q .non H'
theorem packed_pk (v n:Nat) (b:Bool):Ra23.packed ⟨b,v⟩ (n+1)=pk v b n:=by
 unfold Ra23.packed pk sg
 rw [show 2*(n+1) - 1=2*n+1 by omega]
theorem νj {a b:Nat} (ha:a < 10) (hb:b < 16):Builtin.bitOr ((a:Int)*2^4) (b:Int)=((a*16+b:Nat):Int):=θ4 (k:=4) hb
theorem divI (v n:Nat):(v:Int) / ((n:Nat):Int)=((v / n:Nat):Int):=by push_cast; rfl
theorem modI (v n:Nat):(v:Int)%((n:Nat):Int)=((v%n:Nat):Int):=by push_cast; rfl
theorem ξ3:FnScope ["machine","place","size","magnitude","minus","last","left","at"] ["machine","place","size","magnitude","minus"] (ξ (top 34)):=mkS
theorem ok_put_packed (T:Txt P w K mg base C CI CS) (h:Has K mg "put_packed" "put_packed" (top 34)):Callee P w K mg base 1 "put_packed" ["machine","place","size","magnitude","minus"] (κ3 C CI CS):=by
 refine ω (k:=0) h ξ3 (fun vs H Q E h=>?_) (fun _ _ _ _ _ _=>ml5 fun _ _ _ _ _=>rfl) fun f cdv A outer s H vs Q E hr h=>?_
 ·obtain ⟨d,m,hv,p,n,v,b,rfl,_⟩:=h
  rfl
 obtain ⟨d,m,hv,p,n,v,b,rfl,hp,hn,hM,hq⟩:=h
 have hmc:=T.mc
 refine ⟨_,(η (Ξ (i:=5) ξ3.nd rfl (Or.inl rfl) (υ ο2 (υ η0 (pv 1) (pv 2)) ι)) (η (Γ0 (υ ζ3 (υ φ3 (υ ιk (pv 3) ι) ι) (Ψ1 (ν4 (pv 4)) ι ι)) (Δ0 (Γ (pv 0) rfl) (pv 5) κ0)) (η (Ξ (i:=6) ξ3.nd rfl (Or.inl rfl) (υ op_fdiv (pv 3) ι)) (θ (ξ4 PassesOwn.leaving rfl (pi_range3 rfl T.brange (ζ (υ ο2 (pv 5) ι) (ζ (υ ο2 (pv 1) ι) (ζ (Ψe υ6 ι) ν)))) (κ1 (i:=7) ξ3.nd rfl (Or.inl rfl)) (η (Γ0 (υ ζ3 (υ φ3 (υ ιk (υ op_fdiv (pv 6) ι) ι) ι) (υ ιk (pv 6) ι)) (Δ0 (Γ (pv 0) rfl) (pv 7) κ0)) (θ (Ξ (i:=6) ξ3.nd rfl (Or.inl rfl) (υ op_fdiv (pv 6) ι))))))))),?_⟩
 rw [packed_pk] at hq
 have el:(p:Int)+((n+1:Nat):Int) - 1=((p+n:Nat):Int):=by omega
 have em:(v:Int)%10=((v%10:Nat):Int):=modI v 10
 have ed:(v:Int) / 10=((v / 10:Nat):Int):=divI v 10
 have en:(((p+n:Nat):Int) - 1 - ((p:Int) - 1)).toNat=n:=by omega
 left
 rw [el]
 refine ζ7 (by decide) ?_
 left
 rw [em]
 refine sh8 (n:=4) ⟨_,rfl,by omega⟩ rfl (by decide) ?_
 left
 have hsb:=sg_lt b
 refine Ω2 (fun cb=>?_) (fun cb=>?_)
 ·left
  have hy:(13:Int)=((sg b:Nat):Int):=by rw [cb]; rfl
  refine Φ1 (v:=v%10*16+sg b) hM (by omega) (by rw [hy]; exact νj (by omega) hsb) (by omega) fun H1 hM1 k1=>?_
  rw [tn] at hM1
  left
  refine ζ7 ⟨by decide,by decide⟩ ?_
  rw [ed]
  left
  refine ⟨_,_,_,_,rfl,RgC.neg (by omega) (by omega) (by omega) (by omega),?_⟩
  rw [en]
  refine FR.c (fun i σ' H'=>∃ o7,σ'=[some (.ref d.a),some (.int p),some (.int ((n+1:Nat):Int)),some (.int v),some (.bl b),some (.int ((p+n:Nat):Int)),some (.int ((v / 10^(2*i+1):Nat):Int)),o7]∧Mach C d H' (Ra23.put m (p+n - i) (i+1) (pk v b i)) hv∧Keep d H H') ⟨none,rfl,?_,k1⟩ (fun i σ' H' hi h=>?_) (fun σ' H' h=>?_)
  ·rw [put1,Nat.mod_eq_of_lt (pk_lt v b 0),Nat.sub_zero]
   have e:pk v b 0=v%10*16+sg b:=by
    show (0*16+v%10)*16+sg b=_
    omega
   rw [e]
   exact hM1
  ·obtain ⟨o7,rfl,hM',k'⟩:=h
   have ea:((p+n:Nat):Int) - 1+(i:Int) * -1=((p+n - (i+1):Nat):Int):=by omega
   rw [ea]
   have hps:=pk_succ v b i
   have hlt:=pk_lt v b i
   have e100:v / 10^(2*i+1) / 100=v / 10^(2*(i+1)+1):=by
    rw [Nat.div_div_eq_div_mul,show 2*(i+1)+1=(2*i+1)+2 by omega,Nat.pow_add 10 (2*i+1) 2]
   generalize hu:v / 10^(2*i+1)=u at hps e100 ⊢
   have e1:(u:Int) / 10=((u / 10:Nat):Int):=divI u 10
   have e2:((u / 10:Nat):Int)%10=((u / 10%10:Nat):Int):=modI (u / 10) 10
   have e3:(u:Int)%10=((u%10:Nat):Int):=modI u 10
   have e4:(u:Int) / 100=((u / 100:Nat):Int):=divI u 100
   left
   refine ζ7 ⟨by decide,by decide⟩ ?_
   rw [e1]
   left
   refine ζ7 (by decide) ?_
   rw [e2]
   left
   refine sh8 (n:=4) ⟨_,rfl,by omega⟩ rfl (by decide) ?_
   left
   refine ζ7 (by decide) ?_
   rw [e3]
   left
   refine Φ1 (v:=u / 10%10*16+u%10) hM' (by omega) (νj (by omega) (by omega)) (by omega) fun H2 hM2 k2=>?_
   rw [tn] at hM2
   left
   refine ζ7 ⟨by decide,by decide⟩ ?_
   rw [e4,e100]
   refine ⟨some (.int ((p+n - (i+1):Nat):Int)),rfl,?_,k'.trans k2⟩
   have pf:=put_front m (q:=p+n - (i+1)) (k:=i+1) hlt (show u / 10%10*16+u%10 < 256 by omega)
   rw [show p+n - (i+1)+1=p+n - i by omega,← hps] at pf
   rw [← pf]
   exact hM2
  ·obtain ⟨o7,rfl,hM',k'⟩:=h
   rw [show p+n - n=p by omega] at hM'
   exact hq H' hM' k'
 ·left
  have hy:(12:Int)=((sg b:Nat):Int):=by rw [cb]; rfl
  refine Φ1 (v:=v%10*16+sg b) hM (by omega) (by rw [hy]; exact νj (by omega) hsb) (by omega) fun H1 hM1 k1=>?_
  rw [tn] at hM1
  left
  refine ζ7 ⟨by decide,by decide⟩ ?_
  rw [ed]
  left
  refine ⟨_,_,_,_,rfl,RgC.neg (by omega) (by omega) (by omega) (by omega),?_⟩
  rw [en]
  refine FR.c (fun i σ' H'=>∃ o7,σ'=[some (.ref d.a),some (.int p),some (.int ((n+1:Nat):Int)),some (.int v),some (.bl b),some (.int ((p+n:Nat):Int)),some (.int ((v / 10^(2*i+1):Nat):Int)),o7]∧Mach C d H' (Ra23.put m (p+n - i) (i+1) (pk v b i)) hv∧Keep d H H') ⟨none,rfl,?_,k1⟩ (fun i σ' H' hi h=>?_) (fun σ' H' h=>?_)
  ·rw [put1,Nat.mod_eq_of_lt (pk_lt v b 0),Nat.sub_zero]
   have e:pk v b 0=v%10*16+sg b:=by
    show (0*16+v%10)*16+sg b=_
    omega
   rw [e]
   exact hM1
  ·obtain ⟨o7,rfl,hM',k'⟩:=h
   have ea:((p+n:Nat):Int) - 1+(i:Int) * -1=((p+n - (i+1):Nat):Int):=by omega
   rw [ea]
   have hps:=pk_succ v b i
   have hlt:=pk_lt v b i
   have e100:v / 10^(2*i+1) / 100=v / 10^(2*(i+1)+1):=by
    rw [Nat.div_div_eq_div_mul,show 2*(i+1)+1=(2*i+1)+2 by omega,Nat.pow_add 10 (2*i+1) 2]
   generalize hu:v / 10^(2*i+1)=u at hps e100 ⊢
   have e1:(u:Int) / 10=((u / 10:Nat):Int):=divI u 10
   have e2:((u / 10:Nat):Int)%10=((u / 10%10:Nat):Int):=modI (u / 10) 10
   have e3:(u:Int)%10=((u%10:Nat):Int):=modI u 10
   have e4:(u:Int) / 100=((u / 100:Nat):Int):=divI u 100
   left
   refine ζ7 ⟨by decide,by decide⟩ ?_
   rw [e1]
   left
   refine ζ7 (by decide) ?_
   rw [e2]
   left
   refine sh8 (n:=4) ⟨_,rfl,by omega⟩ rfl (by decide) ?_
   left
   refine ζ7 (by decide) ?_
   rw [e3]
   left
   refine Φ1 (v:=u / 10%10*16+u%10) hM' (by omega) (νj (by omega) (by omega)) (by omega) fun H2 hM2 k2=>?_
   rw [tn] at hM2
   left
   refine ζ7 ⟨by decide,by decide⟩ ?_
   rw [e4,e100]
   refine ⟨some (.int ((p+n - (i+1):Nat):Int)),rfl,?_,k'.trans k2⟩
   have pf:=put_front m (q:=p+n - (i+1)) (k:=i+1) hlt (show u / 10%10*16+u%10 < 256 by omega)
   rw [show p+n - (i+1)+1=p+n - i by omega,← hps] at pf
   rw [← pf]
   exact hM2
  ·obtain ⟨o7,rfl,hM',k'⟩:=h
   rw [show p+n - n=p by omega] at hM'
   exact hq H' hM' k'
end
section
variable {P:Program} {w:World} {K:PySem.W.Frag} {mg:Str→Option Value} {base:Heap} {C CI CS:Addr}
theorem rd_iteNB {b:Bool} {A B:Prop} (h1:b=false→A) (h2:b=true→B):if (!b)=true then A else B:=by
 cases b
 ·rw [if_pos (by decide)]; exact h1 rfl
 ·rw [if_neg (by decide)]; exact h2 rfl
theorem decV_eq (x:Ra23.Dec):(if x.minus=true then -(x.value:Int) else x.value)=Ξ9 x:=rfl
theorem Φa:FnScope ["machine","k","place","number"] ["machine","k","place"] (ξ (top 130)):=mkS
theorem ξk {f:Addr} (T:Txt P w K mg base C CI CS) (h:HasF K f "store_packed" (top 130)) (c_need_unit:Callee P w K mg base 3 "need_unit" ["place","size"] (ζ1 C CI CS)) (c_signed:Callee P w K mg base 1 "signed" ["word"] (ξ1 C CI CS)) (c_put_packed:Callee P w K mg base 1 "put_packed" ["machine","place","size","magnitude","minus"] (κ3 C CI CS)):Fa P w K mg base 4 f ["machine","k","place"] (SpM (fun m k p=>inM m p 8 (gCvd m k p)) C CI CS):=by
 refine Ψ0 (k:=3) h Φa (fun vs H Q E h=>?_) (fun _ _ _ _ _ _=>ml3 fun _ _ _=>rfl) fun cdv A outer s H vs Q E hr h=>?_
 ·obtain ⟨d,m,hv,k,p,rfl,_⟩:=h
  rfl
 obtain ⟨d,m,hv,k,p,rfl,hk,hp,hM,o⟩:=h
 have hmc:=T.mc
 refine ⟨_,(η (χ (τ c_need_unit hr (by decide) rfl (ζ (pv 2) (ζ ι ν)))) (η (Ξ (i:=3) Φa.nd rfl (Or.inl rfl) (τ c_signed hr (by decide) rfl (ζ (ο0 Φ (Γ (pv 0) rfl) (pv 1) (fun _ _=>rfl)) ν))) (θ (χ (τ c_put_packed hr (by decide) rfl (ζ (pv 0) (ζ (pv 2) (ζ ι (ζ (ζ2 φ5 rfl T.babs PyProof.Rows.Boot.«abs» (ζ (pv 3) ν)) (ζ (ξ2 ξg (pv 3) ι (Ω _)) ν)))))))))),?_⟩
 dsimp only [inM,gCvd] at o
 left
 refine ⟨_,_,rfl,by decide,fun c=>?_,fun c c2=>?_,fun c c2=>?_⟩
 ·rw [if_pos (by omega)] at o
  exact o.raise hM
 ·rw [if_neg (by omega),if_pos (by omega)] at o
  exact o.raise hM
 rw [if_neg (by omega),if_neg (by omega)] at o
 left
 rw [tn]
 refine ⟨_,rfl,hM.ok.reg k,?_⟩
 left
 exact ⟨d,m,hv,p,7,_,_,rfl,by omega,by decide,hM,o⟩
theorem Γc:FnScope ["machine","k","place","number"] ["machine","k","place"] (ξ (top 131)):=mkS
theorem Γm {f:Addr} (T:Txt P w K mg base C CI CS) (h:HasF K f "load_packed" (top 131)) (c_need_unit:Callee P w K mg base 3 "need_unit" ["place","size"] (ζ1 C CI CS)) (c_packed_at:Callee P w K mg base 4 "packed_at" ["machine","place","size"] (η3 C CI CS)) (c_fits_word:Callee P w K mg base 1 "fits_word" ["number"] (χ6 C CI CS)):Fa P w K mg base 5 f ["machine","k","place"] (SpM (fun m k p=>inM m p 8 (gCvb m k p)) C CI CS):=by
 refine Ψ0 (k:=4) h Γc (fun vs H Q E h=>?_) (fun _ _ _ _ _ _=>ml3 fun _ _ _=>rfl) fun cdv A outer s H vs Q E hr h=>?_
 ·obtain ⟨d,m,hv,k,p,rfl,_⟩:=h
  rfl
 obtain ⟨d,m,hv,k,p,rfl,hk,hp,hM,o⟩:=h
 have hmc:=T.mc
 refine ⟨_,(η (χ (τ c_need_unit hr (by decide) rfl (ζ (pv 2) (ζ ι ν)))) (η (Ξ (i:=3) Γc.nd rfl (Or.inl rfl) (τ c_packed_at hr (by decide) rfl (ζ (pv 0) (ζ (pv 2) (ζ ι ν))))) (η (Γ0 (υ ν0 (pv 3) (Ω1 T.gWORD_BITS rfl)) (Δ0 (Γ (pv 0) rfl) (pv 1) κ0)) (θ (ρ0 (φn (ν4 (τ c_fits_word hr (by decide) rfl (ζ (pv 3) ν)))) (θ (Ω4 T.rI hr (by decide) rfl (ζ ι ν))) ι0))))),?_⟩
 dsimp only [inM] at o
 left
 refine ⟨_,_,rfl,by decide,fun c=>?_,fun c c2=>?_,fun c c2=>?_⟩
 ·rw [if_pos (by omega)] at o
  exact o.raise hM
 ·rw [if_neg (by omega),if_pos (by omega)] at o
  exact o.raise hM
 rw [if_neg (by omega),if_neg (by omega)] at o
 unfold gCvb at o
 left
 refine ⟨d,m,hv,p,7,rfl,by omega,hM,fun c3=>?_,fun x hx=>?_⟩
 ·rw [c3] at o
  exact o.raise hM
 rw [hx] at o
 dsimp only at o
 rw [decV_eq] at o
 left
 refine θ1 hM (by omega) (ν2 _) (by omega) fun H1 hM1 k1=>?_
 rw [tn] at hM1
 left
 refine ⟨_,rfl,?_⟩
 left
 refine rd_iteNB (fun c4=>?_) (fun c4=>?_)
 ·have c5:Ξ9 x < -(2^31)∨2^31≤Ξ9 x:=by
   have:=of_decide_eq_false c4
   omega
  rw [if_pos c5] at o
  left
  exact ⟨9,rfl,(Out.keep k1 o).raise hM1⟩
 ·have c5:¬ (Ξ9 x < -(2^31)∨2^31≤Ξ9 x):=by
   have:=of_decide_eq_true c4
   omega
  rw [if_neg c5] at o
  exact o H1 hM1 k1
noncomputable def gDec (m:M) (p n:Nat) (z:Int):Ra23.End:=Ra23.decimal m p n ⟨decide (z < 0),z.natAbs⟩
end
section
variable {P:Program} {w:World} {K:PySem.W.Frag} {mg:Str→Option Value} {base:Heap} {C CI CS:Addr}
theorem mask4 {n:Nat} (h:n < 16):Builtin.bitAnd (n:Int) 4≠0↔n / 4%2=1:=by
 have z:=Ξ3 n 4
 rw [show ((4:Nat):Int)=4 from rfl] at z
 rw [z]
 have:∀ n:Nat,n < 16→((n &&& 4)≠0↔n / 4%2=1):=by decide
 have key:∀ n:Nat,((n:Int)≠0↔n≠0):=fun n=>by omega
 rw [key]
 exact this n h
theorem ccOf_abs (z:Int):(if z.natAbs=0 then 0 else if decide (z < 0)=true then 1 else 2)=Ra23.ccOf z:=by
 unfold Ra23.ccOf
 by_cases h:z=0
 ·rw [if_pos (by omega),if_pos h]
 ·rw [if_neg (by omega),if_neg h]
  by_cases h2:z < 0
  ·rw [if_pos (decide_eq_true h2),if_pos h2]
  ·rw [if_neg (by rw [decide_eq_false h2]; decide),if_neg h2]
noncomputable def Ξ2 (C CI CS:Addr):Sp:=fun vs H Q E=>∃ (d:Hd) (m:M) (hv p n:Nat) (z:Int),vs=[.ref d.a,.int p,.int ((n+1:Nat):Int),.int z]∧p+n < 65536∧n < 16∧Mach C d H m hv∧Out C CI CS d hv H Q E (gDec m p (n+1) z)
theorem ωh:FnScope ["machine","place","size","result"] ["machine","place","size","result"] (ξ (top 37)):=mkS
theorem ιi (T:Txt P w K mg base C CI CS) (h:Has K mg "settle_packed" "settle_packed" (top 37)) (c_put_packed:Callee P w K mg base 1 "put_packed" ["machine","place","size","magnitude","minus"] (κ3 C CI CS)) (c_packed_limit:Callee P w K mg base 1 "packed_limit" ["size"] (κ5 C CI CS)) (c_order:Callee P w K mg base 1 "order" ["first","second"] (Γ4 C CI CS)):Callee P w K mg base 3 "settle_packed" ["machine","place","size","result"] (Ξ2 C CI CS):=by
 refine ω (k:=2) h ωh (fun vs H Q E h=>?_) (fun _ _ _ _ _ _=>ml4 fun _ _ _ _=>rfl) fun f cdv A outer s H vs Q E hr h=>?_
 ·obtain ⟨d,m,hv,p,n,z,rfl,_⟩:=h
  rfl
 obtain ⟨d,m,hv,p,n,z,rfl,hp,hn,hM,o⟩:=h
 have hmc:=T.mc
 refine ⟨_,(η (χ (τ c_put_packed hr (by decide) rfl (ζ (pv 0) (ζ (pv 1) (ζ (pv 2) (ζ (ζ2 φ5 rfl T.babs PyProof.Rows.Boot.«abs» (ζ (pv 3) ν)) (ζ (ξ2 ξg (pv 3) ι (Ω _)) ν))))))) (η (ρ0 (Ψ ξg (ζ2 φ5 rfl T.babs PyProof.Rows.Boot.«abs» (ζ (pv 3) ν)) (τ c_packed_limit hr (by decide) rfl (ζ (pv 2) ν)) (Ω _)) (η (ξ0 (pv 0) (τ c_order hr (by decide) rfl (ζ (pv 3) (ζ ι ν))) rfl) (θ ps_retN)) ι0) (η (ξ0 (pv 0) ι rfl) (θ (ρ0 (ηj (υ ν0 (Γ (pv 0) rfl) ι) (fun _=>rfl)) (θ (Ω4 T.rI hr (by decide) rfl (ζ ι ν))) ι0))))),?_⟩
 unfold gDec Ra23.decimal at o
 dsimp only at o
 rw [show 2*(n+1) - 1=2*n+1 by omega,ccOf_abs] at o
 left
 refine ⟨d,m,hv,p,n,_,_,rfl,hp,by omega,hM,fun H1 hM1 k1=>?_⟩
 generalize hw:Ra23.put m p (n+1) (Ra23.packed ⟨decide (z < 0),z.natAbs⟩ (n+1))=m1 at hM1 o
 left
 refine ⟨n,rfl,by omega,?_⟩
 left
 refine Δ (fun c=>?_) (fun c=>?_)
 ·rw [if_neg (by rw [decide_eq_false (by omega)]; decide)] at o
  left
  refine ⟨_,_,rfl,?_⟩
  refine ρ1 hM1 hmc rfl rfl (ζe _ _) fun H2 hM2 k2=>?_
  left
  exact o H2 hM2 (k1.trans k2)
 ·rw [if_pos (decide_eq_true (by omega))] at o
  left
  refine ρ1 hM1 hmc rfl (v:=3) rfl (by decide) fun H2 hM2 k2=>?_
  have m4:=mask4 hM1.ok.mask
  left
  refine rd_iteI (fun c2=>?_) (fun c2=>?_)
  ·rw [if_pos (m4.mp c2)] at o
   left
   exact ⟨10,rfl,(Out.keep (k1.trans k2) o).raise hM2⟩
  ·rw [if_neg (fun q=>m4.mpr q c2)] at o
   exact o H2 hM2 (k1.trans k2)
noncomputable def SpD (G:M→Nat→Nat→Nat→Nat→Ra23.End) (C CI CS:Addr):Sp:=fun vs H Q E=>∃ (d:Hd) (m:M) (hv p a q b:Nat),vs=[.ref d.a,.int p,.int ((a+1:Nat):Int),.int q,.int ((b+1:Nat):Int)]∧p+a < 65536∧a < 16∧q+b < 65536∧b < 16∧Mach C d H m hv∧Out C CI CS d hv H Q E (G m p a q b)
noncomputable def κm (m:M) (p a q b:Nat) (f:Ra23.Dec→Ra23.Dec→Ra23.End):Ra23.End:=match Ra23.unpacked m q (b+1) with
 | none=>.stop 7 m
 | some y=>match Ra23.unpacked m p (a+1) with
  | none=>.stop 7 m
  | some x=>f x y
noncomputable def gOne (m:M) (q b:Nat) (f:Ra23.Dec→Ra23.End):Ra23.End:=match Ra23.unpacked m q (b+1) with
 | none=>.stop 7 m
 | some y=>f y
theorem sc_put_second:FnScope ["machine","first","size","second","other"] ["machine","first","size","second","other"] (ξ (top 38)):=mkS
theorem ok_put_second {f:Addr} (T:Txt P w K mg base C CI CS) (h:HasF K f "put_second" (top 38)) (c_settle_packed:Callee P w K mg base 3 "settle_packed" ["machine","place","size","result"] (Ξ2 C CI CS)) (c_packed_at:Callee P w K mg base 4 "packed_at" ["machine","place","size"] (η3 C CI CS)):Fa P w K mg base 5 f ["machine","first","size","second","other"] (SpD (fun m p a q b=>gOne m q b fun y=>gDec m p (a+1) (Ξ9 y)) C CI CS):=by
 refine Ψ0 (k:=4) h sc_put_second (fun vs H Q E h=>?_) (fun _ _ _ _ _ _=>ml5 fun _ _ _ _ _=>rfl) fun cdv A outer s H vs Q E hr h=>?_
 ·obtain ⟨d,m,hv,p,a,q,b,rfl,_⟩:=h
  rfl
 obtain ⟨d,m,hv,p,a,q,b,rfl,hp,ha,hq,hb,hM,o⟩:=h
 have hmc:=T.mc
 refine ⟨_,(θ (χ (τ c_settle_packed hr (by decide) rfl (ζ (pv 0) (ζ (pv 1) (ζ (pv 2) (ζ (τ c_packed_at hr (by decide) rfl (ζ (pv 0) (ζ (pv 3) (ζ (pv 4) ν)))) ν))))))),?_⟩
 dsimp only [gOne] at o
 left
 refine ⟨d,m,hv,q,b,rfl,hq,hM,fun c=>?_,fun y hy=>?_⟩
 ·rw [c] at o
  exact o.raise hM
 rw [hy] at o
 left
 exact ⟨d,m,hv,p,a,_,rfl,hp,ha,hM,o.q⟩
theorem φb {m:M} {p a q b:Nat} {f:Ra23.Dec→Ra23.Dec→Ra23.End} (h:Ra23.unpacked m p (a+1)=none):κm m p a q b f=.stop 7 m:=by
 unfold κm
 rw [h]
 cases Ra23.unpacked m q (b+1) <;> rfl
theorem ψ7 {m:M} {p a q b:Nat} {f:Ra23.Dec→Ra23.Dec→Ra23.End} (h:Ra23.unpacked m q (b+1)=none):κm m p a q b f=.stop 7 m:=by
 unfold κm
 rw [h]
theorem υb {m:M} {p a q b:Nat} {x y:Ra23.Dec} {f:Ra23.Dec→Ra23.Dec→Ra23.End} (h:Ra23.unpacked m p (a+1)=some x) (h':Ra23.unpacked m q (b+1)=some y):κm m p a q b f=f x y:=by
 unfold κm
 rw [h,h']
theorem θd:FnScope ["machine","first","size","second","other"] ["machine","first","size","second","other"] (ξ (top 39)):=mkS
theorem οd {f:Addr} (T:Txt P w K mg base C CI CS) (h:HasF K f "compare" (top 39)) (c_packed_at:Callee P w K mg base 4 "packed_at" ["machine","place","size"] (η3 C CI CS)) (c_order:Callee P w K mg base 1 "order" ["first","second"] (Γ4 C CI CS)):Fa P w K mg base 5 f ["machine","first","size","second","other"] (SpD (fun m p a q b=>κm m p a q b fun x y=>.done {m with cc:=Ra23.ccBy (Ξ9 x) (Ξ9 y)}) C CI CS):=by
 refine Ψ0 (k:=4) h θd (fun vs H Q E h=>?_) (fun _ _ _ _ _ _=>ml5 fun _ _ _ _ _=>rfl) fun cdv A outer s H vs Q E hr h=>?_
 ·obtain ⟨d,m,hv,p,a,q,b,rfl,_⟩:=h
  rfl
 obtain ⟨d,m,hv,p,a,q,b,rfl,hp,ha,hq,hb,hM,o⟩:=h
 have hmc:=T.mc
 refine ⟨_,(θ (ξ0 (pv 0) (τ c_order hr (by decide) rfl (ζ (τ c_packed_at hr (by decide) rfl (ζ (pv 0) (ζ (pv 1) (ζ (pv 2) ν)))) (ζ (τ c_packed_at hr (by decide) rfl (ζ (pv 0) (ζ (pv 3) (ζ (pv 4) ν)))) ν))) rfl)),?_⟩
 dsimp only at o
 left
 refine ⟨d,m,hv,p,a,rfl,hp,hM,fun c=>?_,fun x hx=>?_⟩
 ·rw [φb c] at o
  exact o.raise hM
 left
 refine ⟨d,m,hv,q,b,rfl,hq,hM,fun c=>?_,fun y hy=>?_⟩
 ·rw [ψ7 c] at o
  exact o.raise hM
 rw [υb hx hy] at o
 left
 refine ⟨_,_,rfl,?_⟩
 exact ρ1 hM hmc rfl rfl (ζe _ _) o
theorem ιb:FnScope ["machine","first","size","second","other","result"] ["machine","first","size","second","other"] (ξ (top 41)):=mkS
theorem ωk {f:Addr} (T:Txt P w K mg base C CI CS) (h:HasF K f "add" (top 41)) (c_settle_packed:Callee P w K mg base 3 "settle_packed" ["machine","place","size","result"] (Ξ2 C CI CS)) (c_packed_at:Callee P w K mg base 4 "packed_at" ["machine","place","size"] (η3 C CI CS)):Fa P w K mg base 5 f ["machine","first","size","second","other"] (SpD (fun m p a q b=>κm m p a q b fun x y=>gDec m p (a+1) (Ξ9 x+Ξ9 y)) C CI CS):=by
 refine Ψ0 (k:=4) h ιb (fun vs H Q E h=>?_) (fun _ _ _ _ _ _=>ml5 fun _ _ _ _ _=>rfl) fun cdv A outer s H vs Q E hr h=>?_
 ·obtain ⟨d,m,hv,p,a,q,b,rfl,_⟩:=h
  rfl
 obtain ⟨d,m,hv,p,a,q,b,rfl,hp,ha,hq,hb,hM,o⟩:=h
 have hmc:=T.mc
 refine ⟨_,(η (Ξ (i:=5) ιb.nd rfl (Or.inl rfl) (υ η0 (τ c_packed_at hr (by decide) rfl (ζ (pv 0) (ζ (pv 1) (ζ (pv 2) ν)))) (τ c_packed_at hr (by decide) rfl (ζ (pv 0) (ζ (pv 3) (ζ (pv 4) ν)))))) (θ (χ (τ c_settle_packed hr (by decide) rfl (ζ (pv 0) (ζ (pv 1) (ζ (pv 2) (ζ (pv 5) ν)))))))),?_⟩
 dsimp only at o
 left
 refine ⟨d,m,hv,p,a,rfl,hp,hM,fun c=>?_,fun x hx=>?_⟩
 ·rw [φb c] at o
  exact o.raise hM
 left
 refine ⟨d,m,hv,q,b,rfl,hq,hM,fun c=>?_,fun y hy=>?_⟩
 ·rw [ψ7 c] at o
  exact o.raise hM
 rw [υb hx hy] at o
 left
 exact ⟨d,m,hv,p,a,_,rfl,hp,ha,hM,o.q⟩
theorem χ4:FnScope ["machine","first","size","second","other","result"] ["machine","first","size","second","other"] (ξ (top 43)):=mkS
theorem θc {f:Addr} (T:Txt P w K mg base C CI CS) (h:HasF K f "subtract" (top 43)) (c_settle_packed:Callee P w K mg base 3 "settle_packed" ["machine","place","size","result"] (Ξ2 C CI CS)) (c_packed_at:Callee P w K mg base 4 "packed_at" ["machine","place","size"] (η3 C CI CS)):Fa P w K mg base 5 f ["machine","first","size","second","other"] (SpD (fun m p a q b=>κm m p a q b fun x y=>gDec m p (a+1) (Ξ9 x - Ξ9 y)) C CI CS):=by
 refine Ψ0 (k:=4) h χ4 (fun vs H Q E h=>?_) (fun _ _ _ _ _ _=>ml5 fun _ _ _ _ _=>rfl) fun cdv A outer s H vs Q E hr h=>?_
 ·obtain ⟨d,m,hv,p,a,q,b,rfl,_⟩:=h
  rfl
 obtain ⟨d,m,hv,p,a,q,b,rfl,hp,ha,hq,hb,hM,o⟩:=h
 have hmc:=T.mc
 refine ⟨_,(η (Ξ (i:=5) χ4.nd rfl (Or.inl rfl) (υ ο2 (τ c_packed_at hr (by decide) rfl (ζ (pv 0) (ζ (pv 1) (ζ (pv 2) ν)))) (τ c_packed_at hr (by decide) rfl (ζ (pv 0) (ζ (pv 3) (ζ (pv 4) ν)))))) (θ (χ (τ c_settle_packed hr (by decide) rfl (ζ (pv 0) (ζ (pv 1) (ζ (pv 2) (ζ (pv 5) ν)))))))),?_⟩
 dsimp only at o
 left
 refine ⟨d,m,hv,p,a,rfl,hp,hM,fun c=>?_,fun x hx=>?_⟩
 ·rw [φb c] at o
  exact o.raise hM
 left
 refine ⟨d,m,hv,q,b,rfl,hq,hM,fun c=>?_,fun y hy=>?_⟩
 ·rw [ψ7 c] at o
  exact o.raise hM
 rw [υb hx hy] at o
 left
 exact ⟨d,m,hv,p,a,_,rfl,hp,ha,hM,o.q⟩
end
section
variable {P:Program} {w:World} {K:PySem.W.Frag} {mg:Str→Option Value} {base:Heap} {C CI CS:Addr}
theorem dfold (t:List Nat):∀ v:Nat,t.foldl (fun v x=>10*v+x) v=v*10^t.length+ι7 t:=by
 unfold ι7
 induction t with
 | nil=>intro v; show v=v*1+0; omega
 | cons x t ih =>
  intro v
  show t.foldl _ (10*v+x)=v*10^(t.length+1)+t.foldl _ (10*0+x)
  rw [ih (10*v+x),ih (10*0+x),Nat.pow_succ,Nat.add_mul]
  have e:10*v*10^t.length=v*(10^t.length*10):=by rw [Nat.mul_comm 10 v,Nat.mul_assoc,Nat.mul_comm 10]
  rw [e,Nat.mul_zero,Nat.zero_add]
  omega
theorem dval_app (l t:List Nat):ι7 (l++t)=ι7 l*10^t.length+ι7 t:=by
 conv=>lhs; unfold ι7
 rw [List.foldl_append,dfold]
 rfl
theorem Ωl (x:Nat) (t:List Nat):ι7 (x::t)=x*10^t.length+ι7 t:=by
 have z:=dval_app [x] t
 rw [show ι7 [x]=x by show 10*0+x=x; omega] at z
 exact z
theorem dval_lt:∀ t:List Nat,Γf t=true→ι7 t < 10^t.length
 | [],_=>by decide
 | x::t,h=>by
  unfold Γf at h
  rw [List.all_cons,Bool.and_eq_true] at h
  have h1:x < 10:=of_decide_eq_true h.1
  have h2:=dval_lt t h.2
  rw [Ωl,List.length_cons,Nat.pow_succ]
  have:x*10^t.length≤9*10^t.length:=Nat.mul_le_mul_right _ (by omega)
  omega
theorem Ψl:∀ t:List Nat,ι7 t=0→∀ x∈t,x=0
 | [],_=>fun x hx=>by cases hx
 | x::t,h=>by
  rw [Ωl] at h
  have hp:0 < 10^t.length:=Nat.pow_pos (by decide)
  have hx:x=0:=by
   rcases Nat.eq_zero_or_pos x with q | q
   ·exact q
   ·have:=Nat.mul_pos q hp
    omega
  intro y hy
  rcases List.mem_cons.mp hy with rfl | hy
  ·exact hx
  ·exact Ψl t (by omega) y hy
theorem zero_dval:∀ t:List Nat,(∀ x∈t,x=0)→ι7 t=0
 | [],_=>rfl
 | x::t,h=>by
  rw [Ωl,h x (List.mem_cons_self ..),zero_dval t (fun y hy=>h y (List.mem_cons_of_mem _ hy)),Nat.zero_mul]
theorem nib_add (m:M) (p k:Nat):∀ j,Ra23.nibbles m p (k+j)=Ra23.nibbles m p k++Ra23.nibbles m (p+k) j
 | 0=>by
  show Ra23.nibbles m p k=_++[]
  rw [List.append_nil]
 | j+1=>by rw [← Nat.add_assoc,φ1,nib_add m p k j,φ1,List.append_assoc,Nat.add_assoc]
theorem υ3 (m:M) (p:Nat):∀ n,(Ra23.nibbles m p n).length=2*n
 | 0=>rfl
 | n+1=>by rw [φ1,List.length_append,υ3 m p n]; show 2*n+2=_; omega
theorem digs_len (m:M) (p n:Nat):(Δ9 m p n).length=2*n+1:=by unfold Δ9; rw [List.length_append,υ3]; rfl
theorem nib_mem {m:M} {p n x:Nat} (h:x∈Ra23.nibbles m p n):∃ i,i < n∧(x=m.mem (p+i) / 16∨x=m.mem (p+i)%16):=by
 unfold Ra23.nibbles at h
 obtain ⟨i,hi,hx⟩:=List.mem_flatMap.mp h
 refine ⟨i,List.mem_range.mp hi,?_⟩
 simpa using hx
theorem mem_nib {m:M} {p n i:Nat} (h:i < n):m.mem (p+i) / 16∈Ra23.nibbles m p n∧m.mem (p+i)%16∈Ra23.nibbles m p n:=by
 unfold Ra23.nibbles
 exact ⟨List.mem_flatMap.mpr ⟨i,List.mem_range.mpr h,by simp⟩,List.mem_flatMap.mpr ⟨i,List.mem_range.mpr h,by simp⟩⟩
theorem zeros_iff {m:M} {p a b:Nat} (hb:b < a) (h:Γf (Δ9 m p a)=true):(∀ i,i < b+1→m.mem (p+i)=0)↔ι7 (Δ9 m p a) < 10^(2*(a - b) - 1):=by
 have e:Δ9 m p a=Ra23.nibbles m p (b+1)++(Ra23.nibbles m (p+(b+1)) (a - b - 1)++[m.mem (p+a) / 16]):=by
  unfold Δ9
  rw [← List.append_assoc,← nib_add,show b+1+(a - b - 1)=a by omega]
 have hl:(Ra23.nibbles m (p+(b+1)) (a - b - 1)++[m.mem (p+a) / 16]).length=2*(a - b) - 1:=by
  rw [List.length_append,υ3]
  show 2*(a - b - 1)+1=_
  omega
 rw [e] at h ⊢
 generalize Ra23.nibbles m (p+(b+1)) (a - b - 1)++[m.mem (p+a) / 16]=t at h hl ⊢
 have ht:Γf t=true:=by
  unfold Γf at h ⊢
  rw [List.all_append,Bool.and_eq_true] at h
  exact h.2
 have h2:=dval_lt t ht
 rw [dval_app,hl] at *
 rw [hl] at h2
 constructor
 ·intro z
  have:ι7 (Ra23.nibbles m p (b+1))=0:=zero_dval _ fun x hx=>by
   obtain ⟨i,hi,q⟩:=nib_mem hx
   have:=z i hi
   rcases q with q | q <;> (rw [q,this])
  rw [this]
  omega
 ·intro z i hi
  have hz:ι7 (Ra23.nibbles m p (b+1))=0:=by
   rcases Nat.eq_zero_or_pos (ι7 (Ra23.nibbles m p (b+1))) with q | q
   ·exact q
   ·have:=Nat.mul_le_mul_right (10^(2*(a - b) - 1)) q
    omega
  obtain ⟨n1,n2⟩:=mem_nib (m:=m) (p:=p) hi
  have q1:=Ψl _ hz _ n1
  have q2:=Ψl _ hz _ n2
  omega
theorem up_none {m:M} {p n:Nat} (h:Γf (Δ9 m p n)=false∨sgn m p n < 10):Ra23.unpacked m p (n+1)=none:=by rw [Ξc,if_pos h]
theorem up_some {m:M} {p n:Nat} (h:Γf (Δ9 m p n)=true) (h2:10≤sgn m p n):Ra23.unpacked m p (n+1)=some ⟨sgn m p n == 11 || sgn m p n == 13,ι7 (Δ9 m p n)⟩:=by
 rw [Ξc,if_neg (by rw [h]; simp; omega)]
noncomputable def υe (C CI CS:Addr):Sp:=fun vs H Q E=>∃ (d:Hd) (m:M) (hv p n:Nat),vs=[.ref d.a,.int p,.int n]∧p+n≤65536∧Mach C d H m hv∧(∀ i,i < n→m.mem (p+i)≠0→Rs CI H E 7)∧((∀ i,i < n→m.mem (p+i)=0)→Q .non H)
theorem Δe:FnScope ["machine","place","size","at"] ["machine","place","size"] (ξ (top 45)):=mkS
theorem ok_need_zeros (T:Txt P w K mg base C CI CS) (h:Has K mg "need_zeros" "need_zeros" (top 45)):Callee P w K mg base 3 "need_zeros" ["machine","place","size"] (υe C CI CS):=by
 refine ω (k:=2) h Δe (fun vs H Q E h=>?_) (fun _ _ _ _ _ _=>ml3 fun _ _ _=>rfl) fun f cdv A outer s H vs Q E hr h=>?_
 ·obtain ⟨d,m,hv,p,n,rfl,_⟩:=h
  rfl
 obtain ⟨d,m,hv,p,n,rfl,hp,hM,hbad,hq⟩:=h
 have hmc:=T.mc
 refine ⟨_,(θ (ξ4 PassesOwn.leaving rfl (ρ7 rfl T.brange (ζ (pv 1) (ζ (υ η0 (pv 1) (pv 2)) ν))) (κ1 (i:=3) Δe.nd rfl (Or.inl rfl)) (θ (ρ0 (Ψ ξb (ο0 Φ (Γ (pv 0) rfl) (pv 3) (fun _ _=>rfl)) ι (Ω _)) (θ (Ω4 T.rI hr (by decide) rfl (ζ ι ν))) ι0)))),?_⟩
 left
 refine ⟨_,_,rfl,⟨by omega,by omega,by omega,by omega⟩,?_⟩
 rw [show ((p:Int)+(n:Int) - (p:Int)).toNat=n by omega]
 refine FR.r (fun i σ' H'=>H'=H∧(∃ o3,σ'=[some (.ref d.a),some (.int p),some (.int n),o3])∧∀ t,t < i→m.mem (p+t)=0) ⟨rfl,⟨none,rfl⟩,fun t ht=>absurd ht (by omega)⟩ (fun i σ' H' hi h=>?_) (fun σ' H' h=>?_)
 ·obtain ⟨rfl,⟨o3,rfl⟩,hz⟩:=h
  rw [show (p:Int)+(i:Int)=((p+i:Nat):Int) by omega]
  left
  rw [tn]
  refine υ1 (fun c=>?_) (fun c=>?_)
  ·left
   exact ⟨7,rfl,hbad i hi (by omega)⟩
  ·refine ⟨rfl,⟨_,rfl⟩,fun t ht=>?_⟩
   by_cases q:t=i
   ·subst q; omega
   ·exact hz t (by omega)
 ·obtain ⟨rfl,⟨o3,rfl⟩,hz⟩:=h
  exact hq hz
noncomputable def SpE (G:M→Nat→Nat→Nat→Nat→Ra23.End) (C CI CS:Addr):Sp:=fun vs H Q E=>∃ (d:Hd) (m:M) (hv p a q b:Nat),vs=[.ref d.a,.int p,.int ((a+1:Nat):Int),.int q,.int ((b+1:Nat):Int)]∧p+a < 65536∧a < 16∧q+b < 65536∧b < 8∧b < a∧Mach C d H m hv∧Out C CI CS d hv H Q E (G m p a q b)
theorem len15 {m:M} {q b:Nat} (hb:b < 8) (h:Γf (Δ9 m q b)=true):ι7 (Δ9 m q b) < 10^15:=by
 have z:=dval_lt _ h
 rw [digs_len] at z
 exact Nat.lt_of_lt_of_le z (Nat.pow_le_pow_right (by decide) (by omega))
noncomputable def gMulD (m:M) (p a q b:Nat):Ra23.End:=κm m p a q b fun x y=>if 10^(2*(a - b) - 1)≤x.value then .stop 7 m else .done (Ra23.put m p (a+1) (Ra23.packed ⟨x.minus != y.minus,x.value*y.value⟩ (a+1)))
theorem χ2:FnScope ["machine","first","size","second","other","product","minus"] ["machine","first","size","second","other"] (ξ (top 46)):=mkS
theorem κc {f:Addr} (T:Txt P w K mg base C CI CS) (h:HasF K f "multiply" (top 46)) (c_magnitude_at:Callee P w K mg base 3 "magnitude_at" ["machine","place","size"] (ν3 C CI CS)) (c_minus_at:Callee P w K mg base 3 "minus_at" ["machine","place","size"] (ζ8 C CI CS)) (c_need_zeros:Callee P w K mg base 3 "need_zeros" ["machine","place","size"] (υe C CI CS)) (c_put_packed:Callee P w K mg base 1 "put_packed" ["machine","place","size","magnitude","minus"] (κ3 C CI CS)):Fa P w K mg base 4 f ["machine","first","size","second","other"] (SpE gMulD C CI CS):=by
 refine Ψ0 (k:=3) h χ2 (fun vs H Q E h=>?_) (fun _ _ _ _ _ _=>ml5 fun _ _ _ _ _=>rfl) fun cdv A outer s H vs Q E hr h=>?_
 ·obtain ⟨d,m,hv,p,a,q,b,rfl,_⟩:=h
  rfl
 obtain ⟨d,m,hv,p,a,q,b,rfl,hp,ha,hq,hb,hba,hM,o⟩:=h
 have hmc:=T.mc
 refine ⟨_,(η (Ξ (i:=5) χ2.nd rfl (Or.inl rfl) (υ χ3 (τ c_magnitude_at hr (by decide) rfl (ζ (pv 0) (ζ (pv 1) (ζ (pv 2) ν)))) (τ c_magnitude_at hr (by decide) rfl (ζ (pv 0) (ζ (pv 3) (ζ (pv 4) ν)))))) (η (Ξ (i:=6) χ2.nd rfl (Or.inl rfl) (ξ2 ξb (τ c_minus_at hr (by decide) rfl (ζ (pv 0) (ζ (pv 1) (ζ (pv 2) ν)))) (τ c_minus_at hr (by decide) rfl (ζ (pv 0) (ζ (pv 3) (ζ (pv 4) ν)))) (Ω _))) (η (χ (τ c_need_zeros hr (by decide) rfl (ζ (pv 0) (ζ (pv 1) (ζ (pv 4) ν))))) (θ (χ (τ c_put_packed hr (by decide) rfl (ζ (pv 0) (ζ (pv 1) (ζ (pv 2) (ζ (pv 5) (ζ (pv 6) ν))))))))))),?_⟩
 unfold gMulD at o
 have no1:(Γf (Δ9 m p a)=false∨sgn m p a < 10)→Rs CI H E 7:=fun c=>by
  rw [φb (up_none c)] at o
  exact o.raise hM
 have no2:(Γf (Δ9 m q b)=false∨sgn m q b < 10)→Rs CI H E 7:=fun c=>by
  rw [ψ7 (up_none c)] at o
  exact o.raise hM
 left
 refine ⟨d,m,hv,p,a,rfl,hp,hM,fun c=>no1 (.inl c),fun c1=>?_⟩
 left
 refine ⟨d,m,hv,q,b,rfl,hq,hM,fun c=>no2 (.inl c),fun c2=>?_⟩
 have hy:=len15 hb c2
 refine ζ7 (.inr ⟨by omega,by omega⟩) ?_
 left
 refine ⟨d,m,hv,p,a,rfl,hp,hM,fun c=>no1 (.inr c),fun c3=>?_⟩
 left
 refine ⟨d,m,hv,q,b,rfl,hq,hM,fun c=>no2 (.inr c),fun c4=>?_⟩
 rw [υb (up_some c1 c3) (up_some c2 c4)] at o
 dsimp only at o
 have zi:=zeros_iff hba c1
 left
 refine ⟨d,m,hv,p,b+1,rfl,by omega,hM,fun i hi hz=>?_,fun hz=>?_⟩
 ·rw [if_pos (Nat.not_lt.mp fun z=>hz (zi.mpr z i hi))] at o
  exact o.raise hM
 rw [if_neg (Nat.not_le.mpr (zi.mp hz))] at o
 left
 rw [show ((ι7 (Δ9 m p a):Nat):Int)*((ι7 (Δ9 m q b):Nat):Int)=((ι7 (Δ9 m p a)*ι7 (Δ9 m q b):Nat):Int) from (Int.natCast_mul _ _).symm]
 exact ⟨d,m,hv,p,a,_,_,rfl,hp,by omega,hM,o⟩
noncomputable def gDivD (m:M) (p a q b:Nat):Ra23.End:=κm m p a q b fun x y=>if y.value=0 then .stop 11 m else if 10^(2*(a - b) - 1)≤x.value / y.value then .stop 11 m
      else .done (Ra23.put (Ra23.put m p (a - b) (Ra23.packed ⟨x.minus != y.minus,x.value / y.value⟩ (a - b))) (p+(a - b)) (b+1) (Ra23.packed ⟨x.minus,x.value%y.value⟩ (b+1)))
theorem η1:FnScope ["machine","first","size","second","other","dividend","divisor","rest_minus","minus","room"] ["machine","first","size","second","other"] (ξ (top 48)):=mkS
theorem θf {f:Addr} (T:Txt P w K mg base C CI CS) (h:HasF K f "divide" (top 48)) (c_magnitude_at:Callee P w K mg base 3 "magnitude_at" ["machine","place","size"] (ν3 C CI CS)) (c_minus_at:Callee P w K mg base 3 "minus_at" ["machine","place","size"] (ζ8 C CI CS)) (c_packed_limit:Callee P w K mg base 1 "packed_limit" ["size"] (κ5 C CI CS)) (c_put_packed:Callee P w K mg base 1 "put_packed" ["machine","place","size","magnitude","minus"] (κ3 C CI CS)):Fa P w K mg base 4 f ["machine","first","size","second","other"] (SpE gDivD C CI CS):=by
 refine Ψ0 (k:=3) h η1 (fun vs H Q E h=>?_) (fun _ _ _ _ _ _=>ml5 fun _ _ _ _ _=>rfl) fun cdv A outer s H vs Q E hr h=>?_
 ·obtain ⟨d,m,hv,p,a,q,b,rfl,_⟩:=h
  rfl
 obtain ⟨d,m,hv,p,a,q,b,rfl,hp,ha,hq,hb,hba,hM,o⟩:=h
 have hmc:=T.mc
 refine ⟨_,(η (Ξ (i:=5) η1.nd rfl (Or.inl rfl) (τ c_magnitude_at hr (by decide) rfl (ζ (pv 0) (ζ (pv 1) (ζ (pv 2) ν))))) (η (Ξ (i:=6) η1.nd rfl (Or.inl rfl) (τ c_magnitude_at hr (by decide) rfl (ζ (pv 0) (ζ (pv 3) (ζ (pv 4) ν))))) (η (Ξ (i:=7) η1.nd rfl (Or.inl rfl) (τ c_minus_at hr (by decide) rfl (ζ (pv 0) (ζ (pv 1) (ζ (pv 2) ν))))) (η (Ξ (i:=8) η1.nd rfl (Or.inl rfl) (ξ2 ξb (pv 7) (τ c_minus_at hr (by decide) rfl (ζ (pv 0) (ζ (pv 3) (ζ (pv 4) ν)))) (Ω _))) (η (Ξ (i:=9) η1.nd rfl (Or.inl rfl) (υ ο2 (pv 2) (pv 4))) (η (ρ0 (pw_or (Ψ ψ1 (pv 6) ι (Ω _)) (Ωj (Ψ κk (υ op_fdivB (pv 5) (pv 6)) (τ c_packed_limit hr (by decide) rfl (ζ (pv 9) ν)) (Ω _)))).pt (θ (Ω4 T.rI hr (by decide) rfl (ζ ι ν))) ι0) (η (χ (τ c_put_packed hr (by decide) rfl (ζ (pv 0) (ζ (pv 1) (ζ (pv 9) (ζ (υ op_fdivB (pv 5) (pv 6)) (ζ (pv 8) ν))))))) (θ (χ (τ c_put_packed hr (by decide) rfl (ζ (pv 0) (ζ (υ η0 (pv 1) (pv 9)) (ζ (pv 4) (ζ (υ ιk (pv 5) (pv 6)) (ζ (pv 7) ν))))))))))))))),?_⟩
 unfold gDivD at o
 have no1:(Γf (Δ9 m p a)=false∨sgn m p a < 10)→Rs CI H E 7:=fun c=>by
  rw [φb (up_none c)] at o
  exact o.raise hM
 have no2:(Γf (Δ9 m q b)=false∨sgn m q b < 10)→Rs CI H E 7:=fun c=>by
  rw [ψ7 (up_none c)] at o
  exact o.raise hM
 left
 refine ⟨d,m,hv,p,a,rfl,hp,hM,fun c=>no1 (.inl c),fun c1=>?_⟩
 left
 refine ⟨d,m,hv,q,b,rfl,hq,hM,fun c=>no2 (.inl c),fun c2=>?_⟩
 have hy:=len15 hb c2
 left
 refine ⟨d,m,hv,p,a,rfl,hp,hM,fun c=>no1 (.inr c),fun c3=>?_⟩
 left
 refine ⟨d,m,hv,q,b,rfl,hq,hM,fun c=>no2 (.inr c),fun c4=>?_⟩
 rw [υb (up_some c1 c3) (up_some c2 c4)] at o
 dsimp only at o
 obtain ⟨n,hn⟩:∃ n:Nat,a - b=n+1:=⟨a - b - 1,by omega⟩
 rw [hn,show 2*(n+1) - 1=2*n+1 by omega] at o
 have er:((a+1:Nat):Int) - ((b+1:Nat):Int)=((n+1:Nat):Int):=by omega
 generalize ι7 (Δ9 m p a)=x at o ⊢
 generalize ι7 (Δ9 m q b)=y at hy o ⊢
 generalize (sgn m p a == 11 || sgn m p a == 13)=sx at o ⊢
 generalize (sgn m q b == 11 || sgn m q b == 13)=sy at o ⊢
 have ed:(x:Int) / (y:Int)=((x / y:Nat):Int):=divI x y
 have em:(x:Int)%(y:Int)=((x%y:Nat):Int):=modI x y
 left
 rw [er]
 refine Δ (fun c5=>?_) (fun c5=>?_)
 ·refine τc ?_
  rw [if_pos (by omega)] at o
  left
  exact ⟨11,rfl,o.raise hM⟩
 rw [if_neg (by omega)] at o
 left
 refine ζ7 ⟨by omega,by omega⟩ ?_
 left
 refine ⟨n,rfl,by omega,?_⟩
 left
 rw [ed]
 refine Δ (fun c6=>?_) (fun c6=>?_)
 ·rw [if_pos (by omega)] at o
  left
  exact ⟨11,rfl,o.raise hM⟩
 rw [if_neg (by omega)] at o
 left
 refine ζ7 ⟨by omega,by omega⟩ ?_
 rw [ed]
 left
 refine ⟨d,m,hv,p,n,_,_,rfl,by omega,by omega,hM,fun H1 hM1 k1=>?_⟩
 left
 refine ζ7 (by omega) ?_
 rw [em]
 left
 rw [show (p:Int)+((n+1:Nat):Int)=((p+(n+1):Nat):Int) by omega]
 exact ⟨d,_,hv,p+(n+1),b,_,_,rfl,by omega,by omega,hM1,fun H2 hM2 k2=>o H2 hM2 (k1.trans k2)⟩
end
section
variable {P:Program} {w:World} {K:PySem.W.Frag} {mg:Str→Option Value} {base:Heap} {C CI CS:Addr}
noncomputable def ν1 (l:List Nat):List V:=l.map fun n:Nat=>V.int (n:Int)
theorem ψ0 (l:List Nat):(ν1 l).length=l.length:=by unfold ν1; rw [List.length_map]
theorem Φ6 (a b:List Nat):ν1 (a++b)=ν1 a++ν1 b:=by unfold ν1; rw [List.map_append]
theorem Γk {m:M} {p n:Nat} (h:p+n≤65536):cutV (memV m) (some (p:Int)) (some ((p:Int)+(n:Int)))=ν1 ((List.range n).map fun i=>m.mem (p+i)):=by
 unfold cutV
 rw [show (p:Int)+(n:Int)=((p+n:Nat):Int) by omega,HT.Φj,HT.Φj,memV_len,Nat.min_eq_left h,Nat.min_eq_left (show p≤65536 by omega),show p+n - p=n by omega]
 unfold memV ν1
 apply List.ext_getElem?
 intro i
 rw [List.map_map,List.getElem?_take]
 by_cases c:i < n
 ·rw [if_pos c,List.getElem?_drop,List.getElem?_map,List.getElem?_map,List.getElem?_range (by omega),List.getElem?_range c]
  rfl
 ·rw [if_neg c,List.getElem?_map,List.getElem?_eq_none (by rw [List.length_range]; omega)]
  rfl
theorem υ0 {H H':Hp} {L:Addr} {o:HO} (s:Δ7 H H') (h:H L=none):Δ7 H (upd H' L o):=fun b ob e=>by
 rw [ψ (ρ e h)]
 exact s b ob e
theorem ι2 (H:Hp):Δ7 H H:=fun _ _ e=>e
theorem Γ6 {H H1 H2:Hp} (a:Δ7 H H1) (b:Δ7 H1 H2):Δ7 H H2:=fun c o e=>b c o (a c o e)
theorem χ0 {H H':Hp} (s:Δ7 H H') {L:Addr} (h:H' L=none):H L=none:=by
 cases q:H L with
 | none=>rfl
 | some o=>rw [s L o q] at h; cases h
noncomputable def ωa (C CI CS:Addr):Sp:=fun vs H Q _=>∃ (d:Hd) (m:M) (hv p n:Nat),vs=[.ref d.a,.int p,.int n]∧p+n≤65536∧Mach C d H m hv∧∀ H' L,H L=none→Δ7 H H'→H' L=some (.lst (ν1 (Ra23.nibbles m p n)))→Q (.ref L) H'
theorem Ωa:FnScope ["machine","place","size","halves","byte"] ["machine","place","size"] (ξ (top 23)):=mkS
theorem ok_halves_at (T:Txt P w K mg base C CI CS) (h:Has K mg "halves_at" "halves_at" (top 23)):Callee P w K mg base 1 "halves_at" ["machine","place","size"] (ωa C CI CS):=by
 refine ω (k:=0) h Ωa (fun vs H Q E h=>?_) (fun _ _ _ _ _ _=>ml3 fun _ _ _=>rfl) fun f cdv A outer s H vs Q E hr h=>?_
 ·obtain ⟨d,m,hv,p,n,rfl,_⟩:=h
  rfl
 obtain ⟨d,m,hv,p,n,rfl,hp,hM,hq⟩:=h
 have hmc:=T.mc
 refine ⟨_,(η (Ξ (i:=3) Ωa.nd rfl (Or.inl rfl) (υ2 ν)) (η (ξ4 PassesOwn.leaving rfl (pi_list (ζ5 θ8 (Γ (pv 0) rfl) (ψ2 (pv 1)) (ψ2 (υ η0 (pv 1) (pv 2))))) (κ1 (i:=4) Ωa.nd rfl (Or.inl rfl)) (η (χ (pe_bm PySem.F.plainAttrs_list PySem.F.slot_list_append PySem.F.type_list_append υ7 (pv 3) (ζ (υ ρ2 (pv 4) ι) ν))) (θ (χ (pe_bm PySem.F.plainAttrs_list PySem.F.slot_list_append PySem.F.type_list_append υ7 (pv 3) (ζ (υ ν0 (pv 4) ι) ν)))))) (θ (ω0 (pv 3))))),?_⟩
 left
 refine ⟨by decide,fun L hL=>?_⟩
 have hM1:=hM.new (o:=.lst []) hL
 left
 refine ⟨d.q,_,rfl,SqL.of hM1.mm,fun S hS=>?_⟩
 rw [Γk hp]
 left
 refine ⟨S,rfl,⟨_,SqL.of ο⟩,?_⟩
 have nSL:S≠L:=fun e=>by rw [e,ο] at hS; cases hS
 have hSn:H S=none:=by rw [ψ nSL] at hS; exact hS
 refine FR.l (xs:=ν1 ((List.range n).map fun i=>m.mem (p+i))) (fun i σ' H'=>(∃ o4,σ'=[some (.ref d.a),some (.int p),some (.int n),some (.ref L),o4])∧Δ7 H H'∧H' L=some (.lst (ν1 (Ra23.nibbles m p i)))∧H' S=some (.lst (ν1 ((List.range n).map fun i=>m.mem (p+i))))) ⟨⟨none,rfl⟩,υ0 (υ0 (ι2 H) hL) hSn,?_,ο⟩ (fun i σ' H' _ h=>SqL.of h.2.2.2) (fun i x σ' H' hx h=>?_) (fun σ' H' h=>?_)
 ·rw [ψ (Ne.symm nSL),ο]
  rfl
 ·obtain ⟨⟨o4,rfl⟩,hs,hL',hS'⟩:=h
  have hi:i < n:=by
   have:=(List.getElem?_eq_some_iff.mp hx).1
   rw [ψ0,List.length_map,List.length_range] at this
   exact this
  have ex:x=.int ((m.mem (p+i):Nat):Int):=by
   unfold ν1 at hx
   rw [List.map_map,List.getElem?_map,List.getElem?_range hi] at hx
   exact (Option.some.inj hx).symm
  subst ex
  have hz:(ν1 (Ra23.nibbles m p i)).length=2*i:=by rw [ψ0,υ3]
  have hbig:200000≤sizeLine:=by decide
  left
  refine ⟨.inl ⟨rfl,_,SqL.of hL'⟩,?_⟩
  left
  refine χh (n:=4) rfl ?_
  rw [shrN]
  left
  refine θ2 hL' (by omega) ?_
  left
  refine ⟨.inl ⟨rfl,_,SqL.of ο⟩,?_⟩
  left
  rw [Δb]
  refine θ2 ο (by rw [List.length_append]; show _+1 < _; omega) ?_
  rw [ψ3]
  refine ⟨⟨_,rfl⟩,υ0 hs hL,?_,?_⟩
  ·rw [ο,φ1,Φ6,List.append_assoc]
   rfl
  ·rw [ψ nSL]
   exact hS'
 ·obtain ⟨⟨o4,rfl⟩,hs,hL',hS'⟩:=h
  rw [ψ0,List.length_map,List.length_range] at hL'
  left
  exact hq H' L hL hs hL'
noncomputable def fit (xs:List Nat) (room fil:Nat):List Nat:=if xs.length≤room then List.replicate (room - xs.length) fil++xs else xs.drop (xs.length - room)
theorem flat_rep (k:Nat) (v:V):(List.replicate k [v]).flatten=List.replicate k v:=by
 induction k with
 | zero=>rfl
 | succ k ih=>rw [List.replicate_succ,List.flatten_cons,ih]; rfl
noncomputable def ψe (C CI CS:Addr):Sp:=fun vs H Q _=>∃ (a:Addr) (xs:List Nat) (room fil:Nat),vs=[.ref a,.int room,.int fil]∧H a=some (.lst (ν1 xs))∧xs.length≤1000∧room≤1000∧∀ H' L,H L=none→Δ7 H H'→H' L=some (.lst (ν1 (fit xs room fil)))→Q (.ref L) H'
theorem sc_fitted:FnScope ["values","room","filler","missing"] ["values","room","filler"] (ξ (top 24)):=mkS
theorem ok_fitted (T:Txt P w K mg base C CI CS) (h:Has K mg "fitted" "fitted" (top 24)):Callee P w K mg base 1 "fitted" ["values","room","filler"] (ψe C CI CS):=by
 refine ω (k:=0) h sc_fitted (fun vs H Q E h=>?_) (fun _ _ _ _ _ _=>ml3 fun _ _ _=>rfl) fun f cdv A outer s H vs Q E hr h=>?_
 ·obtain ⟨a,xs,room,fil,rfl,_⟩:=h
  rfl
 obtain ⟨a,xs,room,fil,rfl,ha,hx,hr2,hq⟩:=h
 refine ⟨_,(η (Ξ (i:=3) sc_fitted.nd rfl (Or.inl rfl) (υ ο2 (pv 1) (ζ2 Γ1 rfl T.blen PyProof.Rows.Boot.«len» (ζ (pv 0) ν)))) (η (ρ0 (Ψ κk (pv 3) ι (Ω _)) (θ (ω0 (υ νk (υ op_rep (υ2 (ζ (pv 2) ν)) (pv 3)) (pv 0)))) ι0) (θ (ω0 (ζ5 θ8 (pv 0) (ψ2 (Ψe υ6 (pv 3))) po_none))))),?_⟩
 have hbig:200000≤sizeLine:=by decide
 left
 refine ⟨a,ν1 xs,rfl,.inl (SqL.of ha),?_⟩
 rw [ψ0]
 left
 refine Δ (fun c=>?_) (fun c=>?_)
 ·have hf:fit xs room fil=List.replicate (room - xs.length) fil++xs:=if_pos (by omega)
  left
  refine ⟨(by show 1≤sizeLine; omega),fun A hA=>?_⟩
  left
  refine ⟨A,_,_,rfl,rfl,ο,by omega,by omega,(by show 1*_≤_; omega),fun B hB=>?_⟩
  left
  have na:a≠A:=ρ ha hA
  have hB0:H B=none:=χ0 (υ0 (ι2 H) hA) hB
  have nb:a≠B:=ρ ha hB0
  rw [flat_rep,show ((room:Int) - (xs.length:Int)).toNat=room - xs.length by omega] at *
  refine ⟨B,a,_,_,rfl,rfl,ο,(by rw [ψ nb,ψ na]; exact ha),(by rw [List.length_replicate,ψ0]; omega),fun D hD=>?_⟩
  have s2:=υ0 (o:=.lst (List.replicate (room - xs.length) (.int (fil:Int)))) (υ0 (o:=.lst [.int (fil:Int)]) (ι2 H) hA) hB0
  have hD0:H D=none:=χ0 s2 hD
  refine hq _ D hD0 (υ0 s2 hD0) ?_
  rw [ο,hf,Φ6]
  unfold ν1
  rw [List.map_replicate]
 ·have hf:fit xs room fil=xs.drop (xs.length - room):=if_neg (by omega)
  left
  refine ⟨a,_,rfl,SqL.of ha,fun D hD=>?_⟩
  refine hq _ D hD (υ0 (ι2 H) hD) ?_
  rw [ο,hf]
  unfold cutV
  rw [show -((room:Int) - (xs.length:Int))=((xs.length - room:Nat):Int) by omega,HT.Φj,HT.sIx_none,ψ0,Nat.min_eq_left (by omega)]
  unfold ν1
  rw [List.map_drop,List.take_of_length_le (by rw [List.length_drop,List.length_map]; omega)]
end
section
variable {P:Program} {w:World} {K:PySem.W.Frag} {mg:Str→Option Value} {base:Heap} {C CI CS:Addr}
noncomputable def bv (B:Nat) (l:List Nat):Nat:=l.foldl (fun v x=>B*v+x) 0
theorem bfold (B:Nat) (t:List Nat):∀ v:Nat,t.foldl (fun v x=>B*v+x) v=v*B^t.length+bv B t:=by
 unfold bv
 induction t with
 | nil=>intro v; show v=v*1+0; omega
 | cons x t ih =>
  intro v
  show t.foldl _ (B*v+x)=v*B^(t.length+1)+t.foldl _ (B*0+x)
  rw [ih (B*v+x),ih (B*0+x),Nat.pow_succ,Nat.add_mul]
  have e:B*v*B^t.length=v*(B^t.length*B):=by rw [Nat.mul_comm B v,Nat.mul_assoc,Nat.mul_comm B]
  rw [e,Nat.mul_zero,Nat.zero_add]
  omega
theorem bv_app (B:Nat) (l t:List Nat):bv B (l++t)=bv B l*B^t.length+bv B t:=by
 conv=>lhs; unfold bv
 rw [List.foldl_append,bfold]
 rfl
theorem bv_one (B x:Nat):bv B [x]=x:=by show B*0+x=x; omega
theorem bv_cons (B x:Nat) (t:List Nat):bv B (x::t)=x*B^t.length+bv B t:=by
 have z:=bv_app B [x] t
 rw [bv_one] at z
 exact z
theorem ηe (B:Nat) (l:List Nat) (x:Nat):bv B (l++[x])=bv B l*B+x:=by rw [bv_app,bv_one]; show bv B l*B^1+x=_; rw [Nat.pow_one]
theorem bv_lt {B:Nat} (hB:0 < B):∀ t:List Nat,(∀ x∈t,x < B)→bv B t < B^t.length
 | [],_=>by show 0 < 1; decide
 | x::t,h=>by
  have h1:x < B:=h x (List.mem_cons_self ..)
  have h2:=bv_lt hB t fun y hy=>h y (List.mem_cons_of_mem _ hy)
  rw [bv_cons,List.length_cons,Nat.pow_succ]
  have:x*B^t.length≤(B - 1)*B^t.length:=Nat.mul_le_mul_right _ (by omega)
  have e:B^t.length*B=(B - 1)*B^t.length+B^t.length:=by
   rw [Nat.mul_comm,← Nat.succ_mul]
   congr 1
   omega
  omega
theorem bv_drop {B:Nat} (hB:0 < B) {l:List Nat} (h:∀ x∈l,x < B) {k:Nat} (hk:k≤l.length):bv B (l.drop (l.length - k))=bv B l%B^k:=by
 have e:=bv_app B (l.take (l.length - k)) (l.drop (l.length - k))
 rw [List.take_append_drop] at e
 have hl:(l.drop (l.length - k)).length=k:=by rw [List.length_drop]; omega
 have h2:=bv_lt hB (l.drop (l.length - k)) fun x hx=>h x (List.mem_of_mem_drop hx)
 rw [hl] at e h2
 rw [e,Nat.mul_comm,Nat.mul_add_mod,Nat.mod_eq_of_lt h2]
theorem bv_zeros (B k:Nat):bv B (List.replicate k 0)=0:=by
 induction k with
 | zero=>rfl
 | succ k ih=>rw [List.replicate_succ,bv_cons,ih,Nat.zero_mul]
theorem bv_fit {B:Nat} (hB:1 < B) {xs:List Nat} (h:∀ x∈xs,x < B) (room:Nat):bv B (fit xs room 0)=bv B xs%B^room:=by
 unfold fit
 by_cases c:xs.length≤room
 ·rw [if_pos c,bv_app,bv_zeros,Nat.zero_mul,Nat.zero_add]
  exact (Nat.mod_eq_of_lt (Nat.lt_of_lt_of_le (bv_lt (by omega) xs h) (Nat.pow_le_pow_right (by omega) c))).symm
 ·rw [if_neg c]
  exact bv_drop (by omega) h (by omega)
theorem fit_len (xs:List Nat) (room fil:Nat):(fit xs room fil).length=room:=by
 unfold fit
 by_cases c:xs.length≤room
 ·rw [if_pos c,List.length_append,List.length_replicate]; omega
 ·rw [if_neg c,List.length_drop]; omega
theorem fit_lt {xs:List Nat} {room fil B:Nat} (h:∀ x∈xs,x < B) (hf:fil < B):∀ x∈fit xs room fil,x < B:=by
 intro x hx
 unfold fit at hx
 by_cases c:xs.length≤room
 ·rw [if_pos c] at hx
  rcases List.mem_append.mp hx with q | q
  ·rw [List.eq_of_mem_replicate q]; exact hf
  ·exact h x q
 ·rw [if_neg c] at hx
  exact h x (List.mem_of_mem_drop hx)
theorem nib_lt {m:M} (ok:Ok m) {p n x:Nat} (h:x∈Ra23.nibbles m p n):x < 16:=by
 obtain ⟨i,_,q⟩:=nib_mem h
 have:=ok.mem (p+i)
 omega
theorem bv_nib (m:M) (p:Nat):∀ n,bv 16 (Ra23.nibbles m p n)=Ra23.get m p n
 | 0=>rfl
 | n+1=>by
  rw [φ1,bv_app,bv_nib m p n]
  show Ra23.get m p n*256+(16*(16*0+m.mem (p+n) / 16)+m.mem (p+n)%16)=Ra23.get m p n*256+m.mem (p+n)
  omega
theorem intV_at {l:List Nat} {i x:Nat} (h:l[i]?=some x):atI (ν1 l) (i:Int)=some (.int (x:Int)):=atI_nat (by unfold ν1; rw [List.getElem?_map,h]; rfl)
noncomputable def Ψ7 (C CI CS:Addr):Sp:=fun vs H Q _=>∃ (d:Hd) (m:M) (hv p n:Nat) (a:Addr) (hs:List Nat),vs=[.ref d.a,.int p,.ref a]∧H a=some (.lst (ν1 hs))∧(a≠d.a∧a≠d.r∧a≠d.q)∧hs.length=2*n∧(∀ x∈hs,x < 16)∧p+n≤65536∧Mach C d H m hv∧∀ H',Mach C d H' (Ra23.put m p n (bv 16 hs)) hv→Keep d H H'→Q .non H'
theorem Γe:FnScope ["machine","place","halves","index"] ["machine","place","halves"] (ξ (top 25)):=mkS
theorem ok_put_halves (T:Txt P w K mg base C CI CS) (h:Has K mg "put_halves" "put_halves" (top 25)):Callee P w K mg base 1 "put_halves" ["machine","place","halves"] (Ψ7 C CI CS):=by
 refine ω (k:=0) h Γe (fun vs H Q E h=>?_) (fun _ _ _ _ _ _=>ml3 fun _ _ _=>rfl) fun f cdv A outer s H vs Q E hr h=>?_
 ·obtain ⟨d,m,hv,p,n,a,hs,rfl,_⟩:=h
  rfl
 obtain ⟨d,m,hv,p,n,a,hs,rfl,ha,na,hl,h16,hp,hM,hq⟩:=h
 have hmc:=T.mc
 refine ⟨_,(θ (ξ4 PassesOwn.leaving rfl (νb rfl T.brange (ζ (υ op_fdiv (ζ2 Γ1 rfl T.blen PyProof.Rows.Boot.«len» (ζ (pv 2) ν)) ι) ν)) (κ1 (i:=3) Γe.nd rfl (Or.inl rfl)) (θ (Γ0 (υ ζ3 (υ φ3 (ο0 Φ (pv 2) (υ χ3 ι (pv 3)) (fun _ _=>rfl)) ι) (ο0 Φ (pv 2) (υ η0 (υ χ3 ι (pv 3)) ι) (fun _ _=>rfl))) (Δ0 (Γ (pv 0) rfl) (υ η0 (pv 1) (pv 3)) κ0))))),?_⟩
 left
 refine ⟨a,ν1 hs,rfl,.inl (SqL.of ha),?_⟩
 rw [ψ0,hl]
 left
 refine ζ7 ⟨by decide,by decide⟩ ?_
 left
 refine ⟨_,rfl,by omega,by omega,?_⟩
 rw [show (((2*n:Nat):Int) / 2).toNat=n by omega]
 refine FR.r (fun i σ' H'=>(∃ o3,σ'=[some (.ref d.a),some (.int p),some (.ref a),o3])∧Mach C d H' (Ra23.put m p i (bv 16 (hs.take (2*i)))) hv∧Keep d H H') ⟨⟨none,rfl⟩,(by rw [Φe]; exact hM),Keep.refl _ _⟩ (fun i σ' H' hi h=>?_) (fun σ' H' h=>?_)
 ·obtain ⟨⟨o3,rfl⟩,hM',k'⟩:=h
  have ha':H' a=some (.lst (ν1 hs)):=k' a _ ha na.1 na.2.1 na.2.2
  obtain ⟨x,hx⟩:∃ x,hs[2*i]?=some x:=⟨_,List.getElem?_eq_getElem (by omega)⟩
  obtain ⟨y,hy⟩:∃ y,hs[2*i+1]?=some y:=⟨_,List.getElem?_eq_getElem (by omega)⟩
  have hx16:=h16 x (List.mem_of_getElem? hx)
  have hy16:=h16 y (List.mem_of_getElem? hy)
  rw [Int.zero_add]
  left
  refine ζ7 (.inl ⟨by omega,by omega⟩) ?_
  rw [show (2:Int)*(i:Int)=((2*i:Nat):Int) by omega]
  refine ⟨a,_,_,_,rfl,rfl,SqL.of ha',intV_at hx,?_⟩
  left
  refine sh8 (n:=4) ⟨_,rfl,by omega⟩ rfl (by decide) ?_
  left
  refine ζ7 (.inl ⟨by omega,by omega⟩) ?_
  left
  rw [show (2:Int)*(i:Int)+1=((2*i+1:Nat):Int) by omega]
  refine ⟨a,_,_,_,rfl,rfl,SqL.of ha',intV_at hy,?_⟩
  left
  rw [show (p:Int)+(i:Int)=((p+i:Nat):Int) by omega]
  refine Φ1 (v:=x*16+y) hM' (by omega) (θ4 (k:=4) hy16) (by omega) fun H2 hM2 k2=>?_
  rw [tn] at hM2
  refine ⟨⟨_,rfl⟩,?_,k'.trans k2⟩
  have e:bv 16 (hs.take (2*(i+1)))=bv 16 (hs.take (2*i))*256+(x*16+y):=by
   rw [show 2*(i+1)=2*i+1+1 by omega,List.take_add_one,List.take_add_one,hx,hy]
   show bv 16 (hs.take (2*i)++[x]++[y])=_
   rw [ηe,ηe]
   omega
  rw [e,Ψ4]
  have e1:(bv 16 (hs.take (2*i))*256+(x*16+y)) / 256=bv 16 (hs.take (2*i)):=by omega
  have e2:(bv 16 (hs.take (2*i))*256+(x*16+y))%256=x*16+y:=by omega
  rw [e1,e2]
  exact hM2
 ·obtain ⟨⟨o3,rfl⟩,hM',k'⟩:=h
  rw [← hl,List.take_length] at hM'
  exact hq H' hM' k'
theorem fresh3 {C:Addr} {d:Hd} {H:Hp} {m:M} {hv:Nat} {L:Addr} (hM:Mach C d H m hv) (hL:H L=none):L≠d.a∧L≠d.r∧L≠d.q:=by
 refine ⟨fun e=>?_,fun e=>?_,fun e=>?_⟩
 ·rw [e,hM.ob] at hL; cases hL
 ·rw [e,hM.rg] at hL; cases hL
 ·rw [e,hM.mm] at hL; cases hL
noncomputable def gMvo (m:M) (p a q b:Nat):Ra23.End:=.done (Ra23.put m p (a+1) ((Ra23.get m q (b+1)*16+m.mem (p+a)%16)%256^(a+1)))
noncomputable def ν5 (C CI CS:Addr):Sp:=SpD gMvo C CI CS
theorem pow256 (a:Nat):256^(a+1)=16^(2*a+1)*16:=by rw [← Nat.pow_succ,show 256=16^2 from rfl,← Nat.pow_mul]; rfl
theorem mod16 (X l a:Nat) (h:l < 16):X%16^(2*a+1)*16+l=(X*16+l)%256^(a+1):=by
 rw [pow256]
 have hp:0 < 16^(2*a+1):=Nat.pow_pos (by decide)
 generalize 16^(2*a+1)=z at hp
 have e:=Nat.div_add_mod X z
 have e2:X*16+l=(X%z*16+l)+X / z*(z*16):=by
  have:X / z*(z*16)=z*(X / z)*16:=by rw [← Nat.mul_assoc,Nat.mul_comm (X / z) z]
  omega
 have hlt:=Nat.mod_lt X hp
 have e3:(X*16+l)%(z*16)=X%z*16+l:=by
  rw [e2,Nat.add_mul_mod_self_right]
  exact Nat.mod_eq_of_lt (by omega)
 exact e3.symm
theorem Ψ2:FnScope ["machine","first","size","second","other","halves","last"] ["machine","first","size","second","other"] (ξ (top 26)):=mkS
theorem κd (T:Txt P w K mg base C CI CS) (h:Has K mg "move_before_last" "move_before_last" (top 26)) (c_fitted:Callee P w K mg base 1 "fitted" ["values","room","filler"] (ψe C CI CS)) (c_halves_at:Callee P w K mg base 1 "halves_at" ["machine","place","size"] (ωa C CI CS)) (c_put_halves:Callee P w K mg base 1 "put_halves" ["machine","place","halves"] (Ψ7 C CI CS)):Callee P w K mg base 2 "move_before_last" ["machine","first","size","second","other"] (ν5 C CI CS):=by
 refine ω (k:=1) h Ψ2 (fun vs H Q E h=>?_) (fun _ _ _ _ _ _=>ml5 fun _ _ _ _ _=>rfl) fun f cdv A outer s H vs Q E hr h=>?_
 ·obtain ⟨d,m,hv,p,a,q,b,rfl,_⟩:=h
  rfl
 obtain ⟨d,m,hv,p,a,q,b,rfl,hp,ha,hq,hb,hM,o⟩:=h
 have hmc:=T.mc
 refine ⟨_,(η (Ξ (i:=5) Ψ2.nd rfl (Or.inl rfl) (τ c_fitted hr (by decide) rfl (ζ (τ c_halves_at hr (by decide) rfl (ζ (pv 0) (ζ (pv 3) (ζ (pv 4) ν)))) (ζ (υ ο2 (υ χ3 ι (pv 2)) ι) (ζ ι ν))))) (η (Ξ (i:=6) Ψ2.nd rfl (Or.inl rfl) (υ ν0 (ο0 Φ (Γ (pv 0) rfl) (υ ο2 (υ η0 (pv 1) (pv 2)) ι) (fun _ _=>rfl)) ι)) (θ (χ (τ c_put_halves hr (by decide) rfl (ζ (pv 0) (ζ (pv 1) (ζ (υ νk (pv 5) (υ2 (ζ (pv 6) ν))) ν)))))))),?_⟩
 have hbig:200000≤sizeLine:=by decide
 left
 refine ⟨d,m,hv,q,b+1,rfl,by omega,hM,fun H1 L1 hL1 s1 h1=>?_⟩
 left
 refine ζ7 (.inl ⟨by decide,by decide⟩) ?_
 left
 rw [show (2:Int)*((a+1:Nat):Int) - 1=((2*a+1:Nat):Int) by omega]
 refine ⟨L1,_,2*a+1,0,rfl,h1,(by rw [υ3]; omega),by omega,fun H2 L2 hL2 s2 h2=>?_⟩
 have s12:=Γ6 s1 s2
 have hM2:=hM.keep s12
 have hL2':H L2=none:=χ0 s1 hL2
 left
 rw [show (p:Int)+((a+1:Nat):Int) - 1=((p+a:Nat):Int) by omega,tn,Δb]
 refine ⟨(by show 1≤sizeLine; omega),fun L3 hL3=>?_⟩
 left
 have n23:L2≠L3:=ρ h2 hL3
 refine ⟨L2,L3,_,_,rfl,rfl,(by rw [ψ n23]; exact h2),ο,(by rw [ψ0,fit_len]; show _+1≤_; omega),fun L4 hL4=>?_⟩
 have s3:=υ0 (o:=.lst [.int ((m.mem (p+a)%16:Nat):Int)]) (ι2 H2) hL3
 have hL4':H2 L4=none:=χ0 s3 hL4
 have s4:=υ0 (o:=.lst (ν1 (fit (Ra23.nibbles m q (b+1)) (2*a+1) 0)++[.int ((m.mem (p+a)%16:Nat):Int)])) s3 hL4'
 have h16:∀ x∈fit (Ra23.nibbles m q (b+1)) (2*a+1) 0,x < 16:=fit_lt (fun x hx=>nib_lt hM.ok hx) (by decide)
 left
 refine ⟨d,m,hv,p,a+1,L4,fit (Ra23.nibbles m q (b+1)) (2*a+1) 0++[m.mem (p+a)%16],rfl,(by rw [ο,Φ6]; rfl),fresh3 hM2 hL4',?_,fun x hx=>?_,by omega,hM2.keep s4,fun H5 hM5 k5=>?_⟩
 ·rw [List.length_append,fit_len]
  show _+1=_
  omega
 ·rcases List.mem_append.mp hx with z | z
  ·exact h16 x z
  ·rw [List.mem_singleton.mp z]
   exact Nat.mod_lt _ (by decide)
 ·refine o H5 ?_ ((Keep.of_same (Γ6 s12 s4)).trans k5)
  rw [ηe,bv_fit (by decide) (fun x hx=>nib_lt hM.ok hx),bv_nib,mod16 _ _ _ (Nat.mod_lt _ (by decide))] at hM5
  exact hM5
end
section
variable {P:Program} {w:World} {K:PySem.W.Frag} {mg:Str→Option Value} {base:Heap} {C CI CS:Addr}
noncomputable def byV (f:Nat→Nat):V→V
 | .int z=>.int ((f z.toNat:Nat):Int)
 | v=>v
theorem map_byV (f:Nat→Nat) (l:List Nat):(ν1 l).map (byV f)=ν1 (l.map f):=by
 unfold ν1
 rw [List.map_map,List.map_map]
 rfl
theorem ιj {l:List Nat} {k:Nat} {x:V} (h:(ν1 l)[k]?=some x):∃ n:Nat,x=.int (n:Int)∧l[k]?=some n:=by
 unfold ν1 at h
 rw [List.getElem?_map] at h
 cases q:l[k]? with
 | none=>rw [q] at h; cases h
 | some n=>rw [q] at h; exact ⟨n,(Option.some.inj h).symm,rfl⟩
theorem ζl {l:List Nat} {j x:Nat} (hj:0 < j) (hl:j≤l.length) (h:l[l.length - j]?=some x):atI (ν1 l) (-(j:Int))=some (.int (x:Int)):=by
 unfold atI ixN
 rw [if_neg (by omega),if_pos (by rw [ψ0]; omega)]
 show (ν1 l)[(-(j:Int)+((ν1 l).length:Int)).toNat]?=_
 rw [ψ0,show (-(j:Int)+(l.length:Int)).toNat=l.length - j by omega]
 unfold ν1
 rw [List.getElem?_map,h]
 rfl
noncomputable def txt (m:M) (q n:Nat):List Nat:=(List.range n).map fun i=>m.mem (q+i)
theorem txt_len (m:M) (q n:Nat):(txt m q n).length=n:=by unfold txt; rw [List.length_map,List.length_range]
theorem txt_at {m:M} {q n i:Nat} (h:i < n):(txt m q n)[i]?=some (m.mem (q+i)):=by unfold txt; rw [List.getElem?_map,List.getElem?_range h]; rfl
noncomputable def gPack (m:M) (p a q b:Nat):Ra23.End :=
 let d:=((List.range (b+1)).map fun i=>m.mem (q+i)%16).dropLast
 let last:=m.mem (q+(b+1) - 1)
 .done (Ra23.put m p (a+1) ((d.foldl (fun v x=>16*v+x) 0*256+(last%16*16+last / 16))%256^(a+1)))
theorem pack_val (m:M) (q b:Nat):bv 16 ((txt m q (b+1)).map (fun x=>x%16)++[m.mem (q+b) / 16])=(((List.range (b+1)).map fun i=>m.mem (q+i)%16).dropLast).foldl (fun v x=>16*v+x) 0*256+(m.mem (q+(b+1) - 1)%16*16+m.mem (q+(b+1) - 1) / 16):=by
 have e:(txt m q (b+1)).map (fun x=>x%16)=(List.range (b+1)).map fun i=>m.mem (q+i)%16:=by
  unfold txt
  rw [List.map_map]
  rfl
 rw [e,List.range_succ,List.map_append]
 show bv 16 (_++[m.mem (q+b)%16]++[m.mem (q+b) / 16])=((_++[m.mem (q+b)%16]).dropLast).foldl _ 0*256+(m.mem (q+b)%16*16+m.mem (q+b) / 16)
 rw [List.dropLast_concat,ηe,ηe]
 show (bv 16 _*16+_)*16+_=bv 16 _*256+_
 omega
noncomputable def sp_pack (C CI CS:Addr):Sp:=SpD gPack C CI CS
theorem Γj:FnScope ["machine","first","size","second","other","text","halves","byte"] ["machine","first","size","second","other"] (ξ (top 27)):=mkS
theorem ok_pack (T:Txt P w K mg base C CI CS) (h:Has K mg "pack" "pack" (top 27)) (c_fitted:Callee P w K mg base 1 "fitted" ["values","room","filler"] (ψe C CI CS)) (c_put_halves:Callee P w K mg base 1 "put_halves" ["machine","place","halves"] (Ψ7 C CI CS)):Callee P w K mg base 2 "pack" ["machine","first","size","second","other"] (sp_pack C CI CS):=by
 refine ω (k:=1) h Γj (fun vs H Q E h=>?_) (fun _ _ _ _ _ _=>ml5 fun _ _ _ _ _=>rfl) fun f cdv A outer s H vs Q E hr h=>?_
 ·obtain ⟨d,m,hv,p,a,q,b,rfl,_⟩:=h
  rfl
 obtain ⟨d,m,hv,p,a,q,b,rfl,hp,ha,hq,hb,hM,o⟩:=h
 have hmc:=T.mc
 refine ⟨_,(η (Ξ (i:=5) Γj.nd rfl (Or.inl rfl) (ζ5 θ8 (Γ (pv 0) rfl) (ψ2 (pv 3)) (ψ2 (υ η0 (pv 3) (pv 4))))) (η (Ξ (i:=6) Γj.nd rfl (Or.inl rfl) (υ νk (pe_lc (own:=[("byte",7)]) rfl Γj.nd (pi_list (pv 5)) (blkOk_by (by kernel_rfl)) (fun _ _ _ _ _=>(κ1 (i:=7) Γj.nd rfl (Or.inl rfl))) (fun _ _ _ _ _=>pts_nil) (fun _ _ _ _ _=>(υ ν0 (pv 7) ι))) (υ2 (ζ (υ ρ2 (ο0 Φ (pv 5) (Ψe υ6 ι) (fun _ _=>rfl)) ι) ν)))) (θ (χ (τ c_put_halves hr (by decide) rfl (ζ (pv 0) (ζ (pv 1) (ζ (τ c_fitted hr (by decide) rfl (ζ (pv 6) (ζ (υ χ3 ι (pv 2)) (ζ ι ν)))) ν)))))))),?_⟩
 have hbig:200000≤sizeLine:=by decide
 have tl:=txt_len m q (b+1)
 left
 refine ⟨d.q,_,rfl,SqL.of hM.mm,fun S hS=>?_⟩
 have e0:(List.range (b+1)).map (fun i=>m.mem (q+i))=txt m q (b+1):=rfl
 rw [Γk (by omega),e0]
 have hS1:(upd H S (.lst (ν1 (txt m q (b+1))))) S=some (.lst (ν1 (txt m q (b+1)))):=ο
 have s1:=υ0 (o:=.lst (ν1 (txt m q (b+1)))) (ι2 H) hS
 generalize upd H S (.lst (ν1 (txt m q (b+1))))=H1 at hS1 s1 ⊢
 left
 refine ⟨S,rfl,⟨_,SqL.of hS1⟩,fun D hD=>?_⟩
 refine LC.l (xs:=ν1 (txt m q (b+1))) (byV fun x=>x%16) (by rw [ψ0]; omega) hS1 hD (fun x=>rfl) (fun k x H' R hx hb' r=>?_) ?_
 ·obtain ⟨n,rfl,_⟩:=ιj hx
  left
  rw [Δb]
  exact r
 rw [map_byV]
 generalize hlw:(txt m q (b+1)).map (fun x=>x%16)=lw
 have lwl:lw.length=b+1:=by rw [← hlw,List.length_map,tl]
 have lw16:∀ x∈lw,x < 16:=fun x hx=>by
  rw [← hlw] at hx
  obtain ⟨y,_,rfl⟩:=List.mem_map.mp hx
  exact Nat.mod_lt _ (by decide)
 have hS2:(upd H1 D (.lst (ν1 lw))) S=some (.lst (ν1 (txt m q (b+1)))):=by rw [ψ (ρ hS1 hD)]; exact hS1
 have hD2:(upd H1 D (.lst (ν1 lw))) D=some (.lst (ν1 lw)):=ο
 have s2:=υ0 (o:=.lst (ν1 lw)) (ι2 H1) hD
 generalize upd H1 D (.lst (ν1 lw))=H2 at hS2 hD2 s2 ⊢
 left
 refine ⟨S,_,_,_,rfl,rfl,SqL.of hS2,ζl (j:=1) (x:=m.mem (q+b)) (by decide) (by omega) (by rw [tl]; exact txt_at (by omega)),?_⟩
 left
 refine χh (n:=4) rfl ?_
 rw [shrN]
 left
 refine ⟨(by show 1≤sizeLine; omega),fun L3 hL3=>?_⟩
 have s3:=υ0 (o:=.lst [.int ((m.mem (q+b) / 2^4:Nat):Int)]) (ι2 H2) hL3
 left
 refine ⟨D,L3,_,_,rfl,rfl,(by rw [ψ (ρ hD2 hL3)]; exact hD2),ο,(by rw [ψ0,lwl]; show _+1≤_; omega),fun L4 hL4=>?_⟩
 have hL4':H2 L4=none:=χ0 s3 hL4
 have s4:=υ0 (o:=.lst (ν1 lw++[.int ((m.mem (q+b) / 2^4:Nat):Int)])) s3 hL4'
 have h4:(upd (upd H2 L3 (.lst [.int ((m.mem (q+b) / 2^4:Nat):Int)])) L4 (.lst (ν1 lw++[.int ((m.mem (q+b) / 2^4:Nat):Int)]))) L4=some (.lst (ν1 (lw++[m.mem (q+b) / 16]))):=by
  rw [ο,Φ6]
  rfl
 generalize upd (upd H2 L3 (.lst [.int ((m.mem (q+b) / 2^4:Nat):Int)])) L4 (.lst (ν1 lw++[.int ((m.mem (q+b) / 2^4:Nat):Int)]))=H4 at h4 s4 ⊢
 left
 refine ζ7 (.inl ⟨by decide,by decide⟩) ?_
 left
 rw [show (2:Int)*((a+1:Nat):Int)=((2*(a+1):Nat):Int) by omega]
 have hb16:m.mem (q+b) / 16 < 16:=by have:=hM.ok.mem (q+b); omega
 have hl16:∀ x∈lw++[m.mem (q+b) / 16],x < 16:=fun x hx=>by
  rcases List.mem_append.mp hx with z | z
  ·exact lw16 x z
  ·rw [List.mem_singleton.mp z]; exact hb16
 refine ⟨L4,lw++[m.mem (q+b) / 16],2*(a+1),0,rfl,h4,(by rw [List.length_append,lwl]; show _+1≤_; omega),by omega,fun H5 L5 hL5 s5 h5=>?_⟩
 have sA:=Γ6 (Γ6 (Γ6 s1 s2) s4) s5
 left
 have hL50:H L5=none:=χ0 (Γ6 (Γ6 s1 s2) s4) hL5
 refine ⟨d,m,hv,p,a+1,L5,fit (lw++[m.mem (q+b) / 16]) (2*(a+1)) 0,rfl,h5,fresh3 hM hL50,fit_len _ _ _,fit_lt hl16 (by decide),by omega,hM.keep sA,fun H6 hM6 k6=>?_⟩
 refine o H6 ?_ ((Keep.of_same sA).trans k6)
 rw [bv_fit (by decide) hl16,← hlw,pack_val,show 16^(2*(a+1))=256^(a+1) by rw [Nat.pow_mul]] at hM6
 exact hM6
end
section
variable {P:Program} {w:World} {K:PySem.W.Frag} {mg:Str→Option Value} {base:Heap} {C CI CS:Addr}
theorem fit_drop (t:List Nat) (A f:Nat) (ht:0 < t.length):fit t A f=(List.replicate (2*A) f++t).drop (t.length+A):=by
 rw [List.drop_append,List.drop_replicate,List.length_replicate]
 unfold fit
 by_cases c:t.length≤A
 ·rw [if_pos c,show 2*A - (t.length+A)=A - t.length by omega,show t.length+A - 2*A=0 by omega,List.drop_zero]
 ·rw [if_neg c,show 2*A - (t.length+A)=0 by omega,show t.length+A - 2*A=t.length - A by omega]
  rfl
theorem fit_val {dd:List Nat} {A lb:Nat} (h:∀ x∈dd,x < 16) (hl:lb < 256):bv 256 (fit (dd.map (fun x=>240+x)++[lb]) A 240)=(((List.replicate (2*A) 0++dd).drop dd.length).foldl (fun v x=>256*v+(0xF0+x)) 0*256+lb)%256^A:=by
 have e1:((List.replicate (2*A) 0++dd).drop dd.length).foldl (fun v x=>256*v+(0xF0+x)) 0=bv 256 (((List.replicate (2*A) 0++dd).drop dd.length).map fun x=>240+x):=by
  unfold bv
  rw [List.foldl_map]
 rw [e1,← ηe,List.map_drop,List.map_append,List.map_replicate]
 show _=bv 256 ((List.replicate (2*A) 240++dd.map fun x=>240+x).drop dd.length++[lb])%256^A
 have hlt:∀ x∈(List.replicate (2*A) 240++dd.map fun x=>240+x).drop dd.length++[lb],x < 256:=fun x hx=>by
  rcases List.mem_append.mp hx with z | z
  ·rcases List.mem_append.mp (List.mem_of_mem_drop z) with y | y
   ·rw [List.eq_of_mem_replicate y]; decide
   ·obtain ⟨u,hu,rfl⟩:=List.mem_map.mp y
    have:=h u hu
    omega
  ·rw [List.mem_singleton.mp z]; exact hl
 have hlen:((List.replicate (2*A) 240++dd.map fun x=>240+x).drop dd.length++[lb]).length=2*A+1:=by
  rw [List.length_append,List.length_drop,List.length_append,List.length_replicate,List.length_map]
  show 2*A+dd.length - dd.length+1=_
  omega
 rw [← bv_drop (by decide) hlt (k:=A) (by omega),hlen,fit_drop _ _ _ (by rw [List.length_append]; show 0 < _+1; omega)]
 congr 1
 have hdr:(List.replicate (2*A) 240++dd.map (fun x=>240+x)).drop dd.length++[lb]=((List.replicate (2*A) 240++dd.map (fun x=>240+x))++[lb]).drop dd.length:=(List.drop_append_of_le_length (by rw [List.length_append,List.length_map]; omega)).symm
 rw [hdr,List.drop_drop,List.append_assoc,List.length_append,List.length_map]
 congr 1
 show dd.length+1+A=_
 omega
noncomputable def gUnpk (m:M) (p a q b:Nat):Ra23.End :=
 let last:=m.mem (q+(b+1) - 1)
 let d:=(Ra23.nibbles m q (b+1)).take (2*(b+1) - 2)
 .done (Ra23.put m p (a+1) ((((List.replicate (2*(a+1)) 0++d).drop d.length).foldl (fun v x=>256*v+(0xF0+x)) 0*256+(last%16*16+last / 16))%256^(a+1)))
noncomputable def sp_unpack (C CI CS:Addr):Sp:=SpD gUnpk C CI CS
theorem or240 {n:Nat} (h:n < 16):Builtin.bitOr 240 (n:Int)=((240+n:Nat):Int):=by
 have z:=τ3 240 n
 rw [show ((240:Nat):Int)=240 from rfl] at z
 rw [z]
 have e:=ω9 (k:=4) (a:=15) h
 rw [show 15*2^4=240 from rfl] at e
 rw [e]
theorem nib_take (m:M) (q b:Nat):(Ra23.nibbles m q (b+1)).take (2*(b+1) - 2)=Ra23.nibbles m q b:=by
 rw [φ1,show 2*(b+1) - 2=(Ra23.nibbles m q b).length by rw [υ3]; omega,List.take_left']
 rfl
theorem cut_two (l:List Nat):cutV (ν1 l) none (some (-2))=ν1 (l.take (l.length - 2)):=by
 unfold cutV
 have e:HT.sIx l.length l.length (some (-2))=l.length - 2:=by
  show (if (-2:Int) < 0 then ((-2:Int)+(l.length:Int)).toNat else min (-2:Int).toNat l.length)=_
  rw [if_pos (by decide)]
  omega
 rw [HT.sIx_none,List.drop_zero,ψ0,e,Nat.sub_zero]
 unfold ν1
 rw [List.map_take]
theorem ξ5:FnScope ["machine","first","size","second","other","halves","text","index","byte","half"] ["machine","first","size","second","other"] (ξ (top 28)):=mkS
theorem ok_unpack (T:Txt P w K mg base C CI CS) (h:Has K mg "unpack" "unpack" (top 28)) (c_fitted:Callee P w K mg base 1 "fitted" ["values","room","filler"] (ψe C CI CS)) (c_halves_at:Callee P w K mg base 1 "halves_at" ["machine","place","size"] (ωa C CI CS)):Callee P w K mg base 2 "unpack" ["machine","first","size","second","other"] (sp_unpack C CI CS):=by
 refine ω (k:=1) h ξ5 (fun vs H Q E h=>?_) (fun _ _ _ _ _ _=>ml5 fun _ _ _ _ _=>rfl) fun f cdv A outer s H vs Q E hr h=>?_
 ·obtain ⟨d,m,hv,p,a,q,b,rfl,_⟩:=h
  rfl
 obtain ⟨d,m,hv,p,a,q,b,rfl,hp,ha,hq,hb,hM,o⟩:=h
 have hmc:=T.mc
 refine ⟨_,(η (Ξ (i:=5) ξ5.nd rfl (Or.inl rfl) (τ c_halves_at hr (by decide) rfl (ζ (pv 0) (ζ (pv 3) (ζ (pv 4) ν))))) (η (Ξ (i:=6) ξ5.nd rfl (Or.inl rfl) (υ νk (pe_lc (own:=[("half",9)]) rfl ξ5.nd (pi_list (ζ5 θ8 (pv 5) po_none (ψ2 (Ψe υ6 ι)))) (blkOk_by (by kernel_rfl)) (fun _ _ _ _ _=>(κ1 (i:=9) ξ5.nd rfl (Or.inl rfl))) (fun _ _ _ _ _=>pts_nil) (fun _ _ _ _ _=>(υ ζ3 ι (pv 9)))) (υ2 (ζ (υ ζ3 (υ φ3 (ο0 Φ (pv 5) (Ψe υ6 ι) (fun _ _=>rfl)) ι) (ο0 Φ (pv 5) (Ψe υ6 ι) (fun _ _=>rfl))) ν)))) (θ (ξ4 PassesOwn.leaving rfl (pi_enum rfl T.benum (ζ (τ c_fitted hr (by decide) rfl (ζ (pv 6) (ζ (pv 2) (ζ ι ν)))) ν)) (pg_tup (n:=2) rfl (Δ6 (κ1 (i:=7) ξ5.nd rfl (Or.inl rfl)) (Δ6 (κ1 (i:=8) ξ5.nd rfl (Or.inl rfl)) pgs_nil))) (θ (Γ0 (pv 8) (Δ0 (Γ (pv 0) rfl) (υ η0 (pv 1) (pv 7)) κ0))))))),?_⟩
 have hbig:200000≤sizeLine:=by decide
 dsimp only [gUnpk] at o
 rw [nib_take,show q+(b+1) - 1=q+b from rfl,← fit_val (fun x hx=>nib_lt hM.ok hx) (by have:=hM.ok.mem (q+b); omega)] at o
 left
 refine ⟨d,m,hv,q,b+1,rfl,by omega,hM,fun H1 L1 hL1 s1 h1=>?_⟩
 left
 refine ⟨L1,_,rfl,SqL.of h1,fun S hS=>?_⟩
 rw [cut_two,υ3,nib_take]
 have h1':(upd H1 S (.lst (ν1 (Ra23.nibbles m q b)))) L1=some (.lst (ν1 (Ra23.nibbles m q (b+1)))):=by rw [ψ (ρ h1 hS)]; exact h1
 have hS1:(upd H1 S (.lst (ν1 (Ra23.nibbles m q b)))) S=some (.lst (ν1 (Ra23.nibbles m q b))):=ο
 have s2:=υ0 (o:=.lst (ν1 (Ra23.nibbles m q b))) (ι2 H1) hS
 generalize upd H1 S (.lst (ν1 (Ra23.nibbles m q b)))=H2 at h1' hS1 s2 ⊢
 left
 refine ⟨S,rfl,⟨_,SqL.of hS1⟩,fun D hD=>?_⟩
 refine LC.l (xs:=ν1 (Ra23.nibbles m q b)) (byV fun x=>240+x) (by rw [ψ0,υ3]; omega) hS1 hD (fun x=>rfl) (fun k x H' R hx hb' r=>?_) ?_
 ·obtain ⟨n,rfl,hn⟩:=ιj hx
  have h16:=nib_lt hM.ok (List.mem_of_getElem? hn)
  left
  rw [or240 h16]
  exact r
 rw [map_byV]
 generalize hlw:(Ra23.nibbles m q b).map (fun x=>240+x)=lw at o
 have lwl:lw.length=2*b:=by rw [← hlw,List.length_map,υ3]
 have hL3:(upd H2 D (.lst (ν1 lw))) L1=some (.lst (ν1 (Ra23.nibbles m q (b+1)))):=by rw [ψ (ρ h1' hD)]; exact h1'
 have hD3:(upd H2 D (.lst (ν1 lw))) D=some (.lst (ν1 lw)):=ο
 have s3:=υ0 (o:=.lst (ν1 lw)) (ι2 H2) hD
 generalize upd H2 D (.lst (ν1 lw))=H3 at hL3 hD3 s3 ⊢
 have nl:=υ3 m q (b+1)
 have n1:(Ra23.nibbles m q (b+1))[(Ra23.nibbles m q (b+1)).length - 1]?=some (m.mem (q+b)%16):=by
  rw [nl,φ1,List.getElem?_append_right (by rw [υ3]; omega),υ3,show 2*(b+1) - 1 - 2*b=1 by omega]
  rfl
 have n2:(Ra23.nibbles m q (b+1))[(Ra23.nibbles m q (b+1)).length - 2]?=some (m.mem (q+b) / 16):=by
  rw [nl,φ1,List.getElem?_append_right (by rw [υ3]; omega),υ3,show 2*(b+1) - 2 - 2*b=0 by omega]
  rfl
 have mb:=hM.ok.mem (q+b)
 left
 refine ⟨L1,_,_,_,rfl,rfl,SqL.of hL3,ζl (j:=1) (by decide) (by omega) n1,?_⟩
 left
 refine sh8 (n:=4) ⟨_,rfl,by omega⟩ rfl (by decide) ?_
 left
 refine ⟨L1,_,_,_,rfl,rfl,SqL.of hL3,ζl (j:=2) (by decide) (by omega) n2,?_⟩
 left
 rw [θ4 (k:=4) (by omega)]
 refine ⟨(by show 1≤sizeLine; omega),fun L4 hL4=>?_⟩
 have s4:=υ0 (o:=.lst [.int ((m.mem (q+b)%16*2^4+m.mem (q+b) / 16:Nat):Int)]) (ι2 H3) hL4
 left
 refine ⟨D,L4,_,_,rfl,rfl,(by rw [ψ (ρ hD3 hL4)]; exact hD3),ο,(by rw [ψ0,lwl]; show _+1≤_; omega),fun L5 hL5=>?_⟩
 have hL5':H3 L5=none:=χ0 s4 hL5
 have s5:=υ0 (o:=.lst (ν1 lw++[.int ((m.mem (q+b)%16*2^4+m.mem (q+b) / 16:Nat):Int)])) s4 hL5'
 have h5:(upd (upd H3 L4 (.lst [.int ((m.mem (q+b)%16*2^4+m.mem (q+b) / 16:Nat):Int)])) L5 (.lst (ν1 lw++[.int ((m.mem (q+b)%16*2^4+m.mem (q+b) / 16:Nat):Int)]))) L5=some (.lst (ν1 (lw++[m.mem (q+b)%16*16+m.mem (q+b) / 16]))):=by
  rw [ο,Φ6]
  rfl
 generalize upd (upd H3 L4 (.lst [.int ((m.mem (q+b)%16*2^4+m.mem (q+b) / 16:Nat):Int)])) L5 (.lst (ν1 lw++[.int ((m.mem (q+b)%16*2^4+m.mem (q+b) / 16:Nat):Int)]))=H5 at h5 s5 ⊢
 left
 refine ⟨L5,_,a+1,240,rfl,h5,(by rw [List.length_append,lwl]; show _+1≤_; omega),by omega,fun H6 L6 hL6 s6 h6=>?_⟩
 have sB:=Γ6 (Γ6 (Γ6 s1 s2) s3) s5
 have sA:=Γ6 sB s6
 have hL60:H L6=none:=χ0 sB hL6
 have f3:=fresh3 hM hL60
 have hM6:=hM.keep sA
 have t256:∀ x∈lw++[m.mem (q+b)%16*16+m.mem (q+b) / 16],x < 256:=fun x hx=>by
  rcases List.mem_append.mp hx with z | z
  ·rw [← hlw] at z
   obtain ⟨y,hy,rfl⟩:=List.mem_map.mp z
   have:=nib_lt hM.ok hy
   omega
  ·rw [List.mem_singleton.mp z]; omega
 have F256:=fit_lt (room:=a+1) (fil:=240) t256 (by decide)
 have Fl:=fit_len (lw++[m.mem (q+b)%16*16+m.mem (q+b) / 16]) (a+1) 240
 generalize fit (lw++[m.mem (q+b)%16*16+m.mem (q+b) / 16]) (a+1) 240=F at h6 F256 Fl o
 left
 refine ⟨L6,_,rfl,SqL.of h6,?_⟩
 refine FR.e (xs:=ν1 F) (fun i σ' H'=>(∃ o7 o8,σ'=[some (.ref d.a),some (.int p),some (.int ((a+1:Nat):Int)),some (.int q),some (.int ((b+1:Nat):Int)),some (.ref L1),some (.ref L5),o7,o8,none])∧Mach C d H' (Ra23.put m p i (bv 256 (F.take i))) hv∧Keep d H6 H') ⟨⟨none,none,rfl⟩,(by rw [Φe]; exact hM6),Keep.refl _ _⟩ (fun i σ' H' _ h=>SqL.of (h.2.2 L6 _ h6 f3.1 f3.2.1 f3.2.2)) (fun i x σ' H' t hx h ht=>?_) (fun σ' H' h=>?_)
 ·obtain ⟨⟨o7,o8,rfl⟩,hM',k'⟩:=h
  obtain ⟨n,rfl,hn⟩:=ιj hx
  have hi:=(List.getElem?_eq_some_iff.mp hn).1
  have hn256:=F256 n (List.mem_of_getElem? hn)
  refine ζj ο ?_
  have hM2:=hM'.new (o:=.tup [.int (i:Int),.int (n:Int)]) ht
  have k2:=k'.trans (Keep.new (o:=.tup [.int (i:Int),.int (n:Int)]) ht)
  generalize upd H' t _=H7 at hM2 k2 ⊢
  left
  rw [show (p:Int)+(i:Int)=((p+i:Nat):Int) by omega]
  refine Φ1 (v:=n) hM2 (by omega) rfl hn256 fun H8 hM8 k8=>?_
  rw [tn] at hM8
  refine ⟨⟨_,_,rfl⟩,?_,k2.trans k8⟩
  have e:bv 256 (F.take (i+1))=bv 256 (F.take i)*256+n:=by
   rw [List.take_add_one,hn]
   exact ηe 256 _ n
  rw [e,Ψ4]
  have e1:(bv 256 (F.take i)*256+n) / 256=bv 256 (F.take i):=by omega
  have e2:(bv 256 (F.take i)*256+n)%256=n:=by omega
  rw [e1,e2]
  exact hM8
 ·obtain ⟨_,hM',k'⟩:=h
  rw [ψ0,List.take_length,Fl] at hM'
  exact o H' hM' ((Keep.of_same sA).trans k')
end
section
variable {P:Program} {w:World} {K:PySem.W.Frag} {mg:Str→Option Value} {base:Heap} {C CI CS:Addr}
noncomputable def dcm (m:M) (op p a q b:Nat):Ra23.End :=
 if op=248 then gOne m q b fun y=>gDec m p (a+1) (Ξ9 y) else
 if op=249 then κm m p a q b fun x y=>.done {m with cc:=Ra23.ccBy (Ξ9 x) (Ξ9 y)} else
 if op=250 then κm m p a q b fun x y=>gDec m p (a+1) (Ξ9 x+Ξ9 y) else
 if op=251 then κm m p a q b fun x y=>gDec m p (a+1) (Ξ9 x - Ξ9 y) else
 if op=252 then gMulD m p a q b else gDivD m p a q b
noncomputable def SpF (op:Nat) (C CI CS:Addr):Sp:=fun vs H Q E=>∃ (d:Hd) (m:M) (hv p a q b:Nat),vs=[.ref d.a,.int p,.int ((a+1:Nat):Int),.int q,.int ((b+1:Nat):Int)]∧p+a < 65536∧a < 16∧q+b < 65536∧b < 16∧(252≤op→b < 8∧b < a)∧Mach C d H m hv∧Out C CI CS d hv H Q E (dcm m op p a q b)
theorem ss2_6 {m:M} {op p a q b:Nat} (h:(op=252∨op=253)∧(8 < b+1∨a+1≤b+1)):Ra23.ss2 m op (a+1) p (b+1) q=.stop 6 m:=by
 unfold Ra23.ss2
 rw [if_pos h]
theorem ss2_5 {m:M} {op p a q b:Nat} (h6:¬ ((op=252∨op=253)∧(8 < b+1∨a+1≤b+1))) (h:¬ (p+(a+1)≤65536∧q+(b+1)≤65536)):Ra23.ss2 m op (a+1) p (b+1) q=.stop 5 m:=by
 have e:(Ra23.inside p (a+1) && Ra23.inside q (b+1))=false:=by
  unfold Ra23.inside Ra23.MEMORY
  by_cases c:p+(a+1)≤65536
  ·rw [decide_eq_true c,decide_eq_false (fun z=>h ⟨c,z⟩)]; rfl
  ·rw [decide_eq_false c]; rfl
 unfold Ra23.ss2
 rw [if_neg h6,if_pos e]
theorem in_two {p a q b:Nat} (h1:p+(a+1)≤65536) (h2:q+(b+1)≤65536):¬ ((Ra23.inside p (a+1) && Ra23.inside q (b+1))=false):=by
 unfold Ra23.inside Ra23.MEMORY
 rw [decide_eq_true h1,decide_eq_true h2]
 decide
theorem gDec_put (m:M) (p n:Nat) (y:Ra23.Dec):gDec m p n (Ξ9 y)=Ra23.decimal m p n ⟨y.minus && y.value != 0,y.value⟩:=by
 unfold gDec
 congr 1
 obtain ⟨s,v⟩:=y
 unfold Ξ9
 cases s
 ·show Ra23.Dec.mk (decide ((v:Int) < 0)) ((v:Int).natAbs)=⟨false,v⟩
  rw [decide_eq_false (by omega),Int.natAbs_natCast]
 ·show Ra23.Dec.mk (decide (-(v:Int) < 0)) ((-(v:Int)).natAbs)=⟨(v != 0),v⟩
  rw [Int.natAbs_neg,Int.natAbs_natCast]
  congr 1
  by_cases c:v=0
  ·subst c; rfl
  ·rw [decide_eq_true (by omega)]
   exact (bne_iff_ne.mpr c).symm
theorem decV_neg (y:Ra23.Dec):Ξ9 ⟨!y.minus,y.value⟩ = -Ξ9 y:=by
 obtain ⟨s,v⟩:=y
 cases s
 ·rfl
 ·show (v:Int) = - -(v:Int)
  omega
theorem ss2_dec {m:M} {op p a q b:Nat} (ho:248≤op) (ho2:op≤253) (h6:¬ ((op=252∨op=253)∧(8 < b+1∨a+1≤b+1))) (h1:p+(a+1)≤65536) (h2:q+(b+1)≤65536):Ra23.ss2 m op (a+1) p (b+1) q=dcm m op p a q b:=by
 have hc:op=248∨op=249∨op=250∨op=251∨op=252∨op=253:=by omega
 unfold Ra23.ss2
 rw [if_neg h6,if_neg (in_two h1 h2)]
 unfold dcm
 rcases hc with rfl | rfl | rfl | rfl | rfl | rfl
 ·rw [if_pos rfl]
  unfold gOne
  simp only []
  cases Ra23.unpacked m q (b+1) with
  | none=>rfl
  | some y=>exact (gDec_put m p (a+1) y).symm
 ·rw [if_neg (by decide),if_pos rfl]
  unfold κm
  simp only []
  cases Ra23.unpacked m q (b+1) with
  | none=>rfl
  | some y=>cases Ra23.unpacked m p (a+1) <;> rfl
 ·rw [if_neg (by decide),if_neg (by decide),if_pos rfl]
  unfold κm
  simp only []
  cases Ra23.unpacked m q (b+1) with
  | none=>rfl
  | some y=>cases Ra23.unpacked m p (a+1) <;> rfl
 ·rw [if_neg (by decide),if_neg (by decide),if_neg (by decide),if_pos rfl]
  unfold κm
  simp only []
  cases Ra23.unpacked m q (b+1) with
  | none=>rfl
  | some y =>
   cases Ra23.unpacked m p (a+1) with
   | none=>rfl
   | some x =>
    show Ra23.decimal m p (a+1) (Ra23.decSum x ⟨!y.minus,y.value⟩)=gDec m p (a+1) (Ξ9 x - Ξ9 y)
    have e:Ξ9 x - Ξ9 y=Ξ9 x+Ξ9 ⟨!y.minus,y.value⟩:=by rw [decV_neg]; omega
    rw [e]
    rfl
 ·rw [if_neg (by decide),if_neg (by decide),if_neg (by decide),if_neg (by decide),if_pos rfl]
  unfold gMulD κm
  simp only []
  rw [show a+1 - (b+1)=a - b by omega]
  cases Ra23.unpacked m q (b+1) with
  | none=>rfl
  | some y=>cases Ra23.unpacked m p (a+1) <;> rfl
 ·rw [if_neg (by decide),if_neg (by decide),if_neg (by decide),if_neg (by decide),if_neg (by decide)]
  unfold gDivD κm
  simp only []
  rw [show a+1 - (b+1)=a - b by omega]
  cases Ra23.unpacked m q (b+1) with
  | none=>rfl
  | some y=>cases Ra23.unpacked m p (a+1) <;> rfl
theorem ss2_241 {m:M} {p a q b:Nat} (h1:p+(a+1)≤65536) (h2:q+(b+1)≤65536):Ra23.ss2 m 241 (a+1) p (b+1) q=gMvo m p a q b:=by
 unfold Ra23.ss2
 rw [if_neg (by omega),if_neg (in_two h1 h2)]
 rfl
theorem ss2_242 {m:M} {p a q b:Nat} (h1:p+(a+1)≤65536) (h2:q+(b+1)≤65536):Ra23.ss2 m 242 (a+1) p (b+1) q=gPack m p a q b:=by
 unfold Ra23.ss2
 rw [if_neg (by omega),if_neg (in_two h1 h2)]
 rfl
theorem ss2_243 {m:M} {p a q b:Nat} (h1:p+(a+1)≤65536) (h2:q+(b+1)≤65536):Ra23.ss2 m 243 (a+1) p (b+1) q=gUnpk m p a q b:=by
 unfold Ra23.ss2
 rw [if_neg (by omega),if_neg (in_two h1 h2)]
 rfl
theorem rd_kin {σ:L2.St} {H:Hp} {Q:VK} {to ti:TE} (q:ti σ H fun y H1=>to σ H1 fun x H2=>∃ a kvs n,x=.ref a∧y=.int n∧θ9 P w K a kvs∧Q (.bl (kvs.lookup n).isSome) H2):tKIn P w K ti to σ H Q:=q
noncomputable def isTwo (op:Nat):Bool:=([0xF1,0xF2,0xF3,0xF8,0xF9,0xFA,0xFB,0xFC,0xFD]:List Nat).contains op
noncomputable def χc (C CI CS:Addr):Sp:=fun vs H Q E=>∃ (d:Hd) (m:M) (hv op a b p q:Nat),vs=[.ref d.a,.int op,.int ((a+1:Nat):Int),.int ((b+1:Nat):Int),.int p,.int q]∧a < 16∧b < 16∧Mach C d H m hv∧Out C CI CS d hv H Q E (if isTwo op=true then Ra23.ss2 m op (a+1) p (b+1) q else .stop 1 m)
theorem isTwo_no {op:Nat} (h:op∉[248,249,250,251,252,253]) (h2:op < 241∨243 < op):isTwo op=false:=by
 simp only [List.mem_cons,List.not_mem_nil,or_false,not_or] at h
 unfold isTwo
 rw [Bool.eq_false_iff]
 intro z
 have z2:op∈([0xF1,0xF2,0xF3,0xF8,0xF9,0xFA,0xFB,0xFC,0xFD]:List Nat):=List.contains_iff_mem.mp z
 simp only [List.mem_cons,List.not_mem_nil,or_false] at z2
 omega
theorem isTwo_yes {op:Nat} (h:op∈[248,249,250,251,252,253]∨(241≤op∧op≤243)):isTwo op=true:=by
 have hc:op=241∨op=242∨op=243∨op=248∨op=249∨op=250∨op=251∨op=252∨op=253:=by
  rcases h with h | h
  ·simp only [List.mem_cons,List.not_mem_nil,or_false] at h
   omega
  ·omega
 rcases hc with rfl | rfl | rfl | rfl | rfl | rfl | rfl | rfl | rfl <;> rfl
theorem νm:FnScope ["machine","operation","size","other","first","second"] ["machine","operation","size","other","first","second"] (ξ (top 51)):=mkS
theorem φm (T:Txt P w K mg base C CI CS) (h:Has K mg "two_numbers" "two_numbers" (top 51)) (tab:TabAt P w K mg base "OPERATIONS_decimals" 5 ["machine","first","size","second","other"] [248,249,250,251,252,253] (fun op=>SpF op C CI CS)) (c_need_room:Callee P w K mg base 3 "need_room" ["place","size"] (τ0 C CI CS)) (c_move_before_last:Callee P w K mg base 2 "move_before_last" ["machine","first","size","second","other"] (ν5 C CI CS)) (c_pack:Callee P w K mg base 2 "pack" ["machine","first","size","second","other"] (sp_pack C CI CS)) (c_unpack:Callee P w K mg base 2 "unpack" ["machine","first","size","second","other"] (sp_unpack C CI CS)):Callee P w K mg base 6 "two_numbers" ["machine","operation","size","other","first","second"] (χc C CI CS):=by
 refine ω (k:=5) h νm (fun vs H Q E h=>?_) (fun _ _ _ _ _ _=>ml6 fun _ _ _ _ _ _=>rfl) fun f cdv A outer s H vs Q E hr h=>?_
 ·obtain ⟨d,m,hv,op,a,b,p,q,rfl,_⟩:=h
  rfl
 obtain ⟨d,m,hv,op,a,b,p,q,rfl,ha,hb,hM,o⟩:=h
 have hmc:=T.mc
 obtain ⟨ta,kvs,g_OPERATIONS_decimals,kd,hop⟩:=tab
 refine ⟨_,(η (ρ0 (φn (pw_or (η4 ρ6 ρ6 ι (pv 1) ι) (Ωj (pt_cmp (pc_kin (pv 1) (Ωe g_OPERATIONS_decimals (by rfl))) (by rfl)))).pt) (θ (Ω4 T.rI hr (by decide) rfl (ζ ι ν))) ι0) (η (ρ0 (pw_and (Ψ κk (pv 1) ι (Ω _)) (ζk (pw_or (Ψ op_gt (pv 3) ι (Ω _)) (Ωj (Ψ κk (pv 3) (pv 2) (Ω _)))).pt)).pt (θ (Ω4 T.rI hr (by decide) rfl (ζ ι ν))) ι0) (η (χ (τ c_need_room hr (by decide) rfl (ζ (pv 4) (ζ (pv 2) ν)))) (η (χ (τ c_need_room hr (by decide) rfl (ζ (pv 5) (ζ (pv 3) ν)))) (θ (ρ0 (Ψ ψ1 (pv 1) ι (Ω _)) (θ (χ (τ c_move_before_last hr (by decide) rfl (ζ (pv 0) (ζ (pv 4) (ζ (pv 2) (ζ (pv 5) (ζ (pv 3) ν)))))))) (θ (ρ0 (Ψ ψ1 (pv 1) ι (Ω _)) (θ (χ (τ c_pack hr (by decide) rfl (ζ (pv 0) (ζ (pv 4) (ζ (pv 2) (ζ (pv 5) (ζ (pv 3) ν)))))))) (θ (ρ0 (Ψ ψ1 (pv 1) ι (Ω _)) (θ (χ (τ c_unpack hr (by decide) rfl (ζ (pv 0) (ζ (pv 4) (ζ (pv 2) (ζ (pv 5) (ζ (pv 3) ν)))))))) (θ (χ (υh hr (pe_kix (Ωe g_OPERATIONS_decimals rfl) (pv 1) (fun _ _=>rfl)) (ζ (pv 0) (ζ (pv 4) (ζ (pv 2) (ζ (pv 5) (ζ (pv 3) ν)))))))))))))))))),?_⟩
 obtain ⟨hk1,hk2⟩:=hop op
 left
 refine Δ (fun c1=>?_) (fun c1=>?_)
 ·left
  refine Δ (fun c2=>?_) (fun c2=>?_)
  ·rw [if_pos (isTwo_yes (.inr ⟨by omega,by omega⟩))] at o
   refine Γ9 ?_
   have h6:¬ ((op=252∨op=253)∧(8 < b+1∨a+1≤b+1)):=by omega
   left
   refine Δ (fun z=>absurd z (by omega)) (fun _=>?_)
   left
   refine Γ9 ?_
   left
   refine ⟨_,_,rfl,fun c=>?_,fun r1=>?_⟩
   ·rw [ss2_5 h6 (by omega)] at o
    exact o.raise hM
   left
   refine ⟨_,_,rfl,fun c=>?_,fun r2=>?_⟩
   ·rw [ss2_5 h6 (by omega)] at o
    exact o.raise hM
   left
   refine Δ (fun e1=>?_) (fun e1=>?_)
   ·have e1:op=241:=by omega
    subst e1
    rw [ss2_241 (by omega) (by omega)] at o
    left
    exact ⟨d,m,hv,p,a,q,b,rfl,by omega,ha,by omega,hb,hM,o.q⟩
   left
   refine Δ (fun e2=>?_) (fun e2=>?_)
   ·have e2:op=242:=by omega
    subst e2
    rw [ss2_242 (by omega) (by omega)] at o
    left
    exact ⟨d,m,hv,p,a,q,b,rfl,by omega,ha,by omega,hb,hM,o.q⟩
   left
   refine Δ (fun e3=>?_) (fun e3=>?_)
   ·have e3:op=243:=by omega
    subst e3
    rw [ss2_243 (by omega) (by omega)] at o
    left
    exact ⟨d,m,hv,p,a,q,b,rfl,by omega,ha,by omega,hb,hM,o.q⟩
   omega
  ·left
   refine rd_kin ?_
   left
   refine ⟨ta,kvs,_,rfl,rfl,kd,?_⟩
   left
   by_cases hkk:op∈[248,249,250,251,252,253]
   ·rw [if_pos (isTwo_yes (.inl hkk))] at o
    obtain ⟨g,hl,fa⟩:=hk1 hkk
    simp only [List.mem_cons,List.not_mem_nil,or_false] at hkk
    rw [hl]
    refine Γ9 ?_
    left
    refine Δ (fun f1=>?_) (fun f1=>?_)
    ·left
     refine Δ (fun f2=>?_) (fun f2=>?_)
     ·refine τc ?_
      rw [ss2_6 (by omega)] at o
      left
      exact ⟨6,rfl,o.raise hM⟩
     ·left
      refine Δ (fun f3=>?_) (fun f3=>?_)
      ·rw [ss2_6 (by omega)] at o
       left
       exact ⟨6,rfl,o.raise hM⟩
      ·skip
       have h6:¬ ((op=252∨op=253)∧(8 < b+1∨a+1≤b+1)):=by omega
       left
       refine ⟨_,_,rfl,fun c=>?_,fun r1=>?_⟩
       ·rw [ss2_5 h6 (by omega)] at o
        exact o.raise hM
       left
       refine ⟨_,_,rfl,fun c=>?_,fun r2=>?_⟩
       ·rw [ss2_5 h6 (by omega)] at o
        exact o.raise hM
       left
       refine Δ (fun z=>absurd z (by omega)) (fun _=>?_)
       left
       refine Δ (fun z=>absurd z (by omega)) (fun _=>?_)
       left
       refine Δ (fun z=>absurd z (by omega)) (fun _=>?_)
       rw [ss2_dec (by omega) (by omega) h6 (by omega) (by omega)] at o
       left
       refine κ4 ?_
       refine rd_kix ?_
       left
       refine ⟨ta,kvs,_,g,rfl,rfl,kd,hl,?_⟩
       refine ⟨g,rfl,fa.kp,?_⟩
       left
       exact ⟨5,_,_,by decide,fa,d,m,hv,p,a,q,b,rfl,by omega,ha,by omega,hb,by omega,hM,o.q⟩
    ·refine Γ9 ?_
     have h6:¬ ((op=252∨op=253)∧(8 < b+1∨a+1≤b+1)):=by omega
     left
     refine ⟨_,_,rfl,fun c=>?_,fun r1=>?_⟩
     ·rw [ss2_5 h6 (by omega)] at o
      exact o.raise hM
     left
     refine ⟨_,_,rfl,fun c=>?_,fun r2=>?_⟩
     ·rw [ss2_5 h6 (by omega)] at o
      exact o.raise hM
     left
     refine Δ (fun z=>absurd z (by omega)) (fun _=>?_)
     left
     refine Δ (fun z=>absurd z (by omega)) (fun _=>?_)
     left
     refine Δ (fun z=>absurd z (by omega)) (fun _=>?_)
     rw [ss2_dec (by omega) (by omega) h6 (by omega) (by omega)] at o
     left
     refine κ4 ?_
     refine rd_kix ?_
     left
     refine ⟨ta,kvs,_,g,rfl,rfl,kd,hl,?_⟩
     refine ⟨g,rfl,fa.kp,?_⟩
     left
     exact ⟨5,_,_,by decide,fa,d,m,hv,p,a,q,b,rfl,by omega,ha,by omega,hb,by omega,hM,o.q⟩
   ·rw [isTwo_no hkk (by omega),if_neg (by decide)] at o
    rw [hk2 hkk]
    refine τc ?_
    left
    exact ⟨1,rfl,o.raise hM⟩
 ·left
  refine Γ9 ?_
  left
  refine rd_kin ?_
  left
  refine ⟨ta,kvs,_,rfl,rfl,kd,?_⟩
  left
  have hkk:op∉[248,249,250,251,252,253]:=by
   simp only [List.mem_cons,List.not_mem_nil,or_false,not_or]
   omega
  rw [isTwo_no hkk (by omega),if_neg (by decide)] at o
  rw [hk2 hkk]
  refine τc ?_
  left
  exact ⟨1,rfl,o.raise hM⟩
end
section
variable {P:Program} {w:World} {K:PySem.W.Frag} {mg:Str→Option Value} {base:Heap} {C CI CS:Addr}
noncomputable def SpJo (f:Nat→Nat→Nat):Sp:=fun vs H Q _=>∃ a b:Nat,vs=[.int a,.int b]∧a < 256∧b < 256∧Q (.int ((f a b:Nat):Int)) H
theorem join8:∀ a:Nat,a < 256→(a &&& 240)=a / 16*16:=by decide
theorem and240 {a:Nat} (h:a < 256):Builtin.bitAnd (a:Int) 240=((a / 16*16:Nat):Int):=by
 have z:=Ξ3 a 240
 rw [show ((240:Nat):Int)=240 from rfl] at z
 rw [z,join8 a h]
theorem or16 {a b:Nat} (h:b < 16):Builtin.bitOr ((a*16:Nat):Int) (b:Int)=((a*16+b:Nat):Int):=by
 rw [τ3]
 exact congrArg _ (ω9 (k:=4) h)
theorem or16' {a b:Nat} (h:b < 16):Builtin.bitOr (b:Int) ((a*16:Nat):Int)=((a*16+b:Nat):Int):=by
 rw [τ3,Nat.or_comm]
 exact congrArg _ (ω9 (k:=4) h)
theorem ζd:FnScope ["byte","other"] ["byte","other"] (ξ (top 148)):=mkS
theorem νd {f:Addr} (T:Txt P w K mg base C CI CS) (h:HasF K f "lower_half_moved" (top 148)):Fa P w K mg base 1 f ["byte","other"] (SpJo (fun a b=>a / 16*16+b%16)):=by
 refine Ψ0 (k:=0) h ζd (fun vs H Q E h=>?_) (fun _ _ _ _ _ _=>ml2 fun _ _=>rfl) fun cdv A outer s H vs Q E hr h=>?_
 ·obtain ⟨a,b,rfl,_⟩:=h
  rfl
 obtain ⟨a,b,rfl,ha,hb,q⟩:=h
 refine ⟨_,(θ (ω0 (υ ζ3 (υ ν0 (pv 0) ι) (υ ν0 (pv 1) ι)))),?_⟩
 left
 rw [and240 ha,Δb,or16 (Nat.mod_lt _ (by decide))]
 exact q
theorem ζc:FnScope ["byte","other"] ["byte","other"] (ξ (top 149)):=mkS
theorem ξc {f:Addr} (T:Txt P w K mg base C CI CS) (h:HasF K f "higher_half_moved" (top 149)):Fa P w K mg base 1 f ["byte","other"] (SpJo (fun a b=>b / 16*16+a%16)):=by
 refine Ψ0 (k:=0) h ζc (fun vs H Q E h=>?_) (fun _ _ _ _ _ _=>ml2 fun _ _=>rfl) fun cdv A outer s H vs Q E hr h=>?_
 ·obtain ⟨a,b,rfl,_⟩:=h
  rfl
 obtain ⟨a,b,rfl,ha,hb,q⟩:=h
 refine ⟨_,(θ (ω0 (υ ζ3 (υ ν0 (pv 0) ι) (υ ν0 (pv 1) ι)))),?_⟩
 left
 rw [and240 hb,Δb,or16' (Nat.mod_lt _ (by decide))]
 exact q
theorem κg:FnScope ["byte","other"] ["byte","other"] (ξ (top 150)):=mkS
theorem ωg {f:Addr} (T:Txt P w K mg base C CI CS) (h:HasF K f "bits_and" (top 150)):Fa P w K mg base 1 f ["byte","other"] (SpJo (fun a b=>a &&& b)):=by
 refine Ψ0 (k:=0) h κg (fun vs H Q E h=>?_) (fun _ _ _ _ _ _=>ml2 fun _ _=>rfl) fun cdv A outer s H vs Q E hr h=>?_
 ·obtain ⟨a,b,rfl,_⟩:=h
  rfl
 obtain ⟨a,b,rfl,ha,hb,q⟩:=h
 refine ⟨_,(θ (ω0 (υ ν0 (pv 0) (pv 1)))),?_⟩
 left
 rw [Ξ3]
 exact q
theorem Φh:FnScope ["byte","other"] ["byte","other"] (ξ (top 152)):=mkS
theorem φi {f:Addr} (T:Txt P w K mg base C CI CS) (h:HasF K f "bits_or" (top 152)):Fa P w K mg base 1 f ["byte","other"] (SpJo (fun a b=>a ||| b)):=by
 refine Ψ0 (k:=0) h Φh (fun vs H Q E h=>?_) (fun _ _ _ _ _ _=>ml2 fun _ _=>rfl) fun cdv A outer s H vs Q E hr h=>?_
 ·obtain ⟨a,b,rfl,_⟩:=h
  rfl
 obtain ⟨a,b,rfl,ha,hb,q⟩:=h
 refine ⟨_,(θ (ω0 (υ ζ3 (pv 0) (pv 1)))),?_⟩
 left
 rw [τ3]
 exact q
theorem ξ8:FnScope ["byte","other"] ["byte","other"] (ξ (top 154)):=mkS
theorem ζ9 {f:Addr} (T:Txt P w K mg base C CI CS) (h:HasF K f "bits_exclusive" (top 154)):Fa P w K mg base 1 f ["byte","other"] (SpJo (fun a b=>a ^^^ b)):=by
 refine Ψ0 (k:=0) h ξ8 (fun vs H Q E h=>?_) (fun _ _ _ _ _ _=>ml2 fun _ _=>rfl) fun cdv A outer s H vs Q E hr h=>?_
 ·obtain ⟨a,b,rfl,_⟩:=h
  rfl
 obtain ⟨a,b,rfl,ha,hb,q⟩:=h
 refine ⟨_,(θ (ω0 (υ op_xor (pv 0) (pv 1)))),?_⟩
 left
 rw [οj]
 exact q
noncomputable def SpT (G:M→Nat→Nat→Nat→Ra23.End) (C CI CS:Addr):Sp:=fun vs H Q E=>∃ (d:Hd) (m:M) (hv n p q:Nat),vs=[.ref d.a,.int n,.int p,.int q]∧0 < n∧n≤256∧p < 2^24∧q < 2^24∧Mach C d H m hv∧Out C CI CS d hv H Q E (G m n p q)
noncomputable def gIn2 (m:M) (n p q:Nat) (e:Ra23.End):Ra23.End:=if p+n≤65536∧q+n≤65536 then e else .stop 5 m
noncomputable def φe (C CI CS:Addr):Sp:=SpT (fun m n p q=>gIn2 m n p q (.done (Ra23.along m p q (fun _ b=>b) n))) C CI CS
theorem along_succ (m:M) (p q n:Nat) (f:Nat→Nat→Nat):Ra23.along m p q f (n+1)=Ra23.byteIn (Ra23.along m p q f n) (p+n) (f ((Ra23.along m p q f n).mem (p+n)) ((Ra23.along m p q f n).mem (q+n))):=rfl
theorem ν8:FnScope ["machine","size","first","second","memory","index"] ["machine","size","first","second"] (ξ (top 157)):=mkS
theorem ok_move_texts (T:Txt P w K mg base C CI CS) (h:Has K mg "move_texts" "move" (top 157)) (c_need_room:Callee P w K mg base 3 "need_room" ["place","size"] (τ0 C CI CS)):Callee P w K mg base 4 "move_texts" ["machine","size","first","second"] (φe C CI CS):=by
 refine ω (k:=3) h ν8 (fun vs H Q E h=>?_) (fun _ _ _ _ _ _=>ml4 fun _ _ _ _=>rfl) fun f cdv A outer s H vs Q E hr h=>?_
 ·obtain ⟨d,m,hv,n,p,q,rfl,_⟩:=h
  rfl
 obtain ⟨d,m,hv,n,p,q,rfl,hn0,hn,hp,hq,hM,o⟩:=h
 have hmc:=T.mc
 refine ⟨_,(η (χ (τ c_need_room hr (by decide) rfl (ζ (pv 2) (ζ (pv 1) ν)))) (η (χ (τ c_need_room hr (by decide) rfl (ζ (pv 3) (ζ (pv 1) ν)))) (η (Ξ (i:=4) ν8.nd rfl (Or.inl rfl) (Γ (pv 0) rfl)) (θ (ξ4 PassesOwn.leaving rfl (νb rfl T.brange (ζ (pv 1) ν)) (κ1 (i:=5) ν8.nd rfl (Or.inl rfl)) (θ (Γ0 (ο0 Φ (pv 4) (υ η0 (pv 3) (pv 5)) (fun _ _=>rfl)) (Δ0 (pv 4) (υ η0 (pv 2) (pv 5)) κ0)))))))),?_⟩
 dsimp only [gIn2] at o
 left
 refine ⟨_,_,rfl,fun c=>?_,fun r1=>?_⟩
 ·rw [if_neg (by omega)] at o
  exact o.raise hM
 left
 refine ⟨_,_,rfl,fun c=>?_,fun r2=>?_⟩
 ·rw [if_neg (by omega)] at o
  exact o.raise hM
 rw [if_pos (by omega)] at o
 left
 refine ⟨_,rfl,by omega,by omega,?_⟩
 rw [tn]
 refine FR.r (fun i σ' H'=>(∃ o5,σ'=[some (.ref d.a),some (.int n),some (.int p),some (.int q),some (.ref d.q),o5])∧Mach C d H' (Ra23.along m p q (fun _ b=>b) i) hv∧Keep d H H') ⟨⟨none,rfl⟩,hM,Keep.refl _ _⟩ (fun i σ' H' hi h=>?_) (fun σ' H' h=>?_)
 ·obtain ⟨⟨o5,rfl⟩,hM',k'⟩:=h
  rw [Int.zero_add]
  left
  rw [show (q:Int)+(i:Int)=((q+i:Nat):Int) by omega,tn,show (p:Int)+(i:Int)=((p+i:Nat):Int) by omega]
  refine Φ1 hM' (by omega) rfl (hM'.ok.mem _) fun H2 hM2 k2=>?_
  rw [tn] at hM2
  exact ⟨⟨_,rfl⟩,hM2,k'.trans k2⟩
 ·obtain ⟨_,hM',k'⟩:=h
  exact o H' hM' k'
end
section
variable {P:Program} {w:World} {K:PySem.W.Frag} {mg:Str→Option Value} {base:Heap} {C CI CS:Addr}
noncomputable def gInT (m:M) (n p q:Nat) (e:Ra23.End):Ra23.End:=if p+n≤65536∧q+256≤65536 then e else .stop 5 m
noncomputable def trl (m:M) (p q i:Nat):M:=(List.range i).foldl (fun f i=>Ra23.byteIn f (p+i) (f.mem (q+f.mem (p+i)))) m
theorem trl_succ (m:M) (p q i:Nat):trl m p q (i+1)=Ra23.byteIn (trl m p q i) (p+i) ((trl m p q i).mem (q+(trl m p q i).mem (p+i))):=by
 unfold trl
 rw [List.range_succ,List.foldl_append]
 rfl
noncomputable def ιh (C CI CS:Addr):Sp:=SpT (fun m n p q=>gInT m n p q (.done (trl m p q n))) C CI CS
theorem Ξa:FnScope ["machine","size","first","table","memory","place"] ["machine","size","first","table"] (ξ (top 162)):=mkS
theorem ok_translate (T:Txt P w K mg base C CI CS) (h:Has K mg "translate" "translate" (top 162)) (c_need_room:Callee P w K mg base 3 "need_room" ["place","size"] (τ0 C CI CS)):Callee P w K mg base 4 "translate" ["machine","size","first","table"] (ιh C CI CS):=by
 refine ω (k:=3) h Ξa (fun vs H Q E h=>?_) (fun _ _ _ _ _ _=>ml4 fun _ _ _ _=>rfl) fun f cdv A outer s H vs Q E hr h=>?_
 ·obtain ⟨d,m,hv,n,p,q,rfl,_⟩:=h
  rfl
 obtain ⟨d,m,hv,n,p,q,rfl,hn0,hn,hp,hq,hM,o⟩:=h
 have hmc:=T.mc
 refine ⟨_,(η (χ (τ c_need_room hr (by decide) rfl (ζ (pv 2) (ζ (pv 1) ν)))) (η (χ (τ c_need_room hr (by decide) rfl (ζ (pv 3) (ζ ι ν)))) (η (Ξ (i:=4) Ξa.nd rfl (Or.inl rfl) (Γ (pv 0) rfl)) (θ (ξ4 PassesOwn.leaving rfl (ρ7 rfl T.brange (ζ (pv 2) (ζ (υ η0 (pv 2) (pv 1)) ν))) (κ1 (i:=5) Ξa.nd rfl (Or.inl rfl)) (θ (Γ0 (ο0 Φ (pv 4) (υ η0 (pv 3) (ο0 Φ (pv 4) (pv 5) (fun _ _=>rfl))) (fun _ _=>rfl)) (Δ0 (pv 4) (pv 5) κ0)))))))),?_⟩
 dsimp only [gInT] at o
 left
 refine ⟨_,_,rfl,fun c=>?_,fun r1=>?_⟩
 ·rw [if_neg (by omega)] at o
  exact o.raise hM
 left
 refine ⟨_,_,rfl,fun c=>?_,fun r2=>?_⟩
 ·rw [if_neg (by omega)] at o
  exact o.raise hM
 rw [if_pos (by omega)] at o
 left
 refine ⟨_,_,rfl,⟨by omega,by omega,by omega,by omega⟩,?_⟩
 rw [show ((p:Int)+(n:Int) - (p:Int)).toNat=n by omega]
 refine FR.r (fun i σ' H'=>(∃ o5,σ'=[some (.ref d.a),some (.int n),some (.int p),some (.int q),some (.ref d.q),o5])∧Mach C d H' (trl m p q i) hv∧Keep d H H') ⟨⟨none,rfl⟩,hM,Keep.refl _ _⟩ (fun i σ' H' hi h=>?_) (fun σ' H' h=>?_)
 ·obtain ⟨⟨o5,rfl⟩,hM',k'⟩:=h
  rw [show (p:Int)+(i:Int)=((p+i:Nat):Int) by omega]
  have h1:=hM'.ok.mem (p+i)
  left
  rw [tn]
  left
  rw [show ((q:Int)+(((trl m p q i).mem (p+i):Nat):Int)).toNat=q+(trl m p q i).mem (p+i) by omega]
  refine Φ1 hM' (by omega) rfl (hM'.ok.mem _) fun H2 hM2 k2=>?_
  rw [tn] at hM2
  refine ⟨⟨_,rfl⟩,?_,k'.trans k2⟩
  rw [trl_succ]
  exact hM2
 ·obtain ⟨_,hM',k'⟩:=h
  exact o H' hM' k'
noncomputable def gSrch (m:M) (n p q:Nat):Ra23.End:=match (List.range n).find? fun i=>m.mem (q+m.mem (p+i)) != 0 with
   | none=>.done {m with cc:=0}
   | some i=>.done {Ra23.set (Ra23.set m 1 (m.r 1 / 2^24*2^24+(p+i))) 2 (m.r 2 / 256*256+m.mem (q+m.mem (p+i))) with cc:=if i+1=n then 2 else 1}
theorem place_in {r x:Nat} (hr:r < 2^32) (hx:x < 2^24):Builtin.bitOr (Builtin.bitAnd (r:Int) 4278190080) (x:Int)=((r / 2^24*2^24+x:Nat):Int):=by
 have z:=Ξ3 r 4278190080
 rw [show ((4278190080:Nat):Int)=4278190080 from rfl] at z
 have a:=and_high (x:=r) (k:=24) (n:=8) hr
 rw [show 2^(24+8) - 2^24=4278190080 from rfl] at a
 rw [z,a,τ3]
 exact congrArg _ (ω9 (k:=24) hx)
noncomputable def sp_search (C CI CS:Addr):Sp:=SpT (fun m n p q=>gInT m n p q (gSrch m n p q)) C CI CS
theorem ψj:FnScope ["machine","size","first","table","place","found"] ["machine","size","first","table"] (ξ (top 163)):=mkS
theorem ok_search (T:Txt P w K mg base C CI CS) (h:Has K mg "search" "search" (top 163)) (c_need_room:Callee P w K mg base 3 "need_room" ["place","size"] (τ0 C CI CS)):Callee P w K mg base 4 "search" ["machine","size","first","table"] (sp_search C CI CS):=by
 refine ω (k:=3) h ψj (fun vs H Q E h=>?_) (fun _ _ _ _ _ _=>ml4 fun _ _ _ _=>rfl) fun f cdv A outer s H vs Q E hr h=>?_
 ·obtain ⟨d,m,hv,n,p,q,rfl,_⟩:=h
  rfl
 obtain ⟨d,m,hv,n,p,q,rfl,hn0,hn,hp,hq,hM,o⟩:=h
 have hmc:=T.mc
 refine ⟨_,(η (χ (τ c_need_room hr (by decide) rfl (ζ (pv 2) (ζ (pv 1) ν)))) (η (χ (τ c_need_room hr (by decide) rfl (ζ (pv 3) (ζ ι ν)))) (η (ξ0 (pv 0) ι rfl) (θ (ξ4 PassesOwn.leaving rfl (ρ7 rfl T.brange (ζ (pv 2) (ζ (υ η0 (pv 2) (pv 1)) ν))) (κ1 (i:=4) ψj.nd rfl (Or.inl rfl)) (η (Ξ (i:=5) ψj.nd rfl (Or.inl rfl) (ο0 Φ (Γ (pv 0) rfl) (υ η0 (pv 3) (ο0 Φ (Γ (pv 0) rfl) (pv 4) (fun _ _=>rfl))) (fun _ _=>rfl))) (θ (ρ0 (Ψ ξb (pv 5) ι (Ω _)) (η (Γ0 (υ ζ3 (υ ν0 (ο0 Φ (Γ (pv 0) rfl) ι (fun _ _=>rfl)) ι) (pv 4)) (Δ0 (Γ (pv 0) rfl) ι κ0)) (η (Γ0 (υ ζ3 (υ ν0 (ο0 Φ (Γ (pv 0) rfl) ι (fun _ _=>rfl)) ι) (pv 5)) (Δ0 (Γ (pv 0) rfl) ι κ0)) (η (ξ0 (pv 0) (Ψ1 (Ψ ψ1 (pv 4) (υ ο2 (υ η0 (pv 2) (pv 1)) ι) (Ω _)) ι ι) rfl) (θ ps_retN)))) ι0)))))))),?_⟩
 dsimp only [gInT] at o
 left
 refine ⟨_,_,rfl,fun c=>?_,fun r1=>?_⟩
 ·rw [if_neg (by omega)] at o
  exact o.raise hM
 left
 refine ⟨_,_,rfl,fun c=>?_,fun r2=>?_⟩
 ·rw [if_neg (by omega)] at o
  exact o.raise hM
 rw [if_pos (by omega)] at o
 unfold gSrch at o
 left
 refine ρ1 hM hmc rfl (v:=0) rfl (by decide) fun H1 hM1 k1=>?_
 left
 refine ⟨_,_,rfl,⟨by omega,by omega,by omega,by omega⟩,?_⟩
 rw [show ((p:Int)+(n:Int) - (p:Int)).toNat=n by omega]
 refine FR.r (fun i σ' H'=>H'=H1∧(∃ o4 o5,σ'=[some (.ref d.a),some (.int n),some (.int p),some (.int q),o4,o5])∧∀ t,t < i→m.mem (q+m.mem (p+t))=0) ⟨rfl,⟨none,none,rfl⟩,fun t ht=>absurd ht (by omega)⟩ (fun i σ' H' hi h=>?_) (fun σ' H' h=>?_)
 ·obtain ⟨rfl,⟨o4,o5,rfl⟩,hz⟩:=h
  rw [show (p:Int)+(i:Int)=((p+i:Nat):Int) by omega]
  have h1:=hM.ok.mem (p+i)
  have h2:=hM.ok.mem (q+m.mem (p+i))
  left
  rw [tn]
  show rIxL _ (.ref d.q) (.int ((q:Int)+((m.mem (p+i):Nat):Int))) _ _
  rw [show (q:Int)+((m.mem (p+i):Nat):Int)=((q+m.mem (p+i):Nat):Int) by omega]
  refine rd_ixM hM1 (by omega) ?_
  rw [tn]
  left
  refine υ1 (fun c=>?_) (fun c=>?_)
  ·have hf:(List.range n).find? (fun i=>m.mem (q+m.mem (p+i)) != 0)=some i:=by
    rw [List.find?_range_eq_some]
    refine ⟨?_,List.mem_range.mpr hi,fun t ht=>?_⟩
    ·exact bne_iff_ne.mpr (fun z=>c (by show ((m.mem (q+m.mem (p+i)):Nat):Int)=0; omega))
    ·rw [hz t ht]
     rfl
   rw [hf] at o
   dsimp only at o
   have hr1:=hM.ok.reg 1
   have hr2:=hM.ok.reg 2
   left
   show rSetL (.ref d.r) (.int 1) (.int (Builtin.bitOr (Builtin.bitAnd ((m.r 1:Nat):Int) 4278190080) ((p+i:Nat):Int))) _ _
   rw [place_in hr1 (by omega)]
   refine θ1 hM1 (by omega) rfl (by omega) fun H2 hM2 k2=>?_
   have hM2':Mach C d H2 (Ra23.set {m with cc:=0} 1 (m.r 1 / 2^24*2^24+(p+i))) hv:=hM2
   left
   show rSetL (.ref d.r) (.int 2) (.int (Builtin.bitOr (Builtin.bitAnd ((m.r 2:Nat):Int) 4294967040) ((m.mem (q+m.mem (p+i)):Nat):Int))) _ _
   rw [byte_in hr2 h2]
   refine θ1 hM2' (by omega) rfl (by omega) fun H3 hM3 k3=>?_
   have hM3':Mach C d H3 (Ra23.set (Ra23.set {m with cc:=0} 1 (m.r 1 / 2^24*2^24+(p+i))) 2 (m.r 2 / 256*256+m.mem (q+m.mem (p+i)))) hv:=hM3
   left
   refine Δ (fun c3=>?_) (fun c3=>?_)
   ·left
    refine ρ1 hM3' hmc rfl (v:=2) rfl (by decide) fun H4 hM4 k4=>?_
    left
    refine o H4 ?_ (k1.trans (k2.trans (k3.trans k4)))
    rw [if_pos (by omega)]
    exact hM4
   ·left
    refine ρ1 hM3' hmc rfl (v:=1) rfl (by decide) fun H4 hM4 k4=>?_
    left
    refine o H4 ?_ (k1.trans (k2.trans (k3.trans k4)))
    rw [if_neg (by omega)]
    exact hM4
  ·refine ⟨rfl,⟨_,_,rfl⟩,fun t ht=>?_⟩
   by_cases e:t=i
   ·subst e
    have c':((m.mem (q+m.mem (p+t)):Nat):Int)=0:=c
    omega
   ·exact hz t (by omega)
 ·obtain ⟨rfl,_,hz⟩:=h
  have hf:(List.range n).find? (fun i=>m.mem (q+m.mem (p+i)) != 0)=none:=by
   rw [List.find?_range_eq_none]
   intro t ht
   rw [hz t ht]
   rfl
  rw [hf] at o
  exact o _ hM1 k1
end
section
variable {P:Program} {w:World} {K:PySem.W.Frag} {mg:Str→Option Value} {base:Heap} {C CI CS:Addr}
noncomputable def jnF (op a b:Nat):Nat :=
 if op=209 then a / 16*16+b%16 else if op=211 then b / 16*16+a%16 else if op=212 then a &&& b else if op=214 then a ||| b else a ^^^ b
theorem jnF_lt {op a b:Nat} (ha:a < 256) (hb:b < 256):jnF op a b < 256:=by
 unfold jnF
 split
 ·omega
 split
 ·omega
 split
 ·exact Nat.and_lt_two_pow (n:=8) _ hb
 split
 ·exact Nat.or_lt_two_pow (n:=8) ha hb
 ·exact Nat.xor_lt_two_pow (n:=8) ha hb
theorem along_at {m:M} {p q i t:Nat} {f:Nat→Nat→Nat}:(Ra23.along m p q f (i+1)).mem (p+t)=if t=i then f ((Ra23.along m p q f i).mem (p+i)) ((Ra23.along m p q f i).mem (q+i)) else (Ra23.along m p q f i).mem (p+t):=by
 rw [along_succ]
 show (if p+t=p+i then _ else _)=_
 by_cases c:t=i
 ·subst c
  rw [if_pos rfl,if_pos rfl]
 ·rw [if_neg (by omega),if_neg c]
noncomputable def gJn (m:M) (op n p q:Nat):Ra23.End :=
 let f:=Ra23.along m p q (jnF op) n
 if 212≤op then .done {f with cc:=if (List.range n).all (fun i=>f.mem (p+i) == 0)=true then 0 else 1} else .done f
noncomputable def χe (C CI CS:Addr):Sp:=fun vs H Q E=>∃ (d:Hd) (m:M) (hv op n p q:Nat),vs=[.ref d.a,.int op,.int n,.int p,.int q]∧op∈[209,211,212,214,215]∧0 < n∧n≤256∧p < 2^24∧q < 2^24∧Mach C d H m hv∧Out C CI CS d hv H Q E (gIn2 m n p q (gJn m op n p q))
theorem or_zero (a b:Nat):(a ||| b)=0↔a=0∧b=0:=Nat.or_eq_zero_iff
theorem Ξ1:FnScope ["machine","operation","size","first","second","memory","joined","bits","index","byte"] ["machine","operation","size","first","second"] (ξ (top 159)):=mkS
theorem ok_join_texts (T:Txt P w K mg base C CI CS) (h:Has K mg "join_texts" "join_texts" (top 159)) (tab:TabAt P w K mg base "JOINS" 1 ["byte","other"] [209,211,212,214,215] (fun op=>SpJo (jnF op))) (c_need_room:Callee P w K mg base 3 "need_room" ["place","size"] (τ0 C CI CS)):Callee P w K mg base 4 "join_texts" ["machine","operation","size","first","second"] (χe C CI CS):=by
 refine ω (k:=3) h Ξ1 (fun vs H Q E h=>?_) (fun _ _ _ _ _ _=>ml5 fun _ _ _ _ _=>rfl) fun f cdv A outer s H vs Q E hr h=>?_
 ·obtain ⟨d,m,hv,op,n,p,q,rfl,_⟩:=h
  rfl
 obtain ⟨d,m,hv,op,n,p,q,rfl,hop1,hn0,hn,hp,hq,hM,o⟩:=h
 have hmc:=T.mc
 obtain ⟨ta,kvs,g_JOINS,kd,hop⟩:=tab
 obtain ⟨g,hl,fa⟩:=(hop op).1 hop1
 refine ⟨_,(η (χ (τ c_need_room hr (by decide) rfl (ζ (pv 3) (ζ (pv 2) ν)))) (η (χ (τ c_need_room hr (by decide) rfl (ζ (pv 4) (ζ (pv 2) ν)))) (η (Ξ (i:=5) Ξ1.nd rfl (Or.inl rfl) (Γ (pv 0) rfl)) (η (Ξ (i:=6) Ξ1.nd rfl (Or.inl rfl) (pe_kix (Ωe g_JOINS (by rfl)) (pv 1) (fun _ _=>rfl))) (η (Ξ (i:=7) Ξ1.nd rfl (Or.inl rfl) ι) (η (ξ4 PassesOwn.leaving rfl (νb rfl T.brange (ζ (pv 2) ν)) (κ1 (i:=8) Ξ1.nd rfl (Or.inl rfl)) (η (Ξ (i:=9) Ξ1.nd rfl (Or.inl rfl) (υh hr (pv 6) (ζ (ο0 Φ (pv 5) (υ η0 (pv 3) (pv 8)) (fun _ _=>rfl)) (ζ (ο0 Φ (pv 5) (υ η0 (pv 4) (pv 8)) (fun _ _=>rfl)) ν)))) (η (Γ0 (pv 9) (Δ0 (pv 5) (υ η0 (pv 3) (pv 8)) κ0)) (θ (Ξ (i:=7) Ξ1.nd rfl (Or.inl rfl) (υ ζ3 (pv 7) (pv 9))))))) (θ (ρ0 (Ψ κk (pv 1) ι (Ω _)) (θ (ξ0 (pv 0) (Ψ1 (Ψ ψ1 (pv 7) ι (Ω _)) ι ι) rfl)) ι0)))))))),?_⟩
 unfold gIn2 at o
 left
 refine ⟨_,_,rfl,fun c=>?_,fun r1=>?_⟩
 ·rw [if_neg (by omega)] at o
  exact o.raise hM
 left
 refine ⟨_,_,rfl,fun c=>?_,fun r2=>?_⟩
 ·rw [if_neg (by omega)] at o
  exact o.raise hM
 rw [if_pos (by omega)] at o
 unfold gJn at o
 dsimp only at o
 left
 refine rd_kix ?_
 left
 refine ⟨ta,kvs,_,g,rfl,rfl,kd,hl,?_⟩
 left
 refine ⟨_,rfl,by omega,by omega,?_⟩
 rw [tn]
 refine FR.r (fun i σ' H'=>∃ (bits:Nat) (o8 o9:Option V),σ'=[some (.ref d.a),some (.int op),some (.int n),some (.int p),some (.int q),some (.ref d.q),some (.ref g),some (.int bits),o8,o9]∧(bits=0↔∀ t,t < i→(Ra23.along m p q (jnF op) i).mem (p+t)=0)∧Mach C d H' (Ra23.along m p q (jnF op) i) hv∧Keep d H H') ⟨0,none,none,rfl,⟨fun _ t ht=>absurd ht (by omega),fun _=>rfl⟩,hM,Keep.refl _ _⟩ (fun i σ' H' hi h=>?_) (fun σ' H' h=>?_)
 ·obtain ⟨bits,o8,o9,rfl,hb,hM',k'⟩:=h
  rw [Int.zero_add]
  have h1:=hM'.ok.mem (p+i)
  have h2:=hM'.ok.mem (q+i)
  left
  refine κ4 ?_
  left
  refine ⟨g,rfl,fa.kp,?_⟩
  left
  rw [show ((p:Int)+(i:Int)).toNat=p+i by omega,show ((q:Int)+(i:Int)).toNat=q+i by omega]
  refine ⟨1,_,_,by decide,fa,_,_,rfl,h1,h2,?_⟩
  left
  rw [show (p:Int)+(i:Int)=((p+i:Nat):Int) by omega]
  refine Φ1 hM' (by omega) rfl (jnF_lt h1 h2) fun H2 hM2 k2=>?_
  rw [tn] at hM2
  left
  rw [τ3]
  refine ⟨_,_,_,rfl,?_,hM2,k'.trans k2⟩
  rw [or_zero,hb]
  constructor
  ·rintro ⟨z1,z2⟩ t ht
   rw [along_at]
   by_cases c:t=i
   ·rw [if_pos c]; exact z2
   ·rw [if_neg c]; exact z1 t (by omega)
  ·intro z
   refine ⟨fun t ht=>?_,?_⟩
   ·have y:=z t (by omega)
    rw [along_at,if_neg (by omega)] at y
    exact y
   ·have y:=z i (by omega)
    rw [along_at,if_pos rfl] at y
    exact y
 ·obtain ⟨bits,o8,o9,rfl,hb,hM',k'⟩:=h
  left
  refine Δ (fun c=>?_) (fun c=>?_)
  ·rw [if_pos (by omega)] at o
   have hall:((List.range n).all (fun i=>(Ra23.along m p q (jnF op) n).mem (p+i) == 0)=true)↔bits=0:=by
    rw [hb,List.all_eq_true]
    constructor
    ·intro z t ht
     exact beq_iff_eq.mp (z t (List.mem_range.mpr ht))
    ·intro z t ht
     exact beq_iff_eq.mpr (z t (List.mem_range.mp ht))
   left
   refine Δ (fun c2=>?_) (fun c2=>?_)
   ·left
    refine ρ1 hM' hmc rfl (v:=0) rfl (by decide) fun H2 hM2 k2=>o H2 ?_ (k'.trans k2)
    rw [if_pos (hall.mpr (by omega))]
    exact hM2
   ·left
    refine ρ1 hM' hmc rfl (v:=1) rfl (by decide) fun H2 hM2 k2=>o H2 ?_ (k'.trans k2)
    rw [if_neg (fun z=>c2 (by have:=hall.mp z; omega))]
    exact hM2
  ·rw [if_neg (by omega)] at o
   exact o H' hM' k'
end
section
variable {P:Program} {w:World} {K:PySem.W.Frag} {mg:Str→Option Value} {base:Heap} {C CI CS:Addr}
noncomputable def setV (m:M) (wh:Int) (x:Nat):M:=if wh=16 then {m with at_:=x%2^24} else if wh=17 then {m with cc:=x%4} else if wh=18 then {m with mask:=x%16} else Ra23.set m wh.toNat x
noncomputable def getV (m:M) (wh:Int):Nat:=if wh=16 then m.at_ else if wh=17 then m.cc else if wh=18 then m.mask else m.r wh.toNat
end
section
variable {P:Program} {w:World} {K:PySem.W.Frag} {mg:Str→Option Value} {base:Heap} {C CI CS:Addr}
noncomputable def ordL (ns ms:List Int):Nat:=if ns=ms then 0 else if HT.κf ns ms=true then 1 else 2
noncomputable def sp_orderL (C CI CS:Addr):Sp:=fun vs H Q _=>∃ (a b:Addr) (ns ms:List Int),vs=[.ref a,.ref b]∧H a=some (.lst (ns.map V.int))∧H b=some (.lst (ms.map V.int))∧ns.length=ms.length∧Q (.int ((ordL ns ms:Nat):Int)) H
theorem ok_orderL (T:Txt P w K mg base C CI CS) (h:Has K mg "order" "order" (top 10)):Callee P w K mg base 1 "order" ["first","second"] (sp_orderL C CI CS):=by
 refine ω (k:=0) h sc_order (fun vs H Q E h=>?_) (fun _ _ _ _ _ _=>ml2 fun _ _=>rfl) fun f cdv A outer s H vs Q E hr h=>?_
 ·obtain ⟨a,b,ns,ms,rfl,_⟩:=h
  rfl
 obtain ⟨a,b,ns,ms,rfl,ha,hb,hl,q⟩:=h
 refine ⟨_,(η (ρ0 (Ψ (op_eqD hr.units) (pv 0) (pv 1) (Ω _)) (θ (ω0 ι)) ι0) (θ (ω0 (Ψ1 (Ψ (op_ltL hr.units0) (pv 0) (pv 1) (Ω _)) ι ι)))),?_⟩
 unfold ordL at q
 left
 refine rd_eqL (SqL.of ha) (SqL.of hb) ?_
 left
 refine Δ (fun c=>?_) (fun c=>?_)
 ·rw [if_pos c] at q
  left
  exact q
 ·rw [if_neg c] at q
  left
  refine rd_ltL (SqL.of ha) (SqL.of hb) hl ?_
  left
  by_cases c2:HT.κf ns ms=true
  ·rw [if_pos c2] at q ⊢
   left
   exact q
  ·rw [if_neg c2] at q ⊢
   left
   exact q
theorem ordL_find (f g:Nat→Nat):∀ L:List Nat,ordL (L.map fun i=>((f i:Nat):Int)) (L.map fun i=>((g i:Nat):Int))=(match L.find? (fun i=>f i != g i) with | none=>0 | some i=>if f i < g i then 1 else 2)
 | []=>rfl
 | x::L=>by
  have ih:=ordL_find f g L
  unfold ordL at ih ⊢
  rw [List.map_cons,List.map_cons,List.find?_cons,HT.ψn]
  by_cases c:f x=g x
  ·have c':((f x:Nat):Int)=((g x:Nat):Int):=by omega
   rw [if_pos c',show (f x != g x)=false by simp [c]]
   rw [← ih]
   by_cases e:(L.map fun i=>((f i:Nat):Int))=(L.map fun i=>((g i:Nat):Int))
   ·rw [if_pos e,if_pos (by rw [c',e])]
   ·rw [if_neg e,if_neg (fun z=>e (List.cons.inj z).2)]
  ·have c':¬ ((f x:Nat):Int)=((g x:Nat):Int):=by omega
   rw [if_neg c',if_neg (fun z=>c' (List.cons.inj z).1),show (f x != g x)=true by simp [c]]
   show _=if f x < g x then 1 else 2
   by_cases e:f x < g x
   ·rw [if_pos e,if_pos (decide_eq_true (by omega))]
   ·rw [if_neg e,if_neg (fun z=>e (by have:=of_decide_eq_true z; omega))]
theorem ordL_lt (ns ms:List Int):ordL ns ms < 4:=by
 unfold ordL
 split
 ·decide
 split
 ·decide
 ·decide
theorem νf (l:List Nat):ν1 l=(l.map fun n:Nat=>(n:Int)).map V.int:=by
 unfold ν1
 rw [List.map_map]
 rfl
noncomputable def gCmp (m:M) (n p q:Nat):Ra23.End:=.done { m with cc:=match Ra23.differ m p q n with
  | none=>0
  | some i=>if m.mem (p+i) < m.mem (q+i) then 1 else 2 }
noncomputable def ξ9 (C CI CS:Addr):Sp:=SpT (fun m n p q=>gIn2 m n p q (gCmp m n p q)) C CI CS
theorem ψ9:FnScope ["machine","size","first","second","memory"] ["machine","size","first","second"] (ξ (top 160)):=mkS
theorem τi (T:Txt P w K mg base C CI CS) (h:Has K mg "compare_texts" "compare" (top 160)) (c_need_room:Callee P w K mg base 3 "need_room" ["place","size"] (τ0 C CI CS)) (c_order:Callee P w K mg base 1 "order" ["first","second"] (sp_orderL C CI CS)):Callee P w K mg base 4 "compare_texts" ["machine","size","first","second"] (ξ9 C CI CS):=by
 refine ω (k:=3) h ψ9 (fun vs H Q E h=>?_) (fun _ _ _ _ _ _=>ml4 fun _ _ _ _=>rfl) fun f cdv A outer s H vs Q E hr h=>?_
 ·obtain ⟨d,m,hv,n,p,q,rfl,_⟩:=h
  rfl
 obtain ⟨d,m,hv,n,p,q,rfl,hn0,hn,hp,hq,hM,o⟩:=h
 have hmc:=T.mc
 refine ⟨_,(η (χ (τ c_need_room hr (by decide) rfl (ζ (pv 2) (ζ (pv 1) ν)))) (η (χ (τ c_need_room hr (by decide) rfl (ζ (pv 3) (ζ (pv 1) ν)))) (η (Ξ (i:=4) ψ9.nd rfl (Or.inl rfl) (Γ (pv 0) rfl)) (θ (ξ0 (pv 0) (τ c_order hr (by decide) rfl (ζ (ζ5 θ8 (pv 4) (ψ2 (pv 2)) (ψ2 (υ η0 (pv 2) (pv 1)))) (ζ (ζ5 θ8 (pv 4) (ψ2 (pv 3)) (ψ2 (υ η0 (pv 3) (pv 1)))) ν))) rfl))))),?_⟩
 dsimp only [gIn2] at o
 left
 refine ⟨_,_,rfl,fun c=>?_,fun r1=>?_⟩
 ·rw [if_neg (by omega)] at o
  exact o.raise hM
 left
 refine ⟨_,_,rfl,fun c=>?_,fun r2=>?_⟩
 ·rw [if_neg (by omega)] at o
  exact o.raise hM
 rw [if_pos (by omega)] at o
 unfold gCmp Ra23.differ at o
 rw [← ordL_find (fun i=>m.mem (p+i)) (fun i=>m.mem (q+i))] at o
 left
 refine ⟨_,_,rfl,SqL.of hM.mm,fun S1 hS1=>?_⟩
 rw [Γk (by omega)]
 left
 refine ⟨_,_,rfl,SqL.of (hM.new hS1).mm,fun S2 hS2=>?_⟩
 rw [Γk (by omega)]
 left
 have n12:S1≠S2:=fun e=>by rw [← e,ο] at hS2; cases hS2
 refine ⟨S1,S2,(List.range n).map (fun i=>((m.mem (p+i):Nat):Int)),(List.range n).map (fun i=>((m.mem (q+i):Nat):Int)),rfl,?_,?_,by rw [List.length_map,List.length_map],?_⟩
 ·rw [ψ n12,ο,νf,List.map_map (l:=List.range n)]
  rfl
 ·rw [ο,νf,List.map_map (l:=List.range n)]
  rfl
 have hM2:=(hM.new (o:=.lst (ν1 ((List.range n).map fun i=>m.mem (p+i)))) hS1).new (o:=.lst (ν1 ((List.range n).map fun i=>m.mem (q+i)))) hS2
 refine ρ1 hM2 hmc rfl rfl (ordL_lt _ _) fun H3 hM3 k3=>o H3 hM3 ((Keep.new hS1).trans ((Keep.new hS2).trans k3))
end
section
variable {σ:L2.St} {H:Hp} {Q:VK} {ta tb:TE}
theorem rd_orV (q:ta σ H fun x H1=>∃ c,x=.bl c∧if c=true then Q (.bl true) H1 else tb σ H1 Q):tOrV ta tb σ H Q:=q
theorem rd_andV (q:ta σ H fun x H1=>∃ c,x=.bl c∧if c=true then tb σ H1 Q else Q (.bl false) H1):tAndV ta tb σ H Q:=q
theorem rd_notV (q:ta σ H fun x H1=>∃ c,x=.bl c∧Q (.bl (!c)) H1):tNotV ta σ H Q:=q
end
structure EdO where
 src:Nat
 fil:Nat
 wt:Int
 pl:Bool
 on:Bool
 oz:Bool
 mkd:Int
noncomputable def edF (q:Addr) (e:EdO):List (Str×V):=[("memory",.ref q),("source",.int e.src),("filling",.int e.fil),("waiting",.int e.wt),("behind_plus",.bl e.pl),("on",.bl e.on),("only_zeros",.bl e.oz),("marked",.int e.mkd)]
structure EC (K:PySem.W.Frag) (CE:Addr):Prop where
 cl:Cls K CE
 n1:κ2 K CE "memory"
 n2:κ2 K CE "source"
 n3:κ2 K CE "filling"
 n4:κ2 K CE "waiting"
 n5:κ2 K CE "behind_plus"
 n6:κ2 K CE "on"
 n7:κ2 K CE "only_zeros"
 n8:κ2 K CE "marked"
section
variable {σ:L2.St} {H:Hp} {Q:VK} {K:PySem.W.Frag} {CE a dx q:Addr} {e:EdO} {i:Nat}
theorem rd_eM (hE:H a=some (.ins CE dx (edF q e))) (T:EC K CE) (hσ:σ[i]?=some (some (.ref a))) (z:Q (.ref q) H):χ5 K (φ2 i) "memory" σ H Q:=⟨_,hσ,a,CE,dx,_,_,rfl,hE,T.cl,T.n1,rfl,z⟩
theorem rd_eS (hE:H a=some (.ins CE dx (edF q e))) (T:EC K CE) (hσ:σ[i]?=some (some (.ref a))) (z:Q (.int e.src) H):χ5 K (φ2 i) "source" σ H Q:=⟨_,hσ,a,CE,dx,_,_,rfl,hE,T.cl,T.n2,rfl,z⟩
theorem rd_eF (hE:H a=some (.ins CE dx (edF q e))) (T:EC K CE) (hσ:σ[i]?=some (some (.ref a))) (z:Q (.int e.fil) H):χ5 K (φ2 i) "filling" σ H Q:=⟨_,hσ,a,CE,dx,_,_,rfl,hE,T.cl,T.n3,rfl,z⟩
theorem rd_eW (hE:H a=some (.ins CE dx (edF q e))) (T:EC K CE) (hσ:σ[i]?=some (some (.ref a))) (z:Q (.int e.wt) H):χ5 K (φ2 i) "waiting" σ H Q:=⟨_,hσ,a,CE,dx,_,_,rfl,hE,T.cl,T.n4,rfl,z⟩
theorem rd_eP (hE:H a=some (.ins CE dx (edF q e))) (T:EC K CE) (hσ:σ[i]?=some (some (.ref a))) (z:Q (.bl e.pl) H):χ5 K (φ2 i) "behind_plus" σ H Q:=⟨_,hσ,a,CE,dx,_,_,rfl,hE,T.cl,T.n5,rfl,z⟩
theorem rd_eO (hE:H a=some (.ins CE dx (edF q e))) (T:EC K CE) (hσ:σ[i]?=some (some (.ref a))) (z:Q (.bl e.on) H):χ5 K (φ2 i) "on" σ H Q:=⟨_,hσ,a,CE,dx,_,_,rfl,hE,T.cl,T.n6,rfl,z⟩
theorem rd_eZ (hE:H a=some (.ins CE dx (edF q e))) (T:EC K CE) (hσ:σ[i]?=some (some (.ref a))) (z:Q (.bl e.oz) H):χ5 K (φ2 i) "only_zeros" σ H Q:=⟨_,hσ,a,CE,dx,_,_,rfl,hE,T.cl,T.n7,rfl,z⟩
theorem rd_eK (hE:H a=some (.ins CE dx (edF q e))) (T:EC K CE) (hσ:σ[i]?=some (some (.ref a))) (z:Q (.int e.mkd) H):χ5 K (φ2 i) "marked" σ H Q:=⟨_,hσ,a,CE,dx,_,_,rfl,hE,T.cl,T.n8,rfl,z⟩
noncomputable def KeepA (a:Addr) (H H':Hp):Prop:=∀ b o,H b=some o→b≠a→H' b=some o
theorem KeepA.refl (a:Addr) (H:Hp):KeepA a H H:=fun _ _ h _=>h
theorem KeepA.trans {a:Addr} {H H1 H2:Hp} (x:KeepA a H H1) (y:KeepA a H1 H2):KeepA a H H2:=fun b o h n=>y b o (x b o h n) n
theorem KeepA.up {a:Addr} {H:Hp} {o:HO}:KeepA a H (upd H a o):=fun b _ h n=>by rw [ψ n]; exact h
theorem KeepA.new {a x:Addr} {H:Hp} {o:HO} (hx:H x=none):KeepA a H (upd H x o):=fun b _ h _=>by rw [ψ (ρ h hx)]; exact h
variable {R:Hp→Prop}
theorem st_e {f:Str} {v:V} {e':EdO} (hE:H a=some (.ins CE dx (edF q e))) (cl:Cls K CE) (nf:κ2 K CE f) (hσ:σ[i]?=some (some (.ref a))) (hp:Ψh f v (edF q e)=edF q e') (z:∀ H',H' a=some (.ins CE dx (edF q e'))→KeepA a H H'→R H'):stF K (φ2 i) f v σ H R:=by
 refine ⟨_,hσ,a,CE,dx,_,rfl,hE,cl,nf,(by show 8 < 1000; decide),?_⟩
 rw [hp]
 exact z _ ο KeepA.up
end
theorem Mach.keepA {C a:Addr} {d:Hd} {H H':Hp} {m:M} {hv:Nat} (x:Mach C d H m hv) (k:KeepA a H H') (n1:d.a≠a) (n2:d.r≠a) (n3:d.q≠a):Mach C d H' m hv:=⟨k _ _ x.ob n1,k _ _ x.rg n2,k _ _ x.mm n3,x.ok,x.hv⟩
structure EdAt (C CE:Addr) (d:Hd) (a dx:Addr) (H:Hp) (m:M) (hv:Nat) (e:EdO):Prop where
 hM:Mach C d H m hv
 hE:H a=some (.ins CE dx (edF d.q e))
 na:d.a≠a
theorem EdAt.nr {C CE a dx:Addr} {d:Hd} {H:Hp} {m:M} {hv:Nat} {e:EdO} (x:EdAt C CE d a dx H m hv e):d.r≠a:=οa x.hM.rg x.hE (by intro z; cases z)
theorem EdAt.nq {C CE a dx:Addr} {d:Hd} {H:Hp} {m:M} {hv:Nat} {e:EdO} (x:EdAt C CE d a dx H m hv e):d.q≠a:=οa x.hM.mm x.hE (by intro z; cases z)
theorem EdAt.go {C CE a dx:Addr} {d:Hd} {H H':Hp} {m:M} {hv:Nat} {e e':EdO} (x:EdAt C CE d a dx H m hv e) (k:KeepA a H H') (h:H' a=some (.ins CE dx (edF d.q e'))):EdAt C CE d a dx H' m hv e':=⟨x.hM.keepA k x.na x.nr x.nq,h,x.na⟩
local macro_rules | `(tactic| left) => `(tactic| repeat (first
 | with_reducible refine rd_op ?_ | with_reducible refine rd_c ?_ | ((with_reducible show φ2 _ _ _ _); refine rd_var rfl ?_) | with_reducible refine rd_i0 ?_ | with_reducible refine rd_un ?_ | with_reducible refine rd_u ?_
 | with_reducible refine rd_eqI ?_ | with_reducible refine rd_neI ?_ | with_reducible refine rd_neB ?_ | with_reducible refine rd_seq ?_ | with_reducible refine rd_ret ?_ | with_reducible refine rd_retN ?_ | with_reducible refine rd_drop ?_
 | with_reducible refine rd_next ?_ | with_reducible refine rd_asg ?_ | with_reducible refine rd_gname ?_ | with_reducible refine rd_gsub ?_ | with_reducible refine rd_ifS ?_ | with_reducible refine rd_test ?_ | with_reducible refine rd_b ?_
 | with_reducible refine rd_bl ?_ | with_reducible refine rd_if ?_ | with_reducible refine rd_and ?_ | with_reducible refine rd_or ?_ | with_reducible refine rd_not ?_ | with_reducible refine rd_chain ?_ | with_reducible refine rd_cons ?_
 | with_reducible refine rd_nil ?_ | with_reducible refine rd_call ?_ | with_reducible refine rd_cb ?_ | with_reducible refine rd_raise ?_ | with_reducible refine rd_sfld ?_ | with_reducible refine rd_tru ?_ | with_reducible refine rd_truI ?_
 | ((with_reducible show χ5 _ (φ2 _) "registers" _ _ _); refine οh (by assumption) (by assumption) rfl ?_)
 | ((with_reducible show χ5 _ (φ2 _) "memory" _ _ _); refine Ψj (by assumption) (by assumption) rfl ?_)
 | ((with_reducible show χ5 _ (φ2 _) "condition" _ _ _); refine τh (by assumption) (by assumption) rfl ?_)
 | ((with_reducible show χ5 _ (φ2 _) "mask" _ _ _); refine rd_mask (by assumption) (by assumption) rfl ?_)
 | ((with_reducible show χ5 _ (φ2 _) "following" _ _ _); refine ρh (by assumption) (by assumption) rfl ?_)
 | ((with_reducible show χ5 _ (φ2 _) "halves" _ _ _); refine rd_halves (by assumption) (by assumption) rfl ?_)
 | with_reducible refine rd_absR ?_
 | with_reducible refine rd_ixR (by assumption) (by omega) ?_ | with_reducible refine rd_ixM (by assumption) (by omega) ?_
 | with_reducible refine rd_for ?_ | with_reducible refine rd_iR1 ?_ | with_reducible refine rd_iR2 ?_ | with_reducible refine rd_iR3 ?_ | with_reducible refine rd_iL ?_ | with_reducible refine rd_iE ?_ | with_reducible refine rd_lc ?_ | with_reducible refine rd_lst ?_ | with_reducible refine rd_bm ?_ | with_reducible refine rd_sl ?_ | with_reducible refine rd_part ?_ | with_reducible refine rd_nopart ?_ | with_reducible refine rd_int1 ?_ | with_reducible refine rd_orV ?_ | with_reducible refine rd_andV ?_ | with_reducible refine rd_notV ?_
 | ((with_reducible show χ5 _ (φ2 _) "memory" _ _ _); refine rd_eM (by assumption) (by assumption) rfl ?_)
 | ((with_reducible show χ5 _ (φ2 _) "source" _ _ _); refine rd_eS (by assumption) (by assumption) rfl ?_)
 | ((with_reducible show χ5 _ (φ2 _) "filling" _ _ _); refine rd_eF (by assumption) (by assumption) rfl ?_)
 | ((with_reducible show χ5 _ (φ2 _) "waiting" _ _ _); refine rd_eW (by assumption) (by assumption) rfl ?_)
 | ((with_reducible show χ5 _ (φ2 _) "behind_plus" _ _ _); refine rd_eP (by assumption) (by assumption) rfl ?_)
 | ((with_reducible show χ5 _ (φ2 _) "on" _ _ _); refine rd_eO (by assumption) (by assumption) rfl ?_)
 | ((with_reducible show χ5 _ (φ2 _) "only_zeros" _ _ _); refine rd_eZ (by assumption) (by assumption) rfl ?_)
 | ((with_reducible show χ5 _ (φ2 _) "marked" _ _ _); refine rd_eK (by assumption) (by assumption) rfl ?_)
 | ((with_reducible show χ5 _ (φ2 _) "registers" _ _ _); refine rb_registers (by assumption) (by assumption) rfl ?_)
 | ((with_reducible show χ5 _ (φ2 _) "memory" _ _ _); refine rb_memory (by assumption) (by assumption) rfl ?_)
 | ((with_reducible show χ5 _ (φ2 _) "condition" _ _ _); refine rb_condition (by assumption) (by assumption) rfl ?_)
 | ((with_reducible show χ5 _ (φ2 _) "mask" _ _ _); refine rb_mask (by assumption) (by assumption) rfl ?_)
 | ((with_reducible show χ5 _ (φ2 _) "following" _ _ _); refine rb_following (by assumption) (by assumption) rfl ?_)
 | with_reducible refine rb_ixR (by assumption) (by omega) ?_))
section
variable {P:Program} {w:World} {K:PySem.W.Frag} {mg:Str→Option Value} {base:Heap} {C CI CS:Addr}
noncomputable def spEI (CE:Addr):Sp:=fun vs H Q _=>∃ (a dx q:Addr) (src fil:Nat),vs=[.ref a,.ref q,.int src,.int fil]∧H a=some (.ins CE dx [])∧Q .non (upd H a (.ins CE dx (edF q ⟨src,fil,-1,false,false,true,-1⟩)))
theorem sc_ei:FnScope ["self","memory","source","filling"] ["self","memory","source","filling"] (ξ (ω1 (top 140) 0)):=mkS
theorem st_0 {K:PySem.W.Frag} {CE a dx:Addr} {σ:L2.St} {i:Nat} {f:Str} {v:V} {fs:List (Str×V)} {H:Hp} {R:Hp→Prop} (cl:Cls K CE) (nf:κ2 K CE f) (hσ:σ[i]?=some (some (.ref a))) {k:Nat} (hk:fs.length=k) (hl:k < 1000) (z:R (upd H a (.ins CE dx (Ψh f v fs)))):stF K (φ2 i) f v σ (upd H a (.ins CE dx fs)) R:=by
 refine ⟨_,hσ,a,CE,dx,_,rfl,ο,cl,nf,hk ▸ hl,?_⟩
 rw [ψ3]
 exact z
theorem ok_ei {f CE:Addr} {fd:FuncData} (T:EC K CE) (F:Fun K "__init__" "Editing.__init__" (ω1 (top 140) 0) f fd):FnOk P w K mg base (CXI P w) 1 f fd ["self","memory","source","filling"] (spEI CE):=by
 refine F.okI sc_ei (fun vs H Q E h=>?_) fun cdv A outer s H vs Q E hr h=>?_
 ·obtain ⟨a,dx,q,src,fil,rfl,_⟩:=h
  rfl
 obtain ⟨a,dx,q,src,fil,rfl,ho,hq⟩:=h
 refine ⟨_,(η (ξ0 (pv 0) (pv 1) rfl) (η (ξ0 (pv 0) (pv 2) rfl) (η (ξ0 (pv 0) (pv 3) rfl) (η (ξ0 (pv 0) (Ψe υ6 ι) rfl) (η (ξ0 (pv 0) pe_bl rfl) (η (ξ0 (pv 0) pe_bl rfl) (η (ξ0 (pv 0) pe_bl rfl) (θ (ξ0 (pv 0) (Ψe υ6 ι) rfl))))))))),?_⟩
 have e:upd H a (.ins CE dx [])=H:=by
  funext b
  by_cases eb:b=a
  ·subst eb; rw [ο,ho]
  ·rw [ψ eb]
 rw [← e]
 left
 refine st_0 (k:=0) T.cl T.n1 rfl rfl (by decide) ?_
 left
 refine st_0 (k:=1) T.cl T.n2 rfl rfl (by decide) ?_
 left
 refine st_0 (k:=2) T.cl T.n3 rfl rfl (by decide) ?_
 left
 refine st_0 (k:=3) T.cl T.n4 rfl rfl (by decide) ?_
 left
 refine st_0 (k:=4) T.cl T.n5 rfl rfl (by decide) ?_
 left
 refine st_0 (k:=5) T.cl T.n6 rfl rfl (by decide) ?_
 left
 refine st_0 (k:=6) T.cl T.n7 rfl rfl (by decide) ?_
 left
 refine st_0 (k:=7) T.cl T.n8 rfl rfl (by decide) ?_
 left
 exact hq
end
section
variable {P:Program} {w:World} {K:PySem.W.Frag} {mg:Str→Option Value} {base:Heap} {C CI CS CE:Addr}
noncomputable def mkI:Option Nat→Int
 | none => -1
 | some t=>(t:Int)
structure Rl (m0:M) (fill:Nat) (c:EdO) (s:Ra23.Ed):Prop where
 fil:c.fil=fill
 on:c.on=s.on
 oz:c.oz = !s.some_
 mkd:c.mkd=mkI s.told
 lt:∀ t,s.told=some t→t < 65536
 r1:s.right=true→c.wt=((m0.mem s.source%16:Nat):Int)∧c.src=s.source+1
 r0:s.right=false→c.wt = -1∧c.src=s.source
noncomputable def NdOut (C CI CE:Addr) (d:Hd) (a dx:Addr) (hv:Nat) (H:Hp) (m0:M) (fill:Nat) (Q:VK) (E:XK):Except Nat (Nat×Ra23.Ed×Bool)→Prop
 | .error x=>∀ H' y,Mach C d H' m0 hv→KeepA a H H'→H' y=some (.xd [("number",.int (x:Int))])→E (.ref CI) (some y) H'
 | .ok (dg,s,pl)=>∀ H' c,EdAt C CE d a dx H' m0 hv c→KeepA a H H'→Rl m0 fill c s→c.pl=pl→dg < 16→Q (.int (dg:Int)) H'
noncomputable def ρe (CE C CI CS:Addr):Sp:=fun vs H Q E=>∃ (d:Hd) (m:M) (hv:Nat) (a dx:Addr) (c:EdO) (s:Ra23.Ed) (fill:Nat),vs=[.ref a]∧EdAt C CE d a dx H m hv c∧Rl m fill c s∧NdOut C CI CE d a dx hv H m fill Q E (Ra23.nextDigit {s with m:=m})
theorem isPlus {s:Nat} (h1:10≤s) (h2:s < 16):inV (.int (s:Int)) [.int 10,.int 12,.int 14,.int 15]=(s != 11 && s != 13):=by
 have:∀ s:Nat,s < 16→10≤s→inV (.int (s:Int)) [.int 10,.int 12,.int 14,.int 15]=(s != 11 && s != 13):=by decide
 exact this s h2 h1
theorem κ8:FnScope ["editing","digit","byte"] ["editing"] (ξ (top 141)):=mkS
theorem ok_take_digit (T:Txt P w K mg base C CI CS) (h:Has K mg "take_digit" "take_digit" (top 141)) (TE:EC K CE) (plus:PlusOk K mg) (c_need_room:Callee P w K mg base 3 "need_room" ["place","size"] (τ0 C CI CS)):Callee P w K mg base 4 "take_digit" ["editing"] (ρe CE C CI CS):=by
 refine ω (k:=3) h κ8 (fun vs H Q E h=>?_) (fun _ _ _ _ _ _=>ml1 fun _=>rfl) fun f cdv A outer s H vs Q E hr h=>?_
 ·obtain ⟨d,m,hv,a,dx,c,s,fill,rfl,_⟩:=h
  rfl
 obtain ⟨d,m,hv,a,dx,c,s,fill,rfl,hA,hR,o⟩:=h
 have hmc:=T.mc
 obtain ⟨ap,g_PLUS,hap⟩:=plus
 refine ⟨_,(η (ξ0 (pv 0) pe_bl rfl) (η (ρ0 (Ψ κk (Γ (pv 0) rfl) ι (Ω _)) (η (Ξ (i:=1) κ8.nd rfl (Or.inl rfl) (Γ (pv 0) rfl)) (η (ξ0 (pv 0) (Ψe υ6 ι) rfl) (θ (ω0 (pv 1))))) ι0) (η (χ (τ c_need_room hr (by decide) rfl (ζ (Γ (pv 0) rfl) (ζ ι ν)))) (η (Ξ (i:=2) κ8.nd rfl (Or.inl rfl) (ο0 Φ (Γ (pv 0) rfl) (Γ (pv 0) rfl) (fun _ _=>rfl))) (η (ξ0 (pv 0) (υ η0 (Γ (pv 0) rfl) ι) rfl) (η (ρ0 (Ψ op_gt (υ ρ2 (pv 2) ι) ι (Ω _)) (θ (Ω4 T.rI hr (by decide) rfl (ζ ι ν))) ι0) (η (ρ0 (Ψ ξg (υ ν0 (pv 2) ι) ι (Ω _)) (θ (ξ0 (pv 0) (υ ν0 (pv 2) ι) rfl)) (θ (ξ0 (pv 0) (ξ2 op_in_seq (υ ν0 (pv 2) ι) (Ωe g_PLUS rfl) rfl) rfl))) (θ (ω0 (υ ρ2 (pv 2) ι)))))))))),?_⟩
 have hM:=hA.hM
 have hE:=hA.hE
 unfold Ra23.nextDigit at o
 dsimp only at o
 left
 refine st_e hE TE.cl TE.n5 rfl (e':={c with pl:=false}) rfl fun H1 hE1 k1=>?_
 have hA1:=hA.go k1 hE1
 have hM1:=hA1.hM
 left
 refine Δ (fun c1=>?_) (fun c1=>?_)
 ·have c1':c.wt≥0:=c1
  have hr1:s.right=true:=by
   cases h:s.right with
   | true=>rfl
   | false=>have:=(hR.r0 h).1; omega
  obtain ⟨w1,w2⟩:=hR.r1 hr1
  rw [if_pos hr1] at o
  left
  refine st_e hE1 TE.cl TE.n4 rfl (e':={c with pl:=false,wt := -1}) rfl fun H2 hE2 k2=>?_
  left
  show Q (.int c.wt) H2
  rw [w1]
  exact o H2 _ (hA1.go k2 hE2) (k1.trans k2) ⟨hR.fil,hR.on,hR.oz,hR.mkd,hR.lt,fun z=>(by cases z),fun _=>⟨rfl,w2⟩⟩ rfl (Nat.mod_lt _ (by decide))
 ·have c1':¬ c.wt≥0:=c1
  have hr0:s.right=false:=by
   cases h:s.right with
   | false=>rfl
   | true=>have:=(hR.r1 h).1; omega
  obtain ⟨w1,w2⟩:=hR.r0 hr0
  rw [if_neg (by rw [hr0]; decide)] at o
  left
  refine ⟨_,_,rfl,fun c2=>?_,fun c2=>?_⟩
  ·rw [if_pos (by show 65536≤s.source; have:(c.src:Int)+1 > 65536:=c2; omega)] at o
   exact fun x hx=>o _ x (hM1.new hx) (k1.trans (KeepA.new hx)) ο
  have c2':(c.src:Int)+1≤65536:=c2
  have hs:c.src < 65536:=by omega
  rw [if_neg (by show ¬ 65536≤s.source; omega)] at o
  left
  show stF K (φ2 0) "source" (.int ((c.src:Int)+1)) (List.set _ 2 (some (.int ((m.mem ((c.src:Nat):Int).toNat:Nat):Int)))) H1 _
  rw [tn,w2]
  have hb:=hM.ok.mem s.source
  refine st_e hE1 TE.cl TE.n2 rfl (e':={c with pl:=false,src:=s.source+1}) rfl fun H2 hE2 k2=>?_
  have hA2:=hA1.go k2 hE2
  have hM2:=hA2.hM
  left
  refine χh (n:=4) rfl ?_
  rw [shrN]
  left
  refine Δ (fun c3=>?_) (fun c3=>?_)
  ·rw [if_pos (by omega)] at o
   left
   exact ⟨7,rfl,fun x hx=>o _ x (hM2.new hx) (k1.trans (k2.trans (KeepA.new hx))) ο⟩
  rw [if_neg (by omega)] at o
  left
  rw [Δb]
  refine Δ (fun c4=>?_) (fun c4=>?_)
  ·rw [if_pos (by omega)] at o
   left
   rw [Δb]
   refine st_e hE2 TE.cl TE.n4 rfl (e':={c with pl:=false,src:=s.source+1,wt:=((m.mem s.source%16:Nat):Int)}) rfl fun H3 hE3 k3=>?_
   left
   refine χh (n:=4) rfl ?_
   rw [shrN]
   exact o H3 _ (hA2.go k3 hE3) (k1.trans (k2.trans k3)) ⟨hR.fil,hR.on,hR.oz,hR.mkd,hR.lt,fun _=>⟨rfl,rfl⟩,fun z=>(by cases z)⟩ rfl (by omega)
  ·rw [if_neg (by omega)] at o
   left
   rw [Δb]
   refine ⟨ap,_,rfl,.inr (hap _),rfl,rfl,?_⟩
   show stF K (φ2 0) "behind_plus" (.bl (inV (.int ((m.mem s.source%16:Nat):Int)) [.int 10,.int 12,.int 14,.int 15])) _ _ _
   rw [isPlus (by omega) (Nat.mod_lt _ (by decide))]
   refine st_e hE2 TE.cl TE.n5 rfl (e':={c with pl:=(m.mem s.source%16 != 11 && m.mem s.source%16 != 13),src:=s.source+1}) rfl fun H3 hE3 k3=>?_
   left
   refine χh (n:=4) rfl ?_
   rw [shrN]
   exact o H3 _ (hA2.go k3 hE3) (k1.trans (k2.trans k3)) ⟨hR.fil,hR.on,hR.oz,hR.mkd,hR.lt,fun z=>(by rw [show s.right=true from z] at hr0; cases hr0),fun _=>⟨w1,rfl⟩⟩ rfl (by omega)
end
section
variable {P:Program} {w:World} {K:PySem.W.Frag} {mg:Str→Option Value} {base:Heap} {C CI CS CE:Addr}
theorem nd_keep {e e':Ra23.Ed} {dg:Nat} {pl:Bool} (h:Ra23.nextDigit e=.ok (dg,e',pl)):e'.on=e.on∧e'.some_=e.some_∧e'.told=e.told:=by
 unfold Ra23.nextDigit at h
 split at h
 ·injection h with h; injection h with h1 h; injection h with h2 h3; subst h2; exact ⟨rfl,rfl,rfl⟩
 split at h
 ·cases h
 dsimp only at h
 split at h
 ·cases h
 split at h
 ·injection h with h; injection h with h1 h; injection h with h2 h3; subst h2; exact ⟨rfl,rfl,rfl⟩
 ·injection h with h; injection h with h1 h; injection h with h2 h3; subst h2; exact ⟨rfl,rfl,rfl⟩
noncomputable def edD (m0:M) (fill pt place:Nat) (s:Ra23.Ed):Except Nat (Nat×Ra23.Ed):=match Ra23.nextDigit {s with m:=m0} with
 | .error x=>.error x
 | .ok (d,e',plus)=>.ok (if (s.on || d != 0)=true then 0xF0+d else fill,{e' with on:=((s.on || d != 0) || pt == 0x21) && !plus,some_:=s.some_ || d != 0,told:=if s.on=false∧d≠0 then some place else s.told})
noncomputable def edB (m0:M) (p fill:Nat) (s:Ra23.Ed) (i:Nat):Except Nat (Nat×Ra23.Ed) :=
 if m0.mem (p+i)=0x20∨m0.mem (p+i)=0x21 then edD m0 fill (m0.mem (p+i)) (p+i) s
 else if m0.mem (p+i)=0x22 then .ok (fill,{s with on:=false,some_:=false})
 else .ok (if s.on=true∨i=0 then m0.mem (p+i) else fill,s)
noncomputable def EbOut (C CI CE:Addr) (d:Hd) (a dx:Addr) (hv:Nat) (H:Hp) (m0:M) (fill:Nat) (Q:VK) (E:XK):Except Nat (Nat×Ra23.Ed)→Prop
 | .error x=>∀ H' y,Mach C d H' m0 hv→KeepA a H H'→H' y=some (.xd [("number",.int (x:Int))])→E (.ref CI) (some y) H'
 | .ok (b,s)=>∀ H' c,EdAt C CE d a dx H' m0 hv c→KeepA a H H'→Rl m0 fill c s→Q (.int (b:Int)) H'
theorem EbOut.q {C CI CE:Addr} {d:Hd} {a dx:Addr} {hv:Nat} {H:Hp} {m0:M} {fill:Nat} {Q:VK} {E:XK} {e:Except Nat (Nat×Ra23.Ed)} (o:EbOut C CI CE d a dx hv H m0 fill Q E e):EbOut C CI CE d a dx hv H m0 fill Q E e:=o
noncomputable def Γa (CE C CI CS:Addr):Sp:=fun vs H Q E=>∃ (d:Hd) (m:M) (hv:Nat) (a dx:Addr) (c:EdO) (s:Ra23.Ed) (fill pt place:Nat),vs=[.ref a,.int pt,.int place]∧place < 65536∧EdAt C CE d a dx H m hv c∧Rl m fill c s∧EbOut C CI CE d a dx hv H m fill Q E (edD m fill pt place s)
theorem or240n {d:Nat} (h:d < 16):Builtin.bitOr 240 (d:Int)=((240+d:Nat):Int):=or16 (a:=15) (b:=d) h
theorem Rl.fin {m0:M} {fill:Nat} {c1 c2:EdO} {s1 s2:Ra23.Ed} (h:Rl m0 fill c1 s1) (e1:c2.fil=c1.fil) (e2:c2.wt=c1.wt) (e3:c2.src=c1.src) (e4:s2.right=s1.right) (e5:s2.source=s1.source) (on:c2.on=s2.on) (oz:c2.oz = !s2.some_) (mk:c2.mkd=mkI s2.told) (lt:∀ t,s2.told=some t→t < 65536):Rl m0 fill c2 s2 :=
 ⟨e1.trans h.fil,on,oz,mk,lt,fun z=>by rw [e2,e3,e5]; exact h.r1 (e4 ▸ z),fun z=>by rw [e2,e3,e5]; exact h.r0 (e4 ▸ z)⟩
theorem ρ5:FnScope ["editing","pattern","place","digit","shown"] ["editing","pattern","place"] (ξ (top 142)):=mkS
theorem χk (T:Txt P w K mg base C CI CS) (h:Has K mg "edited_digit" "edited_digit" (top 142)) (TE:EC K CE) (c_take_digit:Callee P w K mg base 4 "take_digit" ["editing"] (ρe CE C CI CS)):Callee P w K mg base 5 "edited_digit" ["editing","pattern","place"] (Γa CE C CI CS):=by
 refine ω (k:=4) h ρ5 (fun vs H Q E h=>?_) (fun _ _ _ _ _ _=>ml3 fun _ _ _=>rfl) fun f cdv A outer s H vs Q E hr h=>?_
 ·obtain ⟨d,m,hv,a,dx,c,s,fill,pt,place,rfl,_⟩:=h
  rfl
 obtain ⟨d,m,hv,a,dx,c,s,fill,pt,place,rfl,hpl,hA,hR,o⟩:=h
 have hmc:=T.mc
 refine ⟨_,(η (Ξ (i:=3) ρ5.nd rfl (Or.inl rfl) (τ c_take_digit hr (by decide) rfl (ζ (pv 0) ν))) (η (Ξ (i:=4) ρ5.nd rfl (Or.inl rfl) (pe_or (Γ (pv 0) rfl) (pe_one (ξ2 ξb (pv 3) ι (Ω _))))) (η (ρ0 (Ψ ξb (pv 3) ι (Ω _)) (η (ξ0 (pv 0) pe_bl rfl) (θ (ρ0 (φn (ν4 (Γ (pv 0) rfl))) (θ (ξ0 (pv 0) (pv 2) rfl)) ι0))) ι0) (η (ξ0 (pv 0) (pe_and (pe_or (pv 4) (pe_one (ξ2 ψ1 (pv 1) (Ω1 T.gDIGIT_AND_ON rfl) (Ω _)))) (pe_one (pe_not (Γ (pv 0) rfl)))) rfl) (θ (ω0 (Ψ1 (ν4 (pv 4)) (υ ζ3 ι (pv 3)) (Γ (pv 0) rfl)))))))),?_⟩
 unfold edD at o
 left
 refine ⟨d,m,hv,a,dx,c,s,fill,rfl,hA,hR,?_⟩
 generalize hn:Ra23.nextDigit {s with m:=m}=r at o ⊢
 cases r with
 | error x=>exact o
 | ok t =>
  obtain ⟨dg,s1,pl⟩:=t
  obtain ⟨y1,y2,y3⟩:=nd_keep hn
  have y1':s1.on=s.on:=y1
  have y2':s1.some_=s.some_:=y2
  have y3':s1.told=s.told:=y3
  intro H1 c1 hA1 k1 hR1 hp hd
  have hE1:=hA1.hE
  have on1:c1.on=s.on:=hR1.on.trans y1'
  have oz1:c1.oz = !s.some_:=by rw [hR1.oz,y2']
  have mk1:c1.mkd=mkI s.told:=by rw [hR1.mkd,y3']
  have lt1:∀ t,s.told=some t→t < 65536:=fun t z=>hR1.lt t (y3'.trans z)
  dsimp only at o
  left
  refine Ω2 (fun c2=>?_) (fun c2=>?_)
  ·have son:s.on=true:=by rw [← on1]; exact c2
   rw [son] at o
   left
   refine υ1 (fun c3=>?_) (fun c3=>?_)
   ·left
    refine st_e hE1 TE.cl TE.n7 rfl (e':={c1 with oz:=false}) rfl fun H2 hE2 k2=>?_
    have hA2:=hA1.go k2 hE2
    left
    refine rd_iteNB (fun z=>absurd (show c1.on=false from z) (by rw [c2]; decide)) (fun _=>?_)
    left
    refine τc ?_
    left
    refine τc ?_
    left
    refine st_e hE2 TE.cl TE.n6 rfl (e':={c1 with oz:=false,on := !c1.pl}) rfl fun H3 hE3 k3=>?_
    left
    refine τc ?_
    left
    rw [or240n hd]
    refine o H3 _ (hA2.go k3 hE3) (k1.trans (k2.trans k3)) (hR1.fin (c2:={c1 with oz:=false,on := !c1.pl}) rfl rfl rfl rfl rfl ?_ ?_ ?_ ?_)
    ·simp [hp]
    ·show false = !(s.some_ || dg != 0)
     have:(dg != 0)=true:=by simp; omega
     simp [this]
    ·simpa using mk1
    ·simpa using lt1
   ·left
    refine τc ?_
    left
    refine τc ?_
    left
    refine st_e hE1 TE.cl TE.n6 rfl (e':={c1 with on := !c1.pl}) rfl fun H3 hE3 k3=>?_
    left
    refine τc ?_
    left
    rw [or240n hd]
    have d0:dg=0:=by omega
    subst d0
    refine o H3 _ (hA1.go k3 hE3) (k1.trans k3) (hR1.fin (c2:={c1 with on := !c1.pl}) rfl rfl rfl rfl rfl ?_ ?_ ?_ ?_)
    ·simp [hp]
    ·simpa using oz1
    ·simpa using mk1
    ·simpa using lt1
  ·have son:s.on=false:=by rw [← on1]; exact c2
   rw [son] at o
   left
   refine υ1 (fun c3=>?_) (fun c3=>?_)
   ·have d0:(dg != 0)=true:=by simp; omega
    left
    refine st_e hE1 TE.cl TE.n7 rfl (e':={c1 with oz:=false}) rfl fun H2 hE2 k2=>?_
    have hA2:=hA1.go k2 hE2
    left
    refine rd_iteNB (fun _=>?_) (fun z=>absurd (show c1.on=true from z) (by rw [c2]; decide))
    left
    refine st_e hE2 TE.cl TE.n8 rfl (e':={c1 with oz:=false,mkd:=(place:Int)}) rfl fun H4 hE4 k4=>?_
    have hA4:=hA2.go k4 hE4
    left
    refine υ1 (fun _=>?_) (fun z=>absurd z c3)
    left
    refine τc ?_
    left
    refine st_e hE4 TE.cl TE.n6 rfl (e':={c1 with oz:=false,mkd:=(place:Int),on := !c1.pl}) rfl fun H3 hE3 k3=>?_
    left
    refine υ1 (fun _=>?_) (fun z=>absurd z c3)
    left
    rw [or240n hd]
    rw [d0] at o
    refine o H3 _ (hA4.go k3 hE3) (k1.trans (k2.trans (k4.trans k3))) (hR1.fin (c2:={c1 with oz:=false,mkd:=(place:Int),on := !c1.pl}) rfl rfl rfl rfl rfl ?_ ?_ ?_ ?_)
    ·simp [hp]
    ·simp
    ·rw [if_pos (by refine ⟨rfl,?_⟩; omega)]
     rfl
    ·rw [if_pos (by refine ⟨rfl,?_⟩; omega)]
     intro t z
     cases z
     exact hpl
   ·have d0:dg=0:=by omega
    subst d0
    left
    refine υ1 (fun z=>absurd rfl z) (fun _=>?_)
    left
    refine Δ (fun c5=>?_) (fun c5=>?_)
    ·left
     refine st_e hE1 TE.cl TE.n6 rfl (e':={c1 with on := !c1.pl}) rfl fun H3 hE3 k3=>?_
     have hA3:=hA1.go k3 hE3
     left
     refine υ1 (fun z=>absurd rfl z) (fun _=>?_)
     left
     show Q (.int (c1.fil:Int)) H3
     rw [hR1.fil]
     have p33:(pt == 33)=true:=by simp; omega
     refine o H3 _ hA3 (k1.trans k3) (hR1.fin (c2:={c1 with on := !c1.pl}) rfl rfl rfl rfl rfl ?_ ?_ ?_ ?_)
     ·simp [hp,p33]
     ·simpa using oz1
     ·simpa using mk1
     ·simpa using lt1
    ·left
     refine st_e hE1 TE.cl TE.n6 rfl (e':={c1 with on:=false}) rfl fun H3 hE3 k3=>?_
     have hA3:=hA1.go k3 hE3
     left
     refine υ1 (fun z=>absurd rfl z) (fun _=>?_)
     left
     show Q (.int (c1.fil:Int)) H3
     rw [hR1.fil]
     have p33:(pt == 33)=false:=by simp; omega
     refine o H3 _ hA3 (k1.trans k3) (hR1.fin (c2:={c1 with on:=false}) rfl rfl rfl rfl rfl ?_ ?_ ?_ ?_)
     ·simp [p33]
     ·simpa using oz1
     ·simpa using mk1
     ·simpa using lt1
end
noncomputable def ω4 (m0:M) (p fill:Nat) (e:Ra23.Ed):Nat→Except Nat Ra23.Ed
 | 0=>.ok e
 | i+1=>match ω4 m0 p fill e i with
  | .error x=>.error x
  | .ok e=>Ra23.editAt m0 p fill e i
theorem Φl (m0:M) (p fill n:Nat) (e0:Ra23.Ed):∀ k,k≤n→(match ω4 m0 p fill e0 (n - k) with | .error x=>.error x | .ok e=>Ra23.editFrom m0 p fill n k e)=ω4 m0 p fill e0 n
 | 0,_=>by
  rw [Nat.sub_zero]
  cases ω4 m0 p fill e0 n <;> rfl
 | k+1,h=>by
  rw [← Φl m0 p fill n e0 k (by omega)]
  have e:n - k=(n - (k+1))+1:=by omega
  rw [e]
  show _=match (match ω4 m0 p fill e0 (n - (k+1)) with | .error x=>Except.error x | .ok e=>Ra23.editAt m0 p fill e (n - (k+1))) with | .error x=>Except.error x | .ok e=>Ra23.editFrom m0 p fill n k e
  cases ω4 m0 p fill e0 (n - (k+1)) with
  | error x=>rfl
  | ok e=>rfl
theorem editFrom_eq (m0:M) (p fill n:Nat) (e0:Ra23.Ed):Ra23.editFrom m0 p fill n n e0=ω4 m0 p fill e0 n:=by
 have h:=Φl m0 p fill n e0 n (Nat.le_refl n)
 rw [Nat.sub_self] at h
 exact h
theorem byteIn_same (m:M) (p:Nat):Ra23.byteIn m p (m.mem p)=m:=by
 unfold Ra23.byteIn
 have:(fun q=>if q=p then m.mem p else m.mem q)=m.mem:=by
  funext q
  by_cases c:q=p
  ·rw [if_pos c,c]
  ·rw [if_neg c]
 rw [this]
theorem editAt_B (m0 W:M) (p fill i:Nat) (s:Ra23.Ed) (hW:i=0→W=m0):Ra23.editAt m0 p fill {s with m:=W} i=match edB m0 p fill s i with | .error x=>.error x | .ok (b,s')=>.ok {s' with m:=Ra23.byteIn W (p+i) b}:=by
 unfold Ra23.editAt edB
 dsimp only
 by_cases c1:m0.mem (p+i)=0x20∨m0.mem (p+i)=0x21
 ·rw [if_pos c1,if_pos c1]
  unfold edD
  cases Ra23.nextDigit {s with m:=m0} with
  | error x=>rfl
  | ok t =>
   obtain ⟨dg,s1,pl⟩:=t
   rfl
 rw [if_neg c1,if_neg c1]
 by_cases c2:m0.mem (p+i)=0x22
 ·rw [if_pos c2,if_pos c2]
 rw [if_neg c2,if_neg c2]
 by_cases c3:i=0
 ·rw [if_pos c3,if_pos (.inr c3),hW c3]
  dsimp only
  rw [byteIn_same]
 ·rw [if_neg c3]
  by_cases c4:s.on=true
  ·rw [if_pos c4,if_pos (.inl c4)]
  ·rw [if_neg c4,if_neg (by rintro (z | z); exact c4 z; exact c3 z)]
theorem nd_lt {e e':Ra23.Ed} {dg:Nat} {pl:Bool} (h:Ra23.nextDigit e=.ok (dg,e',pl)):dg < 16:=by
 unfold Ra23.nextDigit at h
 split at h
 ·injection h with h; injection h with h1 h; subst h1; exact Nat.mod_lt _ (by decide)
 split at h
 ·cases h
 dsimp only at h
 split at h
 ·cases h
 split at h
 ·injection h with h; injection h with h1 h; subst h1; omega
 ·injection h with h; injection h with h1 h; subst h1; omega
theorem edB_lt {m0:M} {p fill i b:Nat} {s s':Ra23.Ed} (hm:∀ p,m0.mem p < 256) (hf:fill < 256) (h:edB m0 p fill s i=.ok (b,s')):b < 256:=by
 unfold edB at h
 split at h
 ·unfold edD at h
  cases hn:Ra23.nextDigit {s with m:=m0} with
  | error x=>rw [hn] at h; cases h
  | ok t =>
   obtain ⟨dg,s1,pl⟩:=t
   rw [hn] at h
   have hd:=nd_lt hn
   injection h with h; injection h with h1 h
   subst h1
   split <;> omega
 split at h
 ·injection h with h; injection h with h1 h; subst h1; exact hf
 ·injection h with h; injection h with h1 h
  have:=hm (p+i)
  subst h1
  split <;> omega
noncomputable def edL (m0:M) (p fill:Nat) (s0:Ra23.Ed):Nat→Except Nat (List Nat×Ra23.Ed)
 | 0=>.ok ([],s0)
 | i+1=>match edL m0 p fill s0 i with
  | .error x=>.error x
  | .ok (l,s)=>match edB m0 p fill s i with
   | .error x=>.error x
   | .ok (b,s')=>.ok (l++[b],s')
theorem edL_err {m0:M} {p fill i x:Nat} {s0:Ra23.Ed} (h:edL m0 p fill s0 i=.error x):∀ k,edL m0 p fill s0 (i+k)=.error x
 | 0=>h
 | k+1=>by
  have:=edL_err h k
  rw [show i+(k+1)=(i+k)+1 from rfl,edL,this]
noncomputable def wrF (m:M) (p:Nat) (f:Nat→Nat):Nat→M
 | 0=>m
 | n+1=>Ra23.byteIn (wrF m p f n) (p+n) (f n)
theorem wrF_congr {m:M} {p:Nat} {f g:Nat→Nat}:∀ n,(∀ j,j < n→f j=g j)→wrF m p f n=wrF m p g n
 | 0,_=>rfl
 | n+1,h=>by
  show Ra23.byteIn (wrF m p f n) (p+n) (f n)=Ra23.byteIn (wrF m p g n) (p+n) (g n)
  rw [wrF_congr n (fun j hj=>h j (by omega)),h n (by omega)]
noncomputable def LRes (m0:M) (p fill:Nat) (s0:Ra23.Ed) (i:Nat):Except Nat (List Nat×Ra23.Ed)→Prop
 | .error x=>ω4 m0 p fill {s0 with m:=m0} i=.error x
 | .ok (l,s)=>l.length=i∧(∀ b∈l,b < 256)∧ω4 m0 p fill {s0 with m:=m0} i=.ok {s with m:=wrF m0 p (fun j=>l.getD j 0) i}
theorem edL_to {m0:M} {p fill:Nat} {s0:Ra23.Ed} (hm:∀ p,m0.mem p < 256) (hf:fill < 256):∀ i,LRes m0 p fill s0 i (edL m0 p fill s0 i)
 | 0=>⟨rfl,fun b hb=>absurd hb (by simp),rfl⟩
 | i+1=>by
  have ih:=edL_to hm hf i (p:=p) (s0:=s0)
  show LRes m0 p fill s0 (i+1) (match edL m0 p fill s0 i with | .error x=>Except.error x | .ok (l,s)=>match edB m0 p fill s i with | .error x=>Except.error x | .ok (b,s')=>.ok (l++[b],s'))
  cases e1:edL m0 p fill s0 i with
  | error x =>
   rw [e1] at ih
   have ih':ω4 m0 p fill {s0 with m:=m0} i=.error x:=ih
   show (match ω4 m0 p fill {s0 with m:=m0} i with | .error x=>Except.error x | .ok e=>Ra23.editAt m0 p fill e i)=.error x
   rw [ih']
  | ok t =>
   obtain ⟨l,s⟩:=t
   rw [e1] at ih
   obtain ⟨i1,i2,i3⟩:=ih
   dsimp only
   have hA:=editAt_B m0 (wrF m0 p (fun j=>l.getD j 0) i) p fill i s (fun z=>by subst z; rfl)
   have st:ω4 m0 p fill {s0 with m:=m0} (i+1)=Ra23.editAt m0 p fill {s with m:=wrF m0 p (fun j=>l.getD j 0) i} i:=by
    show (match ω4 m0 p fill {s0 with m:=m0} i with | .error x=>Except.error x | .ok e=>Ra23.editAt m0 p fill e i)=_
    rw [i3]
   cases e2:edB m0 p fill s i with
   | error x =>
    rw [e2] at hA
    show ω4 m0 p fill {s0 with m:=m0} (i+1)=.error x
    rw [st,hA]
   | ok t =>
    obtain ⟨b,s'⟩:=t
    rw [e2] at hA
    refine ⟨by rw [List.length_append,i1]; rfl,fun y hy=>?_,?_⟩
    ·rcases List.mem_append.mp hy with z | z
     ·exact i2 y z
     ·rw [List.mem_singleton.mp z]; exact edB_lt hm hf e2
    ·rw [st,hA]
     show Except.ok _=Except.ok _
     congr 2
     show Ra23.byteIn (wrF m0 p (fun j=>l.getD j 0) i) (p+i) b=Ra23.byteIn (wrF m0 p (fun j=>(l++[b]).getD j 0) i) (p+i) ((l++[b]).getD i 0)
     have g1:(l++[b]).getD i 0=b:=by subst i1; simp
     have g2:∀ j,j < i→l.getD j 0=(l++[b]).getD j 0:=fun j hj=>by
      rw [List.getD_eq_getElem?_getD,List.getD_eq_getElem?_getD,List.getElem?_append_left (by omega)]
     rw [g1,wrF_congr i g2]
section
variable {P:Program} {w:World} {K:PySem.W.Frag} {mg:Str→Option Value} {base:Heap} {C CI CS CE:Addr}
noncomputable def ψc (CE C CI CS:Addr):Sp:=fun vs H Q E=>∃ (d:Hd) (m:M) (hv:Nat) (a dx:Addr) (c:EdO) (s:Ra23.Ed) (fill p i:Nat),vs=[.ref a,.int ((m.mem (p+i):Nat):Int),.int ((p+i:Nat):Int),.bl (decide (i=0))]∧p+i < 65536∧EdAt C CE d a dx H m hv c∧Rl m fill c s∧EbOut C CI CE d a dx hv H m fill Q E (edB m p fill s i)
theorem τm:FnScope ["editing","pattern","place","is_first"] ["editing","pattern","place","is_first"] (ξ (top 143)):=mkS
theorem Ξm (T:Txt P w K mg base C CI CS) (h:Has K mg "edited_byte" "edited_byte" (top 143)) (TE:EC K CE) (c_edited_digit:Callee P w K mg base 5 "edited_digit" ["editing","pattern","place"] (Γa CE C CI CS)):Callee P w K mg base 6 "edited_byte" ["editing","pattern","place","is_first"] (ψc CE C CI CS):=by
 refine ω (k:=5) h τm (fun vs H Q E h=>?_) (fun _ _ _ _ _ _=>ml4 fun _ _ _ _=>rfl) fun f cdv A outer s H vs Q E hr h=>?_
 ·obtain ⟨d,m,hv,a,dx,c,s,fill,p,i,rfl,_⟩:=h
  rfl
 obtain ⟨d,m,hv,a,dx,c,s,fill,p,i,rfl,hpi,hA,hR,o⟩:=h
 have hmc:=T.mc
 refine ⟨_,(η (ρ0 (pw_or (Ψ ψ1 (pv 1) (Ω1 T.gDIGIT (by rfl)) (Ω _)) (Ωj (Ψ ψ1 (pv 1) (Ω1 T.gDIGIT_AND_ON (by rfl)) (Ω _)))).pt (θ (ω0 (τ c_edited_digit hr (by decide) rfl (ζ (pv 0) (ζ (pv 1) (ζ (pv 2) ν)))))) ι0) (η (ρ0 (Ψ ψ1 (pv 1) (Ω1 T.gFIELD_END rfl) (Ω _)) (η (ξ0 (pv 0) pe_bl rfl) (η (ξ0 (pv 0) pe_bl rfl) (θ (ω0 (Γ (pv 0) rfl))))) ι0) (θ (ω0 (Ψ1 (pw_or (ν4 (Γ (pv 0) rfl)) (Ωj (ν4 (pv 3)))).pt (pv 1) (Γ (pv 0) rfl)))))),?_⟩
 have hE:=hA.hE
 unfold edB at o
 left
 refine Δ (fun c1=>?_) (fun c1=>?_)
 ·rw [if_pos (.inl (by omega))] at o
  refine τc ?_
  left
  exact ⟨d,m,hv,a,dx,c,s,fill,_,_,rfl,hpi,hA,hR,o.q⟩
 left
 refine Δ (fun c2=>?_) (fun c2=>?_)
 ·rw [if_pos (.inr (by omega))] at o
  left
  exact ⟨d,m,hv,a,dx,c,s,fill,_,_,rfl,hpi,hA,hR,o.q⟩
 rw [if_neg (by omega)] at o
 left
 refine Δ (fun c3=>?_) (fun c3=>?_)
 ·rw [if_pos (by omega)] at o
  left
  refine st_e hE TE.cl TE.n6 rfl (e':={c with on:=false}) rfl fun H2 hE2 k2=>?_
  have hA2:=hA.go k2 hE2
  left
  refine st_e hE2 TE.cl TE.n7 rfl (e':={c with on:=false,oz:=true}) rfl fun H3 hE3 k3=>?_
  left
  show Q (.int (c.fil:Int)) H3
  rw [hR.fil]
  exact o H3 _ (hA2.go k3 hE3) (k2.trans k3) (hR.fin (c2:={c with on:=false,oz:=true}) rfl rfl rfl rfl rfl rfl rfl hR.mkd hR.lt)
 rw [if_neg (by omega)] at o
 left
 refine Ω2 (fun c4=>?_) (fun c4=>?_)
 ·refine τc ?_
  left
  have son:s.on=true:=hR.on ▸ c4
  rw [if_pos (.inl son)] at o
  exact o H c hA (KeepA.refl _ _) hR
 ·have son:¬ s.on=true:=by rw [← hR.on,c4]; decide
  left
  refine Δ (fun c5=>?_) (fun c5=>?_)
  ·rw [if_pos (.inr c5)] at o
   left
   exact o H c hA (KeepA.refl _ _) hR
  ·rw [if_neg (by rintro (z | z); exact son z; exact c5 z)] at o
   left
   rw [hR.fil]
   exact o H c hA (KeepA.refl _ _) hR
end
structure ME (P:Program) (w:World) (K:PySem.W.Frag) (mg:Str→Option Value) (base:Heap) (CE:Addr):Prop where
 ec:EC K CE
 ex:∃ f fd,Mk K CE f∧mg "Editing"=some (.ref CE)∧FnOk P w K mg base (CXI P w) 1 f fd ["self","memory","source","filling"] (spEI CE)∧ιe K fd ["self","memory","source","filling"] []
section
variable {P:Program} {w:World} {K:PySem.W.Frag} {mg:Str→Option Value} {base:Heap} {N:List Str} {qual:Str} {scope:Scope} {f:Addr} {cd:Value} {A:Around} {outer:List Env} {s:Shared} {H:Hp} {E:XK}
theorem pe_mkE {CE:Addr} {k':Nat} {p pos:Pos} {e:Expr} {es:List Expr} {t:TA} (z:ME P w K mg base CE) (hr:Room k' (cxI P w K mg base N qual scope f cd A outer s H E).A) (hk:2≤k') (hg:Gl (cxI P w K mg base N qual scope f cd A outer s H E) "Editing")
  (ha:PA (cxI P w K mg base N qual scope f cd A outer s H E) (e::es) t)
  (he:starEach (e::es) (cxI P w K mg base N qual scope f cd A outer s H E).env=(false,eval e (cxI P w K mg base N qual scope f cd A outer s H E).env)::starEach es (cxI P w K mg base N qual scope f cd A outer s H E).env:=by rfl)
  (hpl:(backTo pos (starEach es (cxI P w K mg base N qual scope f cd A outer s H E).env)).any (·.1)=false:=by rfl) :
  PE (cxI P w K mg base N qual scope f cd A outer s H E) (.Call (.Name "Editing" p) (e::es) [] pos) (tMake CE (spEI CE) [] E t) :=
 let ⟨_,_,h1,h2,h3,h4⟩:=z.ex
 pe_make (X:=cxI P w K mg base N qual scope f cd A outer s H E) h1 h3 (hr.mono hk) hg h2 h4 .nil passI ha (by decide) he hpl
end
theorem rd_make {CE:Addr} {sp:Sp} {E:XK} {tA:TA} {σ:L2.St} {H:Hp} {Q:VK} (q:tA σ H fun vs H1=>∀ x dx,H1 x=none→H1 dx=none→dx≠x→sp (.ref x::(vs++[])) (upd (upd H1 dx (.own x)) x (.ins CE dx [])) (fun v H2=>v=.non∧Q (.ref x) H2) E):tMake CE sp [] E tA σ H Q:=q
section
variable {P:Program} {w:World} {K:PySem.W.Frag} {mg:Str→Option Value} {base:Heap} {C CI CS CE:Addr}
noncomputable def ccE (e:Ra23.Ed):Nat:=if e.some_=false then 0 else if e.on=true then 1 else 2
noncomputable def EtOut (C CI CE:Addr) (d:Hd) (hv:Nat) (H:Hp) (m:M) (Q:VK) (E:XK):Except Nat Ra23.Ed→Prop
 | .error x=>∀ H' y,Mach C d H' m hv→Keep d H H'→H' y=some (.xd [("number",.int (x:Int))])→E (.ref CI) (some y) H'
 | .ok e=>∀ H' a dx c,Mach C d H' {e.m with cc:=ccE e} hv→Keep d H H'→H' a=some (.ins CE dx (edF d.q c))→c.mkd=mkI e.told→(∀ t,e.told=some t→t < 65536)→Q (.ref a) H'
noncomputable def Δa (CE C CI CS:Addr):Sp:=fun vs H Q E=>∃ (d:Hd) (m:M) (hv n p q:Nat),vs=[.ref d.a,.int n,.int p,.int q]∧0 < n∧n≤256∧p < 2^24∧q < 2^24∧Mach C d H m hv∧(65536 < p+n→∀ x,H x=none→E (.ref CI) (some x) (upd H x (.xd [("number",.int 5)])))∧(p+n≤65536→EtOut C CI CE d hv H m Q E (Ra23.editFrom m p (m.mem p) n n ⟨m,q,false,false,false,none⟩))
theorem θ3:FnScope ["machine","size","first","second","editing","result","place","index","byte"] ["machine","size","first","second"] (ξ (top 144)):=mkS
theorem ok_edit_text (T:Txt P w K mg base C CI CS) (h:Has K mg "edit_text" "edit_text" (top 144)) (ME:ME P w K mg base CE) (c_need_room:Callee P w K mg base 3 "need_room" ["place","size"] (τ0 C CI CS)) (c_edited_byte:Callee P w K mg base 6 "edited_byte" ["editing","pattern","place","is_first"] (ψc CE C CI CS)):Callee P w K mg base 7 "edit_text" ["machine","size","first","second"] (Δa CE C CI CS):=by
 refine ω (k:=6) h θ3 (fun vs H Q E h=>?_) (fun _ _ _ _ _ _=>ml4 fun _ _ _ _=>rfl) fun f cdv A outer s H vs Q E hr h=>?_
 ·obtain ⟨d,m,hv,n,p,q,rfl,_⟩:=h
  rfl
 obtain ⟨d,m,hv,n,p,q,rfl,hn0,hn,hp,hq,hM,hbad,o⟩:=h
 have hmc:=T.mc
 have TE:=ME.ec
 refine ⟨_,(η (χ (τ c_need_room hr (by decide) rfl (ζ (pv 2) (ζ (pv 1) ν)))) (η (Ξ (i:=4) θ3.nd rfl (Or.inl rfl) (pe_mkE ME hr (by decide) rfl (ζ (Γ (pv 0) rfl) (ζ (pv 3) (ζ (ο0 Φ (Γ (pv 0) rfl) (pv 2) (fun _ _=>rfl)) ν))))) (η (Ξ (i:=5) θ3.nd rfl (Or.inl rfl) (υ2 ν)) (η (ξ4 PassesOwn.leaving rfl (ρ7 rfl T.brange (ζ (pv 2) (ζ (υ η0 (pv 2) (pv 1)) ν))) (κ1 (i:=6) θ3.nd rfl (Or.inl rfl)) (θ (χ (pe_bm PySem.F.plainAttrs_list PySem.F.slot_list_append PySem.F.type_list_append υ7 (pv 5) (ζ (τ c_edited_byte hr (by decide) rfl (ζ (pv 4) (ζ (ο0 Φ (Γ (pv 0) rfl) (pv 6) (fun _ _=>rfl)) (ζ (pv 6) (ζ (ξ2 ψ1 (pv 6) (pv 2) (Ω _)) ν))))) ν))))) (η (ξ4 PassesOwn.leaving rfl (pi_enum rfl T.benum (ζ (pv 5) ν)) (pg_tup (n:=2) rfl (Δ6 (κ1 (i:=7) θ3.nd rfl (Or.inl rfl)) (Δ6 (κ1 (i:=8) θ3.nd rfl (Or.inl rfl)) pgs_nil))) (θ (Γ0 (pv 8) (Δ0 (Γ (pv 0) rfl) (υ η0 (pv 2) (pv 7)) κ0)))) (η (ρ0 (ν4 (Γ (pv 4) rfl)) (θ (ξ0 (pv 0) ι rfl)) (θ (ξ0 (pv 0) (Ψ1 (ν4 (Γ (pv 4) rfl)) ι ι) rfl))) (θ (ω0 (pv 4))))))))),?_⟩
 left
 refine ⟨_,_,rfl,fun c=>hbad (by omega),fun r1=>?_⟩
 have o:=o (by omega)
 rw [editFrom_eq] at o
 have hb:=hM.ok.mem p
 have hL:=edL_to (m0:=m) (p:=p) (fill:=m.mem p) (s0:=⟨m,q,false,false,false,none⟩) hM.ok.mem hb
 left
 refine rd_make ?_
 left
 rw [tn]
 refine fun x dx hx hdx ndx=>⟨x,dx,d.q,q,m.mem p,rfl,ο,rfl,?_⟩
 rw [ψ3]
 have nx1:d.a≠x:=ρ hM.ob hx
 have hH0:EdAt C CE d x dx (upd (upd H dx (.own x)) x (.ins CE dx (edF d.q ⟨q,m.mem p,-1,false,false,true,-1⟩))) m hv ⟨q,m.mem p,-1,false,false,true,-1⟩ :=
  ⟨(hM.new hdx).new (by rw [ψ (Ne.symm ndx)]; exact hx),ο,nx1⟩
 have kH0:Keep d H (upd (upd H dx (.own x)) x (.ins CE dx (edF d.q ⟨q,m.mem p,-1,false,false,true,-1⟩))):=(Keep.new hdx).trans (Keep.new (by rw [ψ (Ne.symm ndx)]; exact hx))
 generalize (upd (upd H dx (.own x)) x (.ins CE dx (edF d.q ⟨q,m.mem p,-1,false,false,true,-1⟩)))=H0 at hH0 kH0 ⊢
 left
 refine ⟨by decide,fun L hLn=>?_⟩
 have nLx:L≠x:=fun e=>by rw [e,hH0.hE] at hLn; cases hLn
 obtain ⟨nL1,nL2,nL3⟩:=fresh3 hH0.hM hLn
 left
 refine ⟨_,_,rfl,⟨by omega,by omega,by omega,by omega⟩,?_⟩
 rw [show ((p:Int)+(n:Int) - (p:Int)).toNat=n by omega]
 have hbig:200000≤sizeLine:=by decide
 refine FR.r (fun i σ' H'=>∃ (l:List Nat) (s:Ra23.Ed) (c:EdO) (o6:Option V),σ'=[some (.ref d.a),some (.int n),some (.int p),some (.int q),some (.ref x),some (.ref L),o6,none,none]∧edL m p (m.mem p) ⟨m,q,false,false,false,none⟩ i=.ok (l,s)∧EdAt C CE d x dx H' m hv c∧Rl m (m.mem p) c s∧H' L=some (.lst (ν1 l))∧Keep d H H') ⟨[],_,_,none,rfl,rfl,⟨hH0.hM.new hLn,by rw [ψ (Ne.symm nLx)]; exact hH0.hE,nx1⟩,⟨rfl,rfl,rfl,rfl,fun t z=>(by cases z),fun z=>(by cases z),fun _=>⟨rfl,rfl⟩⟩,ο,kH0.trans (Keep.new hLn)⟩ (fun i σ' H' hi h=>?_) (fun σ' H' h=>?_)
 ·obtain ⟨l,s,c,o6,rfl,he,hA,hR,hl,k'⟩:=h
  have hM':=hA.hM
  rw [show (p:Int)+(i:Int)=((p+i:Nat):Int) by omega]
  have hll:l.length=i:=by have z:=hL i; rw [he] at z; exact z.1
  left
  refine ⟨.inl ⟨rfl,_,SqL.of hl⟩,?_⟩
  left
  rw [tn,show decide (((p+i:Nat):Int)=(p:Int))=decide (i=0) by rw [decide_eq_decide]; omega]
  refine ⟨d,m,hv,x,dx,c,s,m.mem p,p,i,rfl,by omega,hA,hR,?_⟩
  cases e2:edB m p (m.mem p) s i with
  | error y =>
   have er:edL m p (m.mem p) ⟨m,q,false,false,false,none⟩ (i+1)=.error y:=by rw [edL,he]; dsimp only; rw [e2]
   have er2:=edL_err er (n - (i+1))
   rw [show i+1+(n - (i+1))=n by omega] at er2
   have z:=hL n
   rw [er2] at z
   have z':ω4 m p (m.mem p) ⟨m,q,false,false,false,none⟩ n=.error y:=z
   rw [z'] at o
   intro H2 t hM2 k2 ht
   exact o H2 t hM2 (fun b ob hb n1 n2 n3=>k2 b ob (k' b ob hb n1 n2 n3) (ρ hb hx)) ht
  | ok t =>
   obtain ⟨b,s'⟩:=t
   intro H2 c2 hA2 k2 hR2
   have hl2:=k2 L _ hl nLx
   left
   refine θ2 hl2 (by rw [ψ0]; omega) ?_
   refine ⟨l++[b],s',c2,_,rfl,by rw [edL,he]; dsimp only; rw [e2],⟨hA2.hM.keepA KeepA.up (Ne.symm nL1) (Ne.symm nL2) (Ne.symm nL3),by rw [ψ (Ne.symm nLx)]; exact hA2.hE,nx1⟩,hR2,by rw [ο,Φ6]; rfl,fun b ob hb n1 n2 n3=>?_⟩
   have h1:=k2 b ob (k' b ob hb n1 n2 n3) (ρ hb hx)
   rw [ψ (fun z=>by
    subst z
    have:=kH0 b ob hb n1 n2 n3
    rw [hLn] at this
    cases this)]
   exact h1
 ·obtain ⟨l,s,c,o6,rfl,he,hA,hR,hl,k'⟩:=h
  have z:=hL n
  rw [he] at z
  obtain ⟨hll,hb8,z3⟩:=z
  have z3':ω4 m p (m.mem p) ⟨m,q,false,false,false,none⟩ n=.ok {s with m:=wrF m p (fun j=>l.getD j 0) n}:=z3
  rw [z3'] at o
  have hg:∀ j,l.getD j 0 < 256:=fun j=>by
   rw [List.getD_eq_getElem?_getD]
   cases e:l[j]? with
   | none=>decide
   | some y=>exact hb8 y (List.mem_of_getElem? e)
  left
  refine ⟨L,_,rfl,SqL.of hl,?_⟩
  refine FR.e (xs:=ν1 l) (fun i σ' H''=>(∃ o7 o8,σ'=[some (.ref d.a),some (.int n),some (.int p),some (.int q),some (.ref x),some (.ref L),o6,o7,o8])∧Mach C d H'' (wrF m p (fun j=>l.getD j 0) i) hv∧H'' x=some (.ins CE dx (edF d.q c))∧H'' L=some (.lst (ν1 l))∧Keep d H H'') ⟨⟨none,none,rfl⟩,hA.hM,hA.hE,hl,k'⟩ (fun i σ' H'' _ h=>SqL.of h.2.2.2.1) (fun i v σ' H'' t hv' h ht=>?_) (fun σ' H'' h=>?_)
  ·obtain ⟨⟨o7,o8,rfl⟩,hM2,hE2,hl2,k2⟩:=h
   obtain ⟨b,rfl,hb⟩:=ιj hv'
   have hi:i < n:=by rw [← hll]; exact (List.getElem?_eq_some_iff.mp hb).1
   have hM3:=hM2.new (o:=.tup [.int (i:Nat),.int (b:Int)]) ht
   have k3:Keep d H (upd H'' t (.tup [.int (i:Nat),.int (b:Int)])):=k2.trans (Keep.new ht)
   have hE3:upd H'' t (.tup [.int (i:Nat),.int (b:Int)]) x=some (.ins CE dx (edF d.q c)):=by rw [ψ (ρ hE2 ht)]; exact hE2
   have hl3:upd H'' t (.tup [.int (i:Nat),.int (b:Int)]) L=some (.lst (ν1 l)):=by rw [ψ (ρ hl2 ht)]; exact hl2
   refine ζj ο ?_
   generalize upd H'' t (.tup [.int (i:Nat),.int (b:Int)])=H3 at hM3 k3 hE3 hl3 ⊢
   left
   rw [show (p:Int)+(i:Int)=((p+i:Nat):Int) by omega]
   refine Φ1 hM3 (by omega) rfl (by have:=hg i; rw [List.getD_eq_getElem?_getD,hb] at this; exact this) fun H4 hM4 k4=>?_
   rw [tn] at hM4
   refine ⟨⟨_,_,rfl⟩,?_,k4 x _ hE3 (Ne.symm nx1) (Ne.symm hA.nr) (Ne.symm hA.nq),k4 L _ hl3 nL1 nL2 nL3,k3.trans k4⟩
   show Mach C d H4 (Ra23.byteIn (wrF m p (fun j=>l.getD j 0) i) (p+i) (l.getD i 0)) hv
   rw [List.getD_eq_getElem?_getD,hb]
   exact hM4
  ·obtain ⟨⟨o7,o8,rfl⟩,hM2,hE2,hl2,k2⟩:=h
   rw [ψ0,hll] at hM2
   left
   refine Ω2 (fun c1=>?_) (fun c1=>?_)
   ·have hs:s.some_=false:=by have:=hR.oz; rw [show c.oz=true from c1] at this; cases e:s.some_ with | false=>rfl | true=>rw [e] at this; cases this
    left
    refine ρ1 hM2 hmc rfl (v:=0) rfl (by decide) fun H4 hM4 k4=>?_
    left
    refine o H4 x dx c ?_ (k2.trans k4) (k4 x _ hE2 (Ne.symm nx1) (Ne.symm hA.nr) (Ne.symm hA.nq)) hR.mkd hR.lt
    unfold ccE
    rw [if_pos hs]
    exact hM4
   ·have hs:¬ s.some_=false:=fun e=>by have:=hR.oz; rw [show c.oz=false from c1,e] at this; cases this
    left
    refine Ω2 (fun c2=>?_) (fun c2=>?_)
    ·left
     refine ρ1 hM2 hmc rfl (v:=1) rfl (by decide) fun H4 hM4 k4=>?_
     left
     refine o H4 x dx c ?_ (k2.trans k4) (k4 x _ hE2 (Ne.symm nx1) (Ne.symm hA.nr) (Ne.symm hA.nq)) hR.mkd hR.lt
     unfold ccE
     rw [if_neg hs,if_pos (show s.on=true from hR.on ▸ c2)]
     exact hM4
    ·left
     refine ρ1 hM2 hmc rfl (v:=2) rfl (by decide) fun H4 hM4 k4=>?_
     left
     refine o H4 x dx c ?_ (k2.trans k4) (k4 x _ hE2 (Ne.symm nx1) (Ne.symm hA.nr) (Ne.symm hA.nq)) hR.mkd hR.lt
     unfold ccE
     rw [if_neg hs,if_neg (show ¬ s.on=true from fun z=>by rw [← hR.on,show c.on=false from c2] at z; cases z)]
     exact hM4
noncomputable def sp_edit (CE C CI CS:Addr):Sp:=SpT (fun m n p q=>if p+n≤65536 then Ra23.edit m p n q false else .stop 5 m) C CI CS
theorem sc_edit:FnScope ["machine","size","first","second"] ["machine","size","first","second"] (ξ (top 145)):=mkS
theorem ok_edit (T:Txt P w K mg base C CI CS) (h:Has K mg "edit" "edit" (top 145)) (c_edit_text:Callee P w K mg base 7 "edit_text" ["machine","size","first","second"] (Δa CE C CI CS)):Callee P w K mg base 8 "edit" ["machine","size","first","second"] (sp_edit CE C CI CS):=by
 refine ω (k:=7) h sc_edit (fun vs H Q E h=>?_) (fun _ _ _ _ _ _=>ml4 fun _ _ _ _=>rfl) fun f cdv A outer s H vs Q E hr h=>?_
 ·obtain ⟨d,m,hv,n,p,q,rfl,_⟩:=h
  rfl
 obtain ⟨d,m,hv,n,p,q,rfl,hn0,hn,hp,hq,hM,o⟩:=h
 have hmc:=T.mc
 refine ⟨_,(θ (χ (τ c_edit_text hr (by decide) rfl (ζ (pv 0) (ζ (pv 1) (ζ (pv 2) (ζ (pv 3) ν))))))),?_⟩
 left
 refine ⟨d,m,hv,n,p,q,rfl,hn0,hn,hp,hq,hM,fun c=>?_,fun c=>?_⟩
 ·dsimp only at o
  rw [if_neg (by omega)] at o
  exact o.raise hM
 dsimp only at o
 rw [if_pos c] at o
 unfold Ra23.edit at o
 cases e:Ra23.editFrom m p (m.mem p) n n ⟨m,q,false,false,false,none⟩ with
 | error x =>
  rw [e] at o
  exact fun H' y h1 h2 h3=>o H' y h1 h2 h3
 | ok e' =>
  rw [e] at o
  exact fun H' a dx c h1 h2 h3 h4 h5=>o H' h1 h2
noncomputable def ν9 (CE C CI CS:Addr):Sp:=SpT (fun m n p q=>if p+n≤65536 then Ra23.edit m p n q true else .stop 5 m) C CI CS
theorem χ9:FnScope ["machine","size","first","second","editing"] ["machine","size","first","second"] (ξ (top 146)):=mkS
theorem ρi (T:Txt P w K mg base C CI CS) (h:Has K mg "edit_and_mark" "edit_and_mark" (top 146)) (TE:EC K CE) (c_edit_text:Callee P w K mg base 7 "edit_text" ["machine","size","first","second"] (Δa CE C CI CS)):Callee P w K mg base 8 "edit_and_mark" ["machine","size","first","second"] (ν9 CE C CI CS):=by
 refine ω (k:=7) h χ9 (fun vs H Q E h=>?_) (fun _ _ _ _ _ _=>ml4 fun _ _ _ _=>rfl) fun f cdv A outer s H vs Q E hr h=>?_
 ·obtain ⟨d,m,hv,n,p,q,rfl,_⟩:=h
  rfl
 obtain ⟨d,m,hv,n,p,q,rfl,hn0,hn,hp,hq,hM,o⟩:=h
 have hmc:=T.mc
 refine ⟨_,(η (Ξ (i:=4) χ9.nd rfl (Or.inl rfl) (τ c_edit_text hr (by decide) rfl (ζ (pv 0) (ζ (pv 1) (ζ (pv 2) (ζ (pv 3) ν)))))) (θ (ρ0 (Ψ κk (Γ (pv 4) rfl) ι (Ω _)) (θ (Γ0 (υ ζ3 (υ ν0 (ο0 Φ (Γ (pv 0) rfl) ι (fun _ _=>rfl)) ι) (Γ (pv 4) rfl)) (Δ0 (Γ (pv 0) rfl) ι κ0))) ι0))),?_⟩
 left
 refine ⟨d,m,hv,n,p,q,rfl,hn0,hn,hp,hq,hM,fun c=>?_,fun c=>?_⟩
 ·dsimp only at o
  rw [if_neg (by omega)] at o
  exact o.raise hM
 dsimp only at o
 rw [if_pos c] at o
 unfold Ra23.edit at o
 cases e:Ra23.editFrom m p (m.mem p) n n ⟨m,q,false,false,false,none⟩ with
 | error x =>
  rw [e] at o
  exact fun H' y h1 h2 h3=>o H' y h1 h2 h3
 | ok e' =>
  rw [e] at o
  intro H' a dx c hM1 k1 hE1 hmk hlt
  dsimp only at o hM1
  rw [if_pos rfl] at o
  left
  rw [hmk]
  cases ht:e'.told with
  | none =>
   rw [ht] at o
   refine Δ (fun z=>absurd z (by show ¬ ((0:Int) ≤ -1); decide)) (fun _=>?_)
   exact o H' hM1 k1
  | some t =>
   rw [ht] at o
   have hlt:=hlt t ht
   have hr1:=hM1.ok.reg 1
   refine Δ (fun _=>?_) (fun z=>absurd z (by show ¬ ¬ ((0:Int)≤(t:Int)); omega))
   left
   rw [hmk,ht]
   show rSetL (.ref d.r) (.int 1) (.int (Builtin.bitOr (Builtin.bitAnd ((e'.m.r 1:Nat):Int) 4278190080) (t:Int))) _ _
   rw [place_in hr1 (by omega)]
   refine θ1 hM1 (by omega) rfl (by have:e'.m.r 1 < 2^32:=hr1; omega) fun H2 hM2 k2=>?_
   exact o H2 hM2 (k1.trans k2)
end
section
variable {m:M} {op n p q:Nat}
theorem ins2 {a b c d:Nat}:(Ra23.inside a b && Ra23.inside c d)=decide (a+b≤65536∧c+d≤65536):=by
 unfold Ra23.inside Ra23.MEMORY
 rw [Bool.decide_and]
theorem ss_mid {e:Ra23.End} (h1:209≤op) (h2:op≤215) (he:∀ c:p+n≤65536∧q+n≤65536,Ra23.ss m op n p q=e):Ra23.ss m op n p q=gIn2 m n p q e:=by
 unfold gIn2
 by_cases c:p+n≤65536∧q+n≤65536
 ·rw [if_pos c]; exact he c
 ·rw [if_neg c]
  unfold Ra23.ss
  rw [if_neg (by omega),if_neg (by omega),ins2,decide_eq_false c,if_pos ⟨rfl,h1,h2⟩]
noncomputable def ssB (m:M) (op n p q:Nat):Ra23.End :=
 let both (f:M):Ra23.End:=.done f
 let logical (g:Nat→Nat→Nat):Ra23.End:=let f:=Ra23.along m p q g n
  .done {f with cc:=if (List.range n).all (fun i=>f.mem (p+i) == 0)=true then 0 else 1}
 match op with
 | 0xD1=>both (Ra23.along m p q (fun a b=>a / 16*16+b%16) n)
 | 0xD2=>both (Ra23.along m p q (fun _ b=>b) n)
 | 0xD3=>both (Ra23.along m p q (fun a b=>b / 16*16+a%16) n)
 | 0xD4=>logical fun a b=>a &&& b
 | 0xD5=>.done { m with cc:=match Ra23.differ m p q n with
  | none=>0
  | some i=>if m.mem (p+i) < m.mem (q+i) then 1 else 2 }
 | 0xD6=>logical fun a b=>a ||| b
 | 0xD7=>logical fun a b=>a ^^^ b
 | _=>.stop 1 m
theorem ss_go (h1:209≤op) (h2:op≤215) (c:p+n≤65536∧q+n≤65536):Ra23.ss m op n p q=ssB m op n p q:=by
 unfold Ra23.ss
 rw [if_neg (by omega),if_neg (by omega),ins2,decide_eq_true c,if_neg (by rintro ⟨z,_⟩; cases z)]
 rfl
theorem jnF1:jnF 209=fun a b=>a / 16*16+b%16:=by funext a b; rfl
theorem jnF2:jnF 211=fun a b=>b / 16*16+a%16:=by funext a b; unfold jnF; rw [if_neg (by decide),if_pos rfl]
theorem jnF3:jnF 212=fun a b=>a &&& b:=by funext a b; unfold jnF; rw [if_neg (by decide),if_neg (by decide),if_pos rfl]
theorem jnF4:jnF 214=fun a b=>a ||| b:=by funext a b; unfold jnF; rw [if_neg (by decide),if_neg (by decide),if_neg (by decide),if_pos rfl]
theorem jnF5:jnF 215=fun a b=>a ^^^ b:=by funext a b; unfold jnF; rw [if_neg (by decide),if_neg (by decide),if_neg (by decide),if_neg (by decide)]
theorem ss_jn (h:op∈[209,211,212,214,215]):Ra23.ss m op n p q=gIn2 m n p q (gJn m op n p q):=by
 simp only [List.mem_cons,List.not_mem_nil,or_false] at h
 refine ss_mid (by omega) (by omega) fun c=>?_
 rw [ss_go (by omega) (by omega) c]
 unfold gJn
 rcases h with rfl | rfl | rfl | rfl | rfl
 ·rw [jnF1,if_neg (by decide)]; rfl
 ·rw [jnF2,if_neg (by decide)]; rfl
 ·rw [jnF3,if_pos (by decide)]; rfl
 ·rw [jnF4,if_pos (by decide)]; rfl
 ·rw [jnF5,if_pos (by decide)]; rfl
theorem ss_210:Ra23.ss m 210 n p q=gIn2 m n p q (.done (Ra23.along m p q (fun _ b=>b) n)):=ss_mid (by decide) (by decide) fun c=>by rw [ss_go (by decide) (by decide) c]; rfl
theorem ss_213:Ra23.ss m 213 n p q=gIn2 m n p q (gCmp m n p q):=ss_mid (by decide) (by decide) fun c=>by rw [ss_go (by decide) (by decide) c]; rfl
theorem ss_220:Ra23.ss m 220 n p q=gInT m n p q (.done (trl m p q n)):=by
 unfold gInT Ra23.ss
 rw [if_pos (by decide),ins2]
 by_cases c:p+n≤65536∧q+256≤65536
 ·rw [decide_eq_true c,if_neg (by decide),if_pos rfl,if_pos c]; rfl
 ·rw [decide_eq_false c,if_pos rfl,if_neg c]
theorem ss_221:Ra23.ss m 221 n p q=gInT m n p q (gSrch m n p q):=by
 unfold gInT Ra23.ss
 rw [if_pos (by decide),ins2]
 by_cases c:p+n≤65536∧q+256≤65536
 ·rw [decide_eq_true c,if_neg (by decide),if_neg (by decide),if_pos c]; rfl
 ·rw [decide_eq_false c,if_pos rfl,if_neg c]
theorem ins1 {a b:Nat}:Ra23.inside a b=decide (a+b≤65536):=rfl
theorem ss_222:Ra23.ss m 222 n p q=if p+n≤65536 then Ra23.edit m p n q false else .stop 5 m:=by
 unfold Ra23.ss
 rw [if_neg (by decide),if_pos (by decide),ins1]
 by_cases c:p+n≤65536
 ·rw [decide_eq_true c,if_neg (by decide),if_pos c]; rfl
 ·rw [decide_eq_false c,if_pos rfl,if_neg c]
theorem ss_223:Ra23.ss m 223 n p q=if p+n≤65536 then Ra23.edit m p n q true else .stop 5 m:=by
 unfold Ra23.ss
 rw [if_neg (by decide),if_pos (by decide),ins1]
 by_cases c:p+n≤65536
 ·rw [decide_eq_true c,if_neg (by decide),if_pos c]; rfl
 ·rw [decide_eq_false c,if_pos rfl,if_neg c]
theorem ss_no (h:op∉[209,211,212,214,215]) (h1:op≠210) (h2:op≠213) (h3:op≠220) (h4:op≠221) (h5:op≠222) (h6:op≠223):Ra23.ss m op n p q=.stop 1 m:=by
 simp only [List.mem_cons,List.not_mem_nil,or_false,not_or] at h
 unfold Ra23.ss
 rw [if_neg (by omega),if_neg (by omega),if_neg (by omega)]
 split
 all_goals first | rfl | omega
end
section
variable {P:Program} {w:World} {K:PySem.W.Frag} {mg:Str→Option Value} {base:Heap} {C CI CS CE:Addr}
noncomputable def θh (CE C CI CS:Addr):Sp:=fun vs H Q E=>∃ (d:Hd) (m:M) (hv op n p q:Nat),vs=[.ref d.a,.int op,.int n,.int p,.int q]∧0 < n∧n≤256∧p < 2^24∧q < 2^24∧Mach C d H m hv∧Out C CI CS d hv H Q E (Ra23.ss m op n p q)
theorem sc_two_texts:FnScope ["machine","operation","size","first","second"] ["machine","operation","size","first","second"] (ξ (top 164)):=mkS
theorem ok_two_texts (T:Txt P w K mg base C CI CS) (h:Has K mg "two_texts" "two_texts" (top 164)) (tab:TabAt P w K mg base "JOINS" 1 ["byte","other"] [209,211,212,214,215] (fun op=>SpJo (jnF op))) (c_join_texts:Callee P w K mg base 4 "join_texts" ["machine","operation","size","first","second"] (χe C CI CS)) (c_move_texts:Callee P w K mg base 4 "move_texts" ["machine","size","first","second"] (φe C CI CS)) (c_compare_texts:Callee P w K mg base 4 "compare_texts" ["machine","size","first","second"] (ξ9 C CI CS)) (c_translate:Callee P w K mg base 4 "translate" ["machine","size","first","table"] (ιh C CI CS)) (c_search:Callee P w K mg base 4 "search" ["machine","size","first","table"] (sp_search C CI CS)) (c_edit:Callee P w K mg base 8 "edit" ["machine","size","first","second"] (sp_edit CE C CI CS)) (c_edit_and_mark:Callee P w K mg base 8 "edit_and_mark" ["machine","size","first","second"] (ν9 CE C CI CS)):Callee P w K mg base 9 "two_texts" ["machine","operation","size","first","second"] (θh CE C CI CS):=by
 refine ω (k:=8) h sc_two_texts (fun vs H Q E h=>?_) (fun _ _ _ _ _ _=>ml5 fun _ _ _ _ _=>rfl) fun f cdv A outer s H vs Q E hr h=>?_
 ·obtain ⟨d,m,hv,op,n,p,q,rfl,_⟩:=h
  rfl
 obtain ⟨d,m,hv,op,n,p,q,rfl,hn0,hn,hp,hq,hM,o⟩:=h
 have hmc:=T.mc
 obtain ⟨ta,kvs,g_JOINS,kd,hop⟩:=tab
 refine ⟨_,(θ (ρ0 (pt_cmp (pc_kin (pv 1) (Ωe g_JOINS (by rfl))) (by rfl)) (θ (χ (τ c_join_texts hr (by decide) rfl (ζ (pv 0) (ζ (pv 1) (ζ (pv 2) (ζ (pv 3) (ζ (pv 4) ν)))))))) (θ (ρ0 (Ψ ψ1 (pv 1) ι (Ω _)) (θ (χ (τ c_move_texts hr (by decide) rfl (ζ (pv 0) (ζ (pv 2) (ζ (pv 3) (ζ (pv 4) ν))))))) (θ (ρ0 (Ψ ψ1 (pv 1) ι (Ω _)) (θ (χ (τ c_compare_texts hr (by decide) rfl (ζ (pv 0) (ζ (pv 2) (ζ (pv 3) (ζ (pv 4) ν))))))) (θ (ρ0 (Ψ ψ1 (pv 1) ι (Ω _)) (θ (χ (τ c_translate hr (by decide) rfl (ζ (pv 0) (ζ (pv 2) (ζ (pv 3) (ζ (pv 4) ν))))))) (θ (ρ0 (Ψ ψ1 (pv 1) ι (Ω _)) (θ (χ (τ c_search hr (by decide) rfl (ζ (pv 0) (ζ (pv 2) (ζ (pv 3) (ζ (pv 4) ν))))))) (θ (ρ0 (Ψ ψ1 (pv 1) ι (Ω _)) (θ (χ (τ c_edit hr (by decide) rfl (ζ (pv 0) (ζ (pv 2) (ζ (pv 3) (ζ (pv 4) ν))))))) (θ (ρ0 (Ψ ψ1 (pv 1) ι (Ω _)) (θ (χ (τ c_edit_and_mark hr (by decide) rfl (ζ (pv 0) (ζ (pv 2) (ζ (pv 3) (ζ (pv 4) ν))))))) (θ (Ω4 T.rI hr (by decide) rfl (ζ ι ν))))))))))))))))),?_⟩
 obtain ⟨hk1,hk2⟩:=hop op
 left
 refine rd_kin ?_
 left
 refine ⟨ta,kvs,_,rfl,rfl,kd,?_⟩
 left
 by_cases hkk:op∈[209,211,212,214,215]
 ·obtain ⟨g,hl,fa⟩:=hk1 hkk
  rw [hl]
  refine τc ?_
  rw [ss_jn hkk] at o
  left
  exact ⟨d,m,hv,op,n,p,q,rfl,hkk,hn0,hn,hp,hq,hM,o.q⟩
 rw [hk2 hkk]
 refine Γ9 ?_
 left
 refine Δ (fun e1=>?_) (fun e1=>?_)
 ·obtain rfl:op=210:=by omega
  rw [ss_210] at o
  left
  exact ⟨d,m,hv,n,p,q,rfl,hn0,hn,hp,hq,hM,o.q⟩
 left
 refine Δ (fun e2=>?_) (fun e2=>?_)
 ·obtain rfl:op=213:=by omega
  rw [ss_213] at o
  left
  exact ⟨d,m,hv,n,p,q,rfl,hn0,hn,hp,hq,hM,o.q⟩
 left
 refine Δ (fun e3=>?_) (fun e3=>?_)
 ·obtain rfl:op=220:=by omega
  rw [ss_220] at o
  left
  exact ⟨d,m,hv,n,p,q,rfl,hn0,hn,hp,hq,hM,o.q⟩
 left
 refine Δ (fun e4=>?_) (fun e4=>?_)
 ·obtain rfl:op=221:=by omega
  rw [ss_221] at o
  left
  exact ⟨d,m,hv,n,p,q,rfl,hn0,hn,hp,hq,hM,o.q⟩
 left
 refine Δ (fun e5=>?_) (fun e5=>?_)
 ·obtain rfl:op=222:=by omega
  rw [ss_222] at o
  left
  exact ⟨d,m,hv,n,p,q,rfl,hn0,hn,hp,hq,hM,o.q⟩
 left
 refine Δ (fun e6=>?_) (fun e6=>?_)
 ·obtain rfl:op=223:=by omega
  rw [ss_223] at o
  left
  exact ⟨d,m,hv,n,p,q,rfl,hn0,hn,hp,hq,hM,o.q⟩
 rw [ss_no hkk (by omega) (by omega) (by omega) (by omega) (by omega) (by omega)] at o
 left
 exact ⟨1,rfl,o.raise hM⟩
end
section
variable {m:M} {op n p q k j:Nat}
theorem word1 {f:Nat→Ra23.End}:Ra23.word m p 1 f=if 65536 < p+1 then .stop 5 m else f (m.mem p):=by
 unfold Ra23.word
 rw [if_neg (by rw [Nat.mod_one]; decide),ins1,get1]
 by_cases c:65536 < p+1
 ·rw [if_pos c,decide_eq_false (by omega),if_pos rfl]
 ·rw [if_neg c,decide_eq_true (by omega),if_neg (by decide)]
theorem rs_one (h1:145≤op) (h2:op≤151) (hi:16*k+j < 256) (hm:m.mem p < 256):Ra23.rsOrSi m n op k j p=oneB m op (16*k+j) p:=by
 have h:op=145∨op=146∨op=147∨op=148∨op=149∨op=150∨op=151:=by omega
 have a1:(m.mem p &&& (16*k+j)) < 256:=Nat.and_lt_two_pow (n:=8) _ hi
 have a2:(m.mem p ||| (16*k+j)) < 256:=Nat.or_lt_two_pow (n:=8) hm hi
 have a3:(m.mem p ^^^ (16*k+j)) < 256:=Nat.xor_lt_two_pow (n:=8) hm hi
 unfold oneB sing
 rcases h with rfl | rfl | rfl | rfl | rfl | rfl | rfl
 ·rw [if_neg (by decide)]
  show Ra23.word m p 1 (fun x=>.done {m with cc:=if x &&& (16*k+j)=0 then 0 else if x &&& (16*k+j)=16*k+j then 3 else 1})=_
  rw [word1]
  rfl
 ·rw [if_neg (by decide)]
  show Ra23.word m p 1 (fun _=>.done (Ra23.put m p 1 (16*k+j)))=_
  rw [word1,put1,Nat.mod_eq_of_lt hi]
  rfl
 ·rw [if_pos rfl]
  unfold Ra23.rsOrSi
  rfl
 ·rw [if_neg (by decide)]
  show Ra23.word m p 1 (fun x=>.done {Ra23.put m p 1 (x &&& (16*k+j)) with cc:=Ra23.ccOf0 (x &&& (16*k+j))})=_
  rw [word1,put1,Nat.mod_eq_of_lt a1]
  rfl
 ·rw [if_neg (by decide)]
  show Ra23.word m p 1 (fun x=>.done {m with cc:=Ra23.ccBy x ((16*k+j:Nat):Int)})=_
  rw [word1]
  rfl
 ·rw [if_neg (by decide)]
  show Ra23.word m p 1 (fun x=>.done {Ra23.put m p 1 (x ||| (16*k+j)) with cc:=Ra23.ccOf0 (x ||| (16*k+j))})=_
  rw [word1,put1,Nat.mod_eq_of_lt a2]
  rfl
 ·rw [if_neg (by decide)]
  show Ra23.word m p 1 (fun x=>.done {Ra23.put m p 1 (x ^^^ (16*k+j)) with cc:=Ra23.ccOf0 (x ^^^ (16*k+j))})=_
  rw [word1,put1,Nat.mod_eq_of_lt a3]
  rfl
theorem addr_lt (m:M) (x:Nat):Ra23.address m x < 2^24:=Nat.mod_lt _ (by decide)
noncomputable def lng (m:M) (op b2 p q:Nat):Ra23.End:=if op < 224 then Ra23.ss m op (b2+1) p q else if isTwo op=true then Ra23.ss2 m op (b2 / 16+1) p (b2%16+1) q else .stop 1 m
theorem lng_ss (h:op < 240) (b2:Nat):lng m op b2 p q=Ra23.ss m op (b2+1) p q:=by
 unfold lng
 by_cases c:op < 224
 ·rw [if_pos c]
 ·rw [if_neg c,isTwo_no (by simp only [List.mem_cons,List.not_mem_nil,or_false,not_or]; omega) (by omega),if_neg (by decide),ss_no (by simp only [List.mem_cons,List.not_mem_nil,or_false,not_or]; omega) (by omega) (by omega) (by omega) (by omega) (by omega) (by omega)]
noncomputable def pAt (m:M) (a:Nat):Nat:=Ra23.address m (256*m.mem a+m.mem (a+1))
theorem pAt_lt (m:M) (a:Nat):pAt m a < 2^24:=addr_lt m _
noncomputable def exP (m:M) (hv a b2:Nat):Ra23.End:=Ra23.exec m (fun i=>if i=1 then b2 else m.mem (a+i)) hv m.at_
variable {hv a b2:Nat}
theorem exP_eq:exP m hv a b2=(if m.mem a < 0x40 then Ra23.rr m hv m.at_ (m.mem a) (b2 / 16) (b2%16)
 else if m.mem a < 0x80 then Ra23.rx m hv m.at_ (m.mem a) (b2 / 16) (((if b2%16=0 then 0 else m.r (b2%16))+pAt m (a+2))%2^24)
 else if m.mem a < 0xC0 then Ra23.rsOrSi m m.at_ (m.mem a) (b2 / 16) (b2%16) (pAt m (a+2))
 else lng m (m.mem a) b2 (pAt m (a+2)) (pAt m (a+4))):=rfl
end
section
variable {P:Program} {w:World} {K:PySem.W.Frag} {mg:Str→Option Value} {base:Heap} {C CI CS CE:Addr}
noncomputable def ψa (CE C CI CS:Addr):Sp:=fun vs H Q E=>∃ (d:Hd) (m:M) (hv op a b2:Nat),vs=[.ref d.a,.int op,.int a,.int b2]∧a+6≤65536∧b2 < 256∧Mach C d H m hv∧Out C CI CS d hv H Q E (lng m op b2 (pAt m (a+2)) (pAt m (a+4)))
theorem ο5:FnScope ["machine","operation","at","second_byte","first","second"] ["machine","operation","at","second_byte"] (ξ (top 168)):=mkS
theorem ρk (T:Txt P w K mg base C CI CS) (h:Has K mg "perform_long" "perform_long" (top 168)) (c_two_texts:Callee P w K mg base 9 "two_texts" ["machine","operation","size","first","second"] (θh CE C CI CS)) (c_two_numbers:Callee P w K mg base 6 "two_numbers" ["machine","operation","size","other","first","second"] (χc C CI CS)) (c_place_told:Callee P w K mg base 1 "place_told" ["machine","at"] (Ω7 C CI CS)):Callee P w K mg base 10 "perform_long" ["machine","operation","at","second_byte"] (ψa CE C CI CS):=by
 refine ω (k:=9) h ο5 (fun vs H Q E h=>?_) (fun _ _ _ _ _ _=>ml4 fun _ _ _ _=>rfl) fun f cdv A outer s H vs Q E hr h=>?_
 ·obtain ⟨d,m,hv,op,a,b2,rfl,_⟩:=h
  rfl
 obtain ⟨d,m,hv,op,a,b2,rfl,ha,hb,hM,o⟩:=h
 have hmc:=T.mc
 refine ⟨_,(η (Ξ (i:=4) ο5.nd rfl (Or.inl rfl) (τ c_place_told hr (by decide) rfl (ζ (pv 0) (ζ (υ η0 (pv 2) ι) ν)))) (η (Ξ (i:=5) ο5.nd rfl (Or.inl rfl) (τ c_place_told hr (by decide) rfl (ζ (pv 0) (ζ (υ η0 (pv 2) ι) ν)))) (θ (ρ0 (Ψ ξg (pv 1) ι (Ω _)) (θ (χ (τ c_two_texts hr (by decide) rfl (ζ (pv 0) (ζ (pv 1) (ζ (υ η0 (pv 3) ι) (ζ (pv 4) (ζ (pv 5) ν)))))))) (θ (χ (τ c_two_numbers hr (by decide) rfl (ζ (pv 0) (ζ (pv 1) (ζ (υ η0 (υ ρ2 (pv 3) ι) ι) (ζ (υ η0 (υ ν0 (pv 3) ι) ι) (ζ (pv 4) (ζ (pv 5) ν))))))))))))),?_⟩
 have p1:=pAt_lt m (a+2)
 have p2:=pAt_lt m (a+4)
 left
 refine ⟨d,m,hv,a+2,rfl,by omega,hM,?_⟩
 left
 refine ⟨d,m,hv,a+4,rfl,by omega,hM,?_⟩
 left
 refine Δ (fun c=>?_) (fun c=>?_)
 ·rw [lng_ss (by omega)] at o
  left
  exact ⟨d,m,hv,op,b2+1,pAt m (a+2),pAt m (a+4),rfl,by omega,by omega,p1,p2,hM,o.q⟩
 ·unfold lng at o
  rw [if_neg (by omega)] at o
  left
  refine χh (n:=4) rfl ?_
  rw [shrN]
  left
  rw [Δb]
  exact ⟨d,m,hv,op,b2 / 16,b2%16,pAt m (a+2),pAt m (a+4),rfl,by omega,by omega,hM,o.q⟩
end
section
variable {P:Program} {w:World} {K:PySem.W.Frag} {mg:Str→Option Value} {base:Heap} {C CI CS CE:Addr}
noncomputable def SpPI (SX:Sp) (C CI CS:Addr):Sp:=fun vs H Q E=>∃ (d:Hd) (m:M) (hv op k j p:Nat),vs=[.ref d.a,.int op,.int k,.int j,.int p]∧k < 16∧j < 16∧p < 2^24∧Mach C d H m hv ∧
 (op≠68→Out C CI CS d hv H Q E (Ra23.rx m hv m.at_ op k (((if j=0 then 0 else m.r j)+p)%2^24)))∧(op=68→SX [.ref d.a,.int k,.int ((((if j=0 then 0 else m.r j)+p)%2^24:Nat):Int)] H (fun _ H'=>Q .non H') E)
theorem ψ6:FnScope ["machine","operation","k","j","place"] ["machine","operation","k","j","place"] (ξ (top 169)):=mkS
theorem Ξ6 {SX:Sp} {le:Nat} (hle:9≤le) (T:Txt P w K mg base C CI CS) (h:Has K mg "perform_indexed" "perform_indexed" (top 169)) (c_execute:Callee P w K mg base le "execute" ["machine","k","place"] SX) (c_one_and_memory:Callee P w K mg base 9 "one_and_memory" ["machine","operation","k","place"] (ν7 C CI CS)):Callee P w K mg base (le+1) "perform_indexed" ["machine","operation","k","j","place"] (SpPI SX C CI CS):=by
 refine ω (k:=le) h ψ6 (fun vs H Q E h=>?_) (fun _ _ _ _ _ _=>ml5 fun _ _ _ _ _=>rfl) fun f cdv A outer s H vs Q E hr h=>?_
 ·obtain ⟨d,m,hv,op,k,j,p,rfl,_⟩:=h
  rfl
 obtain ⟨d,m,hv,op,k,j,p,rfl,hk,hj,hp,hM,o1,o2⟩:=h
 have hmc:=T.mc
 refine ⟨_,(η (ρ0 (Ψ ξb (pv 3) ι (Ω _)) (θ (Ξ (i:=4) ψ6.nd rfl (Or.inl rfl) (υ ν0 (υ η0 (pv 4) (ο0 Φ (Γ (pv 0) rfl) (pv 3) (fun _ _=>rfl))) (Ω1 T.gPLACE_BITS rfl)))) ι0) (θ (ρ0 (Ψ ψ1 (pv 1) (Ω1 T.gEXECUTE rfl) (Ω _)) (θ (χ (τ c_execute hr (by omega) rfl (ζ (pv 0) (ζ (pv 2) (ζ (pv 4) ν)))))) (θ (χ (τ c_one_and_memory hr (by omega) rfl (ζ (pv 0) (ζ (pv 1) (ζ (pv 2) (ζ (pv 4) ν)))))))))),?_⟩
 have hl:(((if j=0 then 0 else m.r j)+p)%2^24) < 2^24:=Nat.mod_lt _ (by decide)
 left
 refine υ1 (fun c=>?_) (fun c=>?_)
 ·rw [if_neg (by omega)] at o1 o2 hl
  left
  rw [tn,show (p:Int)+((m.r j:Nat):Int)=((m.r j+p:Nat):Int) by omega,κb]
  left
  refine Δ (fun c2=>?_) (fun c2=>?_)
  ·left
   exact o2 (by omega)
  ·left
   exact ⟨d,m,hv,op,k,_,rfl,hk,hl,hM,(o1 (by omega)).q⟩
 ·rw [if_pos (by omega),Nat.zero_add,Nat.mod_eq_of_lt hp] at o1 o2
  left
  refine Δ (fun c2=>?_) (fun c2=>?_)
  ·left
   exact o2 (by omega)
  ·left
   exact ⟨d,m,hv,op,k,p,rfl,hk,hp,hM,(o1 (by omega)).q⟩
noncomputable def SpPf (SX:Sp) (C CI CS:Addr):Sp:=fun vs H Q E=>∃ (d:Hd) (m:M) (hv a b2:Nat),vs=[.ref d.a,.int a,.int b2]∧a+Ra23.length (m.mem a)≤65536∧b2 < 256∧Mach C d H m hv ∧
 (m.mem a≠68→Out C CI CS d hv H Q E (exP m hv a b2))∧(m.mem a=68→SX [.ref d.a,.int ((b2 / 16:Nat):Int),.int ((((if b2%16=0 then 0 else m.r (b2%16))+pAt m (a+2))%2^24:Nat):Int)] H (fun _ H'=>Q .non H') E)
theorem Φb:FnScope ["machine","at","second_byte","operation","k","j"] ["machine","at","second_byte"] (ξ (top 170)):=mkS
theorem χn {SX:Sp} {le:Nat} (hle:10≤le) (T:Txt P w K mg base C CI CS) (h:Has K mg "perform" "perform" (top 170)) (c_perform_indexed:Callee P w K mg base le "perform_indexed" ["machine","operation","k","j","place"] (SpPI SX C CI CS)) (c_two_registers:Callee P w K mg base 8 "two_registers" ["machine","operation","k","j"] (ι9 C CI CS)) (c_place_told:Callee P w K mg base 1 "place_told" ["machine","at"] (Ω7 C CI CS)) (c_perform_long:Callee P w K mg base 10 "perform_long" ["machine","operation","at","second_byte"] (ψa CE C CI CS)) (c_one_byte:Callee P w K mg base 4 "one_byte" ["machine","operation","given","place"] (χj C CI CS)) (c_two_and_place:Callee P w K mg base 7 "two_and_place" ["machine","operation","k","j","place"] (κ9 C CI CS)):Callee P w K mg base (le+1) "perform" ["machine","at","second_byte"] (SpPf SX C CI CS):=by
 refine ω (k:=le) h Φb (fun vs H Q E h=>?_) (fun _ _ _ _ _ _=>ml3 fun _ _ _=>rfl) fun f cdv A outer s H vs Q E hr h=>?_
 ·obtain ⟨d,m,hv,a,b2,rfl,_⟩:=h
  rfl
 obtain ⟨d,m,hv,a,b2,rfl,ha,hb,hM,o1,o2⟩:=h
 have hmc:=T.mc
 refine ⟨_,(η (Ξ (i:=3) Φb.nd rfl (Or.inl rfl) (ο0 Φ (Γ (pv 0) rfl) (pv 1) (fun _ _=>rfl))) (η (Ξ (i:=4) Φb.nd rfl (Or.inl rfl) (υ ρ2 (pv 2) ι)) (η (Ξ (i:=5) Φb.nd rfl (Or.inl rfl) (υ ν0 (pv 2) ι)) (θ (ρ0 (Ψ ξg (pv 3) ι (Ω _)) (θ (χ (τ c_two_registers hr (by omega) rfl (ζ (pv 0) (ζ (pv 3) (ζ (pv 4) (ζ (pv 5) ν))))))) (θ (ρ0 (Ψ ξg (pv 3) ι (Ω _)) (θ (χ (τ c_perform_indexed hr (by omega) rfl (ζ (pv 0) (ζ (pv 3) (ζ (pv 4) (ζ (pv 5) (ζ (τ c_place_told hr (by omega) rfl (ζ (pv 0) (ζ (υ η0 (pv 1) ι) ν))) ν)))))))) (θ (ρ0 (Ψ κk (pv 3) ι (Ω _)) (θ (χ (τ c_perform_long hr (by omega) rfl (ζ (pv 0) (ζ (pv 3) (ζ (pv 1) (ζ (pv 2) ν))))))) (θ (ρ0 (η4 ρ6 ρ6 ι (pv 3) ι) (θ (χ (τ c_one_byte hr (by omega) rfl (ζ (pv 0) (ζ (pv 3) (ζ (pv 2) (ζ (τ c_place_told hr (by omega) rfl (ζ (pv 0) (ζ (υ η0 (pv 1) ι) ν))) ν))))))) (θ (χ (τ c_two_and_place hr (by omega) rfl (ζ (pv 0) (ζ (pv 3) (ζ (pv 4) (ζ (pv 5) (ζ (τ c_place_told hr (by omega) rfl (ζ (pv 0) (ζ (υ η0 (pv 1) ι) ν))) ν))))))))))))))))))),?_⟩
 unfold Ra23.length at ha
 rw [exP_eq] at o1
 have p1:=pAt_lt m (a+2)
 have h8:=hM.ok.mem a
 left
 refine rd_ixM hM (by split at ha <;> (try split at ha) <;> omega) ?_
 rw [tn]
 left
 refine χh (n:=4) rfl ?_
 rw [shrN]
 left
 rw [Δb]
 refine Δ (fun c1=>?_) (fun c1=>?_)
 ·rw [if_pos (by omega)] at o1
  left
  exact ⟨d,m,hv,_,_,_,rfl,by omega,by omega,hM,(o1 (by omega)).q⟩
 rw [if_neg (by omega)] at o1 ha
 left
 refine Δ (fun c2=>?_) (fun c2=>?_)
 ·rw [if_pos (by omega)] at o1 ha
  left
  refine ⟨d,m,hv,a+2,rfl,by omega,hM,?_⟩
  left
  exact ⟨d,m,hv,_,_,_,pAt m (a+2),rfl,by omega,by omega,p1,hM,fun z=>(o1 z).q,o2⟩
 rw [if_neg (by omega)] at o1
 left
 refine Δ (fun c3=>?_) (fun c3=>?_)
 ·rw [if_neg (by omega)] at o1 ha
  left
  exact ⟨d,m,hv,_,a,b2,rfl,by omega,hb,hM,(o1 (by omega)).q⟩
 rw [if_pos (by omega)] at o1 ha
 left
 have two:Out C CI CS d hv H Q E (Ra23.rsOrSi m m.at_ (m.mem a) (b2 / 16) (b2%16) (pAt m (a+2))):=o1 (by omega)
 refine Δ (fun c4=>?_) (fun c4=>?_)
 ·left
  refine Δ (fun c5=>?_) (fun c5=>?_)
  ·left
   refine ⟨d,m,hv,a+2,rfl,by omega,hM,?_⟩
   left
   rw [rs_one (by omega) (by omega) (by omega) (hM.ok.mem _),show 16*(b2 / 16)+b2%16=b2 by omega] at two
   exact ⟨d,m,hv,_,_,pAt m (a+2),rfl,by omega,by omega,hb,hM,two.q⟩
  ·left
   refine ⟨d,m,hv,a+2,rfl,by omega,hM,?_⟩
   left
   exact ⟨d,m,hv,_,_,_,pAt m (a+2),rfl,by omega,by omega,by omega,p1,hM,two.q⟩
 ·left
  refine Γ9 ?_
  left
  refine ⟨d,m,hv,a+2,rfl,by omega,hM,?_⟩
  left
  exact ⟨d,m,hv,_,_,_,pAt m (a+2),rfl,by omega,by omega,by omega,p1,hM,two.q⟩
end
noncomputable def HalvesOk (K:PySem.W.Frag) (mg:Str→Option Value):Prop:=∃ a,mg "HALVES_LONG"=some (.ref a)∧∀ H,SqT K H a [.int 1,.int 2,.int 2,.int 3]
theorem halves_at {x:Nat} (h:x < 256):atI [V.int 1,.int 2,.int 2,.int 3] ((x / 64:Nat):Int)=some (.int ((Ra23.length x / 2:Nat):Int)):=by
 have hx:x / 64=0∨x / 64=1∨x / 64=2∨x / 64=3:=by omega
 unfold Ra23.length
 rcases hx with e | e | e | e
 ·rw [e,if_pos (by omega)]; rfl
 ·rw [e,if_neg (by omega),if_pos (by omega)]; rfl
 ·rw [e,if_neg (by omega),if_pos (by omega)]; rfl
 ·rw [e,if_neg (by omega),if_neg (by omega)]; rfl
theorem len_even (x:Nat):2*(Ra23.length x / 2)=Ra23.length x∧Ra23.length x≤6∧2≤Ra23.length x:=by
 unfold Ra23.length
 split
 ·decide
 split
 ·decide
 ·decide
noncomputable def exT (m:M) (hv k t:Nat):Ra23.End :=
 if t%2=1 then .stop 6 m
 else if Ra23.inside t 2=false then .stop 5 m
 else if m.mem t=0x44 then .stop 3 m
 else if Ra23.inside t (Ra23.length (m.mem t))=false then .stop 5 m
 else exP m hv t (m.mem (t+1) ||| (if k=0 then 0 else m.r k%256))
theorem shr6 (x:Nat):(x:Int) / 2^6=((x / 64:Nat):Int):=by
 show (x:Int) / 64=_
 omega
section
variable {P:Program} {w:World} {K:PySem.W.Frag} {mg:Str→Option Value} {base:Heap} {C CI CS CE:Addr}
noncomputable def NoSp:Sp:=fun _ _ _ _=>False
theorem ok_execute0 (h:Has K mg "execute" "execute" (top 171)) (hs:FnScope ["machine","k","place","operation","second_byte"] ["machine","k","place"] (ξ (top 171))):Callee P w K mg base 9 "execute" ["machine","k","place"] NoSp :=
 ω (k:=8) h hs (fun _ _ _ _ h=>h.elim) (fun _ _ _ _ _ _=>ml3 fun _ _ _=>rfl) fun _ _ _ _ _ _ _ _ _ _ h=>h.elim
noncomputable def Φf (C CI CS:Addr):Sp:=fun vs H Q E=>∃ (d:Hd) (m:M) (hv k t:Nat),vs=[.ref d.a,.int k,.int t]∧k < 16∧t < 2^24∧Mach C d H m hv∧Out C CI CS d hv H Q E (exT m hv k t)
theorem ο7:FnScope ["machine","k","place","operation","second_byte"] ["machine","k","place"] (ξ (top 171)):=mkS
theorem ok_execute (T:Txt P w K mg base C CI CS) (h:Has K mg "execute" "execute" (top 171)) (ho:HalvesOk K mg) (c_need_unit:Callee P w K mg base 3 "need_unit" ["place","size"] (ζ1 C CI CS)) (c_need_room:Callee P w K mg base 3 "need_room" ["place","size"] (τ0 C CI CS)) (c_perform:Callee P w K mg base 11 "perform" ["machine","at","second_byte"] (SpPf NoSp C CI CS)):Callee P w K mg base 12 "execute" ["machine","k","place"] (Φf C CI CS):=by
 refine ω (k:=11) h ο7 (fun vs H Q E h=>?_) (fun _ _ _ _ _ _=>ml3 fun _ _ _=>rfl) fun f cdv A outer s H vs Q E hr h=>?_
 ·obtain ⟨d,m,hv,k,t,rfl,_⟩:=h
  rfl
 obtain ⟨d,m,hv,k,t,rfl,hk,ht,hM,o⟩:=h
 have hmc:=T.mc
 obtain ⟨ah,g_HALVES_LONG,hah⟩:=ho
 refine ⟨_,(η (χ (τ c_need_unit hr (by decide) rfl (ζ (pv 2) (ζ ι ν)))) (η (Ξ (i:=3) ο7.nd rfl (Or.inl rfl) (ο0 Φ (Γ (pv 0) rfl) (pv 2) (fun _ _=>rfl))) (η (ρ0 (Ψ ψ1 (pv 3) (Ω1 T.gEXECUTE rfl) (Ω _)) (θ (Ω4 T.rI hr (by decide) rfl (ζ ι ν))) ι0) (η (χ (τ c_need_room hr (by decide) rfl (ζ (pv 2) (ζ (υ χ3 ι (ο0 ix_tup (Ωe g_HALVES_LONG rfl) (υ ρ2 (pv 3) ι) (fun _ _=>rfl))) ν)))) (η (Ξ (i:=4) ο7.nd rfl (Or.inl rfl) (ο0 Φ (Γ (pv 0) rfl) (υ η0 (pv 2) ι) (fun _ _=>rfl))) (η (ρ0 (Ψ ξb (pv 1) ι (Ω _)) (θ (Ξ (i:=4) ο7.nd rfl (Or.inl rfl) (υ ζ3 (pv 4) (υ ν0 (ο0 Φ (Γ (pv 0) rfl) (pv 1) (fun _ _=>rfl)) ι)))) ι0) (θ (χ (τ c_perform hr (by decide) rfl (ζ (pv 0) (ζ (pv 2) (ζ (pv 4) ν)))))))))))),?_⟩
 unfold exT at o
 rw [ins1,ins1] at o
 left
 refine ⟨_,_,rfl,by decide,fun c=>?_,fun c1 c2=>?_,fun c1 c2=>?_⟩
 ·rw [if_pos (by omega)] at o
  exact o.raise hM
 ·rw [if_neg (by omega),decide_eq_false (by omega),if_pos rfl] at o
  exact o.raise hM
 rw [if_neg (by omega),decide_eq_true (by omega),if_neg (by decide)] at o
 have h8:=hM.ok.mem t
 have h81:=hM.ok.mem (t+1)
 obtain ⟨l1,l2,l3⟩:=len_even (m.mem t)
 left
 rw [tn]
 refine Δ (fun c3=>?_) (fun c3=>?_)
 ·rw [if_pos (by omega)] at o
  left
  exact ⟨3,rfl,o.raise hM⟩
 rw [if_neg (by omega)] at o
 left
 refine χh (n:=6) rfl ?_
 rw [shr6]
 refine ⟨ah,_,_,_,rfl,rfl,hah _,halves_at h8,?_⟩
 refine ζ7 (.inl ⟨by decide,by decide⟩) ?_
 left
 refine ⟨_,_,rfl,fun c=>?_,fun r1=>?_⟩
 ·rw [decide_eq_false (by omega),if_pos rfl] at o
  exact o.raise hM
 rw [decide_eq_true (by omega),if_neg (by decide)] at o
 left
 refine υ1 (fun c4=>?_) (fun c4=>?_)
 ·rw [if_neg (by omega)] at o
  left
  rw [tn,show ((t:Int)+1).toNat=t+1 by omega,and255,τ3]
  exact ⟨d,m,hv,t,_,rfl,by omega,Nat.or_lt_two_pow (n:=8) h81 (Nat.mod_lt _ (by decide)),hM,fun _=>o.q,fun z=>absurd z (by omega)⟩
 ·rw [if_pos (by omega),Nat.or_zero] at o
  left
  rw [show ((t:Int)+1).toNat=t+1 by omega]
  exact ⟨d,m,hv,t,_,rfl,by omega,h81,hM,fun _=>o.q,fun z=>absurd z (by omega)⟩
theorem get2n (m:M) (p:Nat):Ra23.get m p 2=256*m.mem p+m.mem (p+1):=by
 show (0*256+m.mem (p+0))*256+m.mem (p+1)=_
 rw [Nat.add_zero]
 omega
noncomputable def stp (m:M):Ra23.End×Nat :=
 if m.at_%2=1 then (.stop 6 m,0) else if Ra23.inside m.at_ 2=false then (.stop 5 m,0)
 else if Ra23.inside m.at_ (Ra23.length (m.mem m.at_))=false then (.stop 5 m,0)
 else (if m.mem m.at_=0x44 then exT {m with at_:=m.at_+4} 2 (m.mem (m.at_+1) / 16) (((if m.mem (m.at_+1)%16=0 then 0 else m.r (m.mem (m.at_+1)%16))+pAt m (m.at_+2))%2^24)
  else exP {m with at_:=m.at_+Ra23.length (m.mem m.at_)} (Ra23.length (m.mem m.at_) / 2) m.at_ (m.mem (m.at_+1)),Ra23.length (m.mem m.at_) / 2)
theorem step_eq (m:M):Ra23.step m=stp m:=by
 unfold Ra23.step stp
 dsimp only
 by_cases c1:m.at_%2=1
 ·rw [if_pos c1,if_pos c1]
 rw [if_neg c1,if_neg c1]
 by_cases c2:Ra23.inside m.at_ 2=false
 ·rw [if_pos c2,if_pos c2]
 rw [if_neg c2,if_neg c2]
 by_cases c3:Ra23.inside m.at_ (Ra23.length (m.mem m.at_))=false
 ·rw [if_pos c3,if_pos c3]
 rw [if_neg c3,if_neg c3]
 congr 1
 by_cases c4:m.mem m.at_=0x44
 ·rw [if_pos c4,if_pos c4,c4,get2n]
  rfl
 ·rw [if_neg c4,if_neg c4]
  unfold exP
  show Ra23.exec m (fun i=>m.mem (m.at_+i)) _ _=Ra23.exec m (fun i=>if i=1 then m.mem (m.at_+1) else m.mem (m.at_+i)) _ _
  congr 1
  funext i
  by_cases ci:i=1
  ·rw [if_pos ci,ci]
  ·rw [if_neg ci]
noncomputable def sp_step (C CI CS:Addr):Sp:=fun vs H Q E=>∃ (d:Hd) (m:M) (hv:Nat),vs=[.ref d.a]∧Mach C d H m hv∧Out C CI CS d (Ra23.step m).2 H Q E (Ra23.step m).1
theorem sc_step:FnScope ["machine","at","halves"] ["machine"] (ξ (top 172)):=mkS
theorem ok_step (T:Txt P w K mg base C CI CS) (h:Has K mg "step" "step" (top 172)) (ho:HalvesOk K mg) (c_need_unit:Callee P w K mg base 3 "need_unit" ["place","size"] (ζ1 C CI CS)) (c_need_room:Callee P w K mg base 3 "need_room" ["place","size"] (τ0 C CI CS)) (c_perform:Callee P w K mg base 14 "perform" ["machine","at","second_byte"] (SpPf (Φf C CI CS) C CI CS)):Callee P w K mg base 15 "step" ["machine"] (sp_step C CI CS):=by
 refine ω (k:=14) h sc_step (fun vs H Q E h=>?_) (fun _ _ _ _ _ _=>ml1 fun _=>rfl) fun f cdv A outer s H vs Q E hr h=>?_
 ·obtain ⟨d,m,hv,rfl,_⟩:=h
  rfl
 obtain ⟨d,m,hv,rfl,hM,o⟩:=h
 have hmc:=T.mc
 obtain ⟨ah,g_HALVES_LONG,hah⟩:=ho
 refine ⟨_,(η (Ξ (i:=1) sc_step.nd rfl (Or.inl rfl) (Γ (pv 0) rfl)) (η (ξ0 (pv 0) ι rfl) (η (χ (τ c_need_unit hr (by decide) rfl (ζ (pv 1) (ζ ι ν)))) (η (Ξ (i:=2) sc_step.nd rfl (Or.inl rfl) (ο0 ix_tup (Ωe g_HALVES_LONG rfl) (υ ρ2 (ο0 Φ (Γ (pv 0) rfl) (pv 1) (fun _ _=>rfl)) ι) (fun _ _=>rfl))) (η (χ (τ c_need_room hr (by decide) rfl (ζ (pv 1) (ζ (υ χ3 ι (pv 2)) ν)))) (η (ξ0 (pv 0) (pv 2) rfl) (η (ξ0 (pv 0) (υ η0 (pv 1) (υ χ3 ι (pv 2))) rfl) (θ (χ (τ c_perform hr (by decide) rfl (ζ (pv 0) (ζ (pv 1) (ζ (ο0 Φ (Γ (pv 0) rfl) (υ η0 (pv 1) ι) (fun _ _=>rfl)) ν))))))))))))),?_⟩
 rw [step_eq] at o
 unfold stp at o
 rw [ins1,ins1] at o
 left
 refine rd_stH hM hmc rfl (v:=0) rfl (by decide) fun H1 hM1 k1=>?_
 left
 refine ⟨_,_,rfl,by decide,fun c=>?_,fun c1 c2=>?_,fun c1 c2=>?_⟩
 ·rw [if_pos (by omega)] at o
  exact (o.keep k1).raise hM1
 ·rw [if_neg (by omega),decide_eq_false (by omega),if_pos rfl] at o
  exact (o.keep k1).raise hM1
 rw [if_neg (by omega),decide_eq_true (by omega),if_neg (by decide)] at o
 have h8:=hM.ok.mem m.at_
 have h81:=hM.ok.mem (m.at_+1)
 obtain ⟨l1,l2,l3⟩:=len_even (m.mem m.at_)
 left
 rw [tn]
 refine χh (n:=6) rfl ?_
 rw [shr6]
 refine ⟨ah,_,_,_,rfl,rfl,hah _,halves_at h8,?_⟩
 left
 refine ζ7 (.inl ⟨by decide,by decide⟩) ?_
 left
 refine ⟨_,_,rfl,fun c=>?_,fun r1=>?_⟩
 ·rw [decide_eq_false (by omega),if_pos rfl] at o
  exact (o.keep k1).raise hM1
 rw [decide_eq_true (by omega),if_neg (by decide)] at o
 left
 refine rd_stH hM1 hmc rfl rfl (by omega) fun H2 hM2 k2=>?_
 left
 refine ζ7 (.inl ⟨by decide,by decide⟩) ?_
 left
 refine υn hM2 hmc rfl (v:=m.at_+Ra23.length (m.mem m.at_)) (by omega) (by omega) fun H3 hM3 k3=>?_
 have kk:=k1.trans (k2.trans k3)
 left
 show SpPf (Φf C CI CS) C CI CS [.ref d.a,.int m.at_,.int ((m.mem ((m.at_:Int)+1).toNat:Nat):Int)] H3 _ E
 rw [show ((m.at_:Int)+1).toNat=m.at_+1 by omega]
 refine ⟨d,{m with at_:=m.at_+Ra23.length (m.mem m.at_)},_,m.at_,_,rfl,by show m.at_+Ra23.length (m.mem m.at_)≤65536; omega,h81,hM3,fun z=>?_,fun z=>?_⟩
 ·rw [if_neg (show ¬ m.mem m.at_=68 from z)] at o
  exact (o.keep kk).q
 ·have z':m.mem m.at_=68:=z
  rw [if_pos z'] at o
  rw [z'] at o hM3 ⊢
  exact ⟨d,_,2,_,_,rfl,by omega,Nat.mod_lt _ (by decide),hM3,(o.keep kk).q⟩
end
section
variable {P:Program} {w:World} {K:PySem.W.Frag} {mg:Str→Option Value} {base:Heap} {N:List Str} {qual:Str} {scope:Scope} {f:Addr} {cd:Value} {A:Around} {outer:List Env} {s:Shared} {H:Hp} {E:XK}
theorem ps_tryC {i k k':Nat} {C1 C2:Addr} {ps:List Str} {sp:Sp} {fn x1 x2 n:Str} {p cp ep p1 p2 q1 q2 pos:Pos} {arg:Expr} {ta:TA} {b1 b2:Stmt} {r1 r2:List Stmt} {t1 t2:TS}
  (c:Callee P w K mg base k fn ps sp) (z1:Rz P w K mg base x1 C1) (z2:Rz P w K mg base x2 C2) (hne:C1≠C2) (hr:Room k' (cxI P w K mg base N qual scope f cd A outer s H E).A) (hk:k≤k') (hgf:Gl (cxI P w K mg base N qual scope f cd A outer s H E) fn)
  (hg1:Gl (cxI P w K mg base N qual scope f cd A outer s H E) x1) (hg2:Gl (cxI P w K mg base N qual scope f cd A outer s H E) x2)
  (ha:PA (cxI P w K mg base N qual scope f cd A outer s H E).nox [arg] ta)
  (hN:N.Nodup) (hi:N[i]?=some n) (hn:scope.names.lookup n=some .local)
  (hs1:∀ e,PSs ((cxI P w K mg base N qual scope f cd A outer s H E).inH e) (b1::r1) t1) (hs2:∀ e,PSs ((cxI P w K mg base N qual scope f cd A outer s H E).inH e) (b2::r2) t2)
  (hsw:swapsWith (.Call (.Name fn p) [arg] [] cp) none ep.line (cxI P w K mg base N qual scope f cd A outer s H E).env=pure false:=by rfl)
  (hdb:(fn == ("__debug__":Str))=false:=by decide) (hd1:(x1 == ("__debug__":Str))=false:=by decide) (hd2:(x2 == ("__debug__":Str))=false:=by decide)
  (he:starEach [arg] (cxI P w K mg base N qual scope f cd A outer s H E).env=[(false,eval arg (cxI P w K mg base N qual scope f cd A outer s H E).env)]:=by rfl) :
  PS (cxI P w K mg base N qual scope f cd A outer s H E) (.Try [.Expr (.Call (.Name fn p) [arg] [] cp) ep] [.ExceptHandler (some (.Name x1 p1)) (some n) (b1::r1) q1,.ExceptHandler (some (.Name x2 p2)) (some n) (b2::r2) q2] [] [] pos) (tTry sp i C1 C2 ta t1 t2) :=
 let ⟨_,_,h1,h2,h3,h4⟩:=c.ex
 let ⟨_,_,xc1,_,_,m1,_,_⟩:=z1.ex
 let ⟨_,_,xc2,_,_,m2,_,_⟩:=z2.ex
 ps_try h4 (hr.mono hk) hgf h1 h2 h3 ha xc1 xc2 hne hg1 m1 hg2 m2 hN hi hn hs1 hs2 hsw hdb hd1 hd2 he
end
section
variable {K:PySem.W.Frag} {σ:L2.St} {H:Hp} {D:Ends} {c:TT} {tb:TS}
theorem pe_xnumK {X:Cx} {o:Expr} {to:TE} {pos:Pos} {K':PySem.W.Frag} (hK:X.K=K') (ho:PE X o to) (hbase:attributeBase o "number" X.env (eval o X.env)=eval o X.env):PE X (.Attribute o "number" pos) (tXNum K' to):=hK ▸ pe_xnum ho hbase
theorem rd_xnum {i:Nat} {e C f d:Addr} {oe:Obj} {fl:Array Value} {n:Int} {Q:VK} (hσ:σ[i]?=some (some (.ref e))) (h1:H e=some (XO e oe)) (h2:oe.cls=.ref C) (h3:oe.data=.fields fl) (h4:oe.dict=some d) (xc:XC K C f) (h5:H d=some (.xd [("number",.int n)])) (q:Q (.int n) H):tXNum K (φ2 i) σ H Q :=
 ⟨_,hσ,e,C,f,oe,fl,d,n,rfl,h1,h2,h3,h4,xc,h5,q⟩
theorem rd_while (q:∃ W:Nat→L2.St→Hp→Prop,(∃ m,W m σ H)∧∀ m σ H,W m σ H→c σ H fun b H1=>if b=true then ∃ N:L2.St→Hp→Prop,(∀ σ' H',N σ' H'→∃ m',m' < m∧W m' σ' H')∧tb {D with nx:=N,ct:=N,bk:=D.nx} σ H1 else D.nx σ H1):tWhile c tb D σ H:=q
end
section
variable {P:Program} {w:World} {K:PySem.W.Frag} {mg:Str→Option Value} {base:Heap} {C CI CS CE:Addr}
noncomputable def κh (C CI CS:Addr):Sp:=fun vs H Q _=>∃ (d:Hd) (m:M) (hv n:Nat),vs=[.ref d.a,.int n]∧Mach C d H m hv∧∀ H' L m' t,Ra23.run n 0 0 0 m=(m',t)→Mach C d H' m' t.ilc→Keep d H H'→H' L=none→Q (.ref L) (upd H' L (.lst [.int t.steps,.int t.why,.int t.code,.int t.place,.int t.ilc]))
theorem run_one (n dn pl ilc:Nat) (m:M):Ra23.run (n+1) dn pl ilc m=match Ra23.step m with
  | (.done m',l)=>Ra23.run n (dn+1) m.at_ l m'
  | (.stop c m',l)=>(m',⟨1,c,dn+1,m.at_,l⟩)
  | (.call c m',l)=>(m',⟨2,c,dn+1,m.at_,l⟩):=rfl
theorem Φ0:FnScope ["machine","steps","done","ending","number","place","e"] ["machine","steps"] (ξ (top 173)):=mkS
theorem ok_run_steps (T:Txt P w K mg base C CI CS) (h:Has K mg "run_steps" "run_steps" (top 173)) (c_step:Callee P w K mg base 15 "step" ["machine"] (sp_step C CI CS)):Callee P w K mg base 16 "run_steps" ["machine","steps"] (κh C CI CS):=by
 refine ω (k:=15) h Φ0 (fun vs H Q E h=>?_) (fun _ _ _ _ _ _=>ml2 fun _ _=>rfl) fun f cdv A outer s H vs Q E hr h=>?_
 ·obtain ⟨d,m,hv,n,rfl,_⟩:=h
  rfl
 obtain ⟨d,m,hv,n,rfl,hM,o⟩:=h
 have hmc:=T.mc
 have hr':=hr
 refine ⟨_,(η (Ξ (i:=2) Φ0.nd rfl (Or.inl rfl) ι) (η (Ξ (i:=3) Φ0.nd rfl (Or.inl rfl) ι) (η (Ξ (i:=4) Φ0.nd rfl (Or.inl rfl) ι) (η (Ξ (i:=5) Φ0.nd rfl (Or.inl rfl) ι) (η (ξ0 (pv 0) ι rfl) (η (ps_while PassesOwn.leaving (pw_and (Ψ ξg (pv 2) (pv 1) (Ω _)) (ζk (Ψ ψ1 (pv 3) ι (Ω _)))).pt (η (Ξ (i:=2) Φ0.nd rfl (Or.inl rfl) (υ η0 (pv 2) ι)) (η (Ξ (i:=5) Φ0.nd rfl (Or.inl rfl) (Γ (pv 0) rfl)) (θ (ps_tryC (i:=6) c_step T.rI T.rS T.ne hr (by decide) rfl rfl rfl (ζ (pv 0) ν) Φ0.nd rfl rfl (fun e=>η (Ξ (i:=3) Φ0.nd rfl (Or.inl rfl) ι) (θ (Ξ (i:=4) Φ0.nd rfl (Or.inl rfl) (pe_xnumK (K':=K) (X:=(cxI P w K mg base ["machine","steps","done","ending","number","place","e"] "run_steps" (ξ (top 173)) f cdv A outer s H E).inH e) rfl (pv 6) rfl)))) (fun e=>η (Ξ (i:=3) Φ0.nd rfl (Or.inl rfl) ι) (θ (Ξ (i:=4) Φ0.nd rfl (Or.inl rfl) (pe_xnumK (K':=K) (X:=(cxI P w K mg base ["machine","steps","done","ending","number","place","e"] "run_steps" (ξ (top 173)) f cdv A outer s H E).inH e) rfl (pv 6) rfl))))))))) (θ (ω0 (υ2 (ζ (pv 2) (ζ (pv 3) (ζ (pv 4) (ζ (pv 5) (ζ (Γ (pv 0) rfl) ν)))))))))))))),?_⟩
 left
 refine rd_stH hM hmc rfl (v:=0) rfl (by decide) fun H1 hM1 k1=>?_
 left
 refine rd_while ⟨fun k σ' H'=>∃ (dn en nb pl ilc:Nat) (m':M),σ'=[some (.ref d.a),some (.int n),some (.int dn),some (.int en),some (.int nb),some (.int pl),none]∧dn+k=n∧Mach C d H' m' ilc∧Keep d H H'∧((en=0∧nb=0∧Ra23.run n 0 0 0 m=Ra23.run k dn pl ilc m')∨(en≠0∧Ra23.run n 0 0 0 m=(m',⟨en,nb,dn,pl,ilc⟩))),⟨n,0,0,0,0,0,m,rfl,Nat.zero_add n,hM1,k1,.inl ⟨rfl,rfl,rfl⟩⟩,fun k σ' H' h=>?_⟩
 obtain ⟨dn,en,nb,pl,ilc,m',rfl,hk,hM',k',hrun⟩:=h
 have fin:∀ (hrun:Ra23.run n 0 0 0 m=(m',⟨en,nb,dn,pl,ilc⟩)),tRet (tLst (tCons (φ2 2) (tCons (φ2 3) (tCons (φ2 4) (tCons (φ2 5) (tCons (χ5 K (φ2 0) "halves") tNil)))))) {nx:=fun _ H'=>Q .non H',rt:=Q} [some (.ref d.a),some (.int n),some (.int dn),some (.int en),some (.int nb),some (.int pl),none] H':=fun hrun=>by
  left
  refine ⟨by show 5≤sizeLine; decide,fun L hL=>?_⟩
  exact o H' L m' _ hrun hM' k' hL
 left
 refine Δ (fun c1=>?_) (fun c1=>?_)
 ·left
  refine Δ (fun c2=>?_) (fun c2=>?_)
  ·obtain ⟨rfl,rfl,hr0⟩:en=0∧nb=0∧Ra23.run n 0 0 0 m=Ra23.run k dn pl ilc m':=by
    rcases hrun with z | z
    ·exact z
    ·exact absurd z.1 (by omega)
   obtain ⟨k0,rfl⟩:∃ k0,k=k0+1:=⟨k - 1,by omega⟩
   rw [run_one] at hr0
   refine ⟨_,fun σ' H' h=>h,?_⟩
   left
   refine ⟨.ref d.a,rfl,?_⟩
   refine ⟨d,m',ilc,rfl,hM',?_⟩
   generalize hst:Ra23.step m'=r at hr0 ⊢
   obtain ⟨e,l⟩:=r
   cases e with
   | done m2 =>
    intro H2 hM2 k2
    exact ⟨k0,by omega,dn+1,0,0,m'.at_,l,m2,rfl,by omega,hM2,k'.trans k2,.inl ⟨rfl,rfl,hr0⟩⟩
   | stop c m2 =>
    intro H2 x hM2 k2 hx
    obtain ⟨_,_,xc,_⟩:=T.rI.ex
    refine ⟨x,rfl,fun e oe fl H3 h1 h2 h3 h4 h5=>.inl ⟨rfl,?_⟩⟩
    left
    refine rd_xnum rfl h4 h1 h2 h3 xc (h5 x _ hx) ?_
    left
    exact ⟨k0,by omega,dn+1,1,c,m'.at_,l,m2,rfl,by omega,hM2.keep h5,k'.trans (k2.trans (Keep.of_same h5)),.inr ⟨by decide,hr0⟩⟩
   | call c m2 =>
    intro H2 x hM2 k2 hx
    obtain ⟨_,_,xc,_⟩:=T.rS.ex
    refine ⟨x,rfl,fun e oe fl H3 h1 h2 h3 h4 h5=>.inr ⟨rfl,?_⟩⟩
    left
    refine rd_xnum rfl h4 h1 h2 h3 xc (h5 x _ hx) ?_
    left
    exact ⟨k0,by omega,dn+1,2,c,m'.at_,l,m2,rfl,by omega,hM2.keep h5,k'.trans (k2.trans (Keep.of_same h5)),.inr ⟨by decide,hr0⟩⟩
  ·have hr0:Ra23.run n 0 0 0 m=(m',⟨en,nb,dn,pl,ilc⟩):=by
    rcases hrun with z | z
    ·exact absurd z.1 (by omega)
    ·exact z.2
   exact fin hr0
 ·have hk0:k=0:=by omega
  subst hk0
  refine Γ9 ?_
  refine fin ?_
  rcases hrun with ⟨rfl,rfl,z⟩ | z
  ·exact z
  ·exact z.2
end
noncomputable def chg (f g:Nat→Nat) (n:Nat):List Nat:=(List.range n).flatMap fun p=>if g p=f p then [] else [p,g p]
theorem ξj (f g:Nat→Nat) (n:Nat):chg f g (n+1)=chg f g n++(if g n=f n then [] else [n,g n]):=by
 unfold chg
 rw [List.range_succ,List.flatMap_append]
 simp
theorem chg_len (f g:Nat→Nat):∀ n,(chg f g n).length≤2*n
 | 0=>by simp [chg]
 | n+1=>by
  have:=chg_len f g n
  rw [ξj,List.length_append]
  split
  ·simp; omega
  ·simp; omega
theorem chg_same {f g:Nat→Nat} {s:Nat}:∀ k,(∀ t,t < k→g (s+t)=f (s+t))→chg f g (s+k)=chg f g s
 | 0,_=>rfl
 | k+1,h=>by
  rw [show s+(k+1)=(s+k)+1 from rfl,ξj,if_pos (h k (by omega)),List.append_nil,chg_same k (fun t ht=>h t (by omega))]
noncomputable def natV (f:Nat→Nat):List V:=(List.range 65536).map fun i=>V.int ((f i:Nat):Int)
noncomputable def mF (f:Nat→Nat):M:=⟨fun _=>0,0,0,0,f⟩
theorem natV_at {f:Nat→Nat} {p:Nat} (hp:p < 65536):atI (natV f) (p:Int)=some (.int ((f p:Nat):Int)):=memV_at (m:=mF f) hp
theorem nat_cut {f:Nat→Nat} {p n:Nat} (h:p+n≤65536):cutV (natV f) (some (p:Int)) (some ((p:Int)+(n:Int)))=((List.range n).map fun i=>((f (p+i):Nat):Int)).map V.int:=by
 have z:=Γk (m:=mF f) h
 rw [νf,List.map_map (l:=List.range n)] at z
 exact z
section
variable {P:Program} {w:World} {K:PySem.W.Frag} {mg:Str→Option Value} {base:Heap} {C CI CS CE:Addr}
noncomputable def ο9 (C CI CS:Addr):Sp:=fun vs H Q _=>∃ (a b:Addr) (f g:Nat→Nat),vs=[.ref a,.ref b]∧H a=some (.lst (natV f))∧H b=some (.lst (natV g))∧∀ H' L,H L=none→Δ7 H H'→H' L=some (.lst (ν1 (chg f g 65536)))→Q (.ref L) H'
theorem rg256:RgC 0 65536 256 256:=⟨by decide,by decide,by decide +kernel,by decide +kernel⟩
theorem Φ2:FnScope ["before","now","changes","start","place"] ["before","now"] (ξ (top 183)):=mkS
theorem υi (T:Txt P w K mg base C CI CS) (h:Has K mg "changed_bytes" "changed_bytes" (top 183)):Callee P w K mg base 1 "changed_bytes" ["before","now"] (ο9 C CI CS):=by
 refine ω (k:=0) h Φ2 (fun vs H Q E h=>?_) (fun _ _ _ _ _ _=>ml2 fun _ _=>rfl) fun f cdv A outer s H vs Q E hr h=>?_
 ·obtain ⟨a,b,f0,g0,rfl,_⟩:=h
  rfl
 obtain ⟨a,b,f0,g0,rfl,ha,hb,hq⟩:=h
 refine ⟨_,(η (Ξ (i:=2) Φ2.nd rfl (Or.inl rfl) (υ2 ν)) (η (ξ4 PassesOwn.leaving rfl (pi_range3 rfl T.brange (ζ ι (ζ (Ω1 T.gMEMORY_SIZE rfl) (ζ (Ω1 T.gPART rfl) ν)))) (κ1 (i:=3) Φ2.nd rfl (Or.inl rfl)) (θ (ρ0 (Ψ (op_neD hr.units) (ζ5 θ8 (pv 0) (ψ2 (pv 3)) (ψ2 (υ η0 (pv 3) (Ω1 T.gPART rfl)))) (ζ5 θ8 (pv 1) (ψ2 (pv 3)) (ψ2 (υ η0 (pv 3) (Ω1 T.gPART rfl)))) (Ω _)) (θ (ξ4 PassesOwn.leaving rfl (ρ7 rfl T.brange (ζ (pv 3) (ζ (υ η0 (pv 3) (Ω1 T.gPART rfl)) ν))) (κ1 (i:=4) Φ2.nd rfl (Or.inl rfl)) (θ (ρ0 (Ψ ξb (ο0 Φ (pv 0) (pv 4) (fun _ _=>rfl)) (ο0 Φ (pv 1) (pv 4) (fun _ _=>rfl)) (Ω _)) (η (χ (pe_bm PySem.F.plainAttrs_list PySem.F.slot_list_append PySem.F.type_list_append υ7 (pv 2) (ζ (pv 4) ν))) (θ (χ (pe_bm PySem.F.plainAttrs_list PySem.F.slot_list_append PySem.F.type_list_append υ7 (pv 2) (ζ (ο0 Φ (pv 1) (pv 4) (fun _ _=>rfl)) ν))))) ι0)))) ι0))) (θ (ω0 (pv 2))))),?_⟩
 have hbig:200000≤sizeLine:=by decide
 left
 refine ⟨by decide,fun L hL=>?_⟩
 have naL:a≠L:=ρ ha hL
 have nbL:b≠L:=ρ hb hL
 left
 refine ⟨_,_,_,_,rfl,rg256,?_⟩
 refine FR.c (fun i σ' H'=>(∃ o3 o4,σ'=[some (.ref a),some (.ref b),some (.ref L),o3,o4])∧Δ7 H H'∧H' L=some (.lst (ν1 (chg f0 g0 (256*i))))) ⟨⟨none,none,rfl⟩,υ0 (ι2 H) hL,ο⟩ (fun i σ' H' hi h=>?_) (fun σ' H' h=>?_)
 ·obtain ⟨⟨o3,o4,rfl⟩,hs,hL'⟩:=h
  rw [show (0:Int)+((i:Nat):Int)*256=((256*i:Nat):Int) by omega]
  left
  refine ⟨a,_,rfl,SqL.of (hs a _ ha),fun S1 hS1=>?_⟩
  have e1:=nat_cut (f:=f0) (p:=256*i) (n:=256) (by omega)
  have e2:=nat_cut (f:=g0) (p:=256*i) (n:=256) (by omega)
  rw [show (((256:Nat):Int))=256 from rfl] at e1 e2
  rw [e1]
  left
  have s1:Δ7 H (upd H' S1 (.lst (((List.range 256).map fun t=>((f0 (256*i+t):Nat):Int)).map V.int))):=fun b o e=>by rw [ψ (ρ (hs b o e) hS1)]; exact hs b o e
  refine ⟨b,_,rfl,SqL.of (s1 b _ hb),fun S2 hS2=>?_⟩
  rw [e2]
  have n12:S1≠S2:=fun e=>by rw [← e,ο] at hS2; cases hS2
  have nL1:L≠S1:=ρ hL' hS1
  have hL1:upd H' S1 (.lst (((List.range 256).map fun t=>((f0 (256*i+t):Nat):Int)).map V.int)) L=some (.lst (ν1 (chg f0 g0 (256*i)))):=by rw [ψ nL1]; exact hL'
  have nL2:L≠S2:=ρ hL1 hS2
  have s2:Δ7 H (upd (upd H' S1 (.lst (((List.range 256).map fun t=>((f0 (256*i+t):Nat):Int)).map V.int))) S2 (.lst (((List.range 256).map fun t=>((g0 (256*i+t):Nat):Int)).map V.int))):=fun b o e=>by rw [ψ (ρ (s1 b o e) hS2)]; exact s1 b o e
  have hL2:upd (upd H' S1 (.lst (((List.range 256).map fun t=>((f0 (256*i+t):Nat):Int)).map V.int))) S2 (.lst (((List.range 256).map fun t=>((g0 (256*i+t):Nat):Int)).map V.int)) L=some (.lst (ν1 (chg f0 g0 (256*i)))):=by rw [ψ nL2]; exact hL1
  have hS1':upd (upd H' S1 (.lst (((List.range 256).map fun t=>((f0 (256*i+t):Nat):Int)).map V.int))) S2 (.lst (((List.range 256).map fun t=>((g0 (256*i+t):Nat):Int)).map V.int)) S1=some (.lst (((List.range 256).map fun t=>((f0 (256*i+t):Nat):Int)).map V.int)):=by rw [ψ n12,ο]
  have hS2':upd (upd H' S1 (.lst (((List.range 256).map fun t=>((f0 (256*i+t):Nat):Int)).map V.int))) S2 (.lst (((List.range 256).map fun t=>((g0 (256*i+t):Nat):Int)).map V.int)) S2=some (.lst (((List.range 256).map fun t=>((g0 (256*i+t):Nat):Int)).map V.int)):=ο
  generalize upd (upd H' S1 (.lst (((List.range 256).map fun t=>((f0 (256*i+t):Nat):Int)).map V.int))) S2 (.lst (((List.range 256).map fun t=>((g0 (256*i+t):Nat):Int)).map V.int))=H2 at s2 hL2 hS1' hS2' ⊢
  refine rd_neL (SqL.of hS1') (SqL.of hS2') ?_
  left
  refine υ1 (fun c=>?_) (fun c=>?_)
  ·left
   refine ⟨_,_,rfl,⟨by omega,by omega,by omega,by omega⟩,?_⟩
   rw [show (((256*i:Nat):Int)+256 - ((256*i:Nat):Int)).toNat=256 by omega]
   refine FR.r (fun t σ' H'=>(∃ o4,σ'=[some (.ref a),some (.ref b),some (.ref L),some (.int ((256*i:Nat):Int)),o4])∧Δ7 H H'∧H' L=some (.lst (ν1 (chg f0 g0 (256*i+t))))) ⟨⟨_,rfl⟩,s2,hL2⟩ (fun t σ' H' ht h=>?_) (fun σ' H' h=>?_)
   ·obtain ⟨⟨o4,rfl⟩,hs,hL'⟩:=h
    rw [show ((256*i:Nat):Int)+(t:Int)=((256*i+t:Nat):Int) by omega]
    have hlen:=chg_len f0 g0 (256*i+t)
    left
    refine ⟨a,_,_,_,rfl,rfl,SqL.of (hs a _ ha),natV_at (by omega),?_⟩
    left
    refine ⟨b,_,_,_,rfl,rfl,SqL.of (hs b _ hb),natV_at (by omega),?_⟩
    left
    refine υ1 (fun c=>?_) (fun c=>?_)
    ·have hne:¬ g0 (256*i+t)=f0 (256*i+t):=by omega
     left
     refine ⟨.inl ⟨rfl,_,SqL.of hL'⟩,?_⟩
     left
     refine θ2 hL' (by rw [ψ0]; omega) ?_
     left
     refine ⟨.inl ⟨rfl,_,SqL.of ο⟩,?_⟩
     left
     refine ⟨b,_,_,_,rfl,rfl,SqL.of (by rw [ψ nbL]; exact hs b _ hb),natV_at (by omega),?_⟩
     left
     refine θ2 ο (by rw [List.length_append,ψ0]; show _+1 < _; omega) ?_
     rw [ψ3]
     refine ⟨⟨_,rfl⟩,υ0 hs hL,?_⟩
     rw [ο,show 256*i+(t+1)=(256*i+t)+1 from rfl,ξj,if_neg hne,Φ6,List.append_assoc]
     rfl
    ·have he:g0 (256*i+t)=f0 (256*i+t):=by omega
     refine ⟨⟨_,rfl⟩,hs,?_⟩
     rw [show 256*i+(t+1)=(256*i+t)+1 from rfl,ξj,if_pos he,List.append_nil]
     exact hL'
   ·obtain ⟨⟨o4,rfl⟩,hs,hL'⟩:=h
    refine ⟨⟨_,_,rfl⟩,hs,?_⟩
    rw [show 256*(i+1)=256*i+256 by omega]
    exact hL'
  ·refine ⟨⟨_,_,rfl⟩,s2,?_⟩
   rw [show 256*(i+1)=256*i+256 by omega,chg_same 256 (fun t ht=>?_)]
   ·exact hL2
   ·have z:=congrArg (fun l=>l[t]?) c
    simp only [List.getElem?_map,List.getElem?_range ht,Option.map_some,Option.some.injEq] at z
    omega
 ·obtain ⟨⟨o3,o4,rfl⟩,hs,hL'⟩:=h
  left
  exact hq H' L hL hs hL'
end
namespace BB
section
variable {P:Program} {w:World} {K:PySem.W.Frag} {mg:Str→Option Value} {base:Heap} {C CI CS:Addr}
noncomputable def νh (C CI CS:Addr):Sp:=fun vs H Q _=>∃ (d:Hd) (m:M) (hv:Nat) (wh:Int) (x:Nat),vs=[.ref d.a,.int wh,.int x]∧x < 2^32∧MachB C d H m hv ∧
 (0≤wh→wh≤18→∀ H1 L,MachB C d H1 (setV m wh x) hv→Keep d H H1→H1 L=none→Q (.ref L) (upd H1 L (.lst [.int 0])))∧((wh < 0∨18 < wh)→∀ L,H L=none→Q (.ref L) (upd H L (.lst [.int (-2)])))
theorem sc_put_value:FnScope ["machine","which","value"] ["machine","which","value"] (ξ (top 181)):=mkS
theorem ok_put_value (T:Txt P w K mg base C CI CS) (h:Has K mg "put_value" "put_value" (top 181)):Callee P w K mg base 1 "put_value" ["machine","which","value"] (νh C CI CS):=by
 refine ω (k:=0) h sc_put_value (fun vs H Q E h=>?_) (fun _ _ _ _ _ _=>ml3 fun _ _ _=>rfl) fun f cdv A outer s H vs Q E hr h=>?_
 ·obtain ⟨d,m,hv,wh,x,rfl,_⟩:=h
  rfl
 obtain ⟨d,m,hv,wh,x,rfl,hx,hM,hy,hno⟩:=h
 have hmc:=T.mc
 refine ⟨_,(η (ρ0 (η4 ρ6 ρ6 ι (pv 1) ι) (θ (Γ0 (υ ν0 (pv 2) ι) (Δ0 (Γ (pv 0) rfl) (pv 1) κ0))) (θ (ρ0 (Ψ ψ1 (pv 1) (Ω1 T.gNEXT_PLACE rfl) (Ω _)) (θ (ξ0 (pv 0) (υ ν0 (pv 2) ι) rfl)) (θ (ρ0 (Ψ ψ1 (pv 1) (Ω1 T.gCONDITION rfl) (Ω _)) (θ (ξ0 (pv 0) (υ ν0 (pv 2) ι) rfl)) (θ (ρ0 (Ψ ψ1 (pv 1) (Ω1 T.gMASK rfl) (Ω _)) (θ (ξ0 (pv 0) (υ ν0 (pv 2) ι) rfl)) (θ (ω0 (υ2 (ζ (Ω1 T.gREFUSED rfl) ν))))))))))) (θ (ω0 (υ2 (ζ ι ν))))),?_⟩
 have one:(1:Nat)≤sizeLine:=by decide
 have neg:(wh < 0∨15 < wh)→True:=fun _=>trivial
 left
 refine Δ (fun c1=>?_) (fun c1=>?_)
 ·left
  refine Δ (fun c2=>?_) (fun c2=>?_)
  ·left
   refine rb_setR (v:=x) hM (by omega) (by rw [κe]; omega) hx fun H1 hM1 k1=>?_
   left
   refine ⟨one,fun L hL=>hy (by omega) (by omega) H1 L ?_ k1 hL⟩
   unfold setV
   rw [if_neg (by omega),if_neg (by omega),if_neg (by omega)]
   exact hM1
  ·left
   refine Δ (fun c3=>?_) (fun c3=>?_)
   ·subst c3
    left
    rw [κb]
    refine rb_stA hM hmc rfl rfl (Nat.mod_lt _ (by decide)) fun H1 hM1 k1=>?_
    left
    exact ⟨one,fun L hL=>hy (by decide) (by decide) H1 L hM1 k1 hL⟩
   ·left
    refine Δ (fun c4=>?_) (fun c4=>?_)
    ·subst c4
     left
     rw [and3]
     refine rb_stC hM hmc rfl rfl (Nat.mod_lt _ (by decide)) fun H1 hM1 k1=>?_
     left
     exact ⟨one,fun L hL=>hy (by decide) (by decide) H1 L hM1 k1 hL⟩
    ·left
     refine Δ (fun c5=>?_) (fun c5=>?_)
     ·subst c5
      left
      rw [Δb]
      refine rb_stK hM hmc rfl rfl (Nat.mod_lt _ (by decide)) fun H1 hM1 k1=>?_
      left
      exact ⟨one,fun L hL=>hy (by decide) (by decide) H1 L hM1 k1 hL⟩
     ·left
      exact ⟨one,fun L hL=>hno (by omega) L hL⟩
 ·left
  refine Γ9 ?_
  left
  refine Δ (fun z=>absurd z (by omega)) (fun _=>?_)
  left
  refine Δ (fun z=>absurd z (by omega)) (fun _=>?_)
  left
  refine Δ (fun z=>absurd z (by omega)) (fun _=>?_)
  left
  exact ⟨one,fun L hL=>hno (by omega) L hL⟩
noncomputable def οe (C CI CS:Addr):Sp:=fun vs H Q _=>∃ (d:Hd) (m:M) (hv:Nat) (wh:Int),vs=[.ref d.a,.int wh]∧MachB C d H m hv ∧
 (0≤wh→wh≤18→∀ L,H L=none→Q (.ref L) (upd H L (.lst [.int 0,.int ((getV m wh:Nat):Int)])))∧((wh < 0∨18 < wh)→∀ L,H L=none→Q (.ref L) (upd H L (.lst [.int (-2)])))
theorem sc_told_value:FnScope ["machine","which"] ["machine","which"] (ξ (top 182)):=mkS
theorem ok_told_value (T:Txt P w K mg base C CI CS) (h:Has K mg "told_value" "told_value" (top 182)):Callee P w K mg base 1 "told_value" ["machine","which"] (οe C CI CS):=by
 refine ω (k:=0) h sc_told_value (fun vs H Q E h=>?_) (fun _ _ _ _ _ _=>ml2 fun _ _=>rfl) fun f cdv A outer s H vs Q E hr h=>?_
 ·obtain ⟨d,m,hv,wh,rfl,_⟩:=h
  rfl
 obtain ⟨d,m,hv,wh,rfl,hM,hy,hno⟩:=h
 have hmc:=T.mc
 refine ⟨_,(η (ρ0 (η4 ρ6 ρ6 ι (pv 1) ι) (θ (ω0 (υ2 (ζ ι (ζ (ο0 Φ (Γ (pv 0) rfl) (pv 1) (fun _ _=>rfl)) ν))))) ι0) (η (ρ0 (Ψ ψ1 (pv 1) (Ω1 T.gNEXT_PLACE rfl) (Ω _)) (θ (ω0 (υ2 (ζ ι (ζ (Γ (pv 0) rfl) ν))))) ι0) (η (ρ0 (Ψ ψ1 (pv 1) (Ω1 T.gCONDITION rfl) (Ω _)) (θ (ω0 (υ2 (ζ ι (ζ (Γ (pv 0) rfl) ν))))) ι0) (η (ρ0 (Ψ ψ1 (pv 1) (Ω1 T.gMASK rfl) (Ω _)) (θ (ω0 (υ2 (ζ ι (ζ (Γ (pv 0) rfl) ν))))) ι0) (θ (ω0 (υ2 (ζ (Ω1 T.gREFUSED rfl) ν)))))))),?_⟩
 have one:(1:Nat)≤sizeLine:=by decide
 have two2:(2:Nat)≤sizeLine:=by decide
 left
 refine Δ (fun c1=>?_) (fun c1=>?_)
 ·left
  refine Δ (fun c2=>?_) (fun c2=>?_)
  ·left
   refine ⟨two2,fun L hL=>?_⟩
   have z:=hy (by omega) (by omega) L hL
   unfold getV at z
   rw [if_neg (by omega),if_neg (by omega),if_neg (by omega)] at z
   exact z
  ·left
   refine Δ (fun c3=>?_) (fun c3=>?_)
   ·subst c3
    left
    exact ⟨two2,fun L hL=>hy (by decide) (by decide) L hL⟩
   ·left
    refine Δ (fun c4=>?_) (fun c4=>?_)
    ·subst c4
     left
     exact ⟨two2,fun L hL=>hy (by decide) (by decide) L hL⟩
    ·left
     refine Δ (fun c5=>?_) (fun c5=>?_)
     ·subst c5
      left
      exact ⟨two2,fun L hL=>hy (by decide) (by decide) L hL⟩
     ·left
      exact ⟨one,fun L hL=>hno (by omega) L hL⟩
 ·left
  refine Γ9 ?_
  left
  refine Δ (fun z=>absurd z (by omega)) (fun _=>?_)
  left
  refine Δ (fun z=>absurd z (by omega)) (fun _=>?_)
  left
  refine Δ (fun z=>absurd z (by omega)) (fun _=>?_)
  left
  exact ⟨one,fun L hL=>hno (by omega) L hL⟩
end
end BB
theorem st_g {K:PySem.W.Frag} {σ:L2.St} {H:Hp} {R:Hp→Prop} {i:Nat} {a CE dx:Addr} {fs:List (Str×V)} {f:Str} {v:V} {k:Nat} (hE:H a=some (.ins CE dx fs)) (cl:Cls K CE) (nf:κ2 K CE f) (hσ:σ[i]?=some (some (.ref a))) (hk:fs.length=k) (hl:k < 1000) (z:∀ H',H' a=some (.ins CE dx (Ψh f v fs))→KeepA a H H'→R H'):stF K (φ2 i) f v σ H R:=by
 refine ⟨_,hσ,a,CE,dx,_,rfl,hE,cl,nf,hk ▸ hl,?_⟩
 exact z _ ο KeepA.up
noncomputable def m0:M:=⟨fun _=>0,0,0,0,fun _=>0⟩
noncomputable def spMI (C:Addr):Sp:=fun vs H Q _=>∃ (a dx:Addr),vs=[.ref a]∧H a=some (.ins C dx [])∧∀ H' r q,MachB C ⟨a,dx,r,q⟩ H' m0 0→H r=none→H q=none→KeepA a H H'→Q .non H'
theorem sc_mi:FnScope ["self"] ["self"] (ξ (ω1 (top 7) 0)):=mkS
structure MM (P:Program) (w:World) (K:PySem.W.Frag) (mg:Str→Option Value) (base:Heap) (C:Addr):Prop where
 ex:∃ f fd,Mk K C f∧mg "Machine"=some (.ref C)∧FnOk P w K mg base (CXI P w) 1 f fd ["self"] (spMI C)∧ιe K fd ["self"] []
section
variable {P:Program} {w:World} {K:PySem.W.Frag} {mg:Str→Option Value} {base:Heap} {N:List Str} {qual:Str} {scope:Scope} {f:Addr} {cd:Value} {A:Around} {outer:List Env} {s:Shared} {H:Hp} {E:XK}
theorem pe_mkM {C:Addr} {k':Nat} {p pos:Pos} (z:MM P w K mg base C) (hr:Room k' (cxI P w K mg base N qual scope f cd A outer s H E).A) (hk:2≤k') (hg:Gl (cxI P w K mg base N qual scope f cd A outer s H E) "Machine") :
  PE (cxI P w K mg base N qual scope f cd A outer s H E) (.Call (.Name "Machine" p) [] [] pos) (tMake C (spMI C) [] E tNil) :=
 let ⟨_,_,h1,h2,h3,h4⟩:=z.ex
 pe_make0 (X:=cxI P w K mg base N qual scope f cd A outer s H E) h1 h3 (hr.mono hk) hg h2 h4 .nil passI (by decide)
end
section
variable {P:Program} {w:World} {K:PySem.W.Frag} {mg:Str→Option Value} {base:Heap} {C CI CS:Addr}
theorem ok_mi {f:Addr} {fd:FuncData} (T:MC K C) (F:Fun K "__init__" "Machine.__init__" (ω1 (top 7) 0) f fd):FnOk P w K mg base (CXI P w) 1 f fd ["self"] (spMI C):=by
 refine F.okI sc_mi (fun vs H Q E h=>?_) fun cdv A outer s H vs Q E hr h=>?_
 ·obtain ⟨a,dx,rfl,_⟩:=h
  rfl
 obtain ⟨a,dx,rfl,ho,hq⟩:=h
 refine ⟨_,(η (ξ0 (pv 0) (υ op_rep (υ2 (ζ ι ν)) ι) rfl) (η (ξ0 (pv 0) ι rfl) (η (ξ0 (pv 0) ι rfl) (η (ξ0 (pv 0) ι rfl) (η (ξ0 (pv 0) (υ2 ν) rfl) (θ (ξ0 (pv 0) ι rfl))))))),?_⟩
 left
 refine ⟨(by show 1≤sizeLine; decide),fun A0 hA0=>?_⟩
 left
 refine ⟨A0,_,_,rfl,rfl,ο,by decide,by decide,(by show 1*16≤sizeLine; decide),fun B hB=>?_⟩
 have nBA:B≠A0:=fun e=>by rw [e,ο] at hB; cases hB
 have hB0:H B=none:=by rw [ψ nBA] at hB; exact hB
 have naA:a≠A0:=ρ ho hA0
 have naB:a≠B:=ρ ho hB0
 have e1:(List.replicate (16:Int).toNat [V.int 0]).flatten=regV m0:=rfl
 rw [e1]
 have kp:KeepA a H (upd (upd H A0 (.lst [.int 0])) B (.lst (regV m0))):=(KeepA.new hA0).trans (KeepA.new hB)
 have ha1:upd (upd H A0 (.lst [.int 0])) B (.lst (regV m0)) a=some (.ins C dx []):=by rw [ψ naB,ψ naA]; exact ho
 have hr1:upd (upd H A0 (.lst [.int 0])) B (.lst (regV m0)) B=some (.lst (regV m0)):=ο
 generalize upd (upd H A0 (.lst [.int 0])) B (.lst (regV m0))=H1 at kp ha1 hr1 ⊢
 refine st_g (k:=0) ha1 T.cl T.n1 rfl rfl (by decide) fun H2 ha2 k2=>?_
 left
 refine st_g (k:=1) ha2 T.cl T.n2 rfl rfl (by decide) fun H3 ha3 k3=>?_
 left
 refine st_g (k:=2) ha3 T.cl T.n3 rfl rfl (by decide) fun H4 ha4 k4=>?_
 left
 refine st_g (k:=3) ha4 T.cl T.n4 rfl rfl (by decide) fun H5 ha5 k5=>?_
 left
 refine ⟨by decide,fun q hq0=>?_⟩
 have naq:a≠q:=ρ ha5 hq0
 have kk5:=kp.trans (k2.trans (k3.trans (k4.trans k5)))
 have kr5:=(k2.trans (k3.trans (k4.trans k5))) B _ hr1 (Ne.symm naB)
 have nBq:B≠q:=ρ kr5 hq0
 have hqH:H q=none:=by
  cases e:H q with
  | none=>rfl
  | some o=>have:=kk5 q o e (Ne.symm naq); rw [hq0] at this; cases this
 refine st_g (k:=4) (by rw [ψ naq]; exact ha5) T.cl T.n5 rfl rfl (by decide) fun H6 ha6 k6=>?_
 left
 refine st_g (k:=5) ha6 T.cl T.n6 rfl rfl (by decide) fun H7 ha7 k7=>?_
 have k57:KeepA a (upd H5 q (.lst [])) H7:=k6.trans k7
 refine hq H7 B q ⟨ha7,k57 B _ (by rw [ψ nBq]; exact kr5) (Ne.symm naB),⟨[],k57 q _ ο (Ne.symm naq)⟩,nBq,⟨fun _=>by show 0 < _; decide,by show 0 < _; decide,by show 0 < _; decide,by show 0 < _; decide,fun _=>by show 0 < _; decide⟩,by decide⟩ hB0 hqH (kk5.trans ((KeepA.new hq0).trans k57))
theorem before_nat {l:List Nat} (h:l.length≤65536):ν1 l++List.replicate (65536 - l.length) (.int 0)=natV (fun p=>l.getD p 0):=by
 apply List.ext_getElem?
 intro i
 unfold natV
 by_cases c:i < l.length
 ·rw [List.getElem?_append_left (by rw [ψ0]; exact c)]
  unfold ν1
  rw [List.getElem?_map,List.getElem?_map,List.getElem?_range (by omega),List.getElem?_eq_getElem c]
  simp [List.getD_eq_getElem?_getD,c]
 ·rw [List.getElem?_append_right (by rw [ψ0]; omega),ψ0]
  by_cases c2:i < 65536
  ·rw [List.getElem?_replicate,if_pos (by omega),List.getElem?_map,List.getElem?_range c2]
   simp [List.getD_eq_getElem?_getD,List.getElem?_eq_none (Nat.le_of_not_lt c)]
  ·rw [List.getElem?_replicate,if_neg (by omega),List.getElem?_map,List.getElem?_eq_none (by rw [List.length_range]; omega)]
   rfl
noncomputable def runA (t:Ra23.Told) (c:List Nat):List Nat:=[t.steps,t.why,t.code,t.place,t.ilc]++[c.length]++c
theorem rb_stM {K:PySem.W.Frag} {σ:L2.St} {H:Hp} {C:Addr} {d:Hd} {m:M} {hv i:Nat} {q':Addr} {f:Nat→Nat} {R:Hp→Prop} (hM:MachB C d H m hv) (T:MC K C) (hσ:σ[i]?=some (some (.ref d.a))) (hq:H q'=some (.lst (natV f))) (hf:∀ p,f p < 256) (n1:d.a≠q') (q:∀ H',Mach C {d with q:=q'} H' {m with mem:=f} hv→KeepA d.a H H'→R H'):stF K (φ2 i) "memory" (.ref q') σ H R:=by
 refine ⟨_,hσ,d.a,C,d.dx,_,rfl,hM.ob,T.cl,T.n5,(by show 6 < 1000; decide),?_⟩
 rw [p_memory]
 refine q _ ⟨ο,?_,?_,⟨hM.ok.reg,hM.ok.at_,hM.ok.cc,hM.ok.mask,hf⟩,hM.hv⟩ KeepA.up
 ·rw [ψ (Ne.symm hM.nar)]; exact hM.rg
 ·rw [ψ (Ne.symm n1)]; exact hq
noncomputable def τe (C CI CS:Addr):Sp:=fun vs H Q _=>∃ (d:Hd) (m:M) (hv:Nat) (st:Int) (t:Addr) (l:List Nat),vs=[.ref d.a,.int st,.ref t]∧MachB C d H m hv∧H t=some (.lst (ν1 l))∧l.length≤1024∧(∀ x∈l,x < 256) ∧
 ((st < 0∨1000000 < st)→∀ L,H L=none→Q (.ref L) (upd H L (.lst [.int (-2)]))) ∧
 (0≤st→st≤1000000→∀ H' L q' m' tt,H q'=none→H L=none→Ra23.run st.toNat 0 0 0 ⟨m.r,m.at_,m.cc,m.mask,fun p=>l.getD p 0⟩=(m',tt)→MachB C {d with q:=q'} H' m' tt.ilc→(∀ b o,H b=some o→b≠d.a→b≠d.r→H' b=some o)→H' L=some (.lst (ν1 (runA tt (chg (fun p=>l.getD p 0) m'.mem 65536))))→Q (.ref L) H')
theorem Ξ4:FnScope ["machine","steps","told","before","answer","changes"] ["machine","steps","told"] (ξ (top 184)):=mkS
theorem ok_run_answer (T:Txt P w K mg base C CI CS) (h:Has K mg "run_answer" "run_answer" (top 184)) (c_run_steps:Callee P w K mg base 16 "run_steps" ["machine","steps"] (κh C CI CS)) (c_changed_bytes:Callee P w K mg base 1 "changed_bytes" ["before","now"] (ο9 C CI CS)):Callee P w K mg base 17 "run_answer" ["machine","steps","told"] (τe C CI CS):=by
 refine ω (k:=16) h Ξ4 (fun vs H Q E h=>?_) (fun _ _ _ _ _ _=>ml3 fun _ _ _=>rfl) fun f cdv A outer s H vs Q E hr h=>?_
 ·obtain ⟨d,m,hv,st,t,l,rfl,_⟩:=h
  rfl
 obtain ⟨d,m,hv,st,t,l,rfl,hM,ht,hl,hb,hno,hy⟩:=h
 have hmc:=T.mc
 refine ⟨_,(η (ρ0 (φn (η4 ρ6 ρ6 ι (pv 1) (Ω1 T.gMOST_STEPS rfl))) (θ (ω0 (υ2 (ζ (Ω1 T.gREFUSED rfl) ν)))) ι0) (η (Ξ (i:=3) Ξ4.nd rfl (Or.inl rfl) (υ νk (pv 2) (υ op_rep (υ2 (ζ ι ν)) (υ ο2 (Ω1 T.gMEMORY_SIZE rfl) (ζ2 Γ1 rfl T.blen PyProof.Rows.Boot.«len» (ζ (pv 2) ν)))))) (η (ξ0 (pv 0) (pe_callTy call_list_of rfl T.blist PyProof.Rows.Boot.«list» (ζ (pv 3) ν)) rfl) (η (Ξ (i:=4) Ξ4.nd rfl (Or.inl rfl) (τ c_run_steps hr (by decide) rfl (ζ (pv 0) (ζ (pv 1) ν)))) (η (Ξ (i:=5) Ξ4.nd rfl (Or.inl rfl) (τ c_changed_bytes hr (by decide) rfl (ζ (pv 3) (ζ (Γ (pv 0) rfl) ν)))) (θ (ω0 (υ νk (υ νk (pv 4) (υ2 (ζ (ζ2 Γ1 rfl T.blen PyProof.Rows.Boot.«len» (ζ (pv 5) ν)) ν))) (pv 5))))))))),?_⟩
 have hbig:10000000≤sizeLine:=by decide
 left
 refine Δ (fun c1=>?yes) (fun c1=>?no)
 case no =>
  left
  refine τc ?_
  left
  exact ⟨(by show 1≤sizeLine; omega),fun L hL=>hno (by omega) L hL⟩
 left
 refine υ1 (fun c2=>?_) (fun c2=>?_)
 ·left
  exact ⟨(by show 1≤sizeLine; omega),fun L hL=>hno (by omega) L hL⟩
 obtain ⟨n,rfl⟩:∃ n:Nat,st=(n:Int):=⟨st.toNat,by omega⟩
 have hy:=hy (by omega) (by omega)
 rw [tn] at hy
 left
 refine ⟨(by show 1≤sizeLine; omega),fun A0 hA0=>?_⟩
 have ntA:t≠A0:=ρ ht hA0
 left
 refine ⟨t,ν1 l,rfl,.inl (SqL.of (by rw [ψ ntA]; exact ht)),?_⟩
 rw [ψ0]
 left
 refine ⟨A0,_,_,rfl,rfl,ο,by omega,by omega,(by show 1*_≤_; omega),fun B hB=>?_⟩
 rw [flat_rep,show ((65536:Int) - (l.length:Int)).toNat=65536 - l.length by omega]
 have s1:Δ7 H (upd H A0 (.lst [.int 0])):=υ0 (ι2 H) hA0
 have hB0:H B=none:=χ0 s1 hB
 have s2:Δ7 H (upd (upd H A0 (.lst [.int 0])) B (.lst (List.replicate (65536 - l.length) (.int 0)))):=υ0 s1 hB0
 refine ⟨t,B,_,_,rfl,rfl,s2 t _ ht,ο,(by rw [List.length_replicate,ψ0]; omega),fun Bf hBf=>?_⟩
 rw [before_nat (by omega)]
 have hBf0:H Bf=none:=χ0 s2 hBf
 have s3:Δ7 H (upd (upd (upd H A0 (.lst [.int 0])) B (.lst (List.replicate (65536 - l.length) (.int 0)))) Bf (.lst (natV fun p=>l.getD p 0))):=υ0 s2 hBf0
 have hBf3:upd (upd (upd H A0 (.lst [.int 0])) B (.lst (List.replicate (65536 - l.length) (.int 0)))) Bf (.lst (natV fun p=>l.getD p 0)) Bf=some (.lst (natV fun p=>l.getD p 0)):=ο
 generalize upd (upd (upd H A0 (.lst [.int 0])) B (.lst (List.replicate (65536 - l.length) (.int 0)))) Bf (.lst (natV fun p=>l.getD p 0))=H3 at s3 hBf3 ⊢
 have hM3:=hM.keep s3
 left
 refine ⟨Bf,_,rfl,.inl (SqL.of hBf3),fun q' hq'=>?_⟩
 have hq0:H q'=none:=χ0 s3 hq'
 have naq:d.a≠q':=ρ hM.ob hq0
 have nBq:Bf≠q':=ρ hBf3 hq'
 have nBa:Bf≠d.a:=fun e=>by rw [e,hM.ob] at hBf0; cases hBf0
 have nBr:Bf≠d.r:=fun e=>by rw [e,hM.rg] at hBf0; cases hBf0
 have hf:∀ p,l.getD p 0 < 256:=fun p=>by
  rw [List.getD_eq_getElem?_getD]
  cases e:l[p]? with
  | none=>decide
  | some y=>exact hb y (List.mem_of_getElem? e)
 refine rb_stM (hM3.new hq') hmc rfl ο hf naq fun H4 hM4 k4=>?_
 have hBf4:H4 Bf=some (.lst (natV fun p=>l.getD p 0)):=k4 Bf _ (by rw [ψ nBq]; exact hBf3) nBa
 have k04:∀ b o,H b=some o→b≠d.a→H4 b=some o:=fun b o e nb=>k4 b o (by rw [ψ (ρ e hq0)]; exact s3 b o e) nb
 left
 refine ⟨{d with q:=q'},_,hv,n,rfl,hM4,fun H5 L5 m' tt hrun hM5 k5 hL5=>?_⟩
 have hBf5:H5 Bf=some (.lst (natV fun p=>l.getD p 0)):=k5 Bf _ hBf4 nBa nBr nBq
 have k05:∀ b o,H b=some o→b≠d.a→b≠d.r→H5 b=some o:=fun b o e n1 n2=>k5 b o (k04 b o e n1) n1 n2 (ρ e hq0)
 have hM6:=hM5.new (o:=.lst [.int tt.steps,.int tt.why,.int tt.code,.int tt.place,.int tt.ilc]) hL5
 have hBf6:upd H5 L5 (.lst [.int tt.steps,.int tt.why,.int tt.code,.int tt.place,.int tt.ilc]) Bf=some (.lst (natV fun p=>l.getD p 0)):=by rw [ψ (ρ hBf5 hL5)]; exact hBf5
 have k06:∀ b o,H b=some o→b≠d.a→b≠d.r→upd H5 L5 (.lst [.int tt.steps,.int tt.why,.int tt.code,.int tt.place,.int tt.ilc]) b=some o:=fun b o e n1 n2=>by rw [ψ (ρ (k05 b o e n1 n2) hL5)]; exact k05 b o e n1 n2
 have hL6:upd H5 L5 (.lst [.int tt.steps,.int tt.why,.int tt.code,.int tt.place,.int tt.ilc]) L5=some (.lst [.int tt.steps,.int tt.why,.int tt.code,.int tt.place,.int tt.ilc]):=ο
 generalize upd H5 L5 (.lst [.int tt.steps,.int tt.why,.int tt.code,.int tt.place,.int tt.ilc])=H6 at hM6 hBf6 k06 hL6 ⊢
 left
 refine Ψj hM6 hmc rfl ?_
 left
 refine ⟨Bf,q',_,m'.mem,rfl,hBf6,hM6.mm,fun H7 L7 hL7 s7 hch=>?_⟩
 have hlen:=chg_len (fun p=>l.getD p 0) m'.mem 65536
 have n57:L5≠L7:=ρ hL6 hL7
 left
 refine ⟨L7,ν1 _,rfl,.inl (SqL.of hch),?_⟩
 rw [ψ0]
 left
 refine ⟨(by show 1≤sizeLine; omega),fun L8 hL8=>?_⟩
 have n58:L5≠L8:=ρ (s7 _ _ hL6) hL8
 have n78:L7≠L8:=ρ hch hL8
 refine ⟨L5,L8,_,_,rfl,rfl,(by rw [ψ n58]; exact s7 _ _ hL6),ο,(by show 5+1≤sizeLine; omega),fun L9 hL9=>?_⟩
 left
 have hL5':upd (upd H7 L8 (.lst [.int ((chg (fun p=>l.getD p 0) m'.mem 65536).length:Int)])) L9 (.lst ([.int tt.steps,.int tt.why,.int tt.code,.int tt.place,.int tt.ilc]++[.int ((chg (fun p=>l.getD p 0) m'.mem 65536).length:Int)])) L9=some (.lst ([.int tt.steps,.int tt.why,.int tt.code,.int tt.place,.int tt.ilc]++[.int ((chg (fun p=>l.getD p 0) m'.mem 65536).length:Int)])):=ο
 have n79:L7≠L9:=ρ (show upd H7 L8 _ L7=some _ by rw [ψ n78]; exact hch) hL9
 refine ⟨L9,L7,_,_,rfl,rfl,ο,(by rw [ψ n79,ψ n78]; exact hch),(by rw [ψ0]; show 6+_≤sizeLine; omega),fun LA hLA=>?_⟩
 have s8:Δ7 H7 (upd H7 L8 (.lst [.int ((chg (fun p=>l.getD p 0) m'.mem 65536).length:Int)])):=υ0 (ι2 H7) hL8
 have s9:Δ7 H7 (upd (upd H7 L8 (.lst [.int ((chg (fun p=>l.getD p 0) m'.mem 65536).length:Int)])) L9 (.lst ([.int tt.steps,.int tt.why,.int tt.code,.int tt.place,.int tt.ilc]++[.int ((chg (fun p=>l.getD p 0) m'.mem 65536).length:Int)]))):=υ0 s8 (χ0 s8 hL9)
 have sA:=υ0 (o:=.lst ([.int tt.steps,.int tt.why,.int tt.code,.int tt.place,.int tt.ilc]++[.int ((chg (fun p=>l.getD p 0) m'.mem 65536).length:Int)]++ν1 (chg (fun p=>l.getD p 0) m'.mem 65536))) s9 (χ0 s9 hLA)
 have sB:=Γ6 s7 sA
 have hLA6:H6 LA=none:=χ0 s7 (χ0 s9 hLA)
 have hLA0:H LA=none:=by
  cases e:H LA with
  | none=>rfl
  | some ob =>
   by_cases e1:LA=d.a
   ·rw [e1,hM6.ob] at hLA6; cases hLA6
   by_cases e2:LA=d.r
   ·rw [e2,hM6.rg] at hLA6; cases hLA6
   have:=k06 LA ob e e1 e2
   rw [hLA6] at this; cases this
 refine hy _ LA q' m' tt hq0 hLA0 hrun (hM6.b.keep sB) (fun b o e n1 n2=>sB b o (k06 b o e n1 n2)) ?_
 rw [ο]
 unfold runA
 rw [Φ6]
 rfl
end
noncomputable def cpu (m:M):Ra23.Cpu:=⟨m.r,m.at_,m.cc,m.mask⟩
theorem Δn (l:List Nat) (g:Nat→Nat):∀ j k,Ra23Neutral.changed (l.drop k) ((List.range' k j).map g) k=(List.range' k j).flatMap fun p=>if g p=l.getD p 0 then [] else [p,g p]
 | 0,k=>rfl
 | j+1,k=>by
  rw [List.range'_succ,List.map_cons,List.flatMap_cons]
  have ih:=Δn l g j (k+1)
  show (if g k=(l.drop k).headD 0 then [] else [k,g k])++Ra23Neutral.changed ((l.drop k).drop 1) ((List.range' (k+1) j).map g) (k+1)=_
  rw [List.drop_drop,ih]
  have e:(l.drop k).headD 0=l.getD k 0:=by
   rw [List.headD_eq_head?_getD,List.head?_drop,List.getD_eq_getElem?_getD]
  rw [e]
theorem changed_chg (l:List Nat) (g:Nat→Nat) (n:Nat):Ra23Neutral.changed l ((List.range n).map g) 0=chg (fun p=>l.getD p 0) g n:=by
 have h:=Δn l g n 0
 rw [List.drop_zero,← List.range_eq_range'] at h
 exact h
noncomputable def tlC (c:Ra23Neutral.Call) (v m:List Int):List Int:=match c with
   | [[3,_],_]=>if v.all (fun (z:Int)=>decide (0≤z))=true then Ra23Neutral.long m else []
   | _=>[]
theorem Ψc {s:Ra23.Cpu} {c:Ra23Neutral.Call} {x:Ra23.Call} (h:Ra23Neutral.callOf c=some x):Ra23Neutral.step s c=((Ra23.spec s x).2,[(Ra23.spec s x).1.value]++(Ra23Neutral.ints ((Ra23.spec s x).1.number.toList++(Ra23.spec s x).1.told)++tlC c [(Ra23.spec s x).1.value] (Ra23Neutral.ints (Ra23Neutral.changed (Ra23Neutral.memoryOf c) (Ra23.spec s x).1.memory 0)))):=by
 unfold Ra23Neutral.step Ra23Neutral.parts
 rw [h]
 rfl
theorem step_reset (s:Ra23.Cpu):Ra23Neutral.step s [[0]]=(cpu m0,[0]):=by
 rw [Ψc (x:=.reset) rfl]
 rfl
theorem sp_set_no {s:Ra23.Cpu} {w:Int} {x:Nat} (h:w < 0∨18 < w):Ra23.spec s (.set w x)=({value := -2},s):=if_pos h
theorem step_set_no {s:Ra23.Cpu} {w v:Int} (h:w < 0∨18 < w):Ra23Neutral.step s [[1,w,v]]=(s,[-2]):=by
 rw [Ψc (x:=.set w v.toNat) rfl,sp_set_no h]
 rfl
theorem sp_set {m:M} {w:Int} {x:Nat} (h:¬ (w < 0∨18 < w)):Ra23.spec (cpu m) (.set w x)=({value:=0},cpu (setV m w x)):=by
 unfold Ra23.spec
 dsimp only
 rw [if_neg h]
 unfold setV
 by_cases c1:w=16
 ·rw [if_pos c1,if_pos c1]; rfl
 rw [if_neg c1,if_neg c1]
 by_cases c2:w=17
 ·rw [if_pos c2,if_pos c2]; rfl
 rw [if_neg c2,if_neg c2]
 by_cases c3:w=18
 ·rw [if_pos c3,if_pos c3]; rfl
 rw [if_neg c3,if_neg c3]
 rfl
theorem step_set {m:M} {w:Int} {x:Nat} (h0:0≤w) (h:w≤18):Ra23Neutral.step (cpu m) [[1,w,(x:Int)]]=(cpu (setV m w x),[0]):=by
 rw [Ψc (x:=.set w x) rfl,sp_set (by omega)]
 rfl
theorem sp_get_no {s:Ra23.Cpu} {w:Int} (h:w < 0∨18 < w):Ra23.spec s (.get w)=({value := -2},s):=if_pos h
theorem step_get_no {s:Ra23.Cpu} {w:Int} (h:w < 0∨18 < w):Ra23Neutral.step s [[2,w]]=(s,[-2]):=by
 rw [Ψc (x:=.get w) rfl,sp_get_no h]
 rfl
theorem sp_get {m:M} {w:Int} (h:¬ (w < 0∨18 < w)):Ra23.spec (cpu m) (.get w)=({value:=0,number:=some (getV m w)},cpu m):=by
 unfold Ra23.spec
 dsimp only
 rw [if_neg h]
 rfl
theorem step_get {m:M} {w:Int} (h0:0≤w) (h:w≤18):Ra23Neutral.step (cpu m) [[2,w]]=(cpu m,[0,((getV m w:Nat):Int)]):=by
 rw [Ψc (x:=.get w) rfl,sp_get (by omega)]
 rfl
theorem sp_run_no {s:Ra23.Cpu} {st:Int} {l:List Nat} (h:st < 0∨1000000 < st):Ra23.spec s (.run l st)=({value := -2},s):=if_pos h
theorem step_run_no {s:Ra23.Cpu} {st:Int} {mm:List Int} (h:st < 0∨1000000 < st):Ra23Neutral.step s [[3,st],mm]=(s,[-2]):=by
 rw [Ψc (x:=.run (Ra23Neutral.nats mm) st) rfl,sp_run_no h]
 rfl
theorem sp_run {m m':M} {tt:Ra23.Told} {st:Int} {l:List Nat} (h:¬ (st < 0∨1000000 < st)) (hr:Ra23.run st.toNat 0 0 0 ⟨m.r,m.at_,m.cc,m.mask,fun p=>l.getD p 0⟩=(m',tt)):Ra23.spec (cpu m) (.run l st)=({value:=(tt.steps:Int),memory:=(List.range Ra23.MEMORY).map m'.mem,told:=[tt.why,tt.code,tt.place,tt.ilc]},cpu m'):=by
 unfold Ra23.spec
 dsimp only
 rw [if_neg h]
 have hr':Ra23.run st.toNat 0 0 0 ⟨(cpu m).r,(cpu m).at_,(cpu m).cc,(cpu m).mask,fun p=>l.getD p 0⟩=(m',tt):=hr
 rw [hr']
 rfl
theorem step_run {m m':M} {tt:Ra23.Told} {st:Int} {mm:List Int} (h0:0≤st) (h:st≤1000000) (hr:Ra23.run st.toNat 0 0 0 ⟨m.r,m.at_,m.cc,m.mask,fun p=>(Ra23Neutral.nats mm).getD p 0⟩=(m',tt)):Ra23Neutral.step (cpu m) [[3,st],mm]=(cpu m',(runA tt (chg (fun p=>(Ra23Neutral.nats mm).getD p 0) m'.mem 65536)).map fun n:Nat=>(n:Int)):=by
 rw [Ψc (x:=.run (Ra23Neutral.nats mm) st) rfl,sp_run (by omega) hr]
 dsimp only
 rw [changed_chg]
 show (cpu m',[(tt.steps:Int)]++(Ra23Neutral.ints ([]++[tt.why,tt.code,tt.place,tt.ilc])++(if ([(tt.steps:Int)]:List Int).all (fun (z:Int)=>decide (0≤z))=true then Ra23Neutral.long (Ra23Neutral.ints (chg (fun p=>(Ra23Neutral.nats mm).getD p 0) m'.mem 65536)) else [])))=_
 rw [if_pos (by simp)]
 generalize chg (fun p=>(Ra23Neutral.nats mm).getD p 0) m'.mem 65536=cl
 unfold runA Ra23Neutral.long Ra23Neutral.ints
 simp
theorem whole_id (c:List (List Int)):PyRa23.whole c=c:=by
 unfold PyRa23.whole
 split <;> rfl
theorem calls_eq (l:List Int):PyRa23.calls l=PyFlat.calls PyRa23.shape l.length l:=by
 unfold PyRa23.calls
 cases PyFlat.calls PyRa23.shape l.length l with
 | none=>rfl
 | some cs =>
  show some (cs.map PyRa23.whole)=some cs
  rw [show PyRa23.whole=id from funext whole_id,List.map_id]
theorem calls_cons {f:Nat} {p:Int} {r:List Int} {cs:List (List (List Int))} (h:PyFlat.calls PyRa23.shape f (p::r)=some cs):∃ f' c t cs',f=f'+1∧PyFlat.call PyRa23.shape (p::r)=some (c,t)∧PyFlat.calls PyRa23.shape f' t=some cs'∧cs=c::cs':=by
 cases f with
 | zero=>cases h
 | succ f' =>
  unfold PyFlat.calls at h
  cases e:PyFlat.call PyRa23.shape (p::r) with
  | none=>rw [e] at h; cases h
  | some x =>
   obtain ⟨c,t⟩:=x
   rw [e] at h
   dsimp only at h
   cases e2:PyFlat.calls PyRa23.shape f' t with
   | none=>rw [e2] at h; cases h
   | some cs' =>
    rw [e2] at h
    exact ⟨f',c,t,cs',rfl,rfl,e2,(Option.some.inj h).symm⟩
theorem call_inv {p:Int} {r t:List Int} {c:List (List Int)} (h:PyFlat.call PyRa23.shape (p::r)=some (c,t)) :
  (p=0∧c=[[0]]∧t=r)∨(p=1∧∃ a b,r=a::b::t∧c=[[1,a,b]])∨(p=2∧∃ a,r=a::t∧c=[[2,a]]) ∨
  (p=3∧∃ a n rest,r=a::n::rest∧0≤n∧n.toNat≤rest.length∧c=[[3,a],rest.take n.toNat]∧t=rest.drop n.toNat):=by
 unfold PyFlat.call PyRa23.shape at h
 dsimp only at h
 by_cases c0:p=0
 ·subst c0
  rw [if_pos rfl] at h
  dsimp only at h
  rw [if_neg (by omega)] at h
  have h':=Option.some.inj h
  exact .inl ⟨rfl,(congrArg Prod.fst h').symm,(congrArg Prod.snd h').symm⟩
 rw [if_neg c0] at h
 by_cases c1:p=1
 ·subst c1
  rw [if_pos rfl] at h
  dsimp only at h
  by_cases l:r.length < 2
  ·rw [if_pos l] at h; cases h
  ·rw [if_neg l] at h
   match r,l,h with
   | a::b::t',_,h =>
    have h':(([[1,a,b]]:List (List Int)),t')=(c,t):=Option.some.inj h
    obtain ⟨e1,e2⟩:=Prod.mk.inj h'
    exact .inr (.inl ⟨rfl,a,b,by rw [e2],e1.symm⟩)
   | [_],l,_=>exact absurd (show 1 < 2 by decide) l
   | [],l,_=>exact absurd (by decide) l
 rw [if_neg c1] at h
 by_cases c2:p=2
 ·subst c2
  rw [if_pos rfl] at h
  dsimp only at h
  by_cases l:r.length < 1
  ·rw [if_pos l] at h; cases h
  ·rw [if_neg l] at h
   match r,l,h with
   | a::t',_,h =>
    have h':(([[2,a]]:List (List Int)),t')=(c,t):=Option.some.inj h
    obtain ⟨e1,e2⟩:=Prod.mk.inj h'
    exact .inr (.inr (.inl ⟨rfl,a,by rw [e2],e1.symm⟩))
   | [],l,_=>exact absurd (by decide) l
 rw [if_neg c2] at h
 by_cases c3:p=3
 ·subst c3
  rw [if_pos rfl] at h
  dsimp only at h
  by_cases l:r.length < 1
  ·rw [if_pos l] at h; cases h
  ·rw [if_neg l] at h
   match r,l,h with
   | [a],_,h=>cases h
   | a::n::rest,_,h =>
    have hrow:PyFlat.rows 1 ((a::n::rest).drop 1)=if 0≤n∧n.toNat≤rest.length then some ([rest.take n.toNat],rest.drop n.toNat) else none:=by
     show PyFlat.rows 1 (n::rest)=_
     unfold PyFlat.rows PyFlat.row
     dsimp only
     by_cases z:0≤n∧n.toNat≤rest.length
     ·rw [if_pos z,if_pos z]; rfl
     ·rw [if_neg z,if_neg z]
    rw [hrow] at h
    by_cases z:0≤n∧n.toNat≤rest.length
    ·rw [if_pos z] at h
     have h':=Option.some.inj h
     have e1:=congrArg Prod.fst h'
     have e2:=congrArg Prod.snd h'
     exact .inr (.inr (.inr ⟨rfl,a,n,rest,rfl,z.1,z.2,e1.symm,e2.symm⟩))
    ·rw [if_neg z] at h; cases h
   | [],l,_=>exact absurd (by decide) l
 rw [if_neg c3] at h
 cases h
theorem told_cons (s:Ra23.Cpu) (c:List (List Int)) (cs:List (List (List Int))) {s':Ra23.Cpu} {ans:List Int} (h:Ra23Neutral.step s c=(s',ans)):PyFlat.told (PyFlat.played Ra23Neutral.step s (c::cs))=((ans.length:Int)::ans)++PyFlat.told (PyFlat.played Ra23Neutral.step s' cs):=by
 show PyFlat.told ((Ra23Neutral.step s c).2::PyFlat.played Ra23Neutral.step (Ra23Neutral.step s c).1 cs)=_
 rw [h]
 unfold PyFlat.told
 rw [List.flatMap_cons]
noncomputable def WA (C c R:Addr) (zs:List Int) (H:Hp) (k:Nat) (σ':L2.St) (H':Hp):Prop:=∃ (at_:Nat) (d:Hd) (m:M) (hv:Nat) (rep:List Int) (cs:List (List (List Int))) (f:Nat) (o4 o5 o6:Option V),σ'=[some (.ref c),some (.ref d.a),some (.ref R),some (.int at_),o4,o5,o6]∧k+at_=zs.length∧MachB C d H' m hv∧H' R=some (.lst (rep.map V.int))∧(R≠d.a∧R≠d.r∧R≠d.q)∧(H d.a=none∧H d.r=none∧H d.q=none)∧Δ7 H H'∧PyFlat.calls PyRa23.shape f (zs.drop at_)=some cs∧cs.all Ra23Neutral.askedOne=true∧PyRa23.answers zs=rep++PyFlat.told (PyFlat.played Ra23Neutral.step (cpu m) cs)
theorem MachB.upd {C:Addr} {d:Hd} {H:Hp} {m:M} {hv:Nat} {R:Addr} {o:HO} (x:MachB C d H m hv) (n:R≠d.a∧R≠d.r∧R≠d.q):MachB C d (upd H R o) m hv:=by
 obtain ⟨xs,h⟩:=x.mm
 exact ⟨by rw [ψ (Ne.symm n.1)]; exact x.ob,by rw [ψ (Ne.symm n.2.1)]; exact x.rg,⟨xs,by rw [ψ (Ne.symm n.2.2)]; exact h⟩,x.nrq,x.ok,x.hv⟩
theorem θe {C c R:Addr} {zs:List Int} {H:Hp} {k at_ at':Nat} {d:Hd} {s0:Ra23.Cpu} {m:M} {hv:Nat} {rep ans:List Int} {c0:List (List Int)} {cs:List (List (List Int))} {f:Nat} {o4 o5 o6:Option V} {H2:Hp} (hk:k+at_=zs.length) (h1:at_ < at') (h2:at'≤zs.length) (hM:MachB C d H2 m hv) (nR:R≠d.a∧R≠d.r∧R≠d.q) (fr:H d.a=none∧H d.r=none∧H d.q=none) (hR:H R=none) (hs:Δ7 H H2) (hc:PyFlat.calls PyRa23.shape f (zs.drop at')=some cs) (ha:(c0::cs).all Ra23Neutral.askedOne=true) (e:PyRa23.answers zs=rep++PyFlat.told (PyFlat.played Ra23Neutral.step s0 (c0::cs))) (hst:Ra23Neutral.step s0 c0=(cpu m,ans)) :
  ∃ k',k' < k∧WA C c R zs H k' [some (.ref c),some (.ref d.a),some (.ref R),some (.int at'),o4,o5,o6] (upd H2 R (.lst (rep.map V.int++[.int (ans.length:Int)]++ans.map V.int))):=by
 refine ⟨zs.length - at',by omega,at',d,m,hv,rep++[(ans.length:Int)]++ans,cs,f,o4,o5,o6,rfl,by omega,hM.upd nR,?_,nR,fr,υ0 hs hR,hc,?_,?_⟩
 ·rw [ο,List.map_append,List.map_append]
  rfl
 ·rw [List.all_cons] at ha
  exact (Bool.and_eq_true_iff.mp ha).2
 ·rw [e,told_cons _ _ _ hst]
  simp
theorem SqL.same {K:PySem.W.Frag} {H H':Hp} {a:Addr} {xs:List V} (h:SqL K H a xs) (s:Δ7 H H'):SqL K H' a xs:=by
 rcases h with h | h
 ·refine .inl ?_
  rcases h with h | ⟨o,h⟩
  ·exact .inl (s _ _ h)
  ·exact .inr ⟨o,s _ _ h⟩
 ·exact .inr h
theorem zs_at {zs:List Int} {i:Nat} {x:Int} (h:zs[i]?=some x):atI (zs.map V.int) (i:Int)=some (.int x):=atI_nat (by rw [List.getElem?_map,h]; rfl)
theorem zs_cut {zs:List Int} {p n:Nat} (h:p+n≤zs.length):cutV (zs.map V.int) (some (p:Int)) (some ((p:Int)+(n:Int)))=((zs.drop p).take n).map V.int:=by
 unfold cutV
 rw [show (p:Int)+(n:Int)=((p+n:Nat):Int) by omega,HT.Φj,HT.Φj,List.length_map,Nat.min_eq_left h,Nat.min_eq_left (show p≤zs.length by omega),show p+n - p=n by omega,List.map_take,List.map_drop]
theorem made_same {H H1:Hp} {x dx:Addr} {o1 o2:HO} (hx:H x=none) (hdx:H dx=none) (k:KeepA x (upd (upd H dx o1) x o2) H1):Δ7 H H1:=fun b o e=>k b o (by rw [ψ (ρ e hx),ψ (ρ e hdx)]; exact e) (ρ e hx)
theorem φ7 {H:Hp} {x dx r:Addr} {o1 o2:HO} (hx:H x=none) (hdx:H dx=none) (h:upd (upd H dx o1) x o2 r=none):H r=none:=by
 cases e:H r with
 | none=>rfl
 | some o =>
  rw [ψ (ρ e hx),ψ (ρ e hdx),e] at h
  cases h
theorem bytes_nats {l:List Int} (h:NeutralIO.bytes l=true):l.map V.int=ν1 (Ra23Neutral.nats l)∧∀ x∈Ra23Neutral.nats l,x < 256:=by
 unfold NeutralIO.bytes at h
 rw [List.all_eq_true] at h
 unfold Ra23Neutral.nats ν1
 constructor
 ·rw [List.map_map]
  refine List.map_congr_left fun x hx=>?_
  have:=h x hx
  simp only [Bool.and_eq_true,decide_eq_true_eq] at this
  show V.int x=V.int ((x.toNat:Nat):Int)
  rw [Int.toNat_of_nonneg this.1]
 ·intro x hx
  obtain ⟨y,hy,rfl⟩:=List.mem_map.mp hx
  have:=h y hy
  simp only [Bool.and_eq_true,decide_eq_true_eq] at this
  omega
section
variable {P:Program} {w:World} {K:PySem.W.Frag} {mg:Str→Option Value} {base:Heap} {C CI CS:Addr}
noncomputable def Ψf (K:PySem.W.Frag):Sp:=fun vs H Q _=>∃ (c:Addr) (zs:List Int),vs=[.ref c]∧SqL K H c (zs.map V.int)∧PyRa23.answers_asked zs=true∧∀ H' L,Δ7 H H'→H' L=some (.lst ((PyRa23.answers zs).map V.int))→Q (.ref L) H'
theorem Ω0:FnScope ["calls","machine","replies","at","call","answer","behind"] ["calls"] (ξ (top 185)):=mkS
theorem ok_answers (T:Txt P w K mg base C CI CS) (h:Has K mg "answers" "answers" (top 185)) (mm:MM P w K mg base C) (c_put_value:Callee P w K mg base 1 "put_value" ["machine","which","value"] (BB.νh C CI CS)) (c_told_value:Callee P w K mg base 1 "told_value" ["machine","which"] (BB.οe C CI CS)) (c_run_answer:Callee P w K mg base 17 "run_answer" ["machine","steps","told"] (τe C CI CS)):Callee P w K mg base 18 "answers" ["calls"] (Ψf K):=by
 refine ω (k:=17) h Ω0 (fun vs H Q E h=>?_) (fun _ _ _ _ _ _=>ml1 fun _=>rfl) fun f cdv A outer s H vs Q E hr h=>?_
 ·obtain ⟨c,zs,rfl,_⟩:=h
  rfl
 obtain ⟨c,zs,rfl,hC,hask,hq⟩:=h
 have hmc:=T.mc
 refine ⟨_,(η (Ξ (i:=1) Ω0.nd rfl (Or.inl rfl) (pe_mkM mm hr (by decide) rfl)) (η (Ξ (i:=2) Ω0.nd rfl (Or.inl rfl) (υ2 ν)) (η (Ξ (i:=3) Ω0.nd rfl (Or.inl rfl) ι) (η (ps_while PassesOwn.leaving (Ψ ξg (pv 3) (ζ2 Γ1 rfl T.blen PyProof.Rows.Boot.«len» (ζ (pv 0) ν)) (Ω _)) (η (Ξ (i:=4) Ω0.nd rfl (Or.inl rfl) (ο0 Φ (pv 0) (pv 3) (fun _ _=>rfl))) (η (ρ0 (Ψ ψ1 (pv 4) ι (Ω _)) (η (Ξ (i:=1) Ω0.nd rfl (Or.inl rfl) (pe_mkM mm hr (by decide) rfl)) (η (Ξ (i:=5) Ω0.nd rfl (Or.inl rfl) (υ2 (ζ ι ν))) (θ (Ξ (i:=3) Ω0.nd rfl (Or.inl rfl) (υ η0 (pv 3) ι))))) (θ (ρ0 (Ψ ψ1 (pv 4) ι (Ω _)) (η (Ξ (i:=5) Ω0.nd rfl (Or.inl rfl) (τ c_put_value hr (by decide) rfl (ζ (pv 1) (ζ (ο0 Φ (pv 0) (υ η0 (pv 3) ι) (fun _ _=>rfl)) (ζ (ο0 Φ (pv 0) (υ η0 (pv 3) ι) (fun _ _=>rfl)) ν))))) (θ (Ξ (i:=3) Ω0.nd rfl (Or.inl rfl) (υ η0 (pv 3) ι)))) (θ (ρ0 (Ψ ψ1 (pv 4) ι (Ω _)) (η (Ξ (i:=5) Ω0.nd rfl (Or.inl rfl) (τ c_told_value hr (by decide) rfl (ζ (pv 1) (ζ (ο0 Φ (pv 0) (υ η0 (pv 3) ι) (fun _ _=>rfl)) ν)))) (θ (Ξ (i:=3) Ω0.nd rfl (Or.inl rfl) (υ η0 (pv 3) ι)))) (η (Ξ (i:=6) Ω0.nd rfl (Or.inl rfl) (υ η0 (υ η0 (pv 3) ι) (ο0 Φ (pv 0) (υ η0 (pv 3) ι) (fun _ _=>rfl)))) (η (Ξ (i:=5) Ω0.nd rfl (Or.inl rfl) (τ c_run_answer hr (by decide) rfl (ζ (pv 1) (ζ (ο0 Φ (pv 0) (υ η0 (pv 3) ι) (fun _ _=>rfl)) (ζ (ζ5 θ8 (pv 0) (ψ2 (υ η0 (pv 3) ι)) (ψ2 (pv 6))) ν))))) (θ (Ξ (i:=3) Ω0.nd rfl (Or.inl rfl) (pv 6)))))))))) (η (χ (pe_bm PySem.F.plainAttrs_list PySem.F.slot_list_append PySem.F.type_list_append υ7 (pv 2) (ζ (ζ2 Γ1 rfl T.blen PyProof.Rows.Boot.«len» (ζ (pv 5) ν)) ν))) (θ (χ (pe_bm PySem.F.plainAttrs_list PySem.F.slot_list_extend PySem.F.type_list_extend mt_extend (pv 2) (ζ (pv 5) ν)))))))) (θ (ω0 (pv 2))))))),?_⟩
 have hbig:16000000≤sizeLine:=by decide
 have hans:∃ cs,PyFlat.calls PyRa23.shape zs.length zs=some cs∧cs.all Ra23Neutral.askedOne=true∧PyRa23.answers zs=PyFlat.told (PyFlat.played Ra23Neutral.step (cpu m0) cs)∧(PyRa23.answers zs).length≤10000000:=by
  unfold PyRa23.answers_asked at hask
  have e2:PyRa23.answers zs=match PyRa23.calls zs with | none=>[] | some cs=>PyFlat.told (PyFlat.played Ra23Neutral.step Ra23Neutral.start cs):=rfl
  rw [calls_eq] at hask e2
  cases e:PyFlat.calls PyRa23.shape zs.length zs with
  | none=>rw [e] at hask; cases hask
  | some cs =>
   rw [e] at hask e2
   dsimp only at hask e2
   simp only [Bool.and_eq_true] at hask
   obtain ⟨⟨_,h2⟩,h3⟩:=hask
   unfold Ra23Neutral.asked at h2
   simp only [Bool.and_eq_true] at h2
   exact ⟨cs,rfl,h2.2,e2,of_decide_eq_true h3⟩
 obtain ⟨cs0,hcs0,hall0,hans0,hlen0⟩:=hans
 left
 refine rd_make ?_
 left
 refine fun x dx hx hdx ndx=>⟨x,dx,rfl,ο,fun H1 r q hMB hr0 hq0 k1=>⟨rfl,?_⟩⟩
 have s1:Δ7 H H1:=made_same hx hdx k1
 left
 refine ⟨by decide,fun R hR=>?_⟩
 have hR0:H R=none:=χ0 s1 hR
 have nR:R≠x∧R≠r∧R≠q:=⟨fun e=>(by rw [e,hMB.ob] at hR; cases hR),fun e=>(by rw [e,hMB.rg] at hR; cases hR),fun e=>(by obtain ⟨xs,z⟩:=hMB.mm; rw [e,z] at hR; cases hR)⟩
 left
 refine rd_while ⟨WA C c R zs H,⟨zs.length,0,⟨x,dx,r,q⟩,m0,0,[],cs0,zs.length,none,none,none,rfl,Nat.add_zero _,hMB.new hR,ο,nR,⟨hx,φ7 hx hdx hr0,φ7 hx hdx hq0⟩,υ0 s1 hR0,by rw [List.drop_zero]; exact hcs0,hall0,by rw [List.nil_append]; exact hans0⟩,fun k σ' H' h=>?_⟩
 obtain ⟨at_,d,m,hv,rep,cs,fu,o4,o5,o6,rfl,hk,hM,hRr,nR,fr,hs,hcalls,hall,he⟩:=h
 have hC':=SqL.same hC hs
 left
 refine ⟨c,_,rfl,.inl hC',?_⟩
 rw [List.length_map]
 left
 refine Δ (fun c1=>?_) (fun c1=>?_)
 ·refine ⟨_,fun σ' H' h=>h,?_⟩
  obtain ⟨p,r0,hd⟩:∃ p r,zs.drop at_=p::r:=⟨_,_,List.drop_eq_getElem_cons (by omega)⟩
  rw [hd] at hcalls
  obtain ⟨f',c0,t,cs',rfl,hcall,hcs',rfl⟩:=calls_cons hcalls
  have ga:∀ i,zs[at_+i]?=(p::r0)[i]?:=fun i=>by rw [← hd,List.getElem?_drop]
  have hall1:Ra23Neutral.askedOne c0=true:=by rw [List.all_cons] at hall; exact (Bool.and_eq_true_iff.mp hall).1
  have hdl:(zs.drop at_).length=zs.length - at_:=List.length_drop
  rw [hd] at hdl
  have lenOf:∀ {s':Ra23.Cpu} {ans:List Int},Ra23Neutral.step (cpu m) c0=(s',ans)→rep.length+1+ans.length≤10000000:=fun {s' ans} hst=>by
   have z:=hlen0
   rw [he,told_cons _ _ _ hst] at z
   simp only [List.length_append,List.length_cons] at z
   omega
  left
  refine ⟨c,_,_,_,rfl,rfl,hC',zs_at (ga 0),?_⟩
  left
  rcases call_inv hcall with ⟨rfl,rfl,rfl⟩ | ⟨rfl,a,b,rfl,rfl⟩ | ⟨rfl,a,rfl,rfl⟩ | ⟨rfl,a,n,rest,rfl,hn0,hn1,rfl,rfl⟩
  ·have hst:=step_reset (cpu m)
   have hln:=lenOf hst
   have hdr:zs.drop (at_+1)=t:=by rw [← List.drop_drop,hd]; rfl
   refine Δ (fun _=>?_) (fun z=>absurd rfl z)
   left
   refine rd_make ?_
   left
   refine fun x2 dx2 hx2 hdx2 ndx2=>⟨x2,dx2,rfl,ο,fun H2 r2 q2 hMB2 hr2 hq2 k2=>⟨rfl,?_⟩⟩
   have s2:Δ7 H' H2:=made_same hx2 hdx2 k2
   have hR2:=s2 _ _ hRr
   have nR2:R≠x2∧R≠r2∧R≠q2:=⟨ρ hRr hx2,ρ hRr (φ7 hx2 hdx2 hr2),ρ hRr (φ7 hx2 hdx2 hq2)⟩
   left
   refine ⟨by decide,fun L hL=>?_⟩
   have hRL:upd H2 L (.lst [.int 0]) R=some (.lst (rep.map V.int)):=by rw [ψ (ρ hR2 hL)]; exact hR2
   have nLR:L≠R:=Ne.symm (ρ hR2 hL)
   have hLL:upd H2 L (.lst [.int 0]) L=some (.lst (([0]:List Int).map V.int)):=ο
   have hMM:=hMB2.new (o:=.lst [.int 0]) hL
   have sss:Δ7 H (upd H2 L (.lst [.int 0])):=υ0 (Γ6 hs s2) (χ0 (Γ6 hs s2) hL)
   generalize upd H2 L (.lst [.int 0])=H3 at hRL hLL hMM sss ⊢
   left
   refine ⟨.inl ⟨rfl,_,SqL.of hRL⟩,?_⟩
   left
   refine ⟨L,_,rfl,.inl (SqL.of hLL),?_⟩
   left
   refine θ2 hRL (by rw [List.length_map]; omega) ?_
   left
   refine ⟨.inl ⟨rfl,_,SqL.of ο⟩,?_⟩
   left
   refine ⟨R,L,_,_,rfl,rfl,ο,(by rw [ψ nLR]; exact hLL),(by rw [List.length_append,List.length_map]; show rep.length+1+_≤_; first | omega | (rw [List.length_map]; omega)),?_⟩
   rw [ψ3]
   exact θe (at':=at_+1) hk (by omega) (by omega) hMM nR2 ⟨χ0 hs hx2,χ0 hs (φ7 hx2 hdx2 hr2),χ0 hs (φ7 hx2 hdx2 hq2)⟩ hR0 sss (by rw [hdr]; exact hcs') hall he hst
  ·have hdr:zs.drop (at_+3)=t:=by rw [← List.drop_drop,hd]; rfl
   have hl3:at_+3≤zs.length:=by simp only [List.length_cons] at hdl; omega
   obtain ⟨x,rfl,hx32⟩:∃ x:Nat,b=(x:Int)∧x < 2^32:=by
    have z:(Ra23Neutral.int a && Ra23Neutral.word b)=true:=hall1
    unfold Ra23Neutral.word NeutralIO.within at z
    simp only [Bool.and_eq_true,decide_eq_true_eq] at z
    exact ⟨b.toNat,by omega,by omega⟩
   refine Δ (fun z=>absurd z (by decide)) (fun _=>?_)
   left
   refine Δ (fun _=>?_) (fun z=>absurd rfl z)
   left
   refine ⟨c,_,_,_,rfl,rfl,hC',zs_at (ga 1),?_⟩
   left
   refine ⟨c,_,_,_,rfl,rfl,hC',zs_at (ga 2),?_⟩
   left
   refine ⟨d,m,hv,a,x,rfl,hx32,hM,fun w0 w1 H2 L hM2 k2 hL=>?_,fun wb L hL=>?_⟩
   ·have hst:=step_set (m:=m) (x:=x) w0 w1
    have hln:=lenOf hst
    have s2:Δ7 H H2:=fun b o e=>k2 b o (hs b o e) (ρ e fr.1) (ρ e fr.2.1) (ρ e fr.2.2)
    have hR2:H2 R=some (.lst (rep.map V.int)):=k2 R _ hRr nR.1 nR.2.1 nR.2.2
    have hRL:upd H2 L (.lst [.int 0]) R=some (.lst (rep.map V.int)):=by rw [ψ (ρ hR2 hL)]; exact hR2
    have nLR:L≠R:=Ne.symm (ρ hR2 hL)
    have hLL:upd H2 L (.lst [.int 0]) L=some (.lst (([0]:List Int).map V.int)):=ο
    have hMM:=hM2.new (o:=.lst [.int 0]) hL
    have sss:Δ7 H (upd H2 L (.lst [.int 0])):=υ0 s2 (χ0 s2 hL)
    generalize upd H2 L (.lst [.int 0])=H3 at hRL hLL hMM sss ⊢
    left
    refine ⟨.inl ⟨rfl,_,SqL.of hRL⟩,?_⟩
    left
    refine ⟨L,_,rfl,.inl (SqL.of hLL),?_⟩
    left
    refine θ2 hRL (by rw [List.length_map]; omega) ?_
    left
    refine ⟨.inl ⟨rfl,_,SqL.of ο⟩,?_⟩
    left
    refine ⟨R,L,_,_,rfl,rfl,ο,(by rw [ψ nLR]; exact hLL),(by rw [List.length_append,List.length_map]; show rep.length+1+_≤_; first | omega | (rw [List.length_map]; omega)),?_⟩
    rw [ψ3]
    exact θe (at':=at_+3) hk (by omega) (by omega) hMM nR fr hR0 sss (by rw [hdr]; exact hcs') hall he hst
   ·have hst:=step_set_no (s:=cpu m) (v:=(x:Int)) wb
    have hln:=lenOf hst
    have hRL:upd H' L (.lst [.int (-2)]) R=some (.lst (rep.map V.int)):=by rw [ψ (ρ hRr hL)]; exact hRr
    have nLR:L≠R:=Ne.symm (ρ hRr hL)
    have hLL:upd H' L (.lst [.int (-2)]) L=some (.lst (([-2]:List Int).map V.int)):=ο
    have hMM:=hM.new (o:=.lst [.int (-2)]) hL
    have sss:Δ7 H (upd H' L (.lst [.int (-2)])):=υ0 hs (χ0 hs hL)
    generalize upd H' L (.lst [.int (-2)])=H3 at hRL hLL hMM sss ⊢
    left
    refine ⟨.inl ⟨rfl,_,SqL.of hRL⟩,?_⟩
    left
    refine ⟨L,_,rfl,.inl (SqL.of hLL),?_⟩
    left
    refine θ2 hRL (by rw [List.length_map]; omega) ?_
    left
    refine ⟨.inl ⟨rfl,_,SqL.of ο⟩,?_⟩
    left
    refine ⟨R,L,_,_,rfl,rfl,ο,(by rw [ψ nLR]; exact hLL),(by rw [List.length_append,List.length_map]; show rep.length+1+_≤_; first | omega | (rw [List.length_map]; omega)),?_⟩
    rw [ψ3]
    exact θe (at':=at_+3) hk (by omega) (by omega) hMM nR fr hR0 sss (by rw [hdr]; exact hcs') hall he hst
  ·have hdr:zs.drop (at_+2)=t:=by rw [← List.drop_drop,hd]; rfl
   have hl3:at_+2≤zs.length:=by simp only [List.length_cons] at hdl; omega
   refine Δ (fun z=>absurd z (by decide)) (fun _=>?_)
   left
   refine Δ (fun z=>absurd z (by decide)) (fun _=>?_)
   left
   refine Δ (fun _=>?_) (fun z=>absurd rfl z)
   left
   refine ⟨c,_,_,_,rfl,rfl,hC',zs_at (ga 1),?_⟩
   left
   refine ⟨d,m,hv,a,rfl,hM,fun w0 w1 L hL=>?_,fun wb L hL=>?_⟩
   ·have hst:=step_get (m:=m) w0 w1
    have hln:=lenOf hst
    have hRL:upd H' L (.lst [.int 0,.int ((getV m a:Nat):Int)]) R=some (.lst (rep.map V.int)):=by rw [ψ (ρ hRr hL)]; exact hRr
    have nLR:L≠R:=Ne.symm (ρ hRr hL)
    have hLL:upd H' L (.lst [.int 0,.int ((getV m a:Nat):Int)]) L=some (.lst (([0,((getV m a:Nat):Int)]:List Int).map V.int)):=ο
    have hMM:=hM.new (o:=.lst [.int 0,.int ((getV m a:Nat):Int)]) hL
    have sss:Δ7 H (upd H' L (.lst [.int 0,.int ((getV m a:Nat):Int)])):=υ0 hs (χ0 hs hL)
    generalize upd H' L (.lst [.int 0,.int ((getV m a:Nat):Int)])=H3 at hRL hLL hMM sss ⊢
    left
    refine ⟨.inl ⟨rfl,_,SqL.of hRL⟩,?_⟩
    left
    refine ⟨L,_,rfl,.inl (SqL.of hLL),?_⟩
    left
    refine θ2 hRL (by rw [List.length_map]; omega) ?_
    left
    refine ⟨.inl ⟨rfl,_,SqL.of ο⟩,?_⟩
    left
    refine ⟨R,L,_,_,rfl,rfl,ο,(by rw [ψ nLR]; exact hLL),(by rw [List.length_append,List.length_map]; show rep.length+1+_≤_; first | omega | (rw [List.length_map]; omega)),?_⟩
    rw [ψ3]
    exact θe (at':=at_+2) hk (by omega) (by omega) hMM nR fr hR0 sss (by rw [hdr]; exact hcs') hall he hst
   ·have hst:=step_get_no (s:=cpu m) wb
    have hln:=lenOf hst
    have hRL:upd H' L (.lst [.int (-2)]) R=some (.lst (rep.map V.int)):=by rw [ψ (ρ hRr hL)]; exact hRr
    have nLR:L≠R:=Ne.symm (ρ hRr hL)
    have hLL:upd H' L (.lst [.int (-2)]) L=some (.lst (([-2]:List Int).map V.int)):=ο
    have hMM:=hM.new (o:=.lst [.int (-2)]) hL
    have sss:Δ7 H (upd H' L (.lst [.int (-2)])):=υ0 hs (χ0 hs hL)
    generalize upd H' L (.lst [.int (-2)])=H3 at hRL hLL hMM sss ⊢
    left
    refine ⟨.inl ⟨rfl,_,SqL.of hRL⟩,?_⟩
    left
    refine ⟨L,_,rfl,.inl (SqL.of hLL),?_⟩
    left
    refine θ2 hRL (by rw [List.length_map]; omega) ?_
    left
    refine ⟨.inl ⟨rfl,_,SqL.of ο⟩,?_⟩
    left
    refine ⟨R,L,_,_,rfl,rfl,ο,(by rw [ψ nLR]; exact hLL),(by rw [List.length_append,List.length_map]; show rep.length+1+_≤_; first | omega | (rw [List.length_map]; omega)),?_⟩
    rw [ψ3]
    exact θe (at':=at_+2) hk (by omega) (by omega) hMM nR fr hR0 sss (by rw [hdr]; exact hcs') hall he hst
  ·obtain ⟨nn,rfl⟩:∃ nn:Nat,n=(nn:Int):=⟨n.toNat,by omega⟩
   rw [Int.toNat_natCast] at hn1 hall hall1 he hcs' lenOf
   have hdr3:zs.drop (at_+3)=rest:=by rw [← List.drop_drop,hd]; rfl
   have hdr:zs.drop (at_+3+nn)=rest.drop nn:=by rw [← List.drop_drop,hdr3]
   have hl3:at_+3+nn≤zs.length:=by simp only [List.length_cons] at hdl; omega
   have hby:NeutralIO.bytes (rest.take nn)=true∧(rest.take nn).length≤1024:=by
    have z:(Ra23Neutral.int a && (NeutralIO.bytes (rest.take nn) && decide ((rest.take nn).length≤1024)))=true:=hall1
    simp only [Bool.and_eq_true,decide_eq_true_eq] at z
    exact z.2
   obtain ⟨hb1,hb2⟩:=bytes_nats hby.1
   refine Δ (fun z=>absurd z (by decide)) (fun _=>?_)
   left
   refine Δ (fun z=>absurd z (by decide)) (fun _=>?_)
   left
   refine Δ (fun z=>absurd z (by decide)) (fun _=>?_)
   left
   refine ⟨c,_,_,_,rfl,rfl,hC',zs_at (ga 2),?_⟩
   left
   refine ⟨c,_,_,_,rfl,rfl,hC',zs_at (ga 1),?_⟩
   left
   refine ⟨c,_,rfl,hC',fun S hS=>?_⟩
   have hcut:=zs_cut (zs:=zs) (p:=at_+3) (n:=nn) hl3
   rw [hdr3,hb1] at hcut
   rw [show (at_:Int)+3=((at_+3:Nat):Int) by omega,hcut]
   have hMS:=hM.new (o:=.lst (ν1 (Ra23Neutral.nats (rest.take nn)))) hS
   have hRS:upd H' S (.lst (ν1 (Ra23Neutral.nats (rest.take nn)))) R=some (.lst (rep.map V.int)):=by rw [ψ (ρ hRr hS)]; exact hRr
   have hsS:Δ7 H (upd H' S (.lst (ν1 (Ra23Neutral.nats (rest.take nn))))):=υ0 hs (χ0 hs hS)
   have hSS:upd H' S (.lst (ν1 (Ra23Neutral.nats (rest.take nn)))) S=some (.lst (ν1 (Ra23Neutral.nats (rest.take nn)))):=ο
   generalize upd H' S (.lst (ν1 (Ra23Neutral.nats (rest.take nn))))=H2 at hMS hRS hsS hSS ⊢
   left
   refine ⟨d,m,hv,a,S,Ra23Neutral.nats (rest.take nn),rfl,hMS,hSS,by unfold Ra23Neutral.nats; rw [List.length_map]; exact hby.2,hb2,fun wb L hL=>?_,fun w0 w1 H3 L q' m' tt hq' hL hrun hM3 k3 hLL0=>?_⟩
   ·have hst:=step_run_no (s:=cpu m) (mm:=rest.take nn) wb
    have hln:=lenOf hst
    have hRL:upd H2 L (.lst [.int (-2)]) R=some (.lst (rep.map V.int)):=by rw [ψ (ρ hRS hL)]; exact hRS
    have nLR:L≠R:=Ne.symm (ρ hRS hL)
    have hLL:upd H2 L (.lst [.int (-2)]) L=some (.lst (([-2]:List Int).map V.int)):=ο
    have hMM:=hMS.new (o:=.lst [.int (-2)]) hL
    have sss:Δ7 H (upd H2 L (.lst [.int (-2)])):=υ0 hsS (χ0 hsS hL)
    generalize upd H2 L (.lst [.int (-2)])=H3 at hRL hLL hMM sss ⊢
    left
    refine ⟨.inl ⟨rfl,_,SqL.of hRL⟩,?_⟩
    left
    refine ⟨L,_,rfl,.inl (SqL.of hLL),?_⟩
    left
    refine θ2 hRL (by rw [List.length_map]; omega) ?_
    left
    refine ⟨.inl ⟨rfl,_,SqL.of ο⟩,?_⟩
    left
    refine ⟨R,L,_,_,rfl,rfl,ο,(by rw [ψ nLR]; exact hLL),(by rw [List.length_append,List.length_map]; show rep.length+1+_≤_; first | omega | (rw [List.length_map]; omega)),?_⟩
    rw [ψ3]
    exact θe (at':=at_+3+nn) hk (by omega) (by omega) hMM nR fr hR0 sss (by rw [hdr]; exact hcs') hall he hst
   ·have hst:=step_run (m:=m) (mm:=rest.take nn) w0 w1 hrun
    have hln:=lenOf hst
    have hRL:H3 R=some (.lst (rep.map V.int)):=k3 R _ hRS nR.1 nR.2.1
    have nLR:L≠R:=Ne.symm (ρ hRS hL)
    have hLL:H3 L=some (.lst (((runA tt (chg (fun p=>(Ra23Neutral.nats (rest.take nn)).getD p 0) m'.mem 65536)).map fun n:Nat=>(n:Int)).map V.int)):=by rw [← νf]; exact hLL0
    have sss:Δ7 H H3:=fun b o e=>k3 b o (hsS b o e) (ρ e fr.1) (ρ e fr.2.1)
    have nR3:R≠d.a∧R≠d.r∧R≠q':=⟨nR.1,nR.2.1,ρ hRS hq'⟩
    have fr3:H d.a=none∧H d.r=none∧H q'=none:=⟨fr.1,fr.2.1,χ0 hsS hq'⟩
    left
    refine ⟨.inl ⟨rfl,_,SqL.of hRL⟩,?_⟩
    left
    refine ⟨L,_,rfl,.inl (SqL.of hLL),?_⟩
    rw [List.length_map]
    left
    refine θ2 hRL (by rw [List.length_map]; omega) ?_
    left
    refine ⟨.inl ⟨rfl,_,SqL.of ο⟩,?_⟩
    left
    refine ⟨R,L,_,_,rfl,rfl,ο,(by rw [ψ nLR]; exact hLL),(by rw [List.length_append,List.length_map]; show rep.length+1+_≤_; first | omega | (rw [List.length_map]; omega)),?_⟩
    rw [ψ3]
    exact θe (d:={d with q:=q'}) (at':=at_+3+nn) hk (by omega) (by omega) hM3 nR3 fr3 hR0 sss (by rw [hdr]; exact hcs') hall he hst
 ·have hat:at_=zs.length:=by omega
  subst hat
  rw [List.drop_length] at hcalls
  have hcs:cs=[]:=by
   cases fu with
   | zero=>exact (Option.some.inj hcalls).symm
   | succ f=>exact (Option.some.inj hcalls).symm
  subst hcs
  left
  refine hq H' R hs ?_
  rw [he]
  show H' R=some (.lst ((rep++[]).map V.int))
  rw [List.append_nil]
  exact hRr
end
end BM
open PySem PySem.W L2
namespace BM
noncomputable def gT (P:Params) (a:Nat):Option Obj:=match (υj P).get a with
  | some ⟨_,_,.freed,_⟩=>none
  | o=>o
theorem gT_get {P:Params} {a:Nat} {o:Obj} (h:a < 969) (e:gT P a=some o):(hH P).get? a=some o:=by
  unfold hH Heap.get?
  rw [absHeap_at,if_pos h]
  unfold gT at e
  cases q:(υj P).get a with
  | none=>rw [q] at e; cases e
  | some o' =>
    rw [q] at e
    exact e
noncomputable def adrs:List Nat:=[31,30,28,51,50,48,71,70,68,766,765,763]++List.range 969
noncomputable def bK (P:Params):Frag:=adrs.filterMap fun a=>(gT P a).map fun o=>(a,o)
theorem look_of (g:Nat→Option Obj):∀ (l:List Nat) (a:Nat),(l.filterMap fun a=>(g a).map fun o=>(a,o)).lookup a=if a∈l then g a else none
  | [],a=>rfl
  | x::l,a=>by
    rw [List.filterMap_cons]
    cases q:g x with
    | none =>
      show (l.filterMap fun a=>(g a).map fun o=>(a,o)).lookup a=_
      rw [look_of g l a]
      by_cases c:a=x
      · subst c
        rw [q,if_pos (List.mem_cons_self)]
        split <;> rfl
      · by_cases d:a∈l
        · rw [if_pos d,if_pos (List.mem_cons_of_mem _ d)]
        · rw [if_neg d,if_neg (by simp [c,d])]
    | some ox =>
      show ((x,ox)::l.filterMap fun a=>(g a).map fun o=>(a,o)).lookup a=_
      rw [List.lookup_cons]
      by_cases c:a=x
      · subst c
        rw [beq_self_eq_true,if_pos (List.mem_cons_self),q]
      · rw [beq_false_of_ne c]
        show (l.filterMap fun a=>(g a).map fun o=>(a,o)).lookup a=_
        rw [look_of g l a]
        by_cases d:a∈l
        · rw [if_pos d,if_pos (List.mem_cons_of_mem _ d)]
        · rw [if_neg d,if_neg (by simp [c,d])]
theorem adrs_lt {a:Nat} (h:a < 969):a∈adrs:=List.mem_append.mpr (.inr (List.mem_range.mpr h))
theorem adrs_mem {a:Nat} (h:a∈adrs):a < 969:=by
  rcases List.mem_append.mp h with z | z
  · simp only [List.mem_cons,List.not_mem_nil,or_false] at z; omega
  · exact List.mem_range.mp z
theorem bK_at {P:Params} {a:Nat} {o:Obj} (h:a < 969) (e:gT P a=some o):(bK P).lookup a=some o:=by
  unfold bK
  rw [look_of,if_pos (adrs_lt h)]
  exact e
theorem bK_in {P:Params} {h:Heap} (Y:∀ b o,(hH P).get? b=some o→h.get? b=some o):(bK P).In h:=fun a o e=>by
  have e':(bK P).lookup a=some o:=e
  unfold bK at e'
  rw [look_of] at e'
  by_cases c:a∈adrs
  · rw [if_pos c] at e'
    exact Y a o (gT_get (adrs_mem c) e')
  · rw [if_neg c] at e'
    cases e'
noncomputable def obj (P:Params) (f:Nat):Obj:=(gT P f).getD default
noncomputable def υd (P:Params) (f:Nat):FuncData:=match (obj P f).data with | .func fd=>fd | _=>default
noncomputable def refN:Value→Nat
  | .ref a=>a
  | _=>0
noncomputable def codeO (o:Option Obj) (q:Str):Bool:=match o with
  | some ⟨_,_,.fields vs,_⟩=>(match vs.toList with | _::.str n _::_=>n == q | _=>false)
  | _=>false
theorem codeIn_of {P:Params} {cd:Value} {c:Nat} {q:Str} (e:cd=.ref c) (h:c < 969) (z:codeO (gT P c) q=true):codeIn (bK P) cd q=true:=by
  subst e
  cases k:gT P c with
  | none=>rw [k] at z; cases z
  | some o =>
    rw [k] at z
    unfold codeIn
    dsimp only
    rw [bK_at h k]
    exact z
theorem Ξ0 {P:Params} {f:Nat} {qual:Str} {st:Stmt} (h0:f < 969:=by decide) (h1:gT P f=some ⟨(obj P f).cls,(obj P f).dict,.func (υd P f),(obj P f).slots⟩:=by kernel_rfl) (h2:υd P f=fnOf qual qual (L2.Φd st) (L2.θ7 st) (L2.ξ st) .none (υd P f).kwdefaults (υd P f).doc (υd P f).pyModule (υd P f).annotations (υd P f).code (υd P f).closureTuple:=by kernel_rfl)
    (h3:(υd P f).code=.ref (refN (υd P f).code):=by kernel_rfl) (h4:decide (refN (υd P f).code < 969)=true:=by kernel_rfl) (h5:codeO (gT P (refN (υd P f).code)) qual=true:=by kernel_rfl):HasF (bK P) f qual st:=⟨υd P f,⟨⟨_,_,_,_,_,_,_,_,_,h2,bK_at h0 h1,codeIn_of h3 (of_decide_eq_true h4) h5⟩,by
  unfold keepIn
  dsimp only
  rw [bK_at h0 h1]⟩⟩
theorem f_signed (P:Params):HasF (bK P) 82 "signed" (top 8):=Ξ0
theorem νl (P:Params):HasF (bK P) 89 "signed_double" (top 9):=Ξ0
theorem f_order (P:Params):HasF (bK P) 96 "order" (top 10):=Ξ0
theorem f_conclude (P:Params):HasF (bK P) 103 "conclude" (top 11):=Ξ0
theorem f_need_even (P:Params):HasF (bK P) 110 "need_even" (top 12):=Ξ0
theorem f_need_room (P:Params):HasF (bK P) 117 "need_room" (top 13):=Ξ0
theorem f_need_unit (P:Params):HasF (bK P) 124 "need_unit" (top 14):=Ξ0
theorem f_half_at (P:Params):HasF (bK P) 131 "half_at" (top 15):=Ξ0
theorem f_put_half (P:Params):HasF (bK P) 138 "put_half" (top 16):=Ξ0
theorem f_word_at (P:Params):HasF (bK P) 145 "word_at" (top 17):=Ξ0
theorem f_put_word (P:Params):HasF (bK P) 152 "put_word" (top 18):=Ξ0
theorem f_pair_at (P:Params):HasF (bK P) 159 "pair_at" (top 19):=Ξ0
theorem f_put_pair (P:Params):HasF (bK P) 166 "put_pair" (top 20):=Ξ0
theorem f_place_told (P:Params):HasF (bK P) 173 "place_told" (top 21):=Ξ0
theorem f_halves_at (P:Params):HasF (bK P) 180 "halves_at" (top 23):=Ξ0
theorem f_fitted (P:Params):HasF (bK P) 187 "fitted" (top 24):=Ξ0
theorem f_put_halves (P:Params):HasF (bK P) 194 "put_halves" (top 25):=Ξ0
theorem οf (P:Params):HasF (bK P) 201 "move_before_last" (top 26):=Ξ0
theorem f_pack (P:Params):HasF (bK P) 206 "pack" (top 27):=Ξ0
theorem f_unpack (P:Params):HasF (bK P) 211 "unpack" (top 28):=Ξ0
theorem θn (P:Params):HasF (bK P) 219 "magnitude_at" (top 31):=Ξ0
theorem f_minus_at (P:Params):HasF (bK P) 226 "minus_at" (top 32):=Ξ0
theorem f_packed_at (P:Params):HasF (bK P) 233 "packed_at" (top 33):=Ξ0
theorem f_put_packed (P:Params):HasF (bK P) 240 "put_packed" (top 34):=Ξ0
theorem ηn (P:Params):HasF (bK P) 247 "packed_limit" (top 35):=Ξ0
theorem ξl (P:Params):HasF (bK P) 254 "settle_packed" (top 37):=Ξ0
theorem f_put_second (P:Params):HasF (bK P) 261 "put_second" (top 38):=Ξ0
theorem υf (P:Params):HasF (bK P) 268 "compare" (top 39):=Ξ0
theorem ξn (P:Params):HasF (bK P) 275 "add" (top 41):=Ξ0
theorem χd (P:Params):HasF (bK P) 282 "subtract" (top 43):=Ξ0
theorem f_need_zeros (P:Params):HasF (bK P) 289 "need_zeros" (top 45):=Ξ0
theorem ωd (P:Params):HasF (bK P) 296 "multiply" (top 46):=Ξ0
theorem ζh (P:Params):HasF (bK P) 303 "divide" (top 48):=Ξ0
theorem f_two_numbers (P:Params):HasF (bK P) 311 "two_numbers" (top 51):=Ξ0
theorem f_fits_word (P:Params):HasF (bK P) 318 "fits_word" (top 53):=Ξ0
theorem f_settle (P:Params):HasF (bK P) 325 "settle" (top 54):=Ξ0
theorem τl (P:Params):HasF (bK P) 332 "make_positive" (top 55):=Ξ0
theorem υl (P:Params):HasF (bK P) 339 "make_negative" (top 56):=Ξ0
theorem φl (P:Params):HasF (bK P) 346 "load_and_test" (top 57):=Ξ0
theorem f_negate (P:Params):HasF (bK P) 353 "negate" (top 58):=Ξ0
theorem f_settle_bits (P:Params):HasF (bK P) 360 "settle_bits" (top 59):=Ξ0
theorem ωb (P:Params):HasF (bK P) 367 "bits_and" (top 60):=Ξ0
theorem φc (P:Params):HasF (bK P) 374 "bits_or" (top 62):=Ξ0
theorem υ5 (P:Params):HasF (bK P) 381 "bits_exclusive" (top 64):=Ξ0
theorem τf (P:Params):HasF (bK P) 388 "compare_unsigned" (top 66):=Ξ0
theorem Ξi (P:Params):HasF (bK P) 395 "compare_signed" (top 67):=Ξ0
theorem f_load (P:Params):HasF (bK P) 402 "load" (top 68):=Ξ0
theorem Ωi (P:Params):HasF (bK P) 409 "add" (top 69):=Ξ0
theorem χb (P:Params):HasF (bK P) 416 "subtract" (top 71):=Ξ0
theorem ψb (P:Params):HasF (bK P) 423 "multiply" (top 73):=Ξ0
theorem Ξd (P:Params):HasF (bK P) 430 "divide" (top 75):=Ξ0
theorem Ψg (P:Params):HasF (bK P) 437 "settle_unsigned" (top 77):=Ξ0
theorem νn (P:Params):HasF (bK P) 444 "add_unsigned" (top 78):=Ξ0
theorem φd (P:Params):HasF (bK P) 451 "subtract_unsigned" (top 79):=Ξ0
theorem f_with_number (P:Params):HasF (bK P) 459 "with_number" (top 81):=Ξ0
theorem f_link (P:Params):HasF (bK P) 466 "link" (top 83):=Ξ0
theorem ωi (P:Params):HasF (bK P) 473 "jump_with_link" (top 84):=Ξ0
theorem Ωg (P:Params):HasF (bK P) 480 "jump_with_count" (top 85):=Ξ0
theorem Γd (P:Params):HasF (bK P) 487 "jump_on_condition" (top 86):=Ξ0
theorem f_jump (P:Params):HasF (bK P) 495 "jump" (top 88):=Ξ0
theorem ω7 (P:Params):HasF (bK P) 502 "set_condition_and_mask" (top 90):=Ξ0
theorem θl (P:Params):HasF (bK P) 509 "two_registers" (top 91):=Ξ0
theorem ιn (P:Params):HasF (bK P) 516 "examine_bits" (top 93):=Ξ0
theorem f_move_single (P:Params):HasF (bK P) 523 "move" (top 94):=Ξ0
theorem f_settle_byte (P:Params):HasF (bK P) 530 "settle_byte" (top 96):=Ξ0
theorem f_byte_and (P:Params):HasF (bK P) 537 "byte_and" (top 97):=Ξ0
theorem Δi (P:Params):HasF (bK P) 544 "compare" (top 98):=Ξ0
theorem f_byte_or (P:Params):HasF (bK P) 551 "byte_or" (top 100):=Ξ0
theorem Φi (P:Params):HasF (bK P) 558 "byte_exclusive" (top 101):=Ξ0
theorem f_one_byte (P:Params):HasF (bK P) 566 "one_byte" (top 103):=Ξ0
theorem f_right (P:Params):HasF (bK P) 573 "right" (top 105):=Ξ0
theorem f_left (P:Params):HasF (bK P) 580 "left" (top 106):=Ξ0
theorem Ωm (P:Params):HasF (bK P) 587 "right_signed" (top 107):=Ξ0
theorem f_left_signed (P:Params):HasF (bK P) 594 "left_signed" (top 108):=Ξ0
theorem f_pair_right (P:Params):HasF (bK P) 601 "pair_right" (top 109):=Ξ0
theorem f_pair_left (P:Params):HasF (bK P) 608 "pair_left" (top 110):=Ξ0
theorem ψd (P:Params):HasF (bK P) 615 "pair_right_signed" (top 111):=Ξ0
theorem ξf (P:Params):HasF (bK P) 622 "pair_left_signed" (top 112):=Ξ0
theorem f_shift (P:Params):HasF (bK P) 630 "shift" (top 114):=Ξ0
theorem κl (P:Params):HasF (bK P) 637 "step_is_above" (top 116):=Ξ0
theorem f_jump_above (P:Params):HasF (bK P) 644 "jump_above" (top 117):=Ξ0
theorem Γi (P:Params):HasF (bK P) 651 "jump_not_above" (top 118):=Ξ0
theorem χi (P:Params):HasF (bK P) 656 "registers_from" (top 119):=Ξ0
theorem f_store_many (P:Params):HasF (bK P) 663 "store_many" (top 120):=Ξ0
theorem f_load_many (P:Params):HasF (bK P) 670 "load_many" (top 121):=Ξ0
theorem ιl (P:Params):HasF (bK P) 678 "two_and_place" (top 123):=Ξ0
theorem f_store_half (P:Params):HasF (bK P) 685 "store_half" (top 125):=Ξ0
theorem f_load_place (P:Params):HasF (bK P) 692 "load_place" (top 126):=Ξ0
theorem f_store_byte (P:Params):HasF (bK P) 699 "store_byte" (top 127):=Ξ0
theorem f_load_byte (P:Params):HasF (bK P) 706 "load_byte" (top 128):=Ξ0
theorem ρl (P:Params):HasF (bK P) 713 "multiply_half" (top 129):=Ξ0
theorem Ψm (P:Params):HasF (bK P) 720 "store_packed" (top 130):=Ξ0
theorem f_load_packed (P:Params):HasF (bK P) 727 "load_packed" (top 131):=Ξ0
theorem f_store_word (P:Params):HasF (bK P) 734 "store_word" (top 132):=Ξ0
theorem f_with_word (P:Params):HasF (bK P) 742 "with_word" (top 134):=Ξ0
theorem ψi (P:Params):HasF (bK P) 749 "one_and_memory" (top 135):=Ξ0
theorem f_take_digit (P:Params):HasF (bK P) 777 "take_digit" (top 141):=Ξ0
theorem κn (P:Params):HasF (bK P) 784 "edited_digit" (top 142):=Ξ0
theorem f_edited_byte (P:Params):HasF (bK P) 791 "edited_byte" (top 143):=Ξ0
theorem f_edit_text (P:Params):HasF (bK P) 798 "edit_text" (top 144):=Ξ0
theorem f_edit (P:Params):HasF (bK P) 805 "edit" (top 145):=Ξ0
theorem ψl (P:Params):HasF (bK P) 812 "edit_and_mark" (top 146):=Ξ0
theorem ρf (P:Params):HasF (bK P) 819 "lower_half_moved" (top 148):=Ξ0
theorem Δd (P:Params):HasF (bK P) 826 "higher_half_moved" (top 149):=Ξ0
theorem Ψi (P:Params):HasF (bK P) 833 "bits_and" (top 150):=Ξ0
theorem Ξl (P:Params):HasF (bK P) 840 "bits_or" (top 152):=Ξ0
theorem τa (P:Params):HasF (bK P) 847 "bits_exclusive" (top 154):=Ξ0
theorem f_move_texts (P:Params):HasF (bK P) 855 "move" (top 157):=Ξ0
theorem f_join_texts (P:Params):HasF (bK P) 862 "join_texts" (top 159):=Ξ0
theorem Γl (P:Params):HasF (bK P) 869 "compare" (top 160):=Ξ0
theorem f_translate (P:Params):HasF (bK P) 876 "translate" (top 162):=Ξ0
theorem f_search (P:Params):HasF (bK P) 883 "search" (top 163):=Ξ0
theorem f_two_texts (P:Params):HasF (bK P) 890 "two_texts" (top 164):=Ξ0
theorem ζn (P:Params):HasF (bK P) 898 "perform_long" (top 168):=Ξ0
theorem Γ7 (P:Params):HasF (bK P) 905 "perform_indexed" (top 169):=Ξ0
theorem f_perform (P:Params):HasF (bK P) 912 "perform" (top 170):=Ξ0
theorem f_execute (P:Params):HasF (bK P) 919 "execute" (top 171):=Ξ0
theorem f_step (P:Params):HasF (bK P) 926 "step" (top 172):=Ξ0
theorem f_run_steps (P:Params):HasF (bK P) 933 "run_steps" (top 173):=Ξ0
theorem f_put_value (P:Params):HasF (bK P) 940 "put_value" (top 181):=Ξ0
theorem f_told_value (P:Params):HasF (bK P) 947 "told_value" (top 182):=Ξ0
theorem Δl (P:Params):HasF (bK P) 954 "changed_bytes" (top 183):=Ξ0
theorem f_run_answer (P:Params):HasF (bK P) 961 "run_answer" (top 184):=Ξ0
theorem f_answers (P:Params):HasF (bK P) 968 "answers" (top 185):=Ξ0
end BM
open PySem PySem.W L2
namespace BM
noncomputable def esOf (P:Params) (a:Nat):Array DictEntry:=match (obj P a).data with | .dict es _=>es | _=>#[]
noncomputable def epOf (P:Params) (a:Nat):Nat:=match (obj P a).data with | .dict _ n=>n | .seq _ n=>n | _=>0
noncomputable def itOf (P:Params) (a:Nat):Array Value:=match (obj P a).data with | .seq xs _=>xs | _=>#[]
noncomputable def cdOf (P:Params) (a:Nat):ClassData:=match (obj P a).data with | .cls cd=>cd | _=>default
noncomputable def slOf (P:Params) (a i:Nat):Option Value:=(obj P a).slots.toList.getD i none
noncomputable def refIs (v:Value) (a:Nat):Bool:=match v with | .ref b=>b == a | _=>false
noncomputable def okEs:List DictEntry→List (Int×Addr)→Bool
 | [],[]=>true
 | e::es,kv::kvs=>Value.isInt kv.1 e.key && (e.hash == hashInt kv.1) && refIs e.val kv.2 && okEs es kvs
 | _,_=>false
theorem refIs_eq {v:Value} {a:Nat} (h:refIs v a=true):v=.ref a:=by
 unfold refIs at h
 split at h
 ·rw [beq_iff_eq.mp h]
 ·cases h
theorem okEs_ok {Pr:Program} {w:World}:∀ {es:List DictEntry} {kvs:List (Int×Addr)},okEs es kvs=true→(∀ e∈es,∃ k,(τ5 Pr w).is k e.key=true∧e.hash=(τ5 Pr w).hash k)∧Pairs (τ5 Pr w) es (kvs.map fun p=>((Sum.inl p.1:Key),Value.ref p.2))
 | [],[],_=>⟨fun e h=>absurd h (by simp),.nil⟩
 | [],_::_,h=>by cases h
 | _::_,[],h=>by cases h
 | e::es,kv::kvs,h=>by
  unfold okEs at h
  simp only [Bool.and_eq_true] at h
  obtain ⟨⟨⟨h1,h2⟩,h3⟩,h4⟩:=h
  obtain ⟨i1,i2⟩:=okEs_ok (Pr:=Pr) (w:=w) h4
  refine ⟨fun e' he=>?_,.cons h1 (refIs_eq h3) i2⟩
  rcases List.mem_cons.mp he with z | z
  ·subst z
   exact ⟨Sum.inl kv.1,h1,beq_iff_eq.mp h2⟩
  ·exact i1 e' z
theorem kd_of {Pr:Program} {w:World} {a:Nat} {kvs:List (Int×Addr)} (h:a < 969) (hs:(a == sysModules)=false) (h1:gT w.params a=some ⟨.type "dict",none,.dict (esOf w.params a) (epOf w.params a),#[]⟩) (h2:okEs (esOf w.params a).toList kvs=true) (hn:(kvs.map (·.1)).Nodup):θ9 Pr w (bK w.params) a kvs:=by
 refine ⟨hs,fun hp X=>⟨_,_,_,X _ _ (bK_at h h1),⟨rfl,rfl,rfl⟩,rfl,?_,?_,?_⟩⟩
 ·intro e he
  exact (okEs_ok h2).1 e (Array.mem_toList_iff.mpr he)
 ·exact (okEs_ok h2).2
 ·rw [List.map_map]
  have e:((fun x=>x.1) ∘ fun p:Int×Addr=>((Sum.inl p.1:Key),Value.ref p.2))=(Sum.inl:Int→Key) ∘ (fun p:Int×Addr=>p.1):=rfl
  rw [e,← List.map_map]
  exact List.Pairwise.map _ (fun a b hab z=>hab (Sum.inl.inj z)) hn
noncomputable def okIt:List Value→List Int→Bool
 | [],[]=>true
 | v::vs,n::ns=>Value.isInt n v && okIt vs ns
 | _,_=>false
theorem okIt_ok:∀ {vs:List Value} {ns:List Int},okIt vs ns=true→τ2 (ns.map V.int) vs
 | [],[],_=>.nil
 | [],_::_,h=>by cases h
 | _::_,[],h=>by cases h
 | v::vs,n::ns,h=>by
  unfold okIt at h
  simp only [Bool.and_eq_true] at h
  obtain ⟨t,e⟩:=Value.isInt_shape h.1
  exact .cons ⟨t,e⟩ (okIt_ok h.2)
theorem sq_of {P:Params} {a:Nat} {ns:List Int} (h:a < 969) (h1:gT P a=some ⟨.type "tuple",(obj P a).dict,.seq (itOf P a) (epOf P a),(obj P a).slots⟩) (h2:okIt (itOf P a).toList ns=true) (hl:decide ((itOf P a).size≤100)=true):∀ H,SqT (bK P) H a (ns.map V.int):=fun H =>
 .inr ⟨_,_,_,bK_at h h1,rfl,rfl,Nat.le_trans (of_decide_eq_true hl) (by decide),okIt_ok h2⟩
theorem t_PLUS (P:Params):∀ H,SqT (bK P) H 212 [.int 10,.int 12,.int 14,.int 15]:=sq_of (ns:=[10,12,14,15]) (by decide) (by kernel_rfl) (by kernel_rfl) (by kernel_rfl)
theorem t_HALVES_LONG (P:Params):∀ H,SqT (bK P) H 891 [.int 1,.int 2,.int 2,.int 3]:=sq_of (ns:=[1,2,2,3]) (by decide) (by kernel_rfl) (by kernel_rfl) (by kernel_rfl)
noncomputable def ρa:List (Int×Addr):=[(248,261),(249,268),(250,275),(251,282),(252,296),(253,303)]
theorem χa (Pr:Program) (w:World):θ9 Pr w (bK w.params) 304 ρa:=kd_of (by decide) (by decide) (by kernel_rfl) (by kernel_rfl) (by decide)
noncomputable def χ7:List (Int×Addr):=[(16,332),(17,339),(18,346),(19,353),(20,367),(21,388),(22,374),(23,381),(24,402),(25,395),(26,409),(27,416),(28,423),(29,430),(30,444),(31,451)]
theorem Ξ7 (Pr:Program) (w:World):θ9 Pr w (bK w.params) 452 χ7:=kd_of (by decide) (by decide) (by kernel_rfl) (by kernel_rfl) (by decide)
noncomputable def kv_JUMPS:List (Int×Addr):=[(5,473),(6,480),(7,487)]
theorem t_JUMPS (Pr:Program) (w:World):θ9 Pr w (bK w.params) 488 kv_JUMPS:=kd_of (by decide) (by decide) (by kernel_rfl) (by kernel_rfl) (by decide)
noncomputable def ρc:List (Int×Addr):=[(145,516),(146,523),(148,537),(149,544),(150,551),(151,558)]
theorem Φc (Pr:Program) (w:World):θ9 Pr w (bK w.params) 559 ρc:=kd_of (by decide) (by decide) (by kernel_rfl) (by kernel_rfl) (by decide)
noncomputable def kv_SHIFTS:List (Int×Addr):=[(136,573),(137,580),(138,587),(139,594),(140,601),(141,608),(142,615),(143,622)]
theorem t_SHIFTS (Pr:Program) (w:World):θ9 Pr w (bK w.params) 623 kv_SHIFTS:=kd_of (by decide) (by decide) (by kernel_rfl) (by kernel_rfl) (by decide)
noncomputable def τd:List (Int×Addr):=[(134,644),(135,651),(144,663),(152,670)]
theorem νe (Pr:Program) (w:World):θ9 Pr w (bK w.params) 671 τd:=kd_of (by decide) (by decide) (by kernel_rfl) (by kernel_rfl) (by decide)
noncomputable def τb:List (Int×Addr):=[(64,685),(65,692),(66,699),(67,706),(76,713),(78,720),(79,727),(80,734)]
theorem Ψb (Pr:Program) (w:World):θ9 Pr w (bK w.params) 735 τb:=kd_of (by decide) (by decide) (by kernel_rfl) (by kernel_rfl) (by decide)
noncomputable def kv_JOINS:List (Int×Addr):=[(209,819),(211,826),(212,833),(214,840),(215,847)]
theorem t_JOINS (Pr:Program) (w:World):θ9 Pr w (bK w.params) 848 kv_JOINS:=kd_of (by decide) (by decide) (by kernel_rfl) (by kernel_rfl) (by decide)
theorem k_mc (P:Params):MC (bK P) 71:=⟨⟨by kernel_rfl,by kernel_rfl,by kernel_rfl,by kernel_rfl⟩,(by show PySem.W.findIn _ _ _=_; kernel_rfl),(by show PySem.W.findIn _ _ _=_; kernel_rfl),(by show PySem.W.findIn _ _ _=_; kernel_rfl),(by show PySem.W.findIn _ _ _=_; kernel_rfl),(by show PySem.W.findIn _ _ _=_; kernel_rfl),(by show PySem.W.findIn _ _ _=_; kernel_rfl)⟩
theorem k_ec (P:Params):EC (bK P) 766:=⟨⟨by kernel_rfl,by kernel_rfl,by kernel_rfl,by kernel_rfl⟩,(by show PySem.W.findIn _ _ _=_; kernel_rfl),(by show PySem.W.findIn _ _ _=_; kernel_rfl),(by show PySem.W.findIn _ _ _=_; kernel_rfl),(by show PySem.W.findIn _ _ _=_; kernel_rfl),(by show PySem.W.findIn _ _ _=_; kernel_rfl),(by show PySem.W.findIn _ _ _=_; kernel_rfl),(by show PySem.W.findIn _ _ _=_; kernel_rfl),(by show PySem.W.findIn _ _ _=_; kernel_rfl)⟩
theorem k_mk (P:Params):Mk (bK P) 71 68:=⟨by kernel_rfl,by kernel_rfl,by kernel_rfl,by kernel_rfl⟩
theorem k_mke (P:Params):Mk (bK P) 766 763:=⟨by kernel_rfl,by kernel_rfl,by kernel_rfl,by kernel_rfl⟩
theorem iniK {P:Params} {f:Nat} {qual:Str} {st:Stmt} (h0:f < 969) (h1:gT P f=some ⟨(obj P f).cls,(obj P f).dict,.func (υd P f),(obj P f).slots⟩) (h2:υd P f=fnOf "__init__" qual (L2.Φd st) (L2.θ7 st) (L2.ξ st) .none (υd P f).kwdefaults (υd P f).doc (υd P f).pyModule (υd P f).annotations (υd P f).code (υd P f).closureTuple)
  (c:Nat) (h3:(υd P f).code=.ref c) (h4:decide (c < 969)=true) (h5:codeO (gT P c) qual=true):Fun (bK P) "__init__" qual st f (υd P f):=⟨⟨_,_,_,_,_,_,_,_,_,h2,bK_at h0 h1,codeIn_of h3 (of_decide_eq_true h4) h5⟩,by
 unfold keepIn
 dsimp only
 rw [bK_at h0 h1]⟩
theorem k_xi1 (P:Params):Fun (bK P) "__init__" "Interruption.__init__" (ω1 (top 1) 0) 28 (υd P 28):=iniK (by decide) (by kernel_rfl) (by kernel_rfl) (refN (υd P 28).code) (by kernel_rfl) (by kernel_rfl) (by kernel_rfl)
theorem k_xi2 (P:Params):Fun (bK P) "__init__" "SupervisorCall.__init__" (ω1 (top 2) 0) 48 (υd P 48):=iniK (by decide) (by kernel_rfl) (by kernel_rfl) (refN (υd P 48).code) (by kernel_rfl) (by kernel_rfl) (by kernel_rfl)
theorem k_mi (P:Params):Fun (bK P) "__init__" "Machine.__init__" (ω1 (top 7) 0) 68 (υd P 68):=iniK (by decide) (by kernel_rfl) (by kernel_rfl) (refN (υd P 68).code) (by kernel_rfl) (by kernel_rfl) (by kernel_rfl)
theorem k_ei (P:Params):Fun (bK P) "__init__" "Editing.__init__" (ω1 (top 140) 0) 763 (υd P 763):=iniK (by decide) (by kernel_rfl) (by kernel_rfl) (refN (υd P 763).code) (by kernel_rfl) (by kernel_rfl) (by kernel_rfl)
theorem xc_of {P:Params} {C N f:Nat} (hC:C < 969) (hN:N < 969) (h1:gT P C=some (excClassObj (cdOf P C).name (cdOf P C).qualname C N (cdOf P C).bases BX.bmE true (cdOf P C).slotNames (cdOf P C).subclasses (cdOf P C).abstract (cdOf P C).collection (obj P C).dict (slOf P C 0) (slOf P C 1) (slOf P C 2) (slOf P C 3) (slOf P C 5) "Exception.__new__"))
  (h2:gT P N=some ⟨(obj P N).cls,(obj P N).dict,.dict (esOf P N) (epOf P N),(obj P N).slots⟩) (h3:(esOf P N).toList.all (fun e=>match e.key with | .str _ _=>true | _=>false)=true)
  (h4:nsFind (esOf P N) "__setattr__"=none) (h5:nsFind (esOf P N) "number"=none) (h6:nsFind (esOf P N) "__getattribute__"=none) (h7:nsFind (esOf P N) "__getattr__"=none) (h8:nsFind (esOf P N) "__init__"=some (.ref f)):XC (bK P) C f :=
 ⟨_,_,N,_,_,_,_,_,_,_,_,_,_,_,_,_,_,bK_at hC h1,bK_at hN h2,rfl,fun e he=>(by
  have z:=List.all_eq_true.mp h3 e (Array.mem_toList_iff.mpr he)
  split at z
  ·rename_i n t hk
   exact ⟨n,t,hk⟩
  ·cases z),h4,h5,h6,h7,h8⟩
theorem k_xc1 (P:Params):XC (bK P) 31 28:=xc_of (N:=30) (by decide) (by decide) (by kernel_rfl) (by kernel_rfl) (by kernel_rfl) (by kernel_rfl) (by kernel_rfl) (by kernel_rfl) (by kernel_rfl) (by kernel_rfl)
theorem k_xc2 (P:Params):XC (bK P) 51 48:=xc_of (N:=50) (by decide) (by decide) (by kernel_rfl) (by kernel_rfl) (by kernel_rfl) (by kernel_rfl) (by kernel_rfl) (by kernel_rfl) (by kernel_rfl) (by kernel_rfl)
theorem k_fn1 (P:Params):PySem.W.isFn (bK P) (.ref 28)=true∧PySem.W.keepIn (bK P) (.ref 31)=true:=⟨by kernel_rfl,by kernel_rfl⟩
theorem k_fn2 (P:Params):PySem.W.isFn (bK P) (.ref 48)=true∧PySem.W.keepIn (bK P) (.ref 51)=true:=⟨by kernel_rfl,by kernel_rfl⟩
end BM
open PySem PySem.W L2
namespace BM
theorem ζ0 {mg:Str→Option Value} (h:Xg mg=true) (k:Nat) {x:String} {a:Nat} (e:gRefs[k]?=some (x,a)):mg (Str.ofString x)=some (.ref a):=by
 unfold Xg at h
 simp only [Bool.and_eq_true] at h
 have z:=List.all_eq_true.mp h.1.1 (x,a) (List.mem_of_getElem? e)
 dsimp only at z
 split at z
 ·rename_i b q
  rw [q,beq_iff_eq.mp z]
 ·cases z
theorem κ7 {mg:Str→Option Value} (h:Xg mg=true) (k:Nat) {x:String} {i:Int} (e:gInts[k]?=some (x,i)):GI mg (Str.ofString x) i:=by
 unfold Xg at h
 simp only [Bool.and_eq_true] at h
 have z:=List.all_eq_true.mp h.1.2 (x,i) (List.mem_of_getElem? e)
 dsimp only at z
 split at z
 ·rename_i b t q
  exact ⟨t,by rw [q,beq_iff_eq.mp z]⟩
 ·cases z
theorem φa {mg:Str→Option Value} (h:Xg mg=true) (k:Nat) {x:String} (e:gNone[k]?=some x):mg (Str.ofString x)=none:=by
 unfold Xg at h
 simp only [Bool.and_eq_true] at h
 have z:=List.all_eq_true.mp h.2 x (List.mem_of_getElem? e)
 exact Option.isNone_iff_eq_none.mp z
theorem θ0 {K:Frag} {mg:Str→Option Value} {x qual:Str} {st:Stmt} {f:Addr} (e:mg x=some (.ref f)) (F:HasF K f qual st):Has K mg x qual st:=let ⟨fd,F⟩:=F; ⟨f,fd,e,F⟩
theorem look_none {kvs:List (Int×Addr)} {keys:List Nat} (hk:kvs.map (·.1)=keys.map fun n:Nat=>(n:Int)) {op:Nat} (h:op∉keys):kvs.lookup (op:Int)=none:=by
 rw [List.lookup_eq_none_iff]
 intro p hp
 have:p.1∈keys.map fun n:Nat=>(n:Int):=hk ▸ List.mem_map_of_mem hp
 obtain ⟨n,hn,e⟩:=List.mem_map.mp this
 have hne:(op:Int)≠p.1:=fun z=>h ((show op=n by omega) ▸ hn)
 simpa using hne
section
variable {P:Program} {w:World} {K:Frag} {mg:Str→Option Value} {base:Heap}
theorem Ξb {nm:Str} {a:Addr} {kvs:List (Int×Addr)} {keys:List Nat} {lev:Nat} {ps:List Str} {S:Nat→Sp} (hm:mg nm=some (.ref a)) (kd:θ9 P w K a kvs) (hk:kvs.map (·.1)=keys.map fun n:Nat=>(n:Int)) (hf:∀ op,op∈keys→∃ f,kvs.lookup (op:Int)=some f∧Fa P w K mg base lev f ps (S op)):TabAt P w K mg base nm lev ps keys S :=
 ⟨a,kvs,hm,kd,fun op=>⟨hf op,look_none hk⟩⟩
theorem tabOk_of {nm:Str} {a:Addr} {kvs:List (Int×Addr)} {keys:List Nat} {lev:Nat} {ps:List Str} {S:Nat→Sp} {no:Nat→Prop} (hm:mg nm=some (.ref a)) (kd:θ9 P w K a kvs) (hk:kvs.map (·.1)=keys.map fun n:Nat=>(n:Int)) (hf:∀ op,op∈keys→∃ f,kvs.lookup (op:Int)=some f∧Fa P w K mg base lev f ps (S op)) (hno:∀ op,op∉keys→no op):TabOk P w K mg base nm lev ps S no :=
 ⟨a,kvs,hm,kd,fun op=>⟨fun f e=>by
  by_cases c:op∈keys
  ·obtain ⟨f',e',fa⟩:=hf op c
   rw [e] at e'
   cases e'
   exact fa
  ·rw [look_none hk c] at e
   exact absurd e (by simp),fun e=>hno op fun c=>by
  obtain ⟨f',e',_⟩:=hf op c
  rw [e] at e'
  exact absurd e' (by simp)⟩⟩
theorem _root_.L2.Fa.imp {k:Nat} {f:Addr} {ps:List Str} {sp sp':Sp} (c:Fa P w K mg base k f ps sp) (h:∀ vs H Q E,sp' vs H Q E→sp vs H Q E):Fa P w K mg base k f ps sp':=⟨c.kp,let ⟨fd,b,F⟩:=c.ex; ⟨fd,b,F.imp h⟩⟩
end
theorem Fa.eq {P:Program} {w:World} {K:Frag} {mg:Str→Option Value} {base:Heap} {k:Nat} {f:Addr} {ps:List Str} {sp sp':Sp} (e:sp'=sp) (c:Fa P w K mg base k f ps sp):Fa P w K mg base k f ps sp':=e ▸ c
theorem ο6:(fun m k x=>ω2 m 16 k x:M→Nat→Nat→Ra23.End)=(fun m k x=>Ra23.fixed m k ((Ra23.signed x).natAbs:Int)):=by
 funext m k x
 rfl
theorem ξ6:(fun m k x=>ω2 m 17 k x:M→Nat→Nat→Ra23.End)=(fun m k x=>Ra23.fixed m k (-((Ra23.signed x).natAbs:Int))):=by
 funext m k x
 rfl
theorem ν6:(fun m k x=>ω2 m 18 k x:M→Nat→Nat→Ra23.End)=(fun m k x=>.done {Ra23.set m k x with cc:=Ra23.ccOf (Ra23.signed x)}):=by
 funext m k x
 rfl
theorem κ6:(fun m k x=>ω2 m 19 k x:M→Nat→Nat→Ra23.End)=(fun m k x=>Ra23.fixed m k (-(Ra23.signed x))):=by
 funext m k x
 rfl
theorem ι6:(fun m k x=>ω2 m 20 k x:M→Nat→Nat→Ra23.End)=(fun m k x=>.done {Ra23.set m k (m.r k &&& x) with cc:=Ra23.ccOf0 (m.r k &&& x)}):=by
 funext m k x
 rfl
theorem θ6:(fun m k x=>ω2 m 21 k x:M→Nat→Nat→Ra23.End)=(fun m k x=>.done {m with cc:=Ra23.ccBy (m.r k) x}):=by
 funext m k x
 rfl
theorem η6:(fun m k x=>ω2 m 22 k x:M→Nat→Nat→Ra23.End)=(fun m k x=>.done {Ra23.set m k (m.r k ||| x) with cc:=Ra23.ccOf0 (m.r k ||| x)}):=by
 funext m k x
 rfl
theorem ζ6:(fun m k x=>ω2 m 23 k x:M→Nat→Nat→Ra23.End)=(fun m k x=>.done {Ra23.set m k (m.r k ^^^ x) with cc:=Ra23.ccOf0 (m.r k ^^^ x)}):=by
 funext m k x
 rfl
theorem Ω5:(fun m k x=>ω2 m 24 k x:M→Nat→Nat→Ra23.End)=(fun m k x=>.done (Ra23.set m k x)):=by
 funext m k x
 rfl
theorem Ψ5:(fun m k x=>ω2 m 25 k x:M→Nat→Nat→Ra23.End)=(fun m k x=>.done {m with cc:=Ra23.ccBy (Ra23.signed (m.r k)) (Ra23.signed x)}):=by
 funext m k x
 rfl
theorem Φ5:(fun m k x=>ω2 m 26 k x:M→Nat→Nat→Ra23.End)=(fun m k x=>Ra23.fixed m k (Ra23.signed (m.r k)+Ra23.signed x)):=by
 funext m k x
 rfl
theorem Ξ5:(fun m k x=>ω2 m 27 k x:M→Nat→Nat→Ra23.End)=(fun m k x=>Ra23.fixed m k (Ra23.signed (m.r k) - Ra23.signed x)):=by
 funext m k x
 rfl
theorem Δ5:(fun m k x=>ω2 m 28 k x:M→Nat→Nat→Ra23.End)=gMul:=by
 funext m k x
 rfl
theorem Γ5:(fun m k x=>ω2 m 29 k x:M→Nat→Nat→Ra23.End)=gDiv:=by
 funext m k x
 rfl
theorem ω5:(fun m k x=>ω2 m 30 k x:M→Nat→Nat→Ra23.End)=(fun m k x=>.done {Ra23.set m k ((m.r k+x)%Ra23.W) with cc:=Ra23.ccOf0 ((m.r k+x)%Ra23.W)+if Ra23.W≤m.r k+x then 2 else 0}):=by
 funext m k x
 rfl
theorem ψ5:(fun m k x=>ω2 m 31 k x:M→Nat→Nat→Ra23.End)=(fun m k x=>.done {Ra23.set m k ((m.r k+Ra23.W - x)%Ra23.W) with cc:=Ra23.ccOf0 ((m.r k+Ra23.W - x)%Ra23.W)+if x≤m.r k then 2 else 0}):=by
 funext m k x
 rfl
theorem s_JUMPS_5:(fun m hv k b p=>jmp m hv 5 k b p:M→Nat→Nat→Bool→Nat→Ra23.End)=(fun m hv k b p=>.done {Ra23.set m k (Ra23.linked m hv m.at_) with at_:=if b=true then p else m.at_}):=by
 funext m hv k b p
 rfl
theorem s_JUMPS_6:(fun m hv k b p=>jmp m hv 6 k b p:M→Nat→Nat→Bool→Nat→Ra23.End)=(fun m hv k b p=>.done {Ra23.set m k ((m.r k+Ra23.W - 1)%Ra23.W) with at_:=if b=true∧(m.r k+Ra23.W - 1)%Ra23.W≠0 then p else m.at_}):=by
 funext m hv k b p
 rfl
theorem s_JUMPS_7:(fun m hv k b p=>jmp m hv 7 k b p:M→Nat→Nat→Bool→Nat→Ra23.End)=(fun m hv k b p=>.done {m with at_:=if b=true∧Ra23.taken m k=true then p else m.at_}):=by
 funext m hv k b p
 rfl
theorem Ω8:(fun m i p=>sing m 145 i p:M→Nat→Nat→Ra23.End)=(fun m i p=>.done {m with cc:=if m.mem p &&& i=0 then 0 else if m.mem p &&& i=i then 3 else 1}):=by
 funext m i p
 rfl
theorem Ψ8:(fun m i p=>sing m 146 i p:M→Nat→Nat→Ra23.End)=(fun m i p=>.done (Ra23.byteIn m p i)):=by
 funext m i p
 rfl
theorem Φ8:(fun m i p=>sing m 148 i p:M→Nat→Nat→Ra23.End)=(fun m i p=>.done {Ra23.byteIn m p (m.mem p &&& i) with cc:=Ra23.ccOf0 (m.mem p &&& i)}):=by
 funext m i p
 rfl
theorem Ξ8:(fun m i p=>sing m 149 i p:M→Nat→Nat→Ra23.End)=(fun m i p=>.done {m with cc:=Ra23.ccBy (m.mem p) i}):=by
 funext m i p
 rfl
theorem Δ8:(fun m i p=>sing m 150 i p:M→Nat→Nat→Ra23.End)=(fun m i p=>.done {Ra23.byteIn m p (m.mem p ||| i) with cc:=Ra23.ccOf0 (m.mem p ||| i)}):=by
 funext m i p
 rfl
theorem Γ8:(fun m i p=>sing m 151 i p:M→Nat→Nat→Ra23.End)=(fun m i p=>.done {Ra23.byteIn m p (m.mem p ^^^ i) with cc:=Ra23.ccOf0 (m.mem p ^^^ i)}):=by
 funext m i p
 rfl
theorem s_SHIFTS_136:(fun m k n=>shf m 136 k n:M→Nat→Nat→Ra23.End)=(fun m k n=>.done (Ra23.set m k (m.r k / 2^n))):=by
 funext m k n
 show shf m 136 k n=_
 unfold shf
 rw [if_pos rfl]
theorem s_SHIFTS_137:(fun m k n=>shf m 137 k n:M→Nat→Nat→Ra23.End)=(fun m k n=>.done (Ra23.set m k (m.r k*2^n%Ra23.W))):=by
 funext m k n
 show shf m 137 k n=_
 unfold shf
 rw [if_neg (by decide),if_pos rfl]
theorem s_SHIFTS_138:(fun m k n=>shf m 138 k n:M→Nat→Nat→Ra23.End)=(fun m k n=>.done {Ra23.set m k (Ra23.wrap (Ra23.signed (m.r k) / 2^n)) with cc:=Ra23.ccOf (Ra23.signed (m.r k) / 2^n)}):=by
 funext m k n
 show shf m 138 k n=_
 unfold shf
 rw [if_neg (by decide),if_neg (by decide),if_pos rfl]
theorem s_SHIFTS_139:(fun m k n=>shf m 139 k n:M→Nat→Nat→Ra23.End)=gSla:=by
 funext m k n
 show shf m 139 k n=_
 unfold shf
 rw [if_neg (by decide),if_neg (by decide),if_neg (by decide),if_pos rfl]
theorem s_SHIFTS_140:(fun m k n=>shf m 140 k n:M→Nat→Nat→Ra23.End)=(fun m k n=>Φm m k (.done (two m k ((m.r k*2^32+m.r (k+1)) / 2^n)))):=by
 funext m k n
 show shf m 140 k n=_
 unfold shf
 rw [if_neg (by decide),if_neg (by decide),if_neg (by decide),if_neg (by decide),if_pos rfl]
theorem s_SHIFTS_141:(fun m k n=>shf m 141 k n:M→Nat→Nat→Ra23.End)=(fun m k n=>Φm m k (.done (two m k ((m.r k*2^32+m.r (k+1))*2^n%2^64)))):=by
 funext m k n
 show shf m 141 k n=_
 unfold shf
 rw [if_neg (by decide),if_neg (by decide),if_neg (by decide),if_neg (by decide),if_neg (by decide),if_pos rfl]
theorem s_SHIFTS_142:(fun m k n=>shf m 142 k n:M→Nat→Nat→Ra23.End)=(fun m k n=>Φm m k (.done {two m k ((φ0 (m.r k*2^32+m.r (k+1)) / 2^n)%2^64).toNat with cc:=Ra23.ccOf (φ0 (m.r k*2^32+m.r (k+1)) / 2^n)})):=by
 funext m k n
 show shf m 142 k n=_
 unfold shf
 rw [if_neg (by decide),if_neg (by decide),if_neg (by decide),if_neg (by decide),if_neg (by decide),if_neg (by decide),if_pos rfl]
theorem s_SHIFTS_143:(fun m k n=>shf m 143 k n:M→Nat→Nat→Ra23.End)=gSlda:=by
 funext m k n
 show shf m 143 k n=_
 unfold shf
 rw [if_neg (by decide),if_neg (by decide),if_neg (by decide),if_neg (by decide),if_neg (by decide),if_neg (by decide),if_neg (by decide)]
theorem ιa:(fun m k j p=>spn m 134 k j p:M→Nat→Nat→Nat→Ra23.End)=(fun m k j p=>.done {Ra23.set m k (Φ7 m k j) with at_:=if Ra23.signed (stepC m j) < Ra23.signed (Φ7 m k j) then p else m.at_}):=by
 funext m k j p
 show spn m 134 k j p=_
 unfold spn
 rw [if_pos rfl]
theorem θa:(fun m k j p=>spn m 135 k j p:M→Nat→Nat→Nat→Ra23.End)=(fun m k j p=>.done {Ra23.set m k (Φ7 m k j) with at_:=if Ra23.signed (stepC m j) < Ra23.signed (Φ7 m k j) then m.at_ else p}):=by
 funext m k j p
 show spn m 135 k j p=_
 unfold spn
 rw [if_neg (by decide),if_pos rfl]
theorem ηa:(fun m k j p=>spn m 144 k j p:M→Nat→Nat→Nat→Ra23.End)=(fun m k j p=>υc m k j p (.done (stm m k j p (Ra23.span k j).length))):=by
 funext m k j p
 show spn m 144 k j p=_
 unfold spn
 rw [if_neg (by decide),if_neg (by decide),if_pos rfl]
theorem ζa:(fun m k j p=>spn m 152 k j p:M→Nat→Nat→Nat→Ra23.End)=(fun m k j p=>υc m k j p (.done (ldm m k j p (Ra23.span k j).length))):=by
 funext m k j p
 show spn m 152 k j p=_
 unfold spn
 rw [if_neg (by decide),if_neg (by decide),if_neg (by decide)]
theorem ω8:(fun m k p=>sto m 64 k p:M→Nat→Nat→Ra23.End)=(fun m k p=>inM m p 2 (.done (Ra23.put m p 2 (m.r k%65536)))):=by
 funext m k p
 show sto m 64 k p=_
 unfold sto
 rw [if_pos rfl]
theorem ψ8:(fun m k p=>sto m 65 k p:M→Nat→Nat→Ra23.End)=(fun m k p=>.done (Ra23.set m k p)):=by
 funext m k p
 show sto m 65 k p=_
 unfold sto
 rw [if_neg (by decide),if_pos rfl]
theorem χ8:(fun m k p=>sto m 66 k p:M→Nat→Nat→Ra23.End)=(fun m k p=>inM m p 1 (.done (Ra23.put m p 1 (m.r k%256)))):=by
 funext m k p
 show sto m 66 k p=_
 unfold sto
 rw [if_neg (by decide),if_neg (by decide),if_pos rfl]
theorem φ8:(fun m k p=>sto m 67 k p:M→Nat→Nat→Ra23.End)=(fun m k p=>inM m p 1 (.done (Ra23.set m k (m.r k / 256*256+m.mem p)))):=by
 funext m k p
 show sto m 67 k p=_
 unfold sto
 rw [if_neg (by decide),if_neg (by decide),if_neg (by decide),if_pos rfl]
theorem υ8:(fun m k p=>sto m 76 k p:M→Nat→Nat→Ra23.End)=(fun m k p=>inM m p 2 (.done (Ra23.set m k (Ra23.wrap (Ra23.signed (m.r k)*Ra23.signed (Ra23.half (Ra23.get m p 2))))))):=by
 funext m k p
 show sto m 76 k p=_
 unfold sto
 rw [if_neg (by decide),if_neg (by decide),if_neg (by decide),if_neg (by decide),if_pos rfl]
theorem τ8:(fun m k p=>sto m 78 k p:M→Nat→Nat→Ra23.End)=(fun m k p=>inM m p 8 (gCvd m k p)):=by
 funext m k p
 show sto m 78 k p=_
 unfold sto
 rw [if_neg (by decide),if_neg (by decide),if_neg (by decide),if_neg (by decide),if_neg (by decide),if_pos rfl]
theorem ρ8:(fun m k p=>sto m 79 k p:M→Nat→Nat→Ra23.End)=(fun m k p=>inM m p 8 (gCvb m k p)):=by
 funext m k p
 show sto m 79 k p=_
 unfold sto
 rw [if_neg (by decide),if_neg (by decide),if_neg (by decide),if_neg (by decide),if_neg (by decide),if_neg (by decide),if_pos rfl]
theorem ο8:(fun m k p=>sto m 80 k p:M→Nat→Nat→Ra23.End)=(fun m k p=>inM m p 4 (.done (Ra23.put m p 4 (m.r k)))):=by
 funext m k p
 show sto m 80 k p=_
 unfold sto
 rw [if_neg (by decide),if_neg (by decide),if_neg (by decide),if_neg (by decide),if_neg (by decide),if_neg (by decide),if_neg (by decide)]
theorem s_JOINS_209:(jnF 209:Nat→Nat→Nat)=(fun a b=>a / 16*16+b%16):=jnF1
theorem s_JOINS_211:(jnF 211:Nat→Nat→Nat)=(fun a b=>b / 16*16+a%16):=jnF2
theorem s_JOINS_212:(jnF 212:Nat→Nat→Nat)=(fun a b=>a &&& b):=jnF3
theorem s_JOINS_214:(jnF 214:Nat→Nat→Nat)=(fun a b=>a ||| b):=jnF4
theorem s_JOINS_215:(jnF 215:Nat→Nat→Nat)=(fun a b=>a ^^^ b):=jnF5
theorem τ7:∀ op,op∉[16,17,18,19,20,21,22,23,24,25,26,27,28,29,30,31]→∀ m k x,ω2 m op k x=.stop 1 m:=by
 intro op h m k x
 simp only [List.mem_cons,List.not_mem_nil,or_false,not_or] at h
 unfold ω2
 split
 all_goals first | omega | (rw [if_neg (by omega)])
theorem no_JUMPS:∀ op,op∉[5,6,7]→op < 5∨7 < op:=by
 intro op h
 simp only [List.mem_cons,List.not_mem_nil,or_false,not_or] at h
 omega
theorem spF_D {op:Nat} {G:M→Nat→Nat→Nat→Nat→Ra23.End} (_:op < 252) (hG:∀ m p a q b,dcm m op p a q b=G m p a q b) {C CI CS:Addr}:∀ vs H Q E,SpF op C CI CS vs H Q E→SpD G C CI CS vs H Q E:=by
 rintro vs H Q E ⟨d,m,hv,p,a,q,b,e,h1,h2,h3,h4,_,hM,o⟩
 rw [hG] at o
 exact ⟨d,m,hv,p,a,q,b,e,h1,h2,h3,h4,hM,o⟩
theorem spF_E {op:Nat} {G:M→Nat→Nat→Nat→Nat→Ra23.End} (h5:252≤op) (hG:∀ m p a q b,dcm m op p a q b=G m p a q b) {C CI CS:Addr}:∀ vs H Q E,SpF op C CI CS vs H Q E→SpE G C CI CS vs H Q E:=by
 rintro vs H Q E ⟨d,m,hv,p,a,q,b,e,h1,h2,h3,h4,h6,hM,o⟩
 rw [hG] at o
 obtain ⟨i1,i2⟩:=h6 h5
 exact ⟨d,m,hv,p,a,q,b,e,h1,h2,h3,i1,i2,hM,o⟩
theorem dcm_248:∀ m p a q b,dcm m 248 p a q b=gOne m q b fun y=>gDec m p (a+1) (Ξ9 y):=fun _ _ _ _ _=>by unfold dcm; rw [if_pos rfl]
theorem dcm_249:∀ m p a q b,dcm m 249 p a q b=κm m p a q b fun x y=>.done {m with cc:=Ra23.ccBy (Ξ9 x) (Ξ9 y)}:=fun _ _ _ _ _=>by unfold dcm; rw [if_neg (by decide),if_pos rfl]
theorem dcm_250:∀ m p a q b,dcm m 250 p a q b=κm m p a q b fun x y=>gDec m p (a+1) (Ξ9 x+Ξ9 y):=fun _ _ _ _ _=>by unfold dcm; rw [if_neg (by decide),if_neg (by decide),if_pos rfl]
theorem dcm_251:∀ m p a q b,dcm m 251 p a q b=κm m p a q b fun x y=>gDec m p (a+1) (Ξ9 x - Ξ9 y):=fun _ _ _ _ _=>by unfold dcm; rw [if_neg (by decide),if_neg (by decide),if_neg (by decide),if_pos rfl]
theorem dcm_252:∀ m p a q b,dcm m 252 p a q b=gMulD m p a q b:=fun _ _ _ _ _=>by unfold dcm; rw [if_neg (by decide),if_neg (by decide),if_neg (by decide),if_neg (by decide),if_pos rfl]
theorem dcm_253:∀ m p a q b,dcm m 253 p a q b=gDivD m p a q b:=fun _ _ _ _ _=>by unfold dcm; rw [if_neg (by decide),if_neg (by decide),if_neg (by decide),if_neg (by decide),if_neg (by decide)]
section
variable {w:World} {mg:Str→Option Value} {base:Heap}
theorem txt_ok (hx:Xg mg=true):Txt bp w (bK w.params) mg base 71 31 51 where
 mc:=k_mc w.params
 rI:=⟨28,_,k_xc1 w.params,(k_fn1 w.params).1,(k_fn1 w.params).2,ζ0 hx 0 rfl,ok_xi1 (k_xi1 w.params) (φa hx 5 rfl),(k_xi1 w.params).binds (fun _ _ _ _ _ _=>ml2 fun _ _=>rfl)⟩
 rS:=⟨48,_,k_xc2 w.params,(k_fn2 w.params).1,(k_fn2 w.params).2,ζ0 hx 1 rfl,ok_xi2 (k_xi2 w.params) (φa hx 5 rfl),(k_xi2 w.params).binds (fun _ _ _ _ _ _=>ml2 fun _ _=>rfl)⟩
 ne:=by decide
 gMEMORY_SIZE:=κ7 hx 0 rfl
 gPLACE_BITS:=κ7 hx 1 rfl
 gWORD_BITS:=κ7 hx 2 rfl
 gDIGIT:=κ7 hx 3 rfl
 gDIGIT_AND_ON:=κ7 hx 4 rfl
 gFIELD_END:=κ7 hx 5 rfl
 gEXECUTE:=κ7 hx 6 rfl
 gREFUSED:=κ7 hx 7 rfl
 gMOST_STEPS:=κ7 hx 8 rfl
 gNEXT_PLACE:=κ7 hx 9 rfl
 gCONDITION:=κ7 hx 10 rfl
 gMASK:=κ7 hx 11 rfl
 gPART:=κ7 hx 12 rfl
 babs:=φa hx 0 rfl
 blen:=φa hx 1 rfl
 brange:=φa hx 2 rfl
 benum:=φa hx 3 rfl
 blist:=φa hx 4 rfl
 bexc:=φa hx 5 rfl
theorem me_ok (hx:Xg mg=true):ME bp w (bK w.params) mg base 766:=⟨k_ec w.params,763,_,k_mke w.params,ζ0 hx 116 rfl,ok_ei (k_ec w.params) (k_ei w.params),(k_ei w.params).binds (fun _ _ _ _ _ _=>ml4 fun _ _ _ _=>rfl)⟩
theorem mm_ok (hx:Xg mg=true):MM bp w (bK w.params) mg base 71:=⟨68,_,k_mk w.params,ζ0 hx 2 rfl,ok_mi (k_mc w.params) (k_mi w.params),(k_mi w.params).binds (fun _ _ _ _ _ _=>ml1 fun _=>rfl)⟩
theorem answers_ok (hx:Xg mg=true):Callee bp w (bK w.params) mg base 18 "answers" ["calls"] (Ψf (bK w.params)):=by
 have T:Txt bp w (bK w.params) mg base 71 31 51:=txt_ok hx
 have me:ME bp w (bK w.params) mg base 766:=me_ok hx
 have ec:=me.ec
 have plus:PlusOk (bK w.params) mg:=⟨212,ζ0 hx 23 rfl,t_PLUS w.params⟩
 have ho:HalvesOk (bK w.params) mg:=⟨891,ζ0 hx 135 rfl,t_HALVES_LONG w.params⟩
 have c_signed:=ok_signed T (θ0 (ζ0 hx 3 rfl) (f_signed w.params))
 have c_signed_double:=θi T (θ0 (ζ0 hx 4 rfl) (νl w.params))
 have c_order:=ok_order T (θ0 (ζ0 hx 5 rfl) (f_order w.params))
 have c_orderL:=ok_orderL T (θ0 (ζ0 hx 5 rfl) (f_order w.params))
 have c_conclude:=ok_conclude T (θ0 (ζ0 hx 6 rfl) (f_conclude w.params)) c_order
 have c_need_even:=ok_need_even T (θ0 (ζ0 hx 7 rfl) (f_need_even w.params))
 have c_need_room:=ok_need_room T (θ0 (ζ0 hx 8 rfl) (f_need_room w.params))
 have c_need_unit:=ok_need_unit T (θ0 (ζ0 hx 9 rfl) (f_need_unit w.params))
 have c_half_at:=ok_half_at T (θ0 (ζ0 hx 10 rfl) (f_half_at w.params)) c_need_unit
 have c_put_half:=ok_put_half T (θ0 (ζ0 hx 11 rfl) (f_put_half w.params)) c_need_unit
 have c_word_at:=ok_word_at T (θ0 (ζ0 hx 12 rfl) (f_word_at w.params)) c_need_unit
 have c_put_word:=ok_put_word T (θ0 (ζ0 hx 13 rfl) (f_put_word w.params)) c_need_unit
 have c_pair_at:=ok_pair_at T (θ0 (ζ0 hx 14 rfl) (f_pair_at w.params)) c_need_even
 have c_put_pair:=ok_put_pair T (θ0 (ζ0 hx 15 rfl) (f_put_pair w.params))
 have c_place_told:=ok_place_told T (θ0 (ζ0 hx 16 rfl) (f_place_told w.params))
 have c_fits_word:=ok_fits_word T (θ0 (ζ0 hx 44 rfl) (f_fits_word w.params))
 have c_settle:=ok_settle T (θ0 (ζ0 hx 45 rfl) (f_settle w.params)) c_conclude c_fits_word
 have a_make_positive:=νi T (τl w.params) c_settle c_signed
 have a_make_negative:=ξi T (υl w.params) c_settle c_signed
 have a_load_and_test:=οi T (φl w.params) c_settle c_signed
 have a_negate:=ok_negate T (f_negate w.params) c_settle c_signed
 have c_settle_bits:=ψm T (θ0 (ζ0 hx 50 rfl) (f_settle_bits w.params))
 have a_bits_and_arithmetic:=ξa T (ωb w.params) c_settle_bits
 have a_bits_or_arithmetic:=οb T (φc w.params) c_settle_bits
 have a_bits_exclusive_arithmetic:=η5 T (υ5 w.params) c_settle_bits
 have a_compare_unsigned:=ξd T (τf w.params) c_order
 have a_compare_signed:=χg T (Ξi w.params) c_order c_signed
 have a_load:=ok_load T (f_load w.params)
 have a_add_arithmetic:=Γg T (Ωi w.params) c_settle c_signed
 have a_subtract_arithmetic:=κa T (χb w.params) c_settle c_signed
 have a_multiply_arithmetic:=νa T (ψb w.params) c_need_even c_put_pair c_signed
 have a_divide_arithmetic:=οc T (Ξd w.params) c_pair_at c_signed c_signed_double c_fits_word
 have c_settle_unsigned:=ζf T (θ0 (ζ0 hx 64 rfl) (Ψg w.params))
 have a_add_unsigned:=ψk T (νn w.params) c_settle_unsigned
 have a_subtract_unsigned:=ηc T (φd w.params) c_settle_unsigned
 have c_link:=ok_link T (θ0 (ζ0 hx 69 rfl) (f_link w.params))
 have a_jump_with_link:=τg T (ωi w.params) c_link
 have a_jump_with_count:=ηf T (Ωg w.params)
 have a_jump_on_condition:=νc T (Γd w.params)
 have c_set_condition_and_mask:=η7 T (θ0 (ζ0 hx 75 rfl) (ω7 w.params))
 have a_examine_bits:=φk T (ιn w.params)
 have a_move_single:=ωm T (f_move_single w.params)
 have c_settle_byte:=χm T (θ0 (ζ0 hx 80 rfl) (f_settle_byte w.params))
 have a_byte_and:=ok_byte_and T (f_byte_and w.params) c_settle_byte
 have a_compare_single:=φg T (Δi w.params) c_order
 have a_byte_or:=ok_byte_or T (f_byte_or w.params) c_settle_byte
 have a_byte_exclusive:=ψg T (Φi w.params) c_settle_byte
 have a_right:=ok_right T (f_right w.params)
 have a_left:=ok_left T (f_left w.params)
 have a_right_signed:=οk T (Ωm w.params) c_signed c_order
 have a_left_signed:=Δm T (f_left_signed w.params) c_signed c_conclude
 have a_pair_right:=ok_pair_right T (f_pair_right w.params) c_put_pair c_pair_at
 have a_pair_left:=ok_pair_left T (f_pair_left w.params) c_put_pair c_pair_at
 have a_pair_right_signed:=ιc T (ψd w.params) c_put_pair c_pair_at c_signed_double c_order
 have a_pair_left_signed:=ιd T (ξf w.params) c_put_pair c_pair_at c_signed_double c_conclude
 have c_step_is_above:=ηi T (θ0 (ζ0 hx 97 rfl) (κl w.params)) c_signed
 have a_jump_above:=ok_jump_above T (f_jump_above w.params) c_step_is_above
 have a_jump_not_above:=υg T (Γi w.params) c_step_is_above
 have a_store_half:=ok_store_half T (f_store_half w.params) c_put_half
 have a_load_place:=ok_load_place T (f_load_place w.params)
 have a_store_byte:=ok_store_byte T (f_store_byte w.params) c_need_room
 have a_load_byte:=ok_load_byte T (f_load_byte w.params) c_need_room
 have a_multiply_half:=κi T (ρl w.params) c_signed c_half_at
 have a_store_word:=ok_store_word T (f_store_word w.params) c_put_word
 have c_registers_from:=οg T (θ0 (ζ0 hx 100 rfl) (χi w.params))
 have a_store_many:=ok_store_many T (f_store_many w.params) c_registers_from c_need_unit c_need_room c_put_word
 have a_load_many:=ok_load_many T (f_load_many w.params) c_registers_from c_need_unit c_need_room c_word_at
 have c_magnitude_at:=υk T (θ0 (ζ0 hx 24 rfl) (θn w.params))
 have c_minus_at:=ok_minus_at T (θ0 (ζ0 hx 25 rfl) (f_minus_at w.params)) plus
 have c_packed_at:=ok_packed_at T (θ0 (ζ0 hx 26 rfl) (f_packed_at w.params)) c_magnitude_at c_minus_at
 have c_packed_limit:=τk T (θ0 (ζ0 hx 28 rfl) (ηn w.params))
 have c_put_packed:=ok_put_packed T (θ0 (ζ0 hx 27 rfl) (f_put_packed w.params))
 have a_store_packed:=ξk T (Ψm w.params) c_need_unit c_signed c_put_packed
 have a_load_packed:=Γm T (f_load_packed w.params) c_need_unit c_packed_at c_fits_word
 have c_settle_packed:=ιi T (θ0 (ζ0 hx 29 rfl) (ξl w.params)) c_put_packed c_packed_limit c_order
 have a_put_second:=ok_put_second T (f_put_second w.params) c_settle_packed c_packed_at
 have a_compare_decimals:=οd T (υf w.params) c_packed_at c_order
 have a_add_decimals:=ωk T (ξn w.params) c_settle_packed c_packed_at
 have a_subtract_decimals:=θc T (χd w.params) c_settle_packed c_packed_at
 have c_need_zeros:=ok_need_zeros T (θ0 (ζ0 hx 37 rfl) (f_need_zeros w.params))
 have a_multiply_decimals:=κc T (ωd w.params) c_magnitude_at c_minus_at c_need_zeros c_put_packed
 have a_divide_decimals:=θf T (ζh w.params) c_magnitude_at c_minus_at c_packed_limit c_put_packed
 have c_halves_at:=ok_halves_at T (θ0 (ζ0 hx 17 rfl) (f_halves_at w.params))
 have c_fitted:=ok_fitted T (θ0 (ζ0 hx 18 rfl) (f_fitted w.params))
 have c_put_halves:=ok_put_halves T (θ0 (ζ0 hx 19 rfl) (f_put_halves w.params))
 have c_move_before_last:=κd T (θ0 (ζ0 hx 20 rfl) (οf w.params)) c_fitted c_halves_at c_put_halves
 have c_pack:=ok_pack T (θ0 (ζ0 hx 21 rfl) (f_pack w.params)) c_fitted c_put_halves
 have c_unpack:=ok_unpack T (θ0 (ζ0 hx 22 rfl) (f_unpack w.params)) c_fitted c_halves_at
 have a_lower_half_moved:=νd T (ρf w.params)
 have a_higher_half_moved:=ξc T (Δd w.params)
 have a_bits_and_texts:=ωg T (Ψi w.params)
 have a_bits_or_texts:=φi T (Ξl w.params)
 have a_bits_exclusive_texts:=ζ9 T (τa w.params)
 have c_move_texts:=ok_move_texts T (θ0 (ζ0 hx 129 rfl) (f_move_texts w.params)) c_need_room
 have c_translate:=ok_translate T (θ0 (ζ0 hx 132 rfl) (f_translate w.params)) c_need_room
 have c_search:=ok_search T (θ0 (ζ0 hx 133 rfl) (f_search w.params)) c_need_room
 have c_compare_texts:=τi T (θ0 (ζ0 hx 131 rfl) (Γl w.params)) c_need_room c_orderL
 have c_take_digit:=ok_take_digit T (θ0 (ζ0 hx 117 rfl) (f_take_digit w.params)) ec plus c_need_room
 have c_edited_digit:=χk T (θ0 (ζ0 hx 118 rfl) (κn w.params)) ec c_take_digit
 have c_edited_byte:=Ξm T (θ0 (ζ0 hx 119 rfl) (f_edited_byte w.params)) ec c_edited_digit
 have c_edit_text:=ok_edit_text T (θ0 (ζ0 hx 120 rfl) (f_edit_text w.params)) me c_need_room c_edited_byte
 have c_edit:=ok_edit T (θ0 (ζ0 hx 121 rfl) (f_edit w.params)) c_edit_text
 have c_edit_and_mark:=ρi T (θ0 (ζ0 hx 122 rfl) (ψl w.params)) ec c_edit_text
 have c_changed_bytes:=υi T (θ0 (ζ0 hx 144 rfl) (Δl w.params))
 have c_put_value:=BB.ok_put_value T (θ0 (ζ0 hx 142 rfl) (f_put_value w.params))
 have c_told_value:=BB.ok_told_value T (θ0 (ζ0 hx 143 rfl) (f_told_value w.params))
 have tab_OPERATIONS_decimals:TabAt bp w (bK w.params) mg base "OPERATIONS_decimals" 5 ["machine","first","size","second","other"] [248,249,250,251,252,253] (fun op=>SpF op 71 31 51):=by
  refine Ξb (keys:=[248,249,250,251,252,253]) (ζ0 hx 42 rfl) (χa bp w) (by decide) (fun op h=>?_)
  simp only [List.mem_cons,List.not_mem_nil,or_false] at h
  rcases h with rfl | rfl | rfl | rfl | rfl | rfl
  ·exact ⟨261,rfl,(Fa.mono a_put_second (by decide)).imp (spF_D (op:=248) (by decide) dcm_248)⟩
  ·exact ⟨268,rfl,(Fa.mono a_compare_decimals (by decide)).imp (spF_D (op:=249) (by decide) dcm_249)⟩
  ·exact ⟨275,rfl,(Fa.mono a_add_decimals (by decide)).imp (spF_D (op:=250) (by decide) dcm_250)⟩
  ·exact ⟨282,rfl,(Fa.mono a_subtract_decimals (by decide)).imp (spF_D (op:=251) (by decide) dcm_251)⟩
  ·exact ⟨296,rfl,(Fa.mono a_multiply_decimals (by decide)).imp (spF_E (op:=252) (by decide) dcm_252)⟩
  ·exact ⟨303,rfl,(Fa.mono a_divide_decimals (by decide)).imp (spF_E (op:=253) (by decide) dcm_253)⟩
 have tab_OPERATIONS_arithmetic:TabOk bp w (bK w.params) mg base "OPERATIONS_arithmetic" 6 ["machine","k","x"] (fun op=>SpK (fun m k x=>ω2 m op k x) 71 31 51) (fun op=>∀ m k x,ω2 m op k x=.stop 1 m):=by
  refine tabOk_of (keys:=[16,17,18,19,20,21,22,23,24,25,26,27,28,29,30,31]) (ζ0 hx 67 rfl) (Ξ7 bp w) (by decide) (fun op h=>?_) (τ7)
  simp only [List.mem_cons,List.not_mem_nil,or_false] at h
  rcases h with rfl | rfl | rfl | rfl | rfl | rfl | rfl | rfl | rfl | rfl | rfl | rfl | rfl | rfl | rfl | rfl
  ·exact ⟨332,rfl,Fa.eq (congrArg (fun G=>SpK G 71 31 51) ο6) (Fa.mono a_make_positive (by decide))⟩
  ·exact ⟨339,rfl,Fa.eq (congrArg (fun G=>SpK G 71 31 51) ξ6) (Fa.mono a_make_negative (by decide))⟩
  ·exact ⟨346,rfl,Fa.eq (congrArg (fun G=>SpK G 71 31 51) ν6) (Fa.mono a_load_and_test (by decide))⟩
  ·exact ⟨353,rfl,Fa.eq (congrArg (fun G=>SpK G 71 31 51) κ6) (Fa.mono a_negate (by decide))⟩
  ·exact ⟨367,rfl,Fa.eq (congrArg (fun G=>SpK G 71 31 51) ι6) (Fa.mono a_bits_and_arithmetic (by decide))⟩
  ·exact ⟨388,rfl,Fa.eq (congrArg (fun G=>SpK G 71 31 51) θ6) (Fa.mono a_compare_unsigned (by decide))⟩
  ·exact ⟨374,rfl,Fa.eq (congrArg (fun G=>SpK G 71 31 51) η6) (Fa.mono a_bits_or_arithmetic (by decide))⟩
  ·exact ⟨381,rfl,Fa.eq (congrArg (fun G=>SpK G 71 31 51) ζ6) (Fa.mono a_bits_exclusive_arithmetic (by decide))⟩
  ·exact ⟨402,rfl,Fa.eq (congrArg (fun G=>SpK G 71 31 51) Ω5) (Fa.mono a_load (by decide))⟩
  ·exact ⟨395,rfl,Fa.eq (congrArg (fun G=>SpK G 71 31 51) Ψ5) (Fa.mono a_compare_signed (by decide))⟩
  ·exact ⟨409,rfl,Fa.eq (congrArg (fun G=>SpK G 71 31 51) Φ5) (Fa.mono a_add_arithmetic (by decide))⟩
  ·exact ⟨416,rfl,Fa.eq (congrArg (fun G=>SpK G 71 31 51) Ξ5) (Fa.mono a_subtract_arithmetic (by decide))⟩
  ·exact ⟨423,rfl,Fa.eq (congrArg (fun G=>SpK G 71 31 51) Δ5) (Fa.mono a_multiply_arithmetic (by decide))⟩
  ·exact ⟨430,rfl,Fa.eq (congrArg (fun G=>SpK G 71 31 51) Γ5) (Fa.mono a_divide_arithmetic (by decide))⟩
  ·exact ⟨444,rfl,Fa.eq (congrArg (fun G=>SpK G 71 31 51) ω5) (Fa.mono a_add_unsigned (by decide))⟩
  ·exact ⟨451,rfl,Fa.eq (congrArg (fun G=>SpK G 71 31 51) ψ5) (Fa.mono a_subtract_unsigned (by decide))⟩
 have tab_JUMPS:TabOk bp w (bK w.params) mg base "JUMPS" 3 ["machine","k","wanted","place"] (fun op=>SpJ (fun m hv k b p=>jmp m hv op k b p) 71 31 51) (fun op=>op < 5∨7 < op):=by
  refine tabOk_of (keys:=[5,6,7]) (ζ0 hx 73 rfl) (t_JUMPS bp w) (by decide) (fun op h=>?_) (no_JUMPS)
  simp only [List.mem_cons,List.not_mem_nil,or_false] at h
  rcases h with rfl | rfl | rfl
  ·exact ⟨473,rfl,Fa.eq (congrArg (fun G=>SpJ G 71 31 51) s_JUMPS_5) (Fa.mono a_jump_with_link (by decide))⟩
  ·exact ⟨480,rfl,Fa.eq (congrArg (fun G=>SpJ G 71 31 51) s_JUMPS_6) (Fa.mono a_jump_with_count (by decide))⟩
  ·exact ⟨487,rfl,Fa.eq (congrArg (fun G=>SpJ G 71 31 51) s_JUMPS_7) (Fa.mono a_jump_on_condition (by decide))⟩
 have tab_OPERATIONS_single:TabAt bp w (bK w.params) mg base "OPERATIONS_single" 3 ["machine","given","place"] [145,146,148,149,150,151] (fun op=>SpB (fun m i p=>sing m op i p) 71 31 51):=by
  refine Ξb (keys:=[145,146,148,149,150,151]) (ζ0 hx 85 rfl) (Φc bp w) (by decide) (fun op h=>?_)
  simp only [List.mem_cons,List.not_mem_nil,or_false] at h
  rcases h with rfl | rfl | rfl | rfl | rfl | rfl
  ·exact ⟨516,rfl,Fa.eq (congrArg (fun G=>SpB G 71 31 51) Ω8) (Fa.mono a_examine_bits (by decide))⟩
  ·exact ⟨523,rfl,Fa.eq (congrArg (fun G=>SpB G 71 31 51) Ψ8) (Fa.mono a_move_single (by decide))⟩
  ·exact ⟨537,rfl,Fa.eq (congrArg (fun G=>SpB G 71 31 51) Φ8) (Fa.mono a_byte_and (by decide))⟩
  ·exact ⟨544,rfl,Fa.eq (congrArg (fun G=>SpB G 71 31 51) Ξ8) (Fa.mono a_compare_single (by decide))⟩
  ·exact ⟨551,rfl,Fa.eq (congrArg (fun G=>SpB G 71 31 51) Δ8) (Fa.mono a_byte_or (by decide))⟩
  ·exact ⟨558,rfl,Fa.eq (congrArg (fun G=>SpB G 71 31 51) Γ8) (Fa.mono a_byte_exclusive (by decide))⟩
 have tab_SHIFTS:TabAt bp w (bK w.params) mg base "SHIFTS" 5 ["machine","k","count"] [136,137,138,139,140,141,142,143] (fun op=>SpS (fun m k n=>shf m op k n) 71 31 51):=by
  refine Ξb (keys:=[136,137,138,139,140,141,142,143]) (ζ0 hx 95 rfl) (t_SHIFTS bp w) (by decide) (fun op h=>?_)
  simp only [List.mem_cons,List.not_mem_nil,or_false] at h
  rcases h with rfl | rfl | rfl | rfl | rfl | rfl | rfl | rfl
  ·exact ⟨573,rfl,Fa.eq (congrArg (fun G=>SpS G 71 31 51) s_SHIFTS_136) (Fa.mono a_right (by decide))⟩
  ·exact ⟨580,rfl,Fa.eq (congrArg (fun G=>SpS G 71 31 51) s_SHIFTS_137) (Fa.mono a_left (by decide))⟩
  ·exact ⟨587,rfl,Fa.eq (congrArg (fun G=>SpS G 71 31 51) s_SHIFTS_138) (Fa.mono a_right_signed (by decide))⟩
  ·exact ⟨594,rfl,Fa.eq (congrArg (fun G=>SpS G 71 31 51) s_SHIFTS_139) (Fa.mono a_left_signed (by decide))⟩
  ·exact ⟨601,rfl,Fa.eq (congrArg (fun G=>SpS G 71 31 51) s_SHIFTS_140) (Fa.mono a_pair_right (by decide))⟩
  ·exact ⟨608,rfl,Fa.eq (congrArg (fun G=>SpS G 71 31 51) s_SHIFTS_141) (Fa.mono a_pair_left (by decide))⟩
  ·exact ⟨615,rfl,Fa.eq (congrArg (fun G=>SpS G 71 31 51) s_SHIFTS_142) (Fa.mono a_pair_right_signed (by decide))⟩
  ·exact ⟨622,rfl,Fa.eq (congrArg (fun G=>SpS G 71 31 51) s_SHIFTS_143) (Fa.mono a_pair_left_signed (by decide))⟩
 have tab_OPERATIONS_spans:TabAt bp w (bK w.params) mg base "OPERATIONS_spans" 5 ["machine","k","j","place"] [134,135,144,152] (fun op=>SpR (fun m k j p=>spn m op k j p) 71 31 51):=by
  refine Ξb (keys:=[134,135,144,152]) (ζ0 hx 103 rfl) (νe bp w) (by decide) (fun op h=>?_)
  simp only [List.mem_cons,List.not_mem_nil,or_false] at h
  rcases h with rfl | rfl | rfl | rfl
  ·exact ⟨644,rfl,Fa.eq (congrArg (fun G=>SpR G 71 31 51) ιa) (Fa.mono a_jump_above (by decide))⟩
  ·exact ⟨651,rfl,Fa.eq (congrArg (fun G=>SpR G 71 31 51) θa) (Fa.mono a_jump_not_above (by decide))⟩
  ·exact ⟨663,rfl,Fa.eq (congrArg (fun G=>SpR G 71 31 51) ηa) (Fa.mono a_store_many (by decide))⟩
  ·exact ⟨670,rfl,Fa.eq (congrArg (fun G=>SpR G 71 31 51) ζa) (Fa.mono a_load_many (by decide))⟩
 have tab_OPERATIONS_storage:TabAt bp w (bK w.params) mg base "OPERATIONS_storage" 6 ["machine","k","place"] [64,65,66,67,76,78,79,80] (fun op=>SpM (fun m k p=>sto m op k p) 71 31 51):=by
  refine Ξb (keys:=[64,65,66,67,76,78,79,80]) (ζ0 hx 113 rfl) (Ψb bp w) (by decide) (fun op h=>?_)
  simp only [List.mem_cons,List.not_mem_nil,or_false] at h
  rcases h with rfl | rfl | rfl | rfl | rfl | rfl | rfl | rfl
  ·exact ⟨685,rfl,Fa.eq (congrArg (fun G=>SpM G 71 31 51) ω8) (Fa.mono a_store_half (by decide))⟩
  ·exact ⟨692,rfl,Fa.eq (congrArg (fun G=>SpM G 71 31 51) ψ8) (Fa.mono a_load_place (by decide))⟩
  ·exact ⟨699,rfl,Fa.eq (congrArg (fun G=>SpM G 71 31 51) χ8) (Fa.mono a_store_byte (by decide))⟩
  ·exact ⟨706,rfl,Fa.eq (congrArg (fun G=>SpM G 71 31 51) φ8) (Fa.mono a_load_byte (by decide))⟩
  ·exact ⟨713,rfl,Fa.eq (congrArg (fun G=>SpM G 71 31 51) υ8) (Fa.mono a_multiply_half (by decide))⟩
  ·exact ⟨720,rfl,Fa.eq (congrArg (fun G=>SpM G 71 31 51) τ8) (Fa.mono a_store_packed (by decide))⟩
  ·exact ⟨727,rfl,Fa.eq (congrArg (fun G=>SpM G 71 31 51) ρ8) (Fa.mono a_load_packed (by decide))⟩
  ·exact ⟨734,rfl,Fa.eq (congrArg (fun G=>SpM G 71 31 51) ο8) (Fa.mono a_store_word (by decide))⟩
 have tab_JOINS:TabAt bp w (bK w.params) mg base "JOINS" 1 ["byte","other"] [209,211,212,214,215] (fun op=>SpJo (jnF op)):=by
  refine Ξb (keys:=[209,211,212,214,215]) (ζ0 hx 128 rfl) (t_JOINS bp w) (by decide) (fun op h=>?_)
  simp only [List.mem_cons,List.not_mem_nil,or_false] at h
  rcases h with rfl | rfl | rfl | rfl | rfl
  ·exact ⟨819,rfl,Fa.eq (congrArg (fun G=>SpJo G) s_JOINS_209) (Fa.mono a_lower_half_moved (by decide))⟩
  ·exact ⟨826,rfl,Fa.eq (congrArg (fun G=>SpJo G) s_JOINS_211) (Fa.mono a_higher_half_moved (by decide))⟩
  ·exact ⟨833,rfl,Fa.eq (congrArg (fun G=>SpJo G) s_JOINS_212) (Fa.mono a_bits_and_texts (by decide))⟩
  ·exact ⟨840,rfl,Fa.eq (congrArg (fun G=>SpJo G) s_JOINS_214) (Fa.mono a_bits_or_texts (by decide))⟩
  ·exact ⟨847,rfl,Fa.eq (congrArg (fun G=>SpJo G) s_JOINS_215) (Fa.mono a_bits_exclusive_texts (by decide))⟩
 have c_with_number:=υm T (θ0 (ζ0 hx 68 rfl) (f_with_number w.params)) tab_OPERATIONS_arithmetic
 have c_jump:=ok_jump T (θ0 (ζ0 hx 74 rfl) (f_jump w.params)) tab_JUMPS
 have c_two_registers:=Ωh T (θ0 (ζ0 hx 76 rfl) (θl w.params)) c_with_number c_jump c_set_condition_and_mask
 have c_one_byte:=ok_one_byte T (θ0 (ζ0 hx 86 rfl) (f_one_byte w.params)) tab_OPERATIONS_single c_need_room
 have c_shift:=ok_shift T (θ0 (ζ0 hx 96 rfl) (f_shift w.params)) tab_SHIFTS
 have c_two_and_place:=ζi T (θ0 (ζ0 hx 104 rfl) (ιl w.params)) tab_OPERATIONS_spans c_shift
 have c_with_word:=ok_with_word T (θ0 (ζ0 hx 114 rfl) (f_with_word w.params)) c_need_even c_with_number c_word_at
 have c_one_and_memory:=ρg T (θ0 (ζ0 hx 115 rfl) (ψi w.params)) tab_OPERATIONS_storage c_with_word c_with_number c_half_at c_jump
 have c_two_numbers:=φm T (θ0 (ζ0 hx 43 rfl) (f_two_numbers w.params)) tab_OPERATIONS_decimals c_need_room c_move_before_last c_pack c_unpack
 have c_join_texts:=ok_join_texts T (θ0 (ζ0 hx 130 rfl) (f_join_texts w.params)) tab_JOINS c_need_room
 have c_two_texts:=ok_two_texts T (θ0 (ζ0 hx 134 rfl) (f_two_texts w.params)) tab_JOINS c_join_texts c_move_texts c_compare_texts c_translate c_search c_edit c_edit_and_mark
 have c_perform_long:=ρk T (θ0 (ζ0 hx 136 rfl) (ζn w.params)) c_two_texts c_two_numbers c_place_told
 have c_ex0:=ok_execute0 (P:=bp) (w:=w) (K:=bK w.params) (base:=base) (θ0 (ζ0 hx 139 rfl) (f_execute w.params)) ο7
 have c_pi0:=Ξ6 (by decide) T (θ0 (ζ0 hx 137 rfl) (Γ7 w.params)) c_ex0 c_one_and_memory
 have c_pf0:=χn (by decide) T (θ0 (ζ0 hx 138 rfl) (f_perform w.params)) c_pi0 c_two_registers c_place_told c_perform_long c_one_byte c_two_and_place
 have c_execute:=ok_execute T (θ0 (ζ0 hx 139 rfl) (f_execute w.params)) ho c_need_unit c_need_room c_pf0
 have c_perform_indexed:=Ξ6 (by decide) T (θ0 (ζ0 hx 137 rfl) (Γ7 w.params)) c_execute c_one_and_memory
 have c_perform:=χn (by decide) T (θ0 (ζ0 hx 138 rfl) (f_perform w.params)) c_perform_indexed c_two_registers c_place_told c_perform_long c_one_byte c_two_and_place
 have c_step:=ok_step T (θ0 (ζ0 hx 140 rfl) (f_step w.params)) ho c_need_unit c_need_room c_perform
 have c_run_steps:=ok_run_steps T (θ0 (ζ0 hx 141 rfl) (f_run_steps w.params)) c_step
 have c_run_answer:=ok_run_answer T (θ0 (ζ0 hx 145 rfl) (f_run_answer w.params)) c_run_steps c_changed_bytes
 exact ok_answers T (θ0 (ζ0 hx 146 rfl) (f_answers w.params)) (mm_ok hx) c_put_value c_told_value c_run_answer
end
end BM
namespace L2
open PySem PySem.Spec PyProof.Rows
theorem law_callS {P:Program} {w:World} {K:PySem.W.Frag} {mg mb:Str→Option Value} {k:Nat} {fa a:Addr} {x0 x:Str} {sp:Sp} {s₁:Shared} {vs:List Value} {ns out:List Int}
  (KX:K.In s₁.heap) (hns:s₁.heap.Ns mainGlobals mg) (hb:s₁.heap.Ns builtinsNs mb) (hbb:∀ x:Str,x≠"__name__"→mb x=bootBuiltins x) (hlim:s₁.heap.NoLimit) (hg:s₁.gens=#[])
  (ha:s₁.heap.get? a=some {cls:=.type "list",data:=.seq vs.toArray}) (hi:IntsAre vs ns) (hl:ns.length≤sizeLine) (hr:Room k callerA)
  (F:∀ base:Heap,Callee P w K mg base k x0 [x] sp) (hmg:mg x0=some (.ref fa))
  (hsp:∀ H:Hp,SqL K H a (ns.map V.int)→sp [.ref a] H (fun v H'=>∃ L,v=.ref L∧H' L=some (.lst (out.map V.int))) fun _ _ _=>False) :
  codeAny (model P w) callerA (.call (.ref fa) ⟨[.ref a],[]⟩) (fun r s'=>(∃ L o us n,r=.ok (.ret (.ref L))∧s'.heap.get? L=some o∧o.cls=.type "list"∧o.data=.seq us n∧IntsAre us.toList out)∧OldK s₁.heap s'.heap∧s'.os=s₁.os∧AllBare s'.gens) s₁:=by
 have rv:=vals_ints hi
 have lenV:=hi.length
 have core:∀ H:Hp,Only H→SqL K H a (ns.map V.int)→HOk P w H s₁.heap→(∀ b,H b≠none→b=a)→(H a≠none→K.lookup a=none) →
   codeAny (model P w) callerA (.call (.ref fa) ⟨[.ref a],[]⟩) (fun r s'=>(∃ L o us n,r=.ok (.ret (.ref L))∧s'.heap.get? L=some o∧o.cls=.type "list"∧o.data=.seq us n∧IntsAre us.toList out)∧OldK s₁.heap s'.heap∧s'.os=s₁.os∧AllBare s'.gens) s₁:=by
  intro H hO hS hok hA hK
  have base_of:∀ {b:Addr} {o:Obj},s₁.heap.get? b=some o→H b=none→(hidT s₁.heap H).get? b=some o:=fun e n=>hidT_get e n
  have noA:∀ {b:Addr} {o:Obj} {es:Array DictEntry} {ep:Nat},s₁.heap.get? b=some o→o.data=.dict es ep→H b=none:=fun {b o es ep} e d=>by
   cases q:H b with
   | none=>rfl
   | some u =>
    have e':b=a:=hA b (by rw [q]; simp)
    subst e'
    rw [ha] at e; cases e
    have d':Data.seq vs.toArray _=Data.dict es ep:=d
    cases d'
  have nsK:∀ {b:Addr} {m:Str→Option Value},s₁.heap.Ns b m→(hidT s₁.heap H).Ns b m:=fun {b m} ⟨o,es,ep,e,d,r⟩=>⟨o,es,ep,base_of e (noA e d),d,r⟩
  have hKb:K.In (hidT s₁.heap H):=fun b o e=>base_of (KX b o e) (by
   cases q:H b with
   | none=>rfl
   | some u =>
    have e':b=a:=hA b (by rw [q]; simp)
    subst e'
    rw [hK (by rw [q]; simp)] at e; cases e)
  have hM:Mod K mg (hidT s₁.heap H):=⟨hKb,nsK hns,⟨mb,nsK hb,hbb⟩,let ⟨mc,h1,h2⟩:=hlim; ⟨mc,nsK h1,h2⟩⟩
  have e0:Env0 P w K mg (hidT s₁.heap H) callerA [] s₁ H:=⟨rfl,hM,fun b o e=>of_hidT e,Nat.le_of_eq (hidT_size _ _),trivial,fun b hb=>absurd (show b∈([]:List Addr) from hb) (by simp),hok,.of_eq hg⟩
  obtain ⟨f,fd,h1,_,h3,h4⟩:=(F (hidT s₁.heap H)).ex
  rw [hmg] at h1
  cases h1
  have hbd:BindsTo s₁ fd ⟨[.ref a],[]⟩ ([x].zip [.ref a]):=h3 s₁ [.ref a] KX rfl
  refine codeAny_mono (h4.run callerA [] s₁ H ⟨[.ref a],[]⟩ [.ref a] [.ref a] _ _ hr e0 hbd (.cons rfl .nil) (hsp H hS)) fun r s' h=>?_
  cases r with
  | error e =>
   obtain ⟨_,_,_,_,_,_,_,_,_,_,_,_,_,_,_,z⟩:=h
   exact z.elim
  | ok fl =>
   cases fl with
   | next=>exact False.elim h
   | brk=>exact False.elim h
   | cont=>exact False.elim h
   | ret u =>
    obtain ⟨v,H',os,bare,un,hok',r',q⟩:=h
    obtain ⟨L,rfl,hL⟩:=q
    obtain rfl:u=Value.ref L:=r'
    obtain ⟨_,us,n,rus,hget⟩:=hok' L _ hL
    refine ⟨⟨L,_,_,_,rfl,hget,rfl,rfl,by simpa using Φg rus⟩,OldK.of_keep fun b o e=>?_,os,bare⟩
    cases q:H b with
    | none=>exact un.keep b o e q (by intro z; exact absurd (show b∈([]:List Addr) from z) (by simp)) (by simp)
    | some u =>
     rcases hO b with z | ⟨ob,xs,z⟩
     ·rw [q] at z; cases z
     ·have z2:=un.frzs b ob _ z
      obtain ⟨e1,_⟩:=hok b _ z
      obtain ⟨e2,_⟩:=hok' b _ z2
      rw [e] at e1; cases e1
      exact e2
 cases hk:K.lookup a with
 | some o =>
  have e:=KX a o hk
  rw [ha] at e
  cases e
  refine core (fun _=>none) (fun _=>.inl rfl) (.inr ⟨_,vs.toArray,_,hk,rfl,rfl,rfl,by rw [List.size_toArray,lenV]; exact hl,by simpa using rv⟩) (fun b u z=>by have z':(none:Option HO)=some u:=z; cases z') (fun b z=>absurd rfl z) fun z=>absurd rfl z
 | none =>
  refine core (fun b=>if b=a then some (.frz {cls:=.type "list",data:=.seq vs.toArray} (.lst (ns.map V.int))) else none) (fun b=>?_) (.inl (.inr ⟨{cls:=.type "list",data:=.seq vs.toArray},if_pos rfl⟩)) (fun b u z=>?_) (fun b z=>?_) fun _=>hk
  ·by_cases hb:b=a
   ·exact .inr ⟨_,_,if_pos hb⟩
   ·exact .inl (if_neg hb)
  ·by_cases hb:b=a
   ·have z':=(if_pos hb).symm.trans z
    cases z'
    subst hb
    exact ⟨ha,by rw [List.length_map]; exact hl,vs,_,rv,ha⟩
   ·have z':=(if_neg hb).symm.trans z
    cases z'
  ·by_cases hb:b=a
   ·exact hb
   ·exact absurd (if_neg hb) z
end L2
namespace BM
open PySem PySem.Spec PySem.W PyProof.Rows L2
theorem pre_of {args:List WData} (h:bR.pre args=true):∃ zs:List Int,args=[.list (zs.map WData.int)]∧zs.length≤30000∧PyRa23.answers_asked zs=true∧bR.post args (.list ((PyRa23.answers zs).map WData.int))=true:=by
 unfold OpenSpec.pre at h
 unfold OpenSpec.post
 cases e:Codec.decAll bR.args args with
 | none=>rw [e] at h; cases h
 | some a =>
  rw [e] at h
  obtain ⟨zs,u⟩:=a
  obtain ⟨e1,e2⟩:=Codec.encAll_of_decAll bR.args args _ e
  refine ⟨zs,e1,?_,h,?_⟩
  ·have e3:(Codec.inList 0 30000 (Codec.inInt (Int.negSucc 2147483647) (Int.ofNat 4294967295)) zs && true)=true:=e2
   rw [Bool.and_true] at e3
   unfold Codec.inList Codec.inLen Codec.inNat at e3
   simp only [Bool.and_eq_true,decide_eq_true_eq] at e3
   exact e3.1.2
  ·exact same_self _
theorem well_of {P:Params} {h:Heap} {vals:List Value} {zs:List Int} (hwl:WellAll P h vals [.list (zs.map WData.int)]):∃ a vs,vals=[Value.ref a]∧h.get? a=some {cls:=.type "list",data:=.seq vs.toArray}∧IntsAre vs zs:=by
 cases hwl with
 | cons w1 w2 =>
  cases w2
  cases w1 with
  | list ho hall=>exact ⟨_,_,rfl,ho,Att.ints_of_wellAll zs _ hall⟩
theorem τn {cl:Str→Option Addr} {h:Heap}:∀ {vs:List Value} {ns:List Int},IntsAre vs ns→ReadsAllW [] cl h vs (ns.map WData.int) []
 | _,_,.nil=>.nil
 | _,_,.cons n t r=>.cons (.int n t) (τn r)
theorem walk_core {w:World} {s₀ s₁:Shared} {mg mb:Str→Option Value} {fa:Addr} {args:List WData} {vals:List Value} (G:Ground bq looseN [] (fun mg _=>Xg mg=true) w s₀ mg mb s₁.heap) (Y:YPh w s₁.heap) (hmg:mg "answers"=some (.ref fa)) (hg:s₁.gens=#[]) (hpre:bR.pre args=true) (hwl:WellAll w.params s₁.heap vals args) :
  wpAny (model bR.prog w) callerA (PySem.call (.ref fa) vals) (fun v s'=>GoodWG bR.claim (classAt s₀.heap) (ExcName.means s₀.heap) args s₁ (.ok (.ret v)) s') (fun e s'=>GoodWG bR.claim (classAt s₀.heap) (ExcName.means s₀.heap) args s₁ (.error e) s') s₁:=by
 obtain ⟨zs,rfl,hlen,hask,hpost⟩:=pre_of hpre
 obtain ⟨a,vs,rfl,hobj,hints⟩:=well_of hwl
 have hx:Xg mg=true:=G.X
 refine wpAny_call (codeAny_mono (law_callS (k:=18) (x0:="answers") (x:="calls") (sp:=Ψf (bK w.params)) (out:=PyRa23.answers zs) (bK_in Y) G.T.g G.T.b G.T.builtins G.T.nolimit hg hobj hints (Nat.le_trans hlen (by decide)) ⟨rfl,by decide,by decide⟩ (fun base=>answers_ok hx) hmg fun H hS=>⟨a,zs,rfl,hS,hask,fun H' L _ hL=>⟨L,rfl,hL⟩⟩) fun r s' hq=>?_)
 obtain ⟨⟨L,o,us,n,rfl,h1,h2,h3,h4⟩,h5,h6,h7⟩:=hq
 exact ⟨.inl ⟨.ref L,_,_,rfl,fun _=>rfl,.list h1 h2 h3 (τn h4),hpost,fun z=>by cases z⟩,h5,h6,h7⟩
end BM
open PySem PySem.W BM
theorem PySem.Challenge.cw_bitmill_s01_answers_holds : PySem.Challenge.rw_bitmill_s01_answers.Holds := by
 refine holds_os (q:=bq) (loose:=looseN) (Xt:=Xt) (XP:=fun mg _=>Xg mg=true) (Yf:=fun s=>s.heap) (Ya:=fun w=>hH w.params) (YP:=YPh) (N:=13000) h_left (fun w s e b o h=>by rw [← e] at h; exact h) (fun w h h' a k b o e=>k b o (a b o e)) (fun s e=>(Bool.and_eq_true_iff.mp e).1) (fun _ _ _ h _=>h) b_def b_the b_kw (fun s e=>recFacts_of (Bool.and_eq_true_iff.mp e).2) os_shapes b_said b_ok b_bare b_wit ?hc
 intro w s₀ s₁ mg mb G Y fa o pm cd doc dV kV ho hd hcd hD hmg hg args vals as hpre hlay hrd hwl hlo
 exact walk_core G Y (b_nm ▸ hmg) hg hpre hwl
