import PyProof.Rows.All
import Wide.All
import OpenK.AllK
import Wide.FinOn
import KE.KStateDown
import KE.KTupSum
import Lean
import HandS.ForMost
import HandS.ForExc
import HandS.More
import HandS.Flow
import HandS.IsInst
import HandS.TupAny
import HandS.Defaults
import HandS.Head0
import HandS.Head1
import HandS.Head2
import HandS.HeadEnd
import HandS.HeadHook1
import HandS.HeadHook2
import HandS.Wide
import PyProof.ReprBulk
import PyProof.FitsInt
import KE.KExcInit
import HandS.ExcOwn
import HandS.CallSlots
import HandS.CallLocal
import HandS.ExcIs
import HandS.HeadHook3
import HandS.HeadHook4
import KE.KExcIs
import HandS.Conv
import HandS.TupMul
import KE.GoesEnum
import HandS.Style
import HandS.Star
import PyProof.FactsAll.tuple_2
import HandS.Zip
import KE.DataAny
import HandS.HotCalls
import HandS.TryMany
import PyProof.Rows.ReprOcc
import PyProof.NeKinds
import HandS.ExcValue
import PyProof.Rows.IntBool
import PyProof.EqKinds
import HandS.Text
import HandS.DictComp
import PyProof.StrOps2
import HandS.Codes
import HandS.Property
import HandS.FStr
import HandS.OwnEq
import HandS.ClsMeth
import KE.KDictDisplayH
import HandS.Walk
import HandS.TryOnly
import HandS.SetFor
import HandS.Strs
import HandS.TupSets
import KE.KParD
import HandS.Finally
import HandS.ExcInitHot
import HandS.MakeKwOnly
import HandS.ExcCtx
import HandS.GenList
import HandS.GenYield
import HandS.Iter
import HandS.Comp
import HandS.Exc
import PyProof.Seq
import KE.KSuper
import KE.KSuperObj
import HandS.Nested
import KE.KDictZip
import HandS.ListItems
import PySem.Challenge.RW_ringpostfix_k62_reels_constructed
set_option Elab.async false
set_option linter.all false
set_option maxRecDepth 100000
set_option maxHeartbeats 4000000
/-! My own rules over the layer: sum and min of a tuple of ints, a def by its name. -/
namespace My
open PySem PySem.Spec PyProof.Rows L2

section
variable {X : Cx}
end
section
variable {X : Cx} {CX : CXT} {k : Nat} {ps : List Str} {sp : Sp} {E : XK} {x : Str} {p pos : Pos} {e : Expr} {es : List Expr} {t : TA}
end
end My

namespace My
open PySem PySem.Spec PyProof.Rows L2
/-! ### values of the kinds that callers pass -/
/-! ### rings, heights, needs: the mathematics -/
/-! ### the least need of a ring -/
end My
namespace My
open PySem PySem.Spec PyProof.Rows L2
end My

namespace My
open PySem PySem.Spec PyProof.Rows L2
/-! ### the stream of draws: a list of the great cells, the list of all cells, the turn -/
end My
namespace My
open PySem PySem.Spec PyProof.Rows L2
end My

namespace My
open PySem PySem.Spec PyProof.Rows L2
/-! ### repr of data of any depth -/
/-! what a value is as data; b: dicts may occur in it -/
section
variable {X : Cx} {pins : List (Addr × Obj)} {σ : L2.St} {H : Hp} {s : Shared}
end
section
variable {X : Cx}
end
end My

namespace My
open PySem PySem.Spec PyProof.Rows L2
/-! ### the law's own def where it is known that no repr runs around it -/
end My

namespace My
open PySem PySem.Spec PyProof.Rows L2
/-! ### a stack that is filled up where a token finds too few values: (depth, missing) -/
end My
namespace My
open PySem PySem.Spec PyProof.Rows L2
end My

/-! ### an error of an own class over any built-in base, with one field: stored -/
namespace PySem
namespace NX
open PySem.W PySem.Calls PyProof.Rows PySem.HandSPX
end NX
end PySem

/-! ### the block of the guide's own-error skeleton, for any class over any built-in base whose __init__ stores the field value -/
namespace PySem
namespace Xf_value
open PySem.W PySem.Calls PyProof.Rows PySem.HandSPX
section
variable {prog : Program} {w : World} {A : Around} {E : Value → Shared → Prop} {R : Result → Shared → Prop} {s : Shared} {K : Frag} {mg : Str → Option Value} {C fI : Addr} {x0 q0 : Str} {B newId initId : String} {bmB : List Value}
end
end Xf_value
end PySem
namespace L2
open PySem PySem.Spec PyProof.Rows
section
variable {X : Cx} {C fI : Addr} {x0 q0 : Str} {B newId initId : String} {bmB : List Value}
end
end L2

namespace My
open PySem PySem.Spec PyProof.Rows L2
/-! ### classes of errors: what a head's own Bool tells -/
def leB : List Value := [.type "LookupError", .type "Exception", .type "BaseException", .type "object"]
def veB : List Value := [.type "ValueError", .type "Exception", .type "BaseException", .type "object"]
/-- x: an error class of its own __init__ that stores f; over a base whose line is bmB -/
def excB (K : PySem.W.Frag) (x f : Str) (newId : String) (bmB : List Value) : Bool :=
  PySem.W.excInitIn K (He.ga K x) bmB newId && (PySem.W.excOver K (He.ga K x) bmB && (decide (PySem.W.takerIn K (He.ga K x) f = some none) &&
  (He.eqO (PySem.W.findIn K (.ref (He.ga K x)) "__setattr__") (some (some (.builtin "object.__setattr__"))) &&
  (He.eqO (PySem.W.findIn K (.ref (He.ga K x)) "__getattribute__") (some (some (.builtin "BaseException.__getattribute__"))) &&
  (He.eqO (PySem.W.findIn K (.ref (He.ga K x)) "__getattr__") (some none) &&
  (He.eqO (PySem.W.findIn K (.ref (He.ga K x)) f) (some none) &&
  (He.eqO (PySem.W.findIn K (.ref (He.ga K x)) "__init__") (some (some (.ref (He.ma K (He.ga K x) "__init__")))) &&
  (decide (PySem.W.typeIn K (.ref (He.ma K (He.ga K x) "__init__")) = some (.type "function")) &&
  (PySem.W.keepIn K (.ref (He.ga K x)) &&
  (decide (PySem.W.subIn K (.ref (He.ga K x)) (.type "BaseException") = some true) &&
  (decide (PySem.W.typeIn K (.ref (He.ga K x)) = some (.type "type")) &&
  (PySem.W.hasDictIn K (He.ga K x) &&
  decide (PySem.W.exmOne K (.ref (He.ga K x)) (.ref (He.ga K x)) = some true)))))))))))))
/-- instances of x may be asked for their class -/
def clsB (K : PySem.W.Frag) (x : Str) : Bool :=
  (PySem.W.clsIn K (He.ga K x)).isSome && (He.eqO (PySem.W.findIn K (.ref (He.ga K x)) "__getattribute__") (some (some (.builtin "BaseException.__getattribute__"))) &&
  (He.eqO (PySem.W.findIn K (.ref (He.ga K x)) "__getattr__") (some none) && (decide (PySem.W.subIn K (.ref (He.ga K x)) (.type "BaseException") = some true) &&
  (He.eqO (PySem.W.findIn K (.ref (He.ga K x)) "__class__") (some (some (.builtin "object.__class__"))) &&
  (decide (PySem.W.specialIn K (.builtin "object.__class__") "__get__" = some (some (.builtin "getset_descriptor.__get__"))) &&
  (decide (PySem.W.takesIn K (.builtin "object.__class__") = some true) && decide (PySem.W.mroIn K (He.ga K x) (.type "object") = some true)))))))
/-! ### isinstance of the error that a suite holds -/
section
variable {X : Cx} {a : Addr} {oe : Obj} {cls : Value} {d : Option Addr} {pn : List (Addr × Obj)}
end
/-! ### a list display that lies beyond the system's modules; the call of a def that a parameter holds -/
section
variable {X : Cx} {es : List Expr} {t : TA} {pos : Pos}
end
section
variable {X : Cx} {CX : CXT} {k i : Nat} {f : Addr} {fd : FuncData} {ps : List Str} {sp : Sp} {E : L2.St → XK} {x : Str} {p pos : Pos} {e : Expr} {es : List Expr} {t : TA}
end
end My

namespace My
open PySem PySem.Spec PyProof.Rows L2
/-! ### values of any kind beside the stream -/
/-! ### promises of the defs that raise NoPlace -/
end My
namespace My
open PySem PySem.Spec PyProof.Rows L2
/-! ### reading a row with so many values on the stack -/
end My
namespace My
open PySem PySem.Spec PyProof.Rows L2
/-! ### inside a comprehension: the rules whose relation names no context -/
end My

/-! ### t[::-1], t == (), list(t) beyond the system's modules -/
namespace PySem
namespace HTR
open PySem.W PySem.Calls PyProof.Rows HT L2
section
variable {prog : Program} {w : World} {A : Around} {E : Value → Shared → Prop} {s : Shared}
end
end HTR
end PySem
/-! ### enumerate(t), t a tuple -/
namespace PySem
open Sem (wp)
namespace HTR
end HTR
end PySem
namespace L2
open PySem PySem.Spec PyProof.Rows
end L2

namespace L2
open PySem PySem.Spec PyProof.Rows
/-! ### t == (), t[::-1], list(t) -/
section
variable {X : Cx}
end
end L2

namespace My
open PySem PySem.Spec PyProof.Rows L2
/-! ### values of any kind: a tuple of odd values, or no tuple -/
section
variable {K : PySem.W.Frag} {S A B : Addr} {n m t : Nat} {H H' : Hp} {v : V}
/-! ### rows of odd values: slices and sums -/
end
section
variable {K : PySem.W.Frag} {S A B : Addr} {n m t : Nat} {H H' : Hp} {v : V}
end
/-! ### the judgement of a ring -/
end My

namespace My
open PySem PySem.Spec PyProof.Rows L2
/-! ### the beginnings of a ring -/
end My

namespace My
open PySem PySem.Spec PyProof.Rows L2
/-! ### a written tuple of ints that the module's name holds -/
/-! ### slices of a tuple, whole or not -/
/-! ### effects -/
end My
namespace My
open PySem PySem.Spec PyProof.Rows L2
end My
namespace My
open PySem PySem.Spec PyProof.Rows L2
end My

namespace My
open PySem PySem.Spec PyProof.Rows L2
/-! ### reading round and round: the height after k tokens, without an end -/
/-! the least height from k on -/
end My

namespace My
open PySem PySem.Spec PyProof.Rows L2
/-! ### the way from a beginning to the next -/
/-! the list of the beginnings ascends -/
/-! a list of pairs, as the program and the law hold it -/
end My
namespace My
open PySem PySem.Spec PyProof.Rows L2
end My
namespace My
end My

namespace My
open PySem PySem.Spec PyProof.Rows L2
/-! ### the next beginning, going round -/
end My
namespace My
open PySem PySem.Spec PyProof.Rows L2
end My
namespace My
open PySem PySem.Spec PyProof.Rows L2
end My

namespace My
open PySem PySem.Spec PyProof.Rows L2
/-! ### turning a turned ring -/
end My
namespace My
open PySem PySem.Spec PyProof.Rows L2
end My
namespace My
open PySem PySem.Spec PyProof.Rows L2
end My
namespace My
open PySem PySem.Spec PyProof.Rows L2
end My

namespace My
open PySem PySem.Spec PyProof.Rows L2
/-! ### a def with a star parameter alone -/
section
variable {X : Cx} {CX : CXT} {k : Nat} {sp : Sp} {E : XK} {x : Str} {p pos : Pos} {e : Expr} {es : List Expr} {t : TA}
end
/-! ### effects at addresses -/
/-! ### data with great ints -/
section
variable {X : Cx}
end
end My
namespace My
open PySem PySem.Spec PyProof.Rows L2
end My

namespace My
open PySem PySem.Spec PyProof.Rows L2
/-! ### an effect so many times -/
end My

namespace My
open PySem PySem.Spec PyProof.Rows L2
/-! ### tuple * int, also 0 and 1 times -/
/-! more rules with the context's K named -/
end My

namespace My
open PySem PySem.Spec PyProof.Rows L2
/-! ### effects of stretches -/
end My

namespace My
open PySem PySem.Spec PyProof.Rows L2
/-! ### the first number below i that passes -/
/-! ### who takes which value -/
/-! ### the stack of the numbers whose values wait -/
/-! the list of what is taken: None first, then the numbers -/
end My

namespace My
open PySem PySem.Spec PyProof.Rows L2
end My
namespace My
open PySem PySem.Spec PyProof.Rows L2
end My
namespace My
open PySem PySem.Spec PyProof.Rows L2
end My
namespace My
open PySem PySem.Spec PyProof.Rows L2
end My

namespace My
open PySem PySem.Spec PyProof.Rows L2
/-! ### count of flat values -/
/-! ### givers and lacks -/
/-! a new tuple whose object is known, and its methods -/
end My
namespace My
open PySem PySem.Spec PyProof.Rows L2
end My

namespace My
open PySem PySem.Spec PyProof.Rows L2
/-! ### beginnings stand behind free tokens -/
/-! the takers of a turned ring -/
end My
namespace My
open PySem PySem.Spec PyProof.Rows L2
end My

namespace My
open PySem PySem.Spec PyProof.Rows L2
/-! ### building values: an expression that gives a value of some kind, whatever the heap, as long as what stood there stands -/
section
variable {K : PySem.W.Frag} {S A B : Addr} {H0 : Hp} {σ : L2.St} {n m k j : Nat} {P R : Hp → V → Prop} {t u : TE} {ta : TA}
end
end My

namespace My
open PySem PySem.Spec PyProof.Rows L2
/-! ### texts of whole numbers; small whole numbers; one tuple of them in another -/
section
variable {K : PySem.W.Frag} {S A B : Addr} {H0 : Hp} {σ : L2.St} {n m k j : Nat} {t u : TE} {ta : TA}
end
end My

namespace My
open PySem PySem.Spec PyProof.Rows L2
/-! ### reading once from a beginning -/
end My

namespace My
open PySem PySem.Spec PyProof.Rows L2
/-! ### rows of rows -/
end My
namespace L2
open PySem PySem.Spec PyProof.Rows
/-! ### xs[-3::-1] of a list of two items or more -/
section
variable {X : Cx}
end
end L2

namespace L2
open PySem PySem.Spec PyProof.Rows
/-! ### xs.extend(t), t a tuple whatever else its object holds -/
/-! ### xs.extend(t), t a tuple -/
end L2
namespace My
open PySem PySem.Spec PyProof.Rows L2
/-! ### ready rows, one after the other -/
end My

/-! ### the block of the guide's own-error skeleton, for any class over any built-in base whose __init__ stores the field row -/
namespace PySem
namespace Xf_row
open PySem.W PySem.Calls PyProof.Rows PySem.HandSPX
section
variable {prog : Program} {w : World} {A : Around} {E : Value → Shared → Prop} {R : Result → Shared → Prop} {s : Shared} {K : Frag} {mg : Str → Option Value} {C fI : Addr} {x0 q0 : Str} {B newId initId : String} {bmB : List Value}
end
end Xf_row
end PySem
namespace L2
open PySem PySem.Spec PyProof.Rows
section
variable {X : Cx} {C fI : Addr} {x0 q0 : Str} {B newId initId : String} {bmB : List Value}
end
end L2
namespace My
open PySem PySem.Spec PyProof.Rows L2
end My

/-! ### the block of the guide's own-error skeleton, for any class over any built-in base whose __init__ stores the field limit -/
namespace PySem
namespace Xf_limit
open PySem.W PySem.Calls PyProof.Rows PySem.HandSPX
section
variable {prog : Program} {w : World} {A : Around} {E : Value → Shared → Prop} {R : Result → Shared → Prop} {s : Shared} {K : Frag} {mg : Str → Option Value} {C fI : Addr} {x0 q0 : Str} {B newId initId : String} {bmB : List Value}
end
end Xf_limit
end PySem
namespace L2
open PySem PySem.Spec PyProof.Rows
section
variable {X : Cx} {C fI : Addr} {x0 q0 : Str} {B newId initId : String} {bmB : List Value}
end
end L2
namespace My
open PySem PySem.Spec PyProof.Rows L2
end My

namespace My
open PySem PySem.Spec PyProof.Rows L2
/-! ### errors of no field -/
/-- x: an error class with no __init__ of its own -/
def exc0B (K : PySem.W.Frag) (x : Str) (newId : String) (bmB : List Value) : Bool :=
  PySem.W.excIn K (He.ga K x) bmB newId && (PySem.W.keepIn K (.ref (He.ga K x)) && (decide (PySem.W.subIn K (.ref (He.ga K x)) (.type "BaseException") = some true) && decide (PySem.W.typeIn K (.ref (He.ga K x)) = some (.type "type"))))
section
variable {X : Cx} {C : Addr} {bmB : List Value} {B newId initId : String}
end
/-! ### isinstance of a held error, with a dict or without -/
section
variable {X : Cx} {a : Addr} {oe : Obj} {cls : Value} {d : Option Addr} {pn : List (Addr × Obj)}
end
/-! ### a call of a def that takes any number of arguments, where it may raise -/
section
variable {X : Cx} {CX : CXT} {k : Nat} {sp : Sp} {E : L2.St → XK} {x : Str} {p pos : Pos} {e : Expr} {es : List Expr} {t : TA}
end
end My

namespace My
open PySem PySem.Spec PyProof.Rows L2
/-! ### trees -/
/-! ### trees in the heap -/
section
variable {K : PySem.W.Frag} {H H' : Hp} {v : V} {t : Tr} {xs ys : List V} {ts us : List Tr} {S A B : Addr} {n : Nat}
end
/-! ### a tree that is written as lists of children -/
end My

namespace My
open PySem PySem.Spec PyProof.Rows L2
/-! ### the nodes of a tree, with their paths -/
/-! ### in the heap -/
section
variable {α : Type} {R R' : V → α → Prop} {xs : List V} {fs : List α}
end
end My
namespace L2
open PySem PySem.Spec PyProof.Rows
end L2

namespace L2
open PySem PySem.Spec PyProof.Rows RZ
/-! ### all(list of bools) -/
/-! ### a comprehension over zip of two tuples of one length -/
end L2
namespace My
open PySem PySem.Spec PyProof.Rows L2
/-! ### lists of children in the heap -/
end My

namespace L2
open PySem PySem.Spec PyProof.Rows
/-! ### del xs[f:] of a list -/
section
variable {prog : Program} {w : World} {A : Around} {E : Value → Shared → Prop} {s : Shared}
end
end L2

namespace L2
open PySem PySem.Spec PyProof.Rows
end L2
namespace My
open PySem PySem.Spec PyProof.Rows L2
/-! ### trees built from a row, from the left -/
end My

namespace My
open PySem PySem.Spec PyProof.Rows L2
/-! ### a def that is handed the error that a suite holds -/
section
variable {X : Cx} {CX : CXT} {k : Nat} {ps : List Str} {sp : SpE} {E : XK} {x : Str} {q pos : Pos} {e : Expr} {es : List Expr} {t : TA} {a : Addr} {oe : Obj} {cls : Value} {d : Option Addr}
end
/-! ### isinstance of an error that the context pins -/
section
variable {X : Cx} {a : Addr} {oe : Obj} {cls : Value} {d : Option Addr}
end
end My

namespace My
open PySem PySem.Spec PyProof.Rows L2
/-! ### trees compared by == -/
end My

namespace My
open PySem PySem.Spec PyProof.Rows L2
/-! ### try with several clauses 'except x as n', n the same name in each -/
section
variable {X : Cx} {body : List Stmt} {h1 : ExceptHandler} {hs : List ExceptHandler} {l : Cls3} {pos : Pos} {tb : WX → TS} {Wout : WX} {n : Str} {i : Nat}
end
end My

namespace My
open PySem PySem.Spec PyProof.Rows L2
/-! ### the text of data is data, too -/
end My

namespace My
open PySem PySem.Spec PyProof.Rows L2
/-! ### a def that shows values: called where nothing is being shown -/
section
variable {X : Cx} {k : Nat} {ps : List Str} {sp : Sp} {x : Str} {q pos : Pos} {e : Expr} {es : List Expr} {t : TA}
end
end My

namespace My
open PySem PySem.Spec PyProof.Rows L2
/-! ### values by their data -/
section
variable {m n k m' n' k' : Nat} {d : PyData} {ds es : List PyData}
end
/-! ### lists of values by their data -/
section
variable {b : Bool} {K : PySem.W.Frag} {H H' : Hp} {xs ys : List V} {ds es : List PyData}
end
/-! ### building values whose data is in bounds -/
section
variable {K : PySem.W.Frag} {S A B : Addr} {H0 H : Hp} {σ : L2.St} {n m k n' m' k' c j i : Nat} {t u : TE} {ta : TA} {v : V}
end
/-! ### odd values by their data -/
section
variable {K : PySem.W.Frag} {S A B : Addr} {n m t : Nat} {H H' : Hp} {v : V}
end
end My

namespace My
open PySem PySem.Spec PyProof.Rows L2
section
variable {K : PySem.W.Frag} {S A B : Addr} {H H' : Hp} {t : Nat}
end
end My

namespace My
open PySem PySem.Spec PyProof.Rows L2
/-! ### a call that does not see a list of the caller's -/
section
variable {P : Program} {w : World} {K : PySem.W.Frag} {mg : Str → Option Value} {base : Heap} {A : Around} {fr : List Env} {z z' : Shared} {H : Hp} {l : Addr} {xs : List V}
end
section
variable {X : Cx} {k : Nat} {ps : List Str} {sp : Sp} {x : Str} {q pos : Pos} {e : Expr} {es : List Expr} {t : TA}
end
/-! ### values apart from the stream and a list -/
section
variable {K : PySem.W.Frag} {S A B l : Addr} {H H' : Hp} {m n k t : Nat} {v : V}
end
end My

namespace My
open PySem PySem.Spec PyProof.Rows L2
/-! ### a truth value as a whole number -/
section
variable {X : Cx}
end
/-! ### the size of a value that is nested like a tree -/
end My

namespace My
open PySem PySem.Spec PyProof.Rows L2
/-! ### the text of a tuple of places tells the tuple -/
end My

namespace My
open PySem PySem.Spec PyProof.Rows L2
/-! ### takers as values -/
section
variable {K : PySem.W.Frag} {S A B : Addr} {n m j t k : Nat} {H H' H0 : Hp} {l : Addr} {xs : List V} {σ : L2.St} {ta : TA}
end
/-! ### a tuple, so many times, from once on -/
end My

namespace My
open PySem PySem.Spec PyProof.Rows L2
/-! ### one value, so many times -/
section
variable {K : PySem.W.Frag} {S A B : Addr} {n m j t k c : Nat} {H H' H0 : Hp} {σ : L2.St} {t0 : TE}
end
end My

namespace My
open PySem PySem.Spec PyProof.Rows L2
end My

namespace My
open PySem PySem.Spec PyProof.Rows L2
/-! ### rows of integers as values, apart from the stream; one of some values, drawn -/
section
variable {K : PySem.W.Frag} {S A B : Addr} {n m j k c : Nat} {H H' H0 : Hp} {σ : L2.St} {t u : TE} {ta : TA} {P R : List Int → Prop}
end
end My

namespace My
open PySem PySem.Spec PyProof.Rows L2
/-! ### == and != of data of any texts -/
end My

namespace My
open PySem PySem.Spec PyProof.Rows L2
/-! ### x != i, x a value of any kind, i an int -/
end My

namespace My
open PySem PySem.Spec PyProof.Rows L2
/-! ### rows of tokens as values, made of one another -/
section
variable {K : PySem.W.Frag} {S A B : Addr} {n m j k c : Nat} {H H' H0 : Hp} {σ : L2.St} {t u : TE} {ta : TA}
end
end My

/-! ### the block of the guide's own-error skeleton, for any class over any built-in base whose __init__ stores the field effect -/
namespace PySem
namespace Xf_effect
open PySem.W PySem.Calls PyProof.Rows PySem.HandSPX
section
variable {prog : Program} {w : World} {A : Around} {E : Value → Shared → Prop} {R : Result → Shared → Prop} {s : Shared} {K : Frag} {mg : Str → Option Value} {C fI : Addr} {x0 q0 : Str} {B newId initId : String} {bmB : List Value}
end
end Xf_effect
end PySem
namespace L2
open PySem PySem.Spec PyProof.Rows
section
variable {X : Cx} {C fI : Addr} {x0 q0 : Str} {B newId initId : String} {bmB : List Value}
end
end L2
namespace My
open PySem PySem.Spec PyProof.Rows L2
end My

namespace My
open PySem PySem.Spec PyProof.Rows L2
/-! ### a walk over a list or a tuple -/
/-! ### rings in runs -/
end My

namespace My
open PySem PySem.Spec PyProof.Rows L2
/-! ### runs that may be empty, a ring in runs read from a position -/
end My

namespace My
open PySem PySem.Spec PyProof.Rows L2
/-! ### ranges of positions, put together -/
/-! ### the beginnings of a ring in runs -/
end My

namespace My
open PySem PySem.Spec PyProof.Rows L2
/-! ### the first token that takes the value at a depth -/
end My

namespace My
open PySem PySem.Spec PyProof.Rows L2
/-! ### a tuple so many times, the empty one too -/
/-! ### bounds that grow by 10 ^ 12 -/
/-! ### the judgement of runs -/
section
variable {K : PySem.W.Frag} {S A B : Addr} {n m j k : Nat} {H0 : Hp} {σ : L2.St} {t u : TE} {P : Hp → V → Prop}
end
end My

namespace My
open PySem PySem.Spec PyProof.Rows L2
/-! ### texts that are joined -/
/-! ### a dict comprehension over a range -/
/-! ### the dict of the texts of the arities -/
/-! ### a loop over enumerate of a list -/
end My
namespace L2
open PySem PySem.Spec PyProof.Rows
section
variable {X : Cx}
end
end L2

/-! ### the block of the guide's own-error skeleton, for any class over any built-in base whose __init__ stores the field index -/
namespace PySem
namespace Xf_index
open PySem.W PySem.Calls PyProof.Rows PySem.HandSPX
section
variable {prog : Program} {w : World} {A : Around} {E : Value → Shared → Prop} {R : Result → Shared → Prop} {s : Shared} {K : Frag} {mg : Str → Option Value} {C fI : Addr} {x0 q0 : Str} {B newId initId : String} {bmB : List Value}
end
end Xf_index
end PySem
namespace L2
open PySem PySem.Spec PyProof.Rows
section
variable {X : Cx} {C fI : Addr} {x0 q0 : Str} {B newId initId : String} {bmB : List Value}
end
end L2
namespace My
open PySem PySem.Spec PyProof.Rows L2
end My

/-! ### the block of the guide's own-error skeleton, for any class over any built-in base whose __init__ stores the field error -/
namespace PySem
namespace Xf_error
open PySem.W PySem.Calls PyProof.Rows PySem.HandSPX
section
variable {prog : Program} {w : World} {A : Around} {E : Value → Shared → Prop} {R : Result → Shared → Prop} {s : Shared} {K : Frag} {mg : Str → Option Value} {C fI : Addr} {x0 q0 : Str} {B newId initId : String} {bmB : List Value}
end
end Xf_error
end PySem
namespace L2
open PySem PySem.Spec PyProof.Rows
section
variable {X : Cx} {C fI : Addr} {x0 q0 : Str} {B newId initId : String} {bmB : List Value}
end
end L2
namespace My
open PySem PySem.Spec PyProof.Rows L2
end My

namespace My
open PySem PySem.Spec PyProof.Rows L2
/-! ### words that are arities -/
/-! ### texts in bounds -/
/-! ### '9' * 30 -/
end My

namespace My
open PySem PySem.Spec PyProof.Rows L2
/-! ### lists of texts in bounds -/
section
variable {K : PySem.W.Frag} {S A B : Addr} {n m j i : Nat} {H0 : Hp} {σ : L2.St} {t u : TE}
end
end My

namespace My
open PySem PySem.Spec PyProof.Rows L2
/-! ### the text of a tree, its names in a list from a place on -/
/-! ### bounds of such texts -/
/-! ### a text, once or not at all -/
end My

namespace My
open PySem PySem.Spec PyProof.Rows L2
/-! ### how a text of a term is read -/
/-! ### the text of a tree is read back -/
/-! ### pieces of a text -/
/-! ### max of a tuple -/
section
variable {X : Cx}
end
/-! ### one part of each token -/
/-! ### letters -/
end My

namespace My
open PySem PySem.Spec PyProof.Rows L2
/-! ### texts of trees with the names from another place on -/
end My

namespace My
open PySem PySem.Spec PyProof.Rows L2
/-! ### a term read by recursion -/
open Classical in
/-! ### how many parentheses are open at most -/
/-! ### deep texts -/
/-! ### a text, many times -/
end My

namespace My
open PySem PySem.Spec PyProof.Rows L2
/-! ### a head with the getters of properties -/
/-- the property's object, its getter -/
def prA (K : PySem.W.Frag) (C : Addr) (f : Str) : Addr := match PySem.W.findIn K (.ref C) f with
  | some (some (.ref p)) => p
  | _ => 0
def gtA (K : PySem.W.Frag) (C : Addr) (f : Str) : Addr := match PySem.W.recIn K (prA K C f) "property" with
  | some (.ref g :: _) => g
  | _ => 0
def propB (K : PySem.W.Frag) (x f : Str) : Bool := He.eqO (PySem.W.findIn K (.ref (He.ga K x)) f) (some (some (.ref (prA K (He.ga K x) f)))) &&
  (decide (PySem.W.specialIn K (.ref (prA K (He.ga K x) f)) "__get__" = some (some (.builtin "property.__get__"))) && (decide (PySem.W.takesIn K (.ref (prA K (He.ga K x) f)) = some true) &&
  (match PySem.W.recIn K (prA K (He.ga K x) f) "property" with
  | some (.ref _ :: _) => true
  | _ => false)))
def fnA (K : PySem.W.Frag) (a : Addr) : He.FnW := match K.lookup a with
  | some ⟨_, _, .func fd, _⟩ => some (fd.name, fd.qualname, fd.params, fd.body, fd.scope, fd.globals, fd.closure, fd.builtins)
  | _ => none
def okA (K : PySem.W.Frag) (a : Addr) (d : He.DefD) : Bool := PySem.W.keepIn K (.ref a) && (match K.lookup a with
  | some ⟨_, _, .func fd, _⟩ => PySem.W.codeIn K fd.code d.qual && (He.dflB K fd.defaults (d.dvs K) && He.kwdB K fd.kwdefaults (d.kws K))
  | _ => false)
/-- the getters: the class, the property's name, the def -/
abbrev Gs : Type := List (Str × (Str × Nat) × He.DefD)
def stA (K : PySem.W.Frag) (C : Addr) (f : Str) : Addr := match PySem.W.recIn K (prA K C f) "property" with
  | some (_ :: .ref g :: _) => g
  | _ => 0
def cmA (K : PySem.W.Frag) (C : Addr) (f : Str) : Addr := match PySem.W.recIn K (prA K C f) "classmethod" with
  | some (.ref g :: _) => g
  | _ => 0
def smA (K : PySem.W.Frag) (C : Addr) (f : Str) : Addr := match PySem.W.recIn K (prA K C f) "staticmethod" with
  | some (.ref g :: _) => g
  | _ => 0
def gAt (K : PySem.W.Frag) (q : Str × (Str × Nat) × He.DefD) : Addr := match q.2.1.2 with
  | 0 => gtA K (He.ga K q.1) q.2.1.1
  | 1 => stA K (He.ga K q.1) q.2.1.1
  | 2 => cmA K (He.ga K q.1) q.2.1.1
  | _ => smA K (He.ga K q.1) q.2.1.1
def setB (K : PySem.W.Frag) (x f : Str) : Bool := decide (PySem.W.takerIn K (He.ga K x) f = some (some (.ref (prA K (He.ga K x) f)))) && (decide (PySem.W.typeIn K (.ref (prA K (He.ga K x) f)) = some (.type "property")) &&
  (match PySem.W.recIn K (prA K (He.ga K x) f) "property" with
  | some (_ :: .ref _ :: _) => true
  | _ => false))
/-- a classmethod, reached through an instance -/
def cmiB (K : PySem.W.Frag) (x m : Str) : Bool := PySem.W.plainGet K (He.ga K x) Str.empty && (PySem.W.isClsIn K (He.ga K x) && (He.eqO (PySem.W.findIn K (.ref (He.ga K x)) m) (some (some (.ref (prA K (He.ga K x) m)))) &&
  (decide (PySem.W.typeIn K (.ref (prA K (He.ga K x) m)) = some (.type "classmethod")) && (decide (PySem.W.specialIn K (.ref (prA K (He.ga K x) m)) "__get__" = some (some (.builtin "classmethod.__get__"))) &&
  (decide (PySem.W.takesIn K (.ref (prA K (He.ga K x) m)) = some false) && (!PySem.W.copiedNames.contains m && ((match PySem.W.recIn K (prA K (He.ga K x) m) "classmethod" with
  | some (.ref _ :: _) => true
  | _ => false) && PySem.W.fnIn K (cmA K (He.ga K x) m))))))))
abbrev AlP : Type := He.AlX × List He.FnW
def gB (K : PySem.W.Frag) (gs : Gs) : Bool := gs.all fun q => okA K (gAt K q) q.2.2
structure SaysP (fa : List He.Fa) (fn : List He.DefD) (ex : PySem.W.Frag → Bool) (gs : Gs) (w : World) (h : Heap) (K : PySem.W.Frag) : Prop where
  x : He.SaysX fa fn [] [] (fun K => ex K && gB K gs) w h K
  g : gs.map (fun q => fnA K (gAt K q)) = gs.map fun q => q.2.2.val
def valP (fn : List He.DefD) (gs : Gs) (w : World) : AlP := (He.valX fn [] w, gs.map fun q => q.2.2.val)
end My

namespace My
open PySem PySem.Spec PyProof.Rows L2
/-! ### methods, getters, instances -/
section
variable {X : Cx} {CX : CXT} {k : Nat} {f C : Addr} {ps : List Str} {sp : Sp} {E : XK} {x m : Str} {p pos apos : Pos} {e o : Expr} {es : List Expr} {ta : TE} {t : TA}
end
/-- a number that the class has -/
def conB (K : PySem.W.Frag) (x f : Str) (i : Int) : Bool := (match PySem.W.findIn K (.ref (He.ga K x)) f with
  | some (some (.int j t)) => decide (j = i) && decide (PySem.W.specialIn K (.int j t) "__get__" = some none)
  | _ => false) && !PySem.W.copiedNames.contains f
/-! ### len(o), str(o) by own methods -/
section
variable {X : Cx} {CX : CXT} {k : Nat} {f C : Addr} {ps : List Str} {sp : Sp} {E : XK}
open PySem.Calls Builtin in
end
end My

namespace My
open PySem PySem.Spec PyProof.Rows L2
/-! ### a field of an error that the context pins, whatever its class -/
def fldB (K : PySem.W.Frag) (x f : Str) : Bool :=
  He.eqO (PySem.W.findIn K (.ref (He.ga K x)) "__getattribute__") (some (some (.builtin "BaseException.__getattribute__"))) &&
  (He.eqO (PySem.W.findIn K (.ref (He.ga K x)) "__getattr__") (some none) && (decide (PySem.W.subIn K (.ref (He.ga K x)) (.type "BaseException") = some true) &&
  (PySem.W.hasDictIn K (He.ga K x) && He.eqO (PySem.W.findIn K (.ref (He.ga K x)) f) (some none))))
section
variable {X : Cx} {a : Addr} {oe : Obj} {cls : Value} {d : Option Addr} {e : Expr} {te : TE} {pos : Pos} {f : Str}
end
/-! ### try with one clause 'except (x, y) as n' -/
section
variable {X : Cx} {body : List Stmt} {pos : Pos} {tb : WX → TS} {Wout : WX} {n : Str} {i : Nat} {x1 x2 : Str} {c1 c2 : Value} {ts : Addr → Value → Option Addr → TS} {b1 : Stmt} {bs : List Stmt} {p1 p2 p3 p4 : Pos} {kk : Nat}
end
/-! ### the names of the laws' errors -/
def names15 : List String := ["BadEdit", "BadEdits", "BadRing", "BadText", "Busy", "LastToken", "NoArity", "NoBalance", "NoBeginning", "NothingToUndo", "Rejected", "TooLong", "TooManyEdits", "NoPlace", "NoVersion"]
def kisB (K : PySem.W.Frag) (D : Addr) (u : Value) (b : Bool) : Bool := decide (PySem.W.kitOne K (.ref D) u = some b)
/-- what isinstance tells _law_name of the class D: the one with number j -/
def nameB (K : PySem.W.Frag) (D : Addr) (j : Nat) : Bool :=
  (List.range 15).all (fun i => kisB K D (.ref (He.ga K (names15.getD i ""))) (decide (i = j))) && (kisB K D (.ref (He.ga K "RingError")) (decide (j ≤ 12)) && (kisB K D (.type "ValueError") (decide (j ≤ 12)) && kisB K D (.type "LookupError") (decide (12 < j))))
/-- what isinstance tells _law_field of the class D: the kind k of its field -/
def kindB (K : PySem.W.Frag) (D : Addr) (k : Nat) : Bool :=
  decide (PySem.W.kitAny K (.ref D) [.ref (He.ga K "NoPlace"), .ref (He.ga K "NoVersion"), .ref (He.ga K "NoArity"), .ref (He.ga K "NoBeginning")] = some (decide (k = 0))) &&
  (decide (PySem.W.kitAny K (.ref D) [.ref (He.ga K "BadEdit"), .ref (He.ga K "Rejected"), .ref (He.ga K "BadText")] = some (decide (k = 1))) &&
  (kisB K D (.ref (He.ga K "TooLong")) (decide (k = 2)) && (kisB K D (.ref (He.ga K "NoBalance")) (decide (k = 3)) && kisB K D (.ref (He.ga K "BadRing")) (decide (k = 4)))))
def exmB (K : PySem.W.Frag) (D : Addr) : Bool := decide (PySem.W.exmAny K (.ref D) [.ref (He.ga K "RingError"), .ref (He.ga K "NoPlace")] = some true)
end My

namespace My
open PySem PySem.Spec PyProof.Rows L2
/-! ### reels: objects that change, tuples that stay -/
end My
namespace L2
end L2
namespace My
open PySem PySem.Spec PyProof.Rows L2
section
variable {K : PySem.W.Frag} {H H' : Hp}
end
/-! ### an edit's outcome -/
end My
namespace My
open PySem PySem.Spec PyProof.Rows L2
end My
namespace My
open PySem PySem.Spec PyProof.Rows L2
end My
namespace My
open PySem PySem.Spec PyProof.Rows L2
end My
namespace My
open PySem PySem.Spec PyProof.Rows L2
end My
namespace My
open PySem PySem.Spec PyProof.Rows L2
end My
namespace My
open PySem PySem.Spec PyProof.Rows L2
end My
namespace My
open PySem PySem.Spec PyProof.Rows L2
end My
namespace My
open PySem PySem.Spec PyProof.Rows L2
end My
namespace My
open PySem PySem.Spec PyProof.Rows L2
end My
namespace My
open PySem PySem.Spec PyProof.Rows L2
end My
namespace My
open PySem PySem.Spec PyProof.Rows L2
end My
namespace My
open PySem PySem.Spec PyProof.Rows L2
end My
namespace My
open PySem PySem.Spec PyProof.Rows L2
end My

namespace My
open PySem PySem.Spec PyProof.Rows L2
/-! ### a property that is stored; a class that a local holds; a classmethod through an instance -/
section
variable {X : Cx} {CX : CXT} {k i : Nat} {C p g f a dx : Addr} {fs : List (Str × V)} {n m x : Str} {ps : List Str} {sp : Sp} {E : XK} {pins : List (Addr × Obj)} {σ : L2.St} {H : Hp} {s : Shared} {o e value : Expr} {es : List Expr} {pos pos' apos px : Pos} {ta tv : TE} {t : TA}
end
end My
namespace My
open PySem PySem.Spec PyProof.Rows L2
end My
namespace My
open PySem PySem.Spec PyProof.Rows L2
end My

namespace My
open PySem PySem.Spec PyProof.Rows L2
end My
namespace My
open PySem PySem.Spec PyProof.Rows L2
end My

namespace My
open PySem PySem.Spec PyProof.Rows L2
/-! ### all but instances stays -/
end My
namespace My
open PySem PySem.Spec PyProof.Rows L2
/-! ### a method's call in a try: what it raises is wished for at the caller's slots -/
section
variable {X : Cx} {CX : CXT} {k : Nat} {f C : Addr} {ps : List Str} {sp : Sp} {E : L2.St → XK} {m : Str} {pos apos : Pos} {e o : Expr} {es : List Expr} {ta : TE} {t : TA}
end
end My

namespace My
open PySem PySem.Spec PyProof.Rows L2
/-! ### what the head reaches, each address once (a mask of bits), read for the kernel -/
def visA : List Addr → Nat → List Addr → (Nat → List Addr → List Addr) → List Addr
  | [], seen, acc, k => k seen acc
  | a :: r, seen, acc, k => HandSHeadRun.frNat a fun a => match Nat.land (Nat.shiftRight seen a) 1 with
    | 0 => HandSHeadRun.frNat (Nat.lor seen (Nat.shiftLeft 1 a)) fun seen => visA r seen (a :: acc) k
    | _ + 1 => visA r seen acc k
def levA (g : Addr → Option Obj) : Nat → List Addr → Nat → List Addr → List Addr
  | 0, front, _, all => all ++ front
  | n + 1, front, seen, all => visA (front.flatMap fun a => match g a with
    | some o => He.refsD o
    | none => []) seen [] fun seen new => levA g n new seen (all ++ front)
def asP (g : Addr → Option Obj) (n : Nat) : List Addr := levA g n [mainGlobals] (Nat.shiftLeft 1 mainGlobals) []
end My
namespace My
open PySem PySem.Spec PyProof.Rows L2
end My

namespace My
open PySem PySem.Spec PyProof.Rows L2
/-! ### orders of tokens, counted -/
end My

namespace My
open PySem PySem.Spec PyProof.Rows L2
/-! ### a display of one pair whose key is a tuple; a dict of counts by rests -/
end My

namespace My
open PySem PySem.Spec PyProof.Rows L2
/-! ### the ready orders, first token first -/
/-! ### what is known -/
end My

namespace My
open PySem PySem.Spec PyProof.Rows L2
/-! ### how often each token stands in a row -/
/-! ### where a row stands -/
/-! ### arities that do not occur -/
/-! ### the number of ready rows, from either end -/
/-! ### how long the lists grow -/
/-! ### the rows that wait -/
/-! ### tuples that are known to be plain: their methods can be called -/
section
variable {X : Cx}
end
/-! ### a pair of a row and what is left -/
end My

namespace My
open PySem PySem.Spec PyProof.Rows L2
/-! ### more plain tuples: ten times one, one backwards -/
section
variable {X : Cx}
end
/-! ### rows turned -/
end My

namespace My
open PySem PySem.Spec PyProof.Rows L2
/-! ### a set of the ints of a list -/
section
variable {P : Program} {w : World} {A : Around} {E : Value → Shared → Prop} {s : Shared}
end
section
variable {X : Cx}
end
/-! ### rows in order -/
open TS HT
end My

namespace My
open PySem PySem.Spec PyProof.Rows L2
/-! ### a call with keywords of a def that takes them as a dict -/
section
variable {P : Program} {w : World} {A : Around} {E : Value → Shared → Prop} {h0 : Heap}
end
section
variable {X : Cx} {CX : CXT} {k : Nat} {f : Addr} {sp : Sp} {E : XK} {x : Str} {e : Expr} {es : List Expr} {kws : List Keyword} {t tk : TA} {ns : List Str} {p pos : Pos}
end
/-! ### a tuple of texts that stands behind the top -/
def eqSs : List Value → List Str → Bool
  | [], [] => true
  | .str x _ :: vs, y :: ys => decide (x = y) && eqSs vs ys
  | _, _ => false
end My

/-! ### the block of the guide's own-error skeleton, for any class over any built-in base whose __init__ stores the field name -/
namespace PySem
namespace Xf_name
open PySem.W PySem.Calls PyProof.Rows PySem.HandSPX
section
variable {prog : Program} {w : World} {A : Around} {E : Value → Shared → Prop} {R : Result → Shared → Prop} {s : Shared} {K : Frag} {mg : Str → Option Value} {C fI : Addr} {x0 q0 : Str} {B newId initId : String} {bmB : List Value}
end
end Xf_name
end PySem
namespace L2
open PySem PySem.Spec PyProof.Rows
section
variable {X : Cx} {C fI : Addr} {x0 q0 : Str} {B newId initId : String} {bmB : List Value}
end
end L2
namespace My
open PySem PySem.Spec PyProof.Rows L2
end My

namespace My
open PySem PySem.Spec PyProof.Rows L2
/-! ### try: suite / finally: suite; the first suite only falls through or raises -/
section
variable {X : Cx} {body : List Stmt} {f₀ : Stmt} {fs : List Stmt} {pos : Pos} {tb : WX → TS} {tf tfs : TS} {Wout : WX}
end
end My

/-! ### the block of the guide's own-error skeleton, for any class over any built-in base whose __init__ stores the field balance -/
namespace PySem
namespace Xf_balance
open PySem.W PySem.Calls PyProof.Rows PySem.HandSPX
section
variable {prog : Program} {w : World} {A : Around} {E : Value → Shared → Prop} {R : Result → Shared → Prop} {s : Shared} {K : Frag} {mg : Str → Option Value} {C fI : Addr} {x0 q0 : Str} {B newId initId : String} {bmB : List Value}
end
end Xf_balance
end PySem
namespace L2
open PySem PySem.Spec PyProof.Rows
section
variable {X : Cx} {C fI : Addr} {x0 q0 : Str} {B newId initId : String} {bmB : List Value}
end
end L2
namespace My
open PySem PySem.Spec PyProof.Rows L2
end My

namespace My
open PySem PySem.Spec PyProof.Rows L2
/-! ### an error as a value: its class and its dict are known -/
section
variable {K : PySem.W.Frag} {vs ls : List Str} {c d : Str}
end
/-! ### new lists lie beyond the system's modules -/
section
variable {X : Cx}
end
/-! ### errors in lists -/
end My

namespace My
open PySem PySem.Spec PyProof.Rows L2
/-! ### static methods, called on an instance -/
def smiB (K : PySem.W.Frag) (x m : Str) : Bool := PySem.W.plainGet K (He.ga K x) Str.empty && (PySem.W.isClsIn K (He.ga K x) && (He.eqO (PySem.W.findIn K (.ref (He.ga K x)) m) (some (some (.ref (prA K (He.ga K x) m)))) &&
  (decide (PySem.W.typeIn K (.ref (prA K (He.ga K x) m)) = some (.type "staticmethod")) && (decide (PySem.W.specialIn K (.ref (prA K (He.ga K x) m)) "__get__" = some (some (.builtin "staticmethod.__get__"))) &&
  (decide (PySem.W.takesIn K (.ref (prA K (He.ga K x) m)) = some false) && (!PySem.W.copiedNames.contains m && ((match PySem.W.recIn K (prA K (He.ga K x) m) "staticmethod" with
  | some (.ref _ :: _) => true
  | _ => false) && PySem.W.keepIn K (.ref (smA K (He.ga K x) m)))))))))
section
variable {X : Cx} {CX : CXT} {k : Nat} {C p g : Addr} {ps : List Str} {sp : Sp} {E : XK} {o e : Expr} {es : List Expr} {m : Str} {pos apos : Pos} {ta : TE} {t : TA}
end
/-! ### a class's own constant, read by the class's name: a tuple of texts -/
def crdB (K : PySem.W.Frag) (x : Str) : Bool := PySem.W.readsIn K (He.ga K x) (.type "type") && decide (PySem.W.specialIn K (.ref (He.ga K x)) "__getattribute__" = some (some (.builtin "type.__getattribute__")))
def tupA (K : PySem.W.Frag) (a : Addr) (ys : List Str) : Bool :=
  match K.lookup a with
  | some o => decide (o.cls = .type "tuple") && (match o.data with | .seq its _ => decide (its.size ≤ 1000) && eqSs its.toList ys | _ => false)
  | none => false
def cvtB (K : PySem.W.Frag) (x f : Str) (ys : List Str) : Bool :=
  match PySem.W.findCls K (.ref (He.ga K x)) (.type "type") f with
  | some (.val (.ref a)) => tupA K a ys
  | _ => false
end My

/-! ### raising with the context known to be None (L2N): for errors that are caught and answered by another error -/
namespace PySem
namespace Xf_value
open PySem.W PySem.Calls PyProof.Rows PySem.HandSPX
section
variable {prog : Program} {w : World} {A : Around} {E : Value → Shared → Prop} {R : Result → Shared → Prop} {s : Shared} {K : Frag} {mg : Str → Option Value} {C fI : Addr} {x0 q0 : Str} {B newId initId : String} {bmB : List Value}
end
end Xf_value
end PySem
namespace My
open PySem PySem.Spec PyProof.Rows L2
section
variable {X : Cx} {C fI : Addr} {x0 q0 : Str} {B newId initId : String} {bmB : List Value}
end
end My
namespace PySem
namespace Xf_limit
open PySem.W PySem.Calls PyProof.Rows PySem.HandSPX
section
variable {prog : Program} {w : World} {A : Around} {E : Value → Shared → Prop} {R : Result → Shared → Prop} {s : Shared} {K : Frag} {mg : Str → Option Value} {C fI : Addr} {x0 q0 : Str} {B newId initId : String} {bmB : List Value}
end
end Xf_limit
end PySem
namespace My
open PySem PySem.Spec PyProof.Rows L2
section
variable {X : Cx} {C fI : Addr} {x0 q0 : Str} {B newId initId : String} {bmB : List Value}
end
end My
namespace PySem
namespace Xf_index
open PySem.W PySem.Calls PyProof.Rows PySem.HandSPX
section
variable {prog : Program} {w : World} {A : Around} {E : Value → Shared → Prop} {R : Result → Shared → Prop} {s : Shared} {K : Frag} {mg : Str → Option Value} {C fI : Addr} {x0 q0 : Str} {B newId initId : String} {bmB : List Value}
end
end Xf_index
end PySem
namespace My
open PySem PySem.Spec PyProof.Rows L2
section
variable {X : Cx} {C fI : Addr} {x0 q0 : Str} {B newId initId : String} {bmB : List Value}
end
end My
namespace My
open PySem PySem.Spec PyProof.Rows L2
section
variable {X : Cx} {C : Addr} {bmB : List Value} {B newId initId : String}
end
/-! ### try / except (x, y) without a name, whose suite raises; all that the body raises is named -/
section
variable {X : Cx} {body : List Stmt} {pos : Pos} {tb : WX → TS} {Wout : WX} {x1 x2 : Str} {c1 c2 : Value} {ts : Addr → Value → Option Addr → TS} {b1 : Stmt} {bs : List Stmt} {p1 p2 p3 p4 : Pos} {kk : Nat}
end
end My

namespace My
open PySem PySem.Spec PyProof.Rows L2
/-! ### a target that is an attribute -/
/-! ### o.m(e, .., k = v, ..), the def having keyword-only parameters with defaults -/
section
variable {X : Cx} {CX : CXT} {k n : Nat} {f C : Addr} {fd : FuncData} {ps ks : List Str} {sp : Sp} {E : L2.St → XK} {o e : Expr} {es : List Expr} {kws : List Keyword} {m : Str} {pos apos : Pos} {ta : TE} {t tk : TA} {g : List Value → List Value → List Value} {gV : List V → List V → List V}
end
end My

namespace My
open PySem PySem.Spec PyProof.Rows L2
/-! ### raising and unpacking while an error is handled whose context is None or an error without a context -/
section
variable {prog : Program} {w : World} {A : Around} {E : Value → Shared → Prop} {s : Shared}
end
/-! ### errors in flight, by what is told of their object (the ground and what is tracked may be named) -/
section
variable {Z : ZF} {X : Cx} {pins : List (Addr × Obj)} {σ : L2.St} {H : Hp} {s : Shared} {W : WX} {E : XK}
end
/-! ### the kind: its context is None, or an error of the ground that has none -/
/-! ### try / except (x, y) without a name, what the suite lets out being of any kind -/
section
variable {X : Cx} {body : List Stmt} {pos : Pos} {tb : WX → TS} {Wout : WX} {x1 x2 : Str} {c1 c2 : Value} {ts : Addr → Value → Option Addr → TS} {b1 : Stmt} {bs : List Stmt} {p1 p2 p3 p4 : Pos} {kk : Nat}
end
/-! ### a new error in the air; raise .. from None in a suite -/
/-! ### a finally suite behind such an error; there a tuple is unpacked -/
section
variable {X : Cx} {body : List Stmt} {f0 : Stmt} {fs : List Stmt} {pos : Pos} {tb : WX → TS} {tf tfs : TS} {Wout : WX}
end
/-! ### rules that name the frame of the system by an equation (for the inner blocks of try) -/
section
variable {X : Cx} {K : PySem.W.Frag}
end
end My

namespace My
open PySem PySem.Spec PyProof.Rows L2
/-! ### the head with the table of the interpreter's own statics -/
def asS (g : Addr → Option Obj) (n : Nat) : List Addr := cStatics :: asP g n
def obsXS (n : Nat) (fa : List He.Fa) (fn : List He.DefD) (ex : PySem.W.Frag → Bool) (g : Addr → Option Obj) : He.AlX := (He.obsT fa fn [] (He.frT g (asS g n)), ex (He.frT g (asS g n)) && He.tabsB g [] (He.frT g (asS g n)))
theorem saysXS_of {n : Nat} {fa : List He.Fa} {fn : List He.DefD} {ex : PySem.W.Frag → Bool} {w : World} {h : Heap} (e : obsXS n fa fn ex h.get? = He.valX fn [] w) : He.SaysX fa fn [] [] ex w h (He.frT h.get? (asS h.get? n)) := by
  have a := congrArg (fun z : He.AlX => z.1) e
  have b : (ex (He.frT h.get? (asS h.get? n)) && He.tabsB h.get? [] (He.frT h.get? (asS h.get? n))) = true := congrArg (fun z : He.AlX => z.2) e
  exact ⟨a, (He.ba b).1, fun p hp => (nomatch hp), fun p hp => (nomatch hp), fun p hp => (nomatch hp)⟩
def obsS (n : Nat) (fa : List He.Fa) (fn : List He.DefD) (ex : PySem.W.Frag → Bool) (gs : Gs) (g : Addr → Option Obj) : AlP :=
  (obsXS n fa fn (fun K => ex K && gB K gs) g, gs.map fun q => fnA (He.frT g (asS g n)) (gAt (He.frT g (asS g n)) q))
end My

/-! A sleeping generator that a run does not wake keeps its state. -/
namespace GenP
open PySem
open Sem (wp)

variable {D : Nat → Option GenState} {T : Array GenState}
end GenP

/-! Generators that any consumer may wake: segments by what their end is, sleeping states, yield from. -/
namespace GenP
open PySem PySem.Spec PyProof.Rows L2 GenW
open Sem (wp)

section
variable {M : Model} {A : Around} {P P' : End → Shared → Prop} {c : Code} {fs : List Frame} {s : Shared}
end
/-! ### waking -/
/-! ### asleep -/
end GenP

/-! What a generator's call gives, for a consumer of any kind; a for loop over it. -/
namespace GenP
open PySem PySem.Spec PyProof.Rows L2 GenW
open Sem (wp)

section
variable {X : Cx} {k : Nat}
end
end GenP

/-! A generator def whose body is one «yield from» of a list. -/
namespace GenP
open PySem PySem.Spec PyProof.Rows L2 GenW
open Sem (wp)

/-! ### the list's iterator -/
section
variable {P : Program} {w : World} {A : Around} {E : Value → Shared → Prop} {s : Shared}
end
/-! ### the def -/
/-! ### the call -/
section
variable {X : Cx} {k : Nat} {f : Addr} {fd : FuncData} {ps : List Str} {sp : SpQ} {x : Str} {p pos : Pos}
end
end GenP

/-! A list comprehension over a generator. -/
namespace GenP
open PySem PySem.Spec PyProof.Rows L2 GenW
open Sem (wp)

section
variable {X : Cx} {k : Nat}
end
end GenP

/-! list(g); a generator def of the module. -/
namespace GenP
open PySem PySem.Spec PyProof.Rows L2 GenW
open Sem (wp)

section
variable {X : Cx} {k : Nat}
end
end GenP
namespace GenP
open PySem PySem.Spec PyProof.Rows L2 GenW My
end GenP

/-! An Inv of a generator's frame at each waking: the entry is the waking state, cut down to what is older than the frame. -/
namespace GenP
open PySem PySem.Spec PyProof.Rows L2 GenW

section
variable {R : Cx} {σ : L2.St} {H H' : Hp} {s z : Shared} {Is : List Addr}
end
end GenP

/-! Segments of a for loop and of a yield. -/
namespace GenP
open PySem PySem.Spec PyProof.Rows L2 GenW
open Sem (wp)
section
variable {M : Model} {A : Around} {P : End → Shared → Prop} {c : Code} {fs : List Frame} {s : Shared} {env : Env} {K : Flow → Sem PySem.Fin} {J : Value → Sem PySem.Fin} {gd : Bool → Bool} {lv : List Value → List Value}
end
section
variable {prog : Program} {w : World} {A : Around} {P : End → Shared → Prop} {fs : List Frame} {s : Shared} {env : Env} {target : Expr} {it : Value} {body : List Stmt}
end
end GenP

/-! A generator whose body is a for loop that yields once a turn. -/
namespace GenP
open PySem PySem.Spec PyProof.Rows L2 GenW
open Sem (wp)
section
variable {R : Cx}
end
end GenP

/-! What a call of such a generator gives; the def's promise. -/
namespace GenP
open PySem PySem.Spec PyProof.Rows L2 GenW My
open Sem (wp)
end GenP

/-! list(g), of such a generator. -/
namespace GenP
open PySem PySem.Spec PyProof.Rows L2 GenW
open Sem (wp)

section
variable {X : Cx} {k : Nat}
end
end GenP

/-! A list comprehension over such a generator. -/
namespace GenP
open PySem PySem.Spec PyProof.Rows L2 GenW
open Sem (wp)

section
variable {X : Cx} {k : Nat}
end
end GenP
namespace GenP
open PySem PySem.Spec PyProof.Rows L2 GenW
section
variable {X : Cx} {k : Nat}
end
end GenP

/-! A method that is such a generator; its call; name = [.. for .. in g]. -/
namespace GenP
open PySem PySem.Spec PyProof.Rows L2 GenW My
open Sem (wp)
section
variable {X : Cx} {k : Nat} {f C : Addr} {fd : FuncData} {ps : List Str} {sp : SpQ3} {m : Str} {pos apos : Pos} {o : Expr} {ta : TE}
end
end GenP

/-! == of two instances by their class's own __eq__, where it is true. -/
namespace My
open PySem PySem.Spec PyProof.Rows L2
end My
namespace My
open PySem PySem.Spec PyProof.Rows L2
def isiB (K : PySem.W.Frag) (x : Str) : Bool :=
  decide (PySem.W.findIn K (.ref (He.ga K x)) "__class__" = some (some (.builtin "object.__class__"))) && (decide (PySem.W.specialIn K (.builtin "object.__class__") "__get__" = some (some (.builtin "getset_descriptor.__get__"))) && (decide (PySem.W.takesIn K (.builtin "object.__class__") = some true) && decide (PySem.W.mroIn K (He.ga K x) (.type "object") = some true)))
end My
namespace My
open PySem PySem.Spec PyProof.Rows L2
end My
namespace My
open PySem PySem.Spec PyProof.Rows L2
end My
namespace My
open PySem PySem.Spec PyProof.Rows L2
/-! ### the text of data keeps to signs that are code points -/
end My
namespace My
open PySem PySem.Spec PyProof.Rows L2
end My

/-! A generator whose body ends in a while loop with a yield in one branch of an if. -/
namespace GenP
open PySem PySem.Spec PyProof.Rows L2 GenW
open Sem (wp)
section
variable {prog : Program} {w : World} {A : Around} {P : End → Shared → Prop} {fs : List Frame} {s : Shared} {env : Env} {test : Expr} {body : List Stmt}
end
section
variable {R : Cx}
end
end GenP

/-! What a call of such a generator gives. -/
namespace GenP
open PySem PySem.Spec PyProof.Rows L2 GenW My
open Sem (wp)
end GenP

/-! for .. in g(..) over such a generator, with break; the def's promise; its call. -/
namespace GenP
open PySem PySem.Spec PyProof.Rows L2 GenW My
open Sem (wp)
section
variable {X : Cx} {k : Nat}
end
section
variable {X : Cx} {k : Nat} {ps : List Str} {sp : SpQ3} {x : Str} {p pos : Pos}
end
end GenP

/-! Rules whose relation names the context's K, with K apart. -/
namespace My
open PySem PySem.Spec PyProof.Rows L2
section
variable {X : Cx} {K : PySem.W.Frag}
end
end My

/-! super().m(..) in a method of an own class: judgements at the method's own code, and the promise of such a method. -/
namespace SupX
open PySem PySem.Spec PyProof.Rows L2 My
section
variable {X : Cx} {pins : List (Addr × Obj)} {σ : L2.St} {H : Hp} {s : Shared} {C D x dx f2 : Addr} {fs : List (Str × V)} {m : Str}
end
/-! ### at the code: arguments and calls -/
section
variable {M : Model} {A : Around} {c : Code} {E : Value → Shared → Prop} {s : Shared}
end
/-! ### judgements at the code -/
section
variable {X : Cx} {CX : CXT} {k : Nat} {D : Addr} {ps : List Str} {E : XK} {m : Str} {p0 p1 pos apos : Pos} {e o : Expr} {es : List Expr} {t : TA} {te ta : TE} {body : List Stmt} {st : Stmt} {rest : List Stmt} {ts tr : TS}
/-! ### statements -/
end
end SupX

/-! The promise of a method whose text names super. -/
namespace SupX
open PySem PySem.Spec PyProof.Rows L2 My NdefX
section
variable {CX : CXT} {P : Program} {w : World} {K : PySem.W.Frag} {mg : Str → Option Value} {base : Heap} {N ps : List Str} {F : NF} {f D cc : Addr} {fd : FuncData} {k : Nat} {sp : Sp}
end
end SupX

/-! The head of a law whose classes have methods that name super: what is read off the heap behind the top. -/
namespace SupX
open PySem PySem.Spec PyProof.Rows L2 My NdefX
abbrev SuW : Type := Option (Str × Str × Arguments × FuncBody × Scope × Addr × List Str × Addr)
def suW (K : PySem.W.Frag) (a : Addr) : SuW := match K.lookup a with
  | some ⟨_, _, .func fd, _⟩ => some (fd.name, fd.qualname, fd.params, fd.body, fd.scope, fd.globals, fd.closure.map (·.1), fd.builtins)
  | _ => none
def suV (d : He.DefD) : SuW := some (d.name, d.qual, d.params, .stmts d.body, d.scope, mainGlobals, [("__class__" : Str)], builtinsNs)
def fileB (fl : Str) (K : PySem.W.Frag) (v : Value) : Bool := match v with
  | .ref c => (match K.lookup c with
    | some ⟨_, _, .fields vs, _⟩ => (match (vs[2]? : Option Value) with
      | some (Value.str file _) => fl == file
      | _ => false)
    | _ => false)
  | _ => false
def cellB (K : PySem.W.Frag) (cl : List (Str × Addr)) (D : Addr) : Bool := match cl with
  | [(_, cc)] => (match K.lookup cc with
    | some ⟨_, _, .cell (some (.ref D')), _⟩ => D' == D
    | _ => false)
  | _ => false
def noneB : Value → Bool
  | .none => true
  | _ => false
def suB (fl : Str) (K : PySem.W.Frag) (d : He.DefD) : Bool := (PySem.W.clsIn K (He.ga K d.at_.1)).isSome && (match K.lookup (He.fAd K d.at_) with
  | some ⟨_, _, .func fd, _⟩ => noneB fd.defaults && (PySem.W.codeIn K fd.code d.qual && (fileB fl K fd.code && (cellB K fd.closure (He.ga K d.at_.1) && He.kwdB K fd.kwdefaults (d.kws K))))
  | _ => false)
/-! ### the hook -/
abbrev AlU : Type := AlP × List SuW
structure SaysU (fa : List He.Fa) (fn : List He.DefD) (ex : PySem.W.Frag → Bool) (gs : Gs) (ss : List He.DefD) (w : World) (h : Heap) (K : PySem.W.Frag) : Prop where
  p : SaysP fa fn ex gs w h K
  s : ss.map (fun d => suW K (He.fAd K d.at_)) = ss.map suV
def obsU (n : Nat) (fa : List He.Fa) (fn : List He.DefD) (ex : PySem.W.Frag → Bool) (gs : Gs) (ss : List He.DefD) (g : Addr → Option Obj) : AlU :=
  (obsS n fa fn ex gs g, ss.map fun d => suW (He.frT g (asS g n)) (He.fAd (He.frT g (asS g n)) d.at_))
def hookU (n : Nat) (fa : List He.Fa) (fn : List He.DefD) (ex : PySem.W.Frag → Bool) (gs : Gs) (ss : List He.DefD) : PySem.W.Hook where
  α := AlU
  obs := fun s => obsU n fa fn ex gs ss s.heap.get?
  val := fun w => (valP fn gs w, ss.map suV)
  says := fun w h => ∃ K : PySem.W.Frag, K.In h ∧ SaysU fa fn ex gs ss w h K
  of := fun _ _ e => ⟨_, He.frT_in, ⟨⟨saysXS_of (congrArg (fun z : AlU => z.1.1) e), congrArg (fun z : AlU => z.1.2) e⟩, congrArg (fun z : AlU => z.2) e⟩⟩
  keeps := fun _ _ _ ⟨K, hK, c⟩ k => ⟨K, PySem.W.Frag.In.keeps hK k, ⟨⟨⟨c.p.x.t, c.p.x.more, c.p.x.hd, c.p.x.out, fun p hp => k _ _ (c.p.x.empty p hp)⟩, c.p.g⟩, c.s⟩⟩
theorem obsU_eq {n : Nat} {fa : List He.Fa} {fn : List He.DefD} {ex : PySem.W.Frag → Bool} {gs : Gs} {ss : List He.DefD} {g : Addr → Option Obj} {s : Shared} (h : ∀ a, g a = s.heap.get? a) : obsU n fa fn ex gs ss g = (hookU n fa fn ex gs ss).obs s := by
  have e : g = s.heap.get? := funext h
  rw [e] <;> rfl
/-- super's m from the class D on, for an instance of the class C, both by their names -/
def smB (K : PySem.W.Frag) (C D m : Str) (f : Addr) : Bool := decide (PySem.W.nsIn K cStatics "thirdparty.any" = some none) && (He.eqO (PySem.W.ks_superIn K (He.ga K C) (He.ga K D) m) (some (some (.ref f))) && (decide (PySem.W.typeIn K (.ref f) = some (.type "function")) &&
  (decide (PySem.W.mroIn K (He.ga K C) (.ref (He.ga K D)) = some true) && PySem.W.fnIn K f)))
end SupX

/-! The four classes of reels: what they share (Fm), a reel of any of them (RL). -/
namespace SupX
open PySem PySem.Spec PyProof.Rows L2 My
/-- the class C finds these names where Reel has them -/
def samB (K : PySem.W.Frag) (C : Str) (ms ps : List Str) : Bool := (ms.all fun m => decide (He.ma K (He.ga K C) m = He.ma K (He.ga K "Reel") m)) && ps.all fun p => decide (prA K (He.ga K C) p = prA K (He.ga K "Reel") p)
/-- the class C finds m where the class D has it -/
def samE (K : PySem.W.Frag) (C : Str) (L : List (Str × Str)) : Bool := L.all fun q => decide (He.ma K (He.ga K C) q.1 = He.ma K (He.ga K q.2) q.1)
def sameP (K : PySem.W.Frag) (C : Str) (L : List (Str × Str)) : Bool := L.all fun q => decide (prA K (He.ga K C) q.1 = prA K (He.ga K q.2) q.1)
end SupX

/-! Errors with the field balance whose context is known; what an edit, a batch, a call do to a reel of any of the four classes. -/
namespace PySem
namespace Xf_balance
open PySem.W PySem.Calls PyProof.Rows PySem.HandSPX
section
variable {prog : Program} {w : World} {A : Around} {E : Value → Shared → Prop} {R : Result → Shared → Prop} {s : Shared} {K : Frag} {mg : Str → Option Value} {C fI : Addr} {x0 q0 : Str} {B newId initId : String} {bmB : List Value}
end
end Xf_balance
end PySem
namespace My
open PySem PySem.Spec PyProof.Rows L2
section
variable {X : Cx} {C fI : Addr} {x0 q0 : Str} {B newId initId : String} {bmB : List Value}
end
end My
namespace SupX
open PySem PySem.Spec PyProof.Rows L2 My
end SupX

/-! super().m(e, .., k = v); methods that name super and have keyword-only parameters with defaults. -/
namespace SupX
open PySem PySem.Spec PyProof.Rows L2 My NdefX
section
variable {X : Cx} {CX : CXT} {k n : Nat} {D : Addr} {ps ks : List Str} {E : XK} {m : Str} {p0 p1 pos apos : Pos} {e o : Expr} {es : List Expr} {kws : List Keyword} {t tk : TA} {body : List Stmt}
end
end SupX

/-! What the laws say of an edit, with and without the condition on the balance. -/
namespace My
open PySem PySem.Spec PyProof.Rows L2
end My
namespace SupX
open PySem PySem.Spec PyProof.Rows L2 My
end SupX

/-! == of instances of two own classes whose __eq__ is one and the same def. -/
namespace SupX
open PySem PySem.Spec PySem.W PyProof.Rows L2 My
section
variable {prog : Program} {w : World} {A : Around} {E : Value → Shared → Prop} {s : Shared} {K : Frag} {x y C D L f : Addr} {h₀ : Heap} {m : Str → Option Value} {ox oy : Obj} {od oe : Option Obj}
end
end SupX

/-! != of instances of own classes with an own __eq__ and object's __ne__. -/
namespace SupX
open PySem PySem.Spec PySem.W PyProof.Rows L2 My
section
variable {prog : Program} {w : World} {A : Around} {E : Value → Shared → Prop} {s : Shared} {K : Frag} {x y C D L f : Addr} {h₀ : Heap} {m : Str → Option Value} {ox oy : Obj} {od oe : Option Obj}
end
end SupX

/-! == and != of an instance of an own class and a value of a built-in type, in both orders. -/
namespace SupX
open PySem PySem.Spec PySem.W PyProof.Rows L2 My
open PySem.AutoSeq1 (wpAny_loadPart')
section
variable {h : Heap}
end
section
variable {X : Cx} {pins : List (Addr × Obj)} {σ : L2.St} {H : Hp} {s : Shared} {A : Around} {E : Value → Shared → Prop} {v : V} {u : Value} {T : String}
end
section
variable {X : Cx} {CX : CXT} {k : Nat} {f : Addr} {ps : List Str} {sp : Sp} {E : XK}
end
end SupX

/-! list(enumerate(l)) of a list -/
namespace EnL
open PySem PySem.Calls PySem.Spec PyProof.Rows L2
section
variable {prog : Program} {w : World} {A : Around} {E : Value → Shared → Prop} {s : Shared} {e it l S : Addr} {items : Array Value} {i : Nat}
end
section
variable {prog : Program} {w : World} {A : Around} {s : Shared} {R : Result → Shared → Prop} {items : Array Value}
end
section
variable {prog : Program} {w : World} {A : Around} {E : Value → Shared → Prop} {s : Shared} {I it l : Addr} {items : Array Value}
end
section
variable {X : Cx} {pins : List (Addr × Obj)} {σ : L2.St} {H : Hp} {s : Shared} {h' : Heap}
end
end EnL

/-! class methods and static methods, called by the class's name; constants of a class, read by its name or through an instance -/
namespace My
open PySem PySem.Spec PyProof.Rows L2
def findB (K : PySem.W.Frag) (x m : Str) (gid : String) : Bool := match PySem.W.findCls K (.ref (He.ga K x)) (.type "type") m with
  | some (.get (.builtin b) (.ref p) .none (.ref c)) => decide (b = gid) && (decide (p = prA K (He.ga K x) m) && decide (c = He.ga K x))
  | _ => false
def cmeB (K : PySem.W.Frag) (x m : Str) : Bool := findB K x m "classmethod.__get__" && ((match PySem.W.recIn K (prA K (He.ga K x) m) "classmethod" with
  | some (.ref _ :: _) => true
  | _ => false) && PySem.W.fnIn K (cmA K (He.ga K x) m))
def csmB (K : PySem.W.Frag) (x m : Str) : Bool := findB K x m "staticmethod.__get__" && ((match PySem.W.recIn K (prA K (He.ga K x) m) "staticmethod" with
  | some (.ref _ :: _) => true
  | _ => false) && PySem.W.keepIn K (.ref (smA K (He.ga K x) m)))
section
variable {X : Cx} {CX : CXT} {k : Nat} {C p g : Addr} {ps : List Str} {sp : Sp} {E : XK} {o e : Expr} {es : List Expr} {m : Str} {pos apos : Pos} {ta : TE} {t : TA}
end
/-! ### constants -/
def cvnB (K : PySem.W.Frag) (x f : Str) (i : Int) : Bool := match PySem.W.findCls K (.ref (He.ga K x)) (.type "type") f with
  | some (.val (.int j _)) => decide (j = i)
  | _ => false
def kwtB (K : PySem.W.Frag) (x f : Str) (ys : List Str) : Bool := (match PySem.W.findIn K (.ref (He.ga K x)) f with
  | some (some (.ref a)) => tupA K a ys && decide (PySem.W.specialIn K (.ref a) "__get__" = some none)
  | _ => false) && !PySem.W.copiedNames.contains f
end My

/-! in and not in of a value of a built-in type and a list or tuple of texts -/
namespace SupX
open PySem PySem.Spec PySem.W PyProof.Rows L2 My
open PySem.AutoSeq1 (wpAny_loadPart')
open PySem.SeqAt
section
variable {A : Around} {s : Shared}
end
section
variable {X : Cx} {pins : List (Addr × Obj)} {σ : L2.St} {H : Hp} {s : Shared} {v : Value} {x : V} {T : String}
end
end SupX


namespace K62
open PySem PySem.Spec PyProof.Rows My
open L2 hiding TupI
def top (i : Nat) : Stmt := PySem.Challenge.pw_ringpostfix_k62_reels_constructed.main.body.getD i (.Pass ⟨0, 0, 0, 0⟩)
abbrev s__wall : Stmt := top 0
abbrev N__wall : List Str := ["k"]
def d__wall : He.DefD := ⟨("_wall", none), "_wall", "_wall", defArgs s__wall, defBody s__wall, defScope s__wall, [], []⟩
abbrev s_NoBeginning_init : Stmt := inClass (top 5) 0
abbrev N_NoBeginning_init : List Str := ["self", "value"]
def d_NoBeginning_init : He.DefD := ⟨("NoBeginning", some "__init__"), "__init__", "NoBeginning.__init__", defArgs s_NoBeginning_init, defBody s_NoBeginning_init, defScope s_NoBeginning_init, [], []⟩
abbrev s_NoArity_init : Stmt := inClass (top 6) 0
abbrev N_NoArity_init : List Str := ["self", "value"]
def d_NoArity_init : He.DefD := ⟨("NoArity", some "__init__"), "__init__", "NoArity.__init__", defArgs s_NoArity_init, defBody s_NoArity_init, defScope s_NoArity_init, [], []⟩
abbrev s_TooLong_init : Stmt := inClass (top 7) 0
abbrev N_TooLong_init : List Str := ["self", "limit"]
def d_TooLong_init : He.DefD := ⟨("TooLong", some "__init__"), "__init__", "TooLong.__init__", defArgs s_TooLong_init, defBody s_TooLong_init, defScope s_TooLong_init, [], []⟩
abbrev s_BadRing_init : Stmt := inClass (top 9) 0
abbrev N_BadRing_init : List Str := ["self", "error"]
def d_BadRing_init : He.DefD := ⟨("BadRing", some "__init__"), "__init__", "BadRing.__init__", defArgs s_BadRing_init, defBody s_BadRing_init, defScope s_BadRing_init, [], []⟩
abbrev s_NoBalance_init : Stmt := inClass (top 10) 0
abbrev N_NoBalance_init : List Str := ["self", "balance"]
def d_NoBalance_init : He.DefD := ⟨("NoBalance", some "__init__"), "__init__", "NoBalance.__init__", defArgs s_NoBalance_init, defBody s_NoBalance_init, defScope s_NoBalance_init, [], []⟩
abbrev s_BadEdit_init : Stmt := inClass (top 14) 0
abbrev N_BadEdit_init : List Str := ["self", "index"]
def d_BadEdit_init : He.DefD := ⟨("BadEdit", some "__init__"), "__init__", "BadEdit.__init__", defArgs s_BadEdit_init, defBody s_BadEdit_init, defScope s_BadEdit_init, [], []⟩
abbrev s_Rejected_init : Stmt := inClass (top 15) 0
abbrev N_Rejected_init : List Str := ["self", "index"]
def d_Rejected_init : He.DefD := ⟨("Rejected", some "__init__"), "__init__", "Rejected.__init__", defArgs s_Rejected_init, defBody s_Rejected_init, defScope s_Rejected_init, [], []⟩
abbrev s_BadText_init : Stmt := inClass (top 17) 0
abbrev N_BadText_init : List Str := ["self", "index"]
def d_BadText_init : He.DefD := ⟨("BadText", some "__init__"), "__init__", "BadText.__init__", defArgs s_BadText_init, defBody s_BadText_init, defScope s_BadText_init, [], []⟩
abbrev s_NoPlace_init : Stmt := inClass (top 18) 0
abbrev N_NoPlace_init : List Str := ["self", "value"]
def d_NoPlace_init : He.DefD := ⟨("NoPlace", some "__init__"), "__init__", "NoPlace.__init__", defArgs s_NoPlace_init, defBody s_NoPlace_init, defScope s_NoPlace_init, [], []⟩
abbrev s_NoVersion_init : Stmt := inClass (top 19) 0
abbrev N_NoVersion_init : List Str := ["self", "value"]
def d_NoVersion_init : He.DefD := ⟨("NoVersion", some "__init__"), "__init__", "NoVersion.__init__", defArgs s_NoVersion_init, defBody s_NoVersion_init, defScope s_NoVersion_init, [], []⟩
abbrev s_is_plain_integer : Stmt := top 21
abbrev N_is_plain_integer : List Str := ["value"]
def d_is_plain_integer : He.DefD := ⟨("is_plain_integer", none), "is_plain_integer", "is_plain_integer", defArgs s_is_plain_integer, defBody s_is_plain_integer, defScope s_is_plain_integer, [], []⟩
abbrev s_is_index : Stmt := top 22
abbrev N_is_index : List Str := ["value", "many"]
def d_is_index : He.DefD := ⟨("is_index", none), "is_index", "is_index", defArgs s_is_index, defBody s_is_index, defScope s_is_index, [], []⟩
abbrev s_is_arity : Stmt := top 24
abbrev N_is_arity : List Str := ["value"]
def d_is_arity : He.DefD := ⟨("is_arity", none), "is_arity", "is_arity", defArgs s_is_arity, defBody s_is_arity, defScope s_is_arity, [], []⟩
abbrev s_ring_error : Stmt := top 25
abbrev N_ring_error : List Str := ["value", "index", "item"]
def d_ring_error : He.DefD := ⟨("ring_error", none), "ring_error", "ring_error", defArgs s_ring_error, defBody s_ring_error, defScope s_ring_error, [], []⟩
abbrev s_check_place : Stmt := top 26
abbrev N_check_place : List Str := ["ring", "place"]
def d_check_place : He.DefD := ⟨("check_place", none), "check_place", "check_place", defArgs s_check_place, defBody s_check_place, defScope s_check_place, [], []⟩
abbrev s_balance : Stmt := top 27
abbrev N_balance : List Str := ["row"]
def d_balance : He.DefD := ⟨("balance", none), "balance", "balance", defArgs s_balance, defBody s_balance, defScope s_balance, [], []⟩
abbrev s_turned : Stmt := top 28
abbrev N_turned : List Str := ["ring", "place"]
def d_turned : He.DefD := ⟨("turned", none), "turned", "turned", defArgs s_turned, defBody s_turned, defScope s_turned, [], []⟩
abbrev s_heights : Stmt := top 29
abbrev N_heights : List Str := ["ring", "place", "found", "height", "arity"]
def d_heights : He.DefD := ⟨("heights", none), "heights", "heights", defArgs s_heights, defBody s_heights, defScope s_heights, [], []⟩
abbrev s_need : Stmt := top 30
abbrev N_need : List Str := ["ring", "place"]
def d_need : He.DefD := ⟨("need", none), "need", "need", defArgs s_need, defBody s_need, defScope s_need, [], []⟩
abbrev s_is_beginning : Stmt := top 32
abbrev N_is_beginning : List Str := ["ring", "place"]
def d_is_beginning : He.DefD := ⟨("is_beginning", none), "is_beginning", "is_beginning", defArgs s_is_beginning, defBody s_is_beginning, defScope s_is_beginning, [], []⟩
abbrev s_beginnings : Stmt := top 33
abbrev N_beginnings : List Str := ["ring", "place"]
def d_beginnings : He.DefD := ⟨("beginnings", none), "beginnings", "beginnings", defArgs s_beginnings, defBody s_beginnings, defScope s_beginnings, [], []⟩
abbrev s_check_gap : Stmt := top 36
abbrev N_check_gap : List Str := ["ring", "place"]
def d_check_gap : He.DefD := ⟨("check_gap", none), "check_gap", "check_gap", defArgs s_check_gap, defBody s_check_gap, defScope s_check_gap, [], []⟩
abbrev s_with_arity : Stmt := top 37
abbrev N_with_arity : List Str := ["ring", "place", "arity"]
def d_with_arity : He.DefD := ⟨("with_arity", none), "with_arity", "with_arity", defArgs s_with_arity, defBody s_with_arity, defScope s_with_arity, [], []⟩
abbrev s_with_token : Stmt := top 38
abbrev N_with_token : List Str := ["ring", "place", "arity"]
def d_with_token : He.DefD := ⟨("with_token", none), "with_token", "with_token", defArgs s_with_token, defBody s_with_token, defScope s_with_token, [], []⟩
abbrev s_without_token : Stmt := top 39
abbrev N_without_token : List Str := ["ring", "place"]
def d_without_token : He.DefD := ⟨("without_token", none), "without_token", "without_token", defArgs s_without_token, defBody s_without_token, defScope s_without_token, [], []⟩
abbrev s_check_arity : Stmt := top 41
abbrev N_check_arity : List Str := ["arity"]
def d_check_arity : He.DefD := ⟨("check_arity", none), "check_arity", "check_arity", defArgs s_check_arity, defBody s_check_arity, defScope s_check_arity, [], []⟩
abbrev s_put_token : Stmt := top 42
abbrev N_put_token : List Str := ["ring", "place", "arity"]
def d_put_token : He.DefD := ⟨("put_token", none), "put_token", "put_token", defArgs s_put_token, defBody s_put_token, defScope s_put_token, [], []⟩
abbrev s_insert_token : Stmt := top 43
abbrev N_insert_token : List Str := ["ring", "place", "arity"]
def d_insert_token : He.DefD := ⟨("insert_token", none), "insert_token", "insert_token", defArgs s_insert_token, defBody s_insert_token, defScope s_insert_token, [], []⟩
abbrev s_edited : Stmt := top 44
abbrev N_edited : List Str := ["ring", "edit"]
def d_edited : He.DefD := ⟨("edited", none), "edited", "edited", defArgs s_edited, defBody s_edited, defScope s_edited, [], []⟩
abbrev s_parse_ring : Stmt := top 46
abbrev N_parse_ring : List Str := ["text", "arities", "arity", "tokens", "index", "word"]
def d_parse_ring : He.DefD := ⟨("parse_ring", none), "parse_ring", "parse_ring", defArgs s_parse_ring, defBody s_parse_ring, defScope s_parse_ring, [], []⟩
abbrev s_Reel_init : Stmt := inClass (top 48) 2
abbrev N_Reel_init : List Str := ["self", "ring", "error"]
def d_Reel_init : He.DefD := ⟨("Reel", some "__init__"), "__init__", "Reel.__init__", defArgs s_Reel_init, defBody s_Reel_init, defScope s_Reel_init, [], []⟩
abbrev s_Reel_read : Stmt := inClass (top 48) 3
abbrev N_Reel_read : List Str := ["cls", "text"]
def d_Reel_read : He.DefD := ⟨("Reel", some "read"), "read", "Reel.read", defArgs s_Reel_read, defBody s_Reel_read, defScope s_Reel_read, [], []⟩
abbrev s_Reel_is_edit : Stmt := inClass (top 48) 5
abbrev N_Reel_is_edit : List Str := ["value", "arguments"]
def d_Reel_is_edit : He.DefD := ⟨("Reel", some "is_edit"), "is_edit", "Reel.is_edit", defArgs s_Reel_is_edit, defBody s_Reel_is_edit, defScope s_Reel_is_edit, [], []⟩
abbrev s_Reel_ring : Stmt := inClass (top 48) 6
abbrev N_Reel_ring : List Str := ["self"]
def d_Reel_ring : He.DefD := ⟨("Reel", some "ring"), "ring", "Reel.ring", defArgs s_Reel_ring, defBody s_Reel_ring, defScope s_Reel_ring, [], []⟩
abbrev s_Reel_version : Stmt := inClass (top 48) 7
abbrev N_Reel_version : List Str := ["self"]
def d_Reel_version : He.DefD := ⟨("Reel", some "version"), "version", "Reel.version", defArgs s_Reel_version, defBody s_Reel_version, defScope s_Reel_version, [], []⟩
abbrev s_Reel_beginnings : Stmt := inClass (top 48) 8
abbrev N_Reel_beginnings : List Str := ["self"]
def d_Reel_beginnings : He.DefD := ⟨("Reel", some "beginnings"), "beginnings", "Reel.beginnings", defArgs s_Reel_beginnings, defBody s_Reel_beginnings, defScope s_Reel_beginnings, [], []⟩
abbrev s_Reel_start : Stmt := inClass (top 48) 9
abbrev N_Reel_start : List Str := ["self"]
def d_Reel_start : He.DefD := ⟨("Reel", some "start"), "start", "Reel.start", defArgs s_Reel_start, defBody s_Reel_start, defScope s_Reel_start, [], []⟩
abbrev s_Reel_start_set : Stmt := inClass (top 48) 10
abbrev N_Reel_start_set : List Str := ["self", "value"]
def d_Reel_start_set : He.DefD := ⟨("Reel", some "start"), "start", "Reel.start", defArgs s_Reel_start_set, defBody s_Reel_start_set, defScope s_Reel_start_set, [], []⟩
abbrev s_Reel_check_idle : Stmt := inClass (top 48) 12
abbrev N_Reel_check_idle : List Str := ["self"]
def d_Reel_check_idle : He.DefD := ⟨("Reel", some "check_idle"), "check_idle", "Reel.check_idle", defArgs s_Reel_check_idle, defBody s_Reel_check_idle, defScope s_Reel_check_idle, [], []⟩
abbrev s_Reel_check_result : Stmt := inClass (top 48) 13
abbrev N_Reel_check_result : List Str := ["self", "ring"]
def d_Reel_check_result : He.DefD := ⟨("Reel", some "check_result"), "check_result", "Reel.check_result", defArgs s_Reel_check_result, defBody s_Reel_check_result, defScope s_Reel_check_result, [], []⟩
abbrev s_Reel_settle : Stmt := inClass (top 48) 14
abbrev N_Reel_settle : List Str := ["self"]
def d_Reel_settle : He.DefD := ⟨("Reel", some "settle"), "settle", "Reel.settle", defArgs s_Reel_settle, defBody s_Reel_settle, defScope s_Reel_settle, [], []⟩
abbrev s_Reel_do_edit : Stmt := inClass (top 48) 15
abbrev N_Reel_do_edit : List Str := ["self", "edit", "ring"]
def d_Reel_do_edit : He.DefD := ⟨("Reel", some "do_edit"), "do_edit", "Reel.do_edit", defArgs s_Reel_do_edit, defBody s_Reel_do_edit, defScope s_Reel_do_edit, [], []⟩
abbrev s_Reel_put : Stmt := inClass (top 48) 16
abbrev N_Reel_put : List Str := ["self", "place", "arity"]
def d_Reel_put : He.DefD := ⟨("Reel", some "put"), "put", "Reel.put", defArgs s_Reel_put, defBody s_Reel_put, defScope s_Reel_put, [], []⟩
abbrev s_Reel_insert : Stmt := inClass (top 48) 17
abbrev N_Reel_insert : List Str := ["self", "place", "arity"]
def d_Reel_insert : He.DefD := ⟨("Reel", some "insert"), "insert", "Reel.insert", defArgs s_Reel_insert, defBody s_Reel_insert, defScope s_Reel_insert, [], []⟩
abbrev s_Reel_remove : Stmt := inClass (top 48) 18
abbrev N_Reel_remove : List Str := ["self", "place"]
def d_Reel_remove : He.DefD := ⟨("Reel", some "remove"), "remove", "Reel.remove", defArgs s_Reel_remove, defBody s_Reel_remove, defScope s_Reel_remove, [], []⟩
abbrev s_Reel_undo : Stmt := inClass (top 48) 19
abbrev N_Reel_undo : List Str := ["self"]
def d_Reel_undo : He.DefD := ⟨("Reel", some "undo"), "undo", "Reel.undo", defArgs s_Reel_undo, defBody s_Reel_undo, defScope s_Reel_undo, [], []⟩
abbrev s_Reel_edits : Stmt := inClass (top 48) 24
abbrev N_Reel_edits : List Str := ["self"]
def d_Reel_edits : He.DefD := ⟨("Reel", some "edits"), "edits", "Reel.edits", defArgs s_Reel_edits, defBody s_Reel_edits, defScope s_Reel_edits, [], []⟩
abbrev s_Reel_walk : Stmt := inClass (top 48) 25
abbrev N_Reel_walk : List Str := ["self", "version", "ring"]
def d_Reel_walk : He.DefD := ⟨("Reel", some "walk"), "walk", "Reel.walk", defArgs s_Reel_walk, defBody s_Reel_walk, defScope s_Reel_walk, [], []⟩
abbrev s_Reel_len : Stmt := inClass (top 48) 27
abbrev N_Reel_len : List Str := ["self"]
def d_Reel_len : He.DefD := ⟨("Reel", some "__len__"), "__len__", "Reel.__len__", defArgs s_Reel_len, defBody s_Reel_len, defScope s_Reel_len, [], []⟩
abbrev s_Reel_str : Stmt := inClass (top 48) 28
abbrev N_Reel_str : List Str := ["self"]
def d_Reel_str : He.DefD := ⟨("Reel", some "__str__"), "__str__", "Reel.__str__", defArgs s_Reel_str, defBody s_Reel_str, defScope s_Reel_str, [], []⟩
abbrev s_Reel_eq : Stmt := inClass (top 48) 29
abbrev N_Reel_eq : List Str := ["self", "other"]
def d_Reel_eq : He.DefD := ⟨("Reel", some "__eq__"), "__eq__", "Reel.__eq__", defArgs s_Reel_eq, defBody s_Reel_eq, defScope s_Reel_eq, [], []⟩
abbrev s_ReadyReel_init : Stmt := inClass (top 49) 0
abbrev N_ReadyReel_init : List Str := ["self", "ring", "__class__"]
def d_ReadyReel_init : He.DefD := ⟨("ReadyReel", some "__init__"), "__init__", "ReadyReel.__init__", defArgs s_ReadyReel_init, defBody s_ReadyReel_init, defScope s_ReadyReel_init, [], []⟩
abbrev s_ReadyReel_check_result : Stmt := inClass (top 49) 1
abbrev N_ReadyReel_check_result : List Str := ["self", "ring", "left"]
def d_ReadyReel_check_result : He.DefD := ⟨("ReadyReel", some "check_result"), "check_result", "ReadyReel.check_result", defArgs s_ReadyReel_check_result, defBody s_ReadyReel_check_result, defScope s_ReadyReel_check_result, [], []⟩
abbrev s_LoggedReel_init : Stmt := inClass (top 50) 0
abbrev N_LoggedReel_init : List Str := ["self", "ring", "__class__"]
def d_LoggedReel_init : He.DefD := ⟨("LoggedReel", some "__init__"), "__init__", "LoggedReel.__init__", defArgs s_LoggedReel_init, defBody s_LoggedReel_init, defScope s_LoggedReel_init, [], []⟩
abbrev s_LoggedReel_log : Stmt := inClass (top 50) 1
abbrev N_LoggedReel_log : List Str := ["self"]
def d_LoggedReel_log : He.DefD := ⟨("LoggedReel", some "log"), "log", "LoggedReel.log", defArgs s_LoggedReel_log, defBody s_LoggedReel_log, defScope s_LoggedReel_log, [], []⟩
abbrev s_LoggedReel_noted : Stmt := inClass (top 50) 2
abbrev N_LoggedReel_noted : List Str := ["self", "name", "version"]
def d_LoggedReel_noted : He.DefD := ⟨("LoggedReel", some "noted"), "noted", "LoggedReel.noted", defArgs s_LoggedReel_noted, defBody s_LoggedReel_noted, defScope s_LoggedReel_noted, [], []⟩
abbrev s_LoggedReel_put : Stmt := inClass (top 50) 3
abbrev N_LoggedReel_put : List Str := ["self", "place", "arity", "__class__"]
def d_LoggedReel_put : He.DefD := ⟨("LoggedReel", some "put"), "put", "LoggedReel.put", defArgs s_LoggedReel_put, defBody s_LoggedReel_put, defScope s_LoggedReel_put, [], []⟩
abbrev s_LoggedReel_insert : Stmt := inClass (top 50) 4
abbrev N_LoggedReel_insert : List Str := ["self", "place", "arity", "__class__"]
def d_LoggedReel_insert : He.DefD := ⟨("LoggedReel", some "insert"), "insert", "LoggedReel.insert", defArgs s_LoggedReel_insert, defBody s_LoggedReel_insert, defScope s_LoggedReel_insert, [], []⟩
abbrev s_LoggedReel_remove : Stmt := inClass (top 50) 5
abbrev N_LoggedReel_remove : List Str := ["self", "place", "__class__"]
def d_LoggedReel_remove : He.DefD := ⟨("LoggedReel", some "remove"), "remove", "LoggedReel.remove", defArgs s_LoggedReel_remove, defBody s_LoggedReel_remove, defScope s_LoggedReel_remove, [], []⟩
abbrev s_LoggedReel_undo : Stmt := inClass (top 50) 6
abbrev N_LoggedReel_undo : List Str := ["self", "__class__"]
def d_LoggedReel_undo : He.DefD := ⟨("LoggedReel", some "undo"), "undo", "LoggedReel.undo", defArgs s_LoggedReel_undo, defBody s_LoggedReel_undo, defScope s_LoggedReel_undo, [], []⟩
abbrev s_LoggedReadyReel_init : Stmt := inClass (top 51) 0
abbrev N_LoggedReadyReel_init : List Str := ["self", "ring", "__class__"]
def d_LoggedReadyReel_init : He.DefD := ⟨("LoggedReadyReel", some "__init__"), "__init__", "LoggedReadyReel.__init__", defArgs s_LoggedReadyReel_init, defBody s_LoggedReadyReel_init, defScope s_LoggedReadyReel_init, [], []⟩
abbrev s__law_stream : Stmt := top 53
abbrev N__law_stream : List Str := ["_law_script", "_law_cells", "_law_cell"]
def d__law_stream : He.DefD := ⟨("_law_stream", none), "_law_stream", "_law_stream", defArgs s__law_stream, defBody s__law_stream, defScope s__law_stream, [], []⟩
abbrev s__law_draw : Stmt := top 54
abbrev N__law_draw : List Str := ["_law_stream_here", "_law_many", "_law_rest", "_law_turn", "_law_cell", "_law_mixed"]
def d__law_draw : He.DefD := ⟨("_law_draw", none), "_law_draw", "_law_draw", defArgs s__law_draw, defBody s__law_draw, defScope s__law_draw, [], []⟩
abbrev s__law_pick : Stmt := top 55
abbrev N__law_pick : List Str := ["_law_stream_here", "_law_items"]
def d__law_pick : He.DefD := ⟨("_law_pick", none), "_law_pick", "_law_pick", defArgs s__law_pick, defBody s__law_pick, defScope s__law_pick, [], []⟩
abbrev s__law_whole : Stmt := top 56
abbrev N__law_whole : List Str := ["_law_value", "_law_low", "_law_high"]
def d__law_whole : He.DefD := ⟨("_law_whole", none), "_law_whole", "_law_whole", defArgs s__law_whole, defBody s__law_whole, defScope s__law_whole, [], []⟩
abbrev s__law_ring : Stmt := top 57
abbrev N__law_ring : List Str := ["_law_stream_here", "_law_most", "_law_menus", "_law_menu", "_law_size", "_law_tokens", "_law_k", "_law_goal", "_law_turn", "_law_place", "_law_over"]
def d__law_ring : He.DefD := ⟨("_law_ring", none), "_law_ring", "_law_ring", defArgs s__law_ring, defBody s__law_ring, defScope s__law_ring, [], []⟩
abbrev s__law_odd : Stmt := top 58
abbrev N__law_odd : List Str := ["_law_stream_here", "_law_some"]
def d__law_odd : He.DefD := ⟨("_law_odd", none), "_law_odd", "_law_odd", defArgs s__law_odd, defBody s__law_odd, defScope s__law_odd, [], []⟩
abbrev s__law_missing : Stmt := top 59
abbrev N__law_missing : List Str := ["_law_row", "_law_depth", "_law_missing_here", "_law_token"]
def d__law_missing : He.DefD := ⟨("_law_missing", none), "_law_missing", "_law_missing", defArgs s__law_missing, defBody s__law_missing, defScope s__law_missing, [], []⟩
abbrev s__law_from : Stmt := top 60
abbrev N__law_from : List Str := ["_law_ring_here", "_law_place"]
def d__law_from : He.DefD := ⟨("_law_from", none), "_law_from", "_law_from", defArgs s__law_from, defBody s__law_from, defScope s__law_from, [], []⟩
abbrev s__law_begins : Stmt := top 61
abbrev N__law_begins : List Str := ["_law_ring_here", "_law_place"]
def d__law_begins : He.DefD := ⟨("_law_begins", none), "_law_begins", "_law_begins", defArgs s__law_begins, defBody s__law_begins, defScope s__law_begins, [], []⟩
abbrev s__law_name : Stmt := top 62
abbrev N__law_name : List Str := ["_law_error", "_law_names", "_law_flags", "_law_bases"]
def d__law_name : He.DefD := ⟨("_law_name", none), "_law_name", "_law_name", defArgs s__law_name, defBody s__law_name, defScope s__law_name, [], []⟩
abbrev s__law_field : Stmt := top 63
abbrev N__law_field : List Str := ["_law_error"]
def d__law_field : He.DefD := ⟨("_law_field", none), "_law_field", "_law_field", defArgs s__law_field, defBody s__law_field, defScope s__law_field, [], []⟩
abbrev s__law_made : Stmt := top 64
abbrev N__law_made : List Str := ["_law_kind", "_law_ring_here"]
def d__law_made : He.DefD := ⟨("_law_made", none), "_law_made", "_law_made", defArgs s__law_made, defBody s__law_made, defScope s__law_made, [], []⟩
abbrev s__law_reason : Stmt := top 65
abbrev N__law_reason : List Str := ["_law_value", "_law_wrong", "_law_index"]
def d__law_reason : He.DefD := ⟨("_law_reason", none), "_law_reason", "_law_reason", defArgs s__law_reason, defBody s__law_reason, defScope s__law_reason, [], []⟩
abbrev s__law_read : Stmt := top 66
abbrev N__law_read : List Str := ["_law_kind", "_law_text"]
def d__law_read : He.DefD := ⟨("_law_read", none), "_law_read", "_law_read", defArgs s__law_read, defBody s__law_read, defScope s__law_read, [], []⟩
abbrev s__law_found : Stmt := top 67
abbrev N__law_found : List Str := ["_law_kind", "_law_value", "_law_is_text", "_law_reel", "_law_error", "_law_kinds"]
def d__law_found : He.DefD := ⟨("_law_found", none), "_law_found", "_law_found", defArgs s__law_found, defBody s__law_found, defScope s__law_found, [], []⟩
abbrev s__law_due : Stmt := top 68
abbrev N__law_due : List Str := ["_law_kind", "_law_ring_here"]
def d__law_due : He.DefD := ⟨("_law_due", none), "_law_due", "_law_due", defArgs s__law_due, defBody s__law_due, defScope s__law_due, [], []⟩
abbrev s__law_parsed : Stmt := top 69
abbrev N__law_parsed : List Str := ["_law_text", "_law_found_here", "_law_index", "_law_word"]
def d__law_parsed : He.DefD := ⟨("_law_parsed", none), "_law_parsed", "_law_parsed", defArgs s__law_parsed, defBody s__law_parsed, defScope s__law_parsed, [], []⟩
abbrev s__law_is_edit : Stmt := top 70
abbrev N__law_is_edit : List Str := ["_law_value"]
def d__law_is_edit : He.DefD := ⟨("_law_is_edit", none), "_law_is_edit", "_law_is_edit", defArgs s__law_is_edit, defBody s__law_is_edit, defScope s__law_is_edit, [], []⟩
abbrev s_law : Stmt := top 71
abbrev N_law : List Str := ["_law_script", "_law_stream_here", "_law_turn", "_law_ring_here", "_law_spot", "_law_odd_here", "_law_values", "_law_text", "_law_token", "_law_texts", "_law_kind", "_law_value", "_law_due_here", "_law_words", "_law_reel", "_law_found_here"]
def d_law : He.DefD := ⟨("law", none), "law", "law", defArgs s_law, defBody s_law, defScope s_law, [], []⟩
def fn : List He.DefD := [d__wall, d_NoBeginning_init, d_NoArity_init, d_TooLong_init, d_BadRing_init, d_NoBalance_init, d_BadEdit_init, d_Rejected_init, d_BadText_init, d_NoPlace_init, d_NoVersion_init, d_is_plain_integer, d_is_index, d_is_arity, d_ring_error, d_check_place, d_balance, d_turned, d_heights, d_need, d_is_beginning, d_beginnings, d_check_gap, d_with_arity, d_with_token, d_without_token, d_check_arity, d_put_token, d_insert_token, d_edited, d_parse_ring, d_Reel_init, d_Reel_check_idle, d_Reel_check_result, d_Reel_settle, d_Reel_do_edit, d_Reel_put, d_Reel_insert, d_Reel_remove, d_Reel_undo, d_Reel_edits, d_Reel_walk, d_Reel_len, d_Reel_str, d_Reel_eq, d_ReadyReel_check_result, d_LoggedReel_noted, d__law_stream, d__law_draw, d__law_pick, d__law_whole, d__law_ring, d__law_odd, d__law_missing, d__law_from, d__law_begins, d__law_name, d__law_field, d__law_made, d__law_reason, d__law_read, d__law_found, d__law_due, d__law_parsed, d__law_is_edit, d_law]
def gs : Gs := [("Reel", ("read", 2), d_Reel_read), ("Reel", ("is_edit", 3), d_Reel_is_edit), ("Reel", ("ring", 0), d_Reel_ring), ("Reel", ("version", 0), d_Reel_version), ("Reel", ("beginnings", 0), d_Reel_beginnings), ("Reel", ("start", 0), d_Reel_start), ("Reel", ("start", 1), d_Reel_start_set), ("LoggedReel", ("log", 0), d_LoggedReel_log)]
def mf : Str := PySem.Challenge.pw_ringpostfix_k62_reels_constructed.main.file
def P : Program := PySem.Challenge.pw_ringpostfix_k62_reels_constructed
def ss : List He.DefD := [d_ReadyReel_init, d_LoggedReel_init, d_LoggedReel_put, d_LoggedReel_insert, d_LoggedReel_remove, d_LoggedReel_undo, d_LoggedReadyReel_init]
def fa : List He.Fa := [.glo "_wall", .glo "is_plain_integer", .glo "is_index", .glo "is_arity", .glo "ring_error", .glo "check_place", .glo "balance", .glo "turned", .glo "heights", .glo "need", .glo "is_beginning", .glo "beginnings", .glo "check_gap", .glo "with_arity", .glo "with_token", .glo "without_token", .glo "check_arity", .glo "put_token", .glo "insert_token", .glo "edited", .glo "parse_ring", .glo "_law_stream", .glo "_law_draw", .glo "_law_pick", .glo "_law_whole", .glo "_law_ring", .glo "_law_odd", .glo "_law_missing", .glo "_law_from", .glo "_law_begins", .glo "_law_name", .glo "_law_field", .glo "_law_made", .glo "_law_reason", .glo "_law_read", .glo "_law_found", .glo "_law_due", .glo "_law_parsed", .glo "_law_is_edit", .glo "law", .glo "RingError", .glo "NoBeginning", .glo "NoArity", .glo "TooLong", .glo "LastToken", .glo "BadRing", .glo "NoBalance", .glo "TooManyEdits", .glo "NothingToUndo", .glo "BadEdits", .glo "BadEdit", .glo "Rejected", .glo "Busy", .glo "BadText", .glo "NoPlace", .glo "NoVersion", .glo "Reel", .glo "ReadyReel", .glo "LoggedReel", .glo "LoggedReadyReel", .free "len", .free "sum", .free "min", .free "max", .free "abs", .free "repr", .free "range", .free "tuple", .free "list", .free "int", .free "bool", .free "isinstance", .free "enumerate", .free "str", .free "super", .free "ValueError", .free "LookupError", .int "MAX_ARITY" 5, .int "MAX_TOKENS" 24, .glo "beginnings_beginnings", .cls "Reel", .mkr "Reel", .noat "Reel" "rings", .noat "Reel" "done", .noat "Reel" "starts", .noat "Reel" "chosen", .noat "Reel" "busy", .meth "Reel" "__init__", .meth "Reel" "check_idle", .meth "Reel" "check_result", .meth "Reel" "settle", .meth "Reel" "do_edit", .meth "Reel" "put", .meth "Reel" "insert", .meth "Reel" "remove", .meth "Reel" "undo", .meth "Reel" "edits", .meth "Reel" "walk", .meth "Reel" "__len__", .meth "Reel" "__str__", .meth "Reel" "__eq__", .cls "ReadyReel", .mkr "ReadyReel", .noat "ReadyReel" "rings", .noat "ReadyReel" "done", .noat "ReadyReel" "starts", .noat "ReadyReel" "chosen", .noat "ReadyReel" "busy", .meth "ReadyReel" "__init__", .meth "ReadyReel" "check_idle", .meth "ReadyReel" "check_result", .meth "ReadyReel" "settle", .meth "ReadyReel" "do_edit", .meth "ReadyReel" "put", .meth "ReadyReel" "insert", .meth "ReadyReel" "remove", .meth "ReadyReel" "undo", .meth "ReadyReel" "edits", .meth "ReadyReel" "walk", .meth "ReadyReel" "__len__", .meth "ReadyReel" "__str__", .meth "ReadyReel" "__eq__", .cls "LoggedReel", .mkr "LoggedReel", .noat "LoggedReel" "rings", .noat "LoggedReel" "done", .noat "LoggedReel" "starts", .noat "LoggedReel" "chosen", .noat "LoggedReel" "busy", .noat "LoggedReel" "calls", .meth "LoggedReel" "__init__", .meth "LoggedReel" "check_idle", .meth "LoggedReel" "check_result", .meth "LoggedReel" "settle", .meth "LoggedReel" "do_edit", .meth "LoggedReel" "put", .meth "LoggedReel" "insert", .meth "LoggedReel" "remove", .meth "LoggedReel" "undo", .meth "LoggedReel" "edits", .meth "LoggedReel" "walk", .meth "LoggedReel" "__len__", .meth "LoggedReel" "__str__", .meth "LoggedReel" "__eq__", .meth "LoggedReel" "noted", .cls "LoggedReadyReel", .mkr "LoggedReadyReel", .noat "LoggedReadyReel" "rings", .noat "LoggedReadyReel" "done", .noat "LoggedReadyReel" "starts", .noat "LoggedReadyReel" "chosen", .noat "LoggedReadyReel" "busy", .noat "LoggedReadyReel" "calls", .meth "LoggedReadyReel" "__init__", .meth "LoggedReadyReel" "check_idle", .meth "LoggedReadyReel" "check_result", .meth "LoggedReadyReel" "settle", .meth "LoggedReadyReel" "do_edit", .meth "LoggedReadyReel" "put", .meth "LoggedReadyReel" "insert", .meth "LoggedReadyReel" "remove", .meth "LoggedReadyReel" "undo", .meth "LoggedReadyReel" "edits", .meth "LoggedReadyReel" "walk", .meth "LoggedReadyReel" "__len__", .meth "LoggedReadyReel" "__str__", .meth "LoggedReadyReel" "__eq__", .meth "LoggedReadyReel" "noted"]
def exq (K : PySem.W.Frag) : Bool := excB K "NoBeginning" "value" "ValueError.__new__" veB && (excB K "NoArity" "value" "ValueError.__new__" veB && (excB K "TooLong" "limit" "ValueError.__new__" veB && (excB K "BadRing" "error" "ValueError.__new__" veB && (excB K "NoBalance" "balance" "ValueError.__new__" veB && (excB K "BadEdit" "index" "ValueError.__new__" veB && (excB K "Rejected" "index" "ValueError.__new__" veB && (excB K "BadText" "index" "ValueError.__new__" veB && (excB K "NoPlace" "value" "LookupError.__new__" leB && (excB K "NoVersion" "value" "LookupError.__new__" leB && (decide (He.ga K "beginnings_beginnings" = He.ga K "beginnings") && (propB K "Reel" "ring" && (propB K "Reel" "version" && (propB K "Reel" "beginnings" && (propB K "Reel" "start" && (setB K "Reel" "start" && (cmiB K "Reel" "read" && (cmeB K "Reel" "read" && (csmB K "Reel" "is_edit" && (cvnB K "Reel" "MOST_EDITS" 60 && (kwtB K "Reel" "WORDS" ["put", "insert", "remove"] && (smiB K "Reel" "is_edit" && (isiB K "Reel" && (crdB K "Reel" && (conB K "Reel" "MOST_EDITS" 60 && (cvtB K "Reel" "WORDS" ["put", "insert", "remove"] && (propB K "ReadyReel" "ring" && (propB K "ReadyReel" "version" && (propB K "ReadyReel" "beginnings" && (propB K "ReadyReel" "start" && (setB K "ReadyReel" "start" && (cmiB K "ReadyReel" "read" && (cmeB K "ReadyReel" "read" && (csmB K "ReadyReel" "is_edit" && (cvnB K "ReadyReel" "MOST_EDITS" 60 && (kwtB K "ReadyReel" "WORDS" ["put", "insert", "remove"] && (smiB K "ReadyReel" "is_edit" && (isiB K "ReadyReel" && (crdB K "ReadyReel" && (conB K "ReadyReel" "MOST_EDITS" 60 && (cvtB K "ReadyReel" "WORDS" ["put", "insert", "remove"] && (propB K "LoggedReel" "ring" && (propB K "LoggedReel" "version" && (propB K "LoggedReel" "beginnings" && (propB K "LoggedReel" "start" && (propB K "LoggedReel" "log" && (setB K "LoggedReel" "start" && (cmiB K "LoggedReel" "read" && (cmeB K "LoggedReel" "read" && (csmB K "LoggedReel" "is_edit" && (cvnB K "LoggedReel" "MOST_EDITS" 60 && (kwtB K "LoggedReel" "WORDS" ["put", "insert", "remove"] && (smiB K "LoggedReel" "is_edit" && (isiB K "LoggedReel" && (crdB K "LoggedReel" && (conB K "LoggedReel" "MOST_EDITS" 60 && (cvtB K "LoggedReel" "WORDS" ["put", "insert", "remove"] && (propB K "LoggedReadyReel" "ring" && (propB K "LoggedReadyReel" "version" && (propB K "LoggedReadyReel" "beginnings" && (propB K "LoggedReadyReel" "start" && (propB K "LoggedReadyReel" "log" && (setB K "LoggedReadyReel" "start" && (cmiB K "LoggedReadyReel" "read" && (cmeB K "LoggedReadyReel" "read" && (csmB K "LoggedReadyReel" "is_edit" && (cvnB K "LoggedReadyReel" "MOST_EDITS" 60 && (kwtB K "LoggedReadyReel" "WORDS" ["put", "insert", "remove"] && (smiB K "LoggedReadyReel" "is_edit" && (isiB K "LoggedReadyReel" && (crdB K "LoggedReadyReel" && (conB K "LoggedReadyReel" "MOST_EDITS" 60 && (cvtB K "LoggedReadyReel" "WORDS" ["put", "insert", "remove"] && (decide (PySem.W.kitOne K (.ref (He.ga K "Reel")) (.ref (He.ga K "Reel")) = some true) && (decide (PySem.W.kitOne K (.ref (He.ga K "Reel")) (.ref (He.ga K "ReadyReel")) = some false) && (decide (PySem.W.kitOne K (.ref (He.ga K "Reel")) (.ref (He.ga K "LoggedReel")) = some false) && (decide (PySem.W.kitOne K (.ref (He.ga K "ReadyReel")) (.ref (He.ga K "Reel")) = some true) && (decide (PySem.W.kitOne K (.ref (He.ga K "ReadyReel")) (.ref (He.ga K "ReadyReel")) = some true) && (decide (PySem.W.kitOne K (.ref (He.ga K "ReadyReel")) (.ref (He.ga K "LoggedReel")) = some false) && (decide (PySem.W.kitOne K (.ref (He.ga K "LoggedReel")) (.ref (He.ga K "Reel")) = some true) && (decide (PySem.W.kitOne K (.ref (He.ga K "LoggedReel")) (.ref (He.ga K "ReadyReel")) = some false) && (decide (PySem.W.kitOne K (.ref (He.ga K "LoggedReel")) (.ref (He.ga K "LoggedReel")) = some true) && (decide (PySem.W.kitOne K (.ref (He.ga K "LoggedReadyReel")) (.ref (He.ga K "Reel")) = some true) && (decide (PySem.W.kitOne K (.ref (He.ga K "LoggedReadyReel")) (.ref (He.ga K "ReadyReel")) = some true) && (decide (PySem.W.kitOne K (.ref (He.ga K "LoggedReadyReel")) (.ref (He.ga K "LoggedReel")) = some true) && (SupX.samE K "ReadyReel" [("check_idle", "Reel"), ("settle", "Reel"), ("do_edit", "Reel"), ("put", "Reel"), ("insert", "Reel"), ("remove", "Reel"), ("undo", "Reel"), ("edits", "Reel"), ("walk", "Reel"), ("__len__", "Reel"), ("__str__", "Reel"), ("__eq__", "Reel")] && (SupX.samB K "ReadyReel" [] ["ring", "version", "beginnings", "start", "read", "is_edit"] && (SupX.samE K "LoggedReel" [("check_idle", "Reel"), ("check_result", "Reel"), ("settle", "Reel"), ("do_edit", "Reel"), ("edits", "Reel"), ("walk", "Reel"), ("__len__", "Reel"), ("__str__", "Reel"), ("__eq__", "Reel")] && (SupX.samB K "LoggedReel" [] ["ring", "version", "beginnings", "start", "read", "is_edit"] && (SupX.samE K "LoggedReadyReel" [("check_idle", "Reel"), ("check_result", "ReadyReel"), ("settle", "Reel"), ("do_edit", "Reel"), ("put", "LoggedReel"), ("insert", "LoggedReel"), ("remove", "LoggedReel"), ("undo", "LoggedReel"), ("edits", "Reel"), ("walk", "Reel"), ("__len__", "Reel"), ("__str__", "Reel"), ("__eq__", "Reel"), ("noted", "LoggedReel")] && (SupX.sameP K "LoggedReadyReel" [("log", "LoggedReel")] && (SupX.samB K "LoggedReadyReel" [] ["ring", "version", "beginnings", "start", "read", "is_edit"] && (SupX.suB mf K d_ReadyReel_init && (SupX.smB K "ReadyReel" "ReadyReel" "__init__" (He.ma K (He.ga K "Reel") "__init__") && (SupX.smB K "LoggedReadyReel" "ReadyReel" "__init__" (He.ma K (He.ga K "Reel") "__init__") && (SupX.suB mf K d_LoggedReel_init && (SupX.smB K "LoggedReel" "LoggedReel" "__init__" (He.ma K (He.ga K "Reel") "__init__") && (SupX.smB K "LoggedReadyReel" "LoggedReel" "__init__" (He.ma K (He.ga K "ReadyReel") "__init__") && (SupX.suB mf K d_LoggedReel_put && (SupX.smB K "LoggedReel" "LoggedReel" "put" (He.ma K (He.ga K "Reel") "put") && (SupX.smB K "LoggedReadyReel" "LoggedReel" "put" (He.ma K (He.ga K "Reel") "put") && (SupX.suB mf K d_LoggedReel_insert && (SupX.smB K "LoggedReel" "LoggedReel" "insert" (He.ma K (He.ga K "Reel") "insert") && (SupX.smB K "LoggedReadyReel" "LoggedReel" "insert" (He.ma K (He.ga K "Reel") "insert") && (SupX.suB mf K d_LoggedReel_remove && (SupX.smB K "LoggedReel" "LoggedReel" "remove" (He.ma K (He.ga K "Reel") "remove") && (SupX.smB K "LoggedReadyReel" "LoggedReel" "remove" (He.ma K (He.ga K "Reel") "remove") && (SupX.suB mf K d_LoggedReel_undo && (SupX.smB K "LoggedReel" "LoggedReel" "undo" (He.ma K (He.ga K "Reel") "undo") && (SupX.smB K "LoggedReadyReel" "LoggedReel" "undo" (He.ma K (He.ga K "Reel") "undo") && (SupX.suB mf K d_LoggedReadyReel_init && (SupX.smB K "LoggedReadyReel" "LoggedReadyReel" "__init__" (He.ma K (He.ga K "LoggedReel") "__init__") && (exc0B K "LastToken" "ValueError.__new__" veB && (exc0B K "TooManyEdits" "ValueError.__new__" veB && (exc0B K "NothingToUndo" "ValueError.__new__" veB && (exc0B K "Busy" "ValueError.__new__" veB && (exc0B K "BadEdits" "ValueError.__new__" veB && (clsB K "TooLong" && (nameB K (He.ga K "TooLong") 11 && (kindB K (He.ga K "TooLong") 2 && (exmB K (He.ga K "TooLong") && (fldB K "TooLong" "limit" && (clsB K "LastToken" && (nameB K (He.ga K "LastToken") 5 && (kindB K (He.ga K "LastToken") 5 && (exmB K (He.ga K "LastToken") && (clsB K "NoPlace" && (nameB K (He.ga K "NoPlace") 13 && (kindB K (He.ga K "NoPlace") 0 && (exmB K (He.ga K "NoPlace") && (fldB K "NoPlace" "value" && (clsB K "NoArity" && (nameB K (He.ga K "NoArity") 6 && (kindB K (He.ga K "NoArity") 0 && (exmB K (He.ga K "NoArity") && (fldB K "NoArity" "value" && (clsB K "TooManyEdits" && (nameB K (He.ga K "TooManyEdits") 12 && (kindB K (He.ga K "TooManyEdits") 5 && (exmB K (He.ga K "TooManyEdits") && (clsB K "NothingToUndo" && (nameB K (He.ga K "NothingToUndo") 9 && (kindB K (He.ga K "NothingToUndo") 5 && (exmB K (He.ga K "NothingToUndo") && (clsB K "Busy" && (nameB K (He.ga K "Busy") 4 && (kindB K (He.ga K "Busy") 5 && (exmB K (He.ga K "Busy") && (clsB K "BadRing" && (nameB K (He.ga K "BadRing") 2 && (kindB K (He.ga K "BadRing") 4 && (exmB K (He.ga K "BadRing") && (fldB K "BadRing" "error" && (clsB K "NoBeginning" && (nameB K (He.ga K "NoBeginning") 8 && (kindB K (He.ga K "NoBeginning") 0 && (exmB K (He.ga K "NoBeginning") && (fldB K "NoBeginning" "value" && (clsB K "NoBalance" && (nameB K (He.ga K "NoBalance") 7 && (kindB K (He.ga K "NoBalance") 3 && (exmB K (He.ga K "NoBalance") && (fldB K "NoBalance" "balance" && (clsB K "BadEdit" && (nameB K (He.ga K "BadEdit") 0 && (kindB K (He.ga K "BadEdit") 1 && (exmB K (He.ga K "BadEdit") && (fldB K "BadEdit" "index" && (clsB K "BadEdits" && (nameB K (He.ga K "BadEdits") 1 && (kindB K (He.ga K "BadEdits") 5 && (exmB K (He.ga K "BadEdits") && (clsB K "Rejected" && (nameB K (He.ga K "Rejected") 10 && (kindB K (He.ga K "Rejected") 1 && (exmB K (He.ga K "Rejected") && (fldB K "Rejected" "index" && (clsB K "BadText" && (nameB K (He.ga K "BadText") 3 && (kindB K (He.ga K "BadText") 1 && (exmB K (He.ga K "BadText") && (fldB K "BadText" "index")))))))))))))))))))))))))))))))))))))))))))))))))))))))))))))))))))))))))))))))))))))))))))))))))))))))))))))))))))))))))))))))))))))))))))))))))))))))))))))))))))))))))))))))))))))
end K62
namespace K62
open PySem PySem.Spec PyProof.Rows My
open L2 hiding TupI
set_option maxHeartbeats 0

/-! ### the head -/
abbrev RR : PySem.W.OpenRow := PySem.W.OpenLaw.row PySem.Challenge.rw_ringpostfix_k62_reels_constructed
abbrev hk : PySem.W.Hook := SupX.hookU 5 fa fn exq gs ss
def ob (s : PySem.W.SharedT) : SupX.AlU := SupX.obsU 5 fa fn exq gs ss (HandSHeadRun.getT s)
theorem ob_eq (s : PySem.W.SharedT) : ob s = hk.obs s.abs := SupX.obsU_eq (HandSHeadRun.getT_eq s)
def loose : List Str := [("_wall" : Str), ("is_plain_integer" : Str), ("is_index" : Str), ("is_arity" : Str), ("ring_error" : Str), ("check_place" : Str), ("balance" : Str), ("turned" : Str), ("heights" : Str), ("need" : Str), ("is_beginning" : Str), ("beginnings" : Str), ("check_gap" : Str), ("with_arity" : Str), ("with_token" : Str), ("without_token" : Str), ("check_arity" : Str), ("put_token" : Str), ("insert_token" : Str), ("edited" : Str), ("parse_ring" : Str), ("_law_stream" : Str), ("_law_draw" : Str), ("_law_pick" : Str), ("_law_whole" : Str), ("_law_ring" : Str), ("_law_odd" : Str), ("_law_missing" : Str), ("_law_from" : Str), ("_law_begins" : Str), ("_law_name" : Str), ("_law_field" : Str), ("_law_made" : Str), ("_law_reason" : Str), ("_law_read" : Str), ("_law_found" : Str), ("_law_due" : Str), ("_law_parsed" : Str), ("_law_is_edit" : Str), ("RingError" : Str), ("NoBeginning" : Str), ("NoArity" : Str), ("TooLong" : Str), ("LastToken" : Str), ("BadRing" : Str), ("NoBalance" : Str), ("TooManyEdits" : Str), ("NothingToUndo" : Str), ("BadEdits" : Str), ("BadEdit" : Str), ("Rejected" : Str), ("Busy" : Str), ("BadText" : Str), ("NoPlace" : Str), ("NoVersion" : Str), ("Reel" : Str), ("ReadyReel" : Str), ("LoggedReel" : Str), ("LoggedReadyReel" : Str), ("MAX_ARITY" : Str), ("MAX_TOKENS" : Str), ("beginnings_beginnings" : Str)]
theorem run (w : World) : HandSHeadRun.RunEq RR (PySem.W.view RR.prog [71]) hk ob 12000 loose w := by
  intro os
  kernel_rfl
end K62
set_option Elab.async false
set_option linter.all false
set_option maxRecDepth 100000
set_option maxHeartbeats 4000000
/-! My own rules over the layer: sum and min of a tuple of ints, a def by its name. -/
namespace My
open PySem PySem.Spec PyProof.Rows L2

section
variable {X : Cx}
/-- sum(t) -/
def rSumT (K : PySem.W.Frag) : List V → Hp → VK → Prop := fun vs H Q =>
  ∃ (a : Addr) (ns : List Int), vs = [V.ref a] ∧ SqT K H a (ns.map V.int) ∧ Q (.int ns.sum) H
theorem call_sumT (hc : X.calm = true) : CallR X (.builtin "sum") (rSumT X.K) := by
  intro pins s σ H vs us Q I r hq
  obtain ⟨a, ns, rfl, ht, q⟩ := hq
  obtain ⟨its, rv, tt, _⟩ := I.tuple ht
  rw [Vals.ref1 r]
  have hi := rv.ints
  obtain ⟨xs, ex⟩ := hi.allInts.items
  have en : numsOf (intItems xs).toList = ns := by
    rw [← ex]
    exact hi.numsOf
  rw [nums_intItems] at en
  rw [ex] at tt
  refine PySem.W.ktm_sumG (I.ok.hd hc) tt fun h' tk t' hk => ?_
  rw [preSum_eq, List.take_of_length_le (by simp), en]
  exact ⟨.int _, H, I.kept hk, ⟨_, rfl⟩, q⟩
/-- min(t) -/
def rMinT (K : PySem.W.Frag) : List V → Hp → VK → Prop := fun vs H Q =>
  ∃ (a : Addr) (ns : List Int), vs = [V.ref a] ∧ SqT K H a (ns.map V.int) ∧ 0 < ns.length ∧ ∀ m, m ∈ ns → (∀ y, y ∈ ns → m ≤ y) → Q (.int m) H
theorem iter_tup_old {s : Shared} {l : Addr} {o : Obj} {h' : Heap}
    (hk : ∀ b o', b ∉ [s.heap.objs.size] → (s.heap.push o).get? b = some o' → h'.get? b = some o') : ∀ b o', s.heap.get? b = some o' → h'.get? b = some o' := by
  intro b o' e
  refine hk b o' (fun hb => ?_) (Heap.get?_push_of_some _ e)
  have e2 : b = s.heap.objs.size := List.mem_singleton.mp hb
  have e3 := Heap.lt_size e
  rw [e2] at e3
  exact Nat.lt_irrefl _ e3
theorem min_intTup {prog : Program} {w : World} {A : Around} {E : Value → Shared → Prop} {s : Shared} {l : Addr} {xs : Array (Int × Tok)} {Q : Value → Shared → Prop}
    (hh : A.handled = none) (hl : s.heap.IsTuple l (intItems xs)) (hne : 0 < xs.size)
    (h : ∀ v h' tk, (intItems xs)[argBest (fun i j => decide (numAt xs i < numAt xs j)) (xs.size - 1)]? = some v →
      (∀ b o, s.heap.get? b = some o → h'.get? b = some o) → Q v { s with heap := h', toks := tk }) :
    wpAny (model prog w) A (call (.builtin "min") [.ref l]) Q E s := by
  have hlt : l < s.heap.objs.size := by
    obtain ⟨_, e, _⟩ := hl
    exact Heap.lt_size e
  refine call_min_walk (wpAny_pyIter_tuple hl ?_)
  refine ⟨s.heap.objs.size, _, _, _, _, _, _, rfl, Walks.tuple (A := A.in1) hh _ l (Nat.ne_of_lt hlt) (intItems xs), ⟨⟨_, Heap.get?_push_size _ rfl, rfl, rfl⟩, hl.push _⟩, ?_, by simpa [intItems] using hne,
    CmpOf.ints_lt (numAt xs) (fun _ _ => intItems_at), ?_⟩
  · intro b hb
    show b < (s.heap.push _).objs.size
    rw [Heap.size_push]
    rcases List.mem_cons.mp hb with e | hb
    · rw [e]
      exact Nat.lt_succ_self _
    · have e := List.mem_singleton.mp hb
      rw [e]
      exact Nat.lt_succ_of_lt hlt
  · intro v h' tk hP hk
    exact h v h' tk (by simpa [intItems] using hP) (iter_tup_old (l := l) hk)
theorem call_minT (hc : X.calm = true) : CallR X (.builtin "min") (rMinT X.K) := by
  intro pins s σ H vs us Q I r hq
  obtain ⟨a, ns, rfl, ht, hne, q⟩ := hq
  obtain ⟨its, rv, tt, _⟩ := I.tuple ht
  rw [Vals.ref1 r]
  have hi := rv.ints
  obtain ⟨xs, ex⟩ := hi.allInts.items
  have en : numsOf (intItems xs).toList = ns := by
    rw [← ex]
    exact hi.numsOf
  rw [nums_intItems] at en
  subst en
  rw [ex] at tt
  have hsz : 0 < xs.size := by simpa using hne
  refine min_intTup (I.ok.hd hc) tt hsz fun v h' tk hv hk => ?_
  obtain ⟨t, rfl⟩ := intItems_at hv
  obtain ⟨h1, h2⟩ := argBest_lt (numAt xs) (xs.size - 1)
  refine ⟨.int _, H, I.kept hk, ⟨_, rfl⟩, q _ ?_ ?_⟩
  · rw [numAt_eq]
    exact PySem.getD_mem (by rw [List.length_map, Array.length_toList]; omega)
  · intro y hy
    obtain ⟨j, hj, rfl⟩ := mem_getD hy
    rw [List.length_map, Array.length_toList] at hj
    rw [← numAt_eq]
    exact h2 j (by omega)
end
/-- the def that the module's name x holds keeps the promise sp -/
def Ok (P : Program) (w : World) (K : PySem.W.Frag) (mg : Str → Option Value) (base : Heap) (CX : CXT) (k : Nat) (x : Str) (ps : List Str) (sp : Sp) : Prop :=
  ∃ fd : FuncData, FnOk P w K mg base CX k (He.ga K x) fd ps sp ∧ Binds K fd ps [] ∧ PySem.W.keepIn K (.ref (He.ga K x)) = true ∧ mg x = some (.ref (He.ga K x))
theorem Ok.mono {P : Program} {w : World} {K : PySem.W.Frag} {mg : Str → Option Value} {base : Heap} {CX : CXT} {j k : Nat} {x : Str} {ps : List Str} {sp : Sp}
    (O : Ok P w K mg base CX j x ps sp) (h : j ≤ k) : Ok P w K mg base CX k x ps sp := by
  obtain ⟨fd, F, b, kp, m⟩ := O
  exact ⟨fd, F.mono h, b, kp, m⟩
section
variable {X : Cx} {CX : CXT} {k : Nat} {ps : List Str} {sp : Sp} {E : XK} {x : Str} {p pos : Pos} {e : Expr} {es : List Expr} {t : TA}
/-- x(e, ..), x a def of the module -/
theorem cal (O : Ok X.prog X.w X.K X.mg X.base CX k x ps sp) (hr : Room k X.A) (hx : Passes CX X E) (ha : PA X (e :: es) t) (hg : Gl X x := by rfl)
    (hdb : (x == ("__debug__" : Str)) = false := by decide)
    (he : starEach (e :: es) X.env = (false, eval e X.env) :: starEach es X.env := by rfl) (hpl : (backTo pos (starEach es X.env)).any (·.1) = false := by rfl) :
    PE X (.Call (.Name x p) (e :: es) [] pos) (tCall sp [] E t) := by
  obtain ⟨fd, F, b, kp, m⟩ := O
  exact pe_call F hr hg m kp b .nil hx ha hdb he hpl
end
/-- a def of no default, by its body: nothing raised leaves it -/
theorem fnok_of {P : Program} {w : World} {K : PySem.W.Frag} {mg : Str → Option Value} {base : Heap} {CX : CXT} {k : Nat} {x qual : Str} {params : Arguments} {body : List Stmt} {scope : Scope} {N ps : List Str} {sp : Sp} {f : Addr} {fd : FuncData}
    (F : FunD K x qual params body scope [] [] f fd) (S : FnScope N ps scope)
    (len : ∀ vs H Q E, sp vs H Q E → vs.length = ps.length)
    (hbody : ∀ (cdv : Value) (A : Around) (outer : List Env) (s : Shared) (H : Hp) (vs : List V) (Q : VK) (E : XK),
      Room k (A.deeper (envOfC qual scope s.heap.objs.size f cdv)) → sp vs H Q E →
      ∃ t, PSs (cxOf CX P w K mg base N qual scope f cdv A outer s H E).nox body t ∧ t { nx := fun _ H' => Q .non H', rt := Q } (start N vs) H) :
    FnOk P w K mg base CX (k + 1) f fd ps sp := by
  refine F.ok S len fun cdv A outer s H vs Q E hr h => ?_
  obtain ⟨t, h1, h2⟩ := hbody cdv A outer s H vs Q E hr h
  exact ⟨t, h1.nox, h2⟩
theorem ok_of {P : Program} {w : World} {K : PySem.W.Frag} {mg : Str → Option Value} {base : Heap} {CX : CXT} {k : Nat} {x qual : Str} {params : Arguments} {body : List Stmt} {scope : Scope} {N ps : List Str} {sp : Sp}
    (F : ∃ fd, FunD K x qual params body scope [] [] (He.ga K x) fd) (g : mg x = some (.ref (He.ga K x))) (S : FnScope N ps scope)
    (hb : ∀ (kV doc pm : Value) (an : Option Addr) (cdv ct : Value) (us : List Value), us.length = ps.length →
      bindArgs (PySem.W.fnOf x qual params body scope .none kV doc pm an cdv ct) ⟨us, []⟩ = pure (ps.zip us))
    (len : ∀ vs H Q E, sp vs H Q E → vs.length = ps.length)
    (hbody : ∀ (cdv : Value) (A : Around) (outer : List Env) (s : Shared) (H : Hp) (vs : List V) (Q : VK) (E : XK),
      Room k (A.deeper (envOfC qual scope s.heap.objs.size (He.ga K x) cdv)) → sp vs H Q E →
      ∃ t, PSs (cxOf CX P w K mg base N qual scope (He.ga K x) cdv A outer s H E).nox body t ∧ t { nx := fun _ H' => Q .non H', rt := Q } (start N vs) H) :
    Ok P w K mg base CX (k + 1) x ps sp := by
  obtain ⟨fd, F⟩ := F
  exact ⟨fd, fnok_of F S len hbody, F.bindsN hb, F.kp, g⟩
/-- the same of a def that may raise -/
theorem ok_ofX {P : Program} {w : World} {K : PySem.W.Frag} {mg : Str → Option Value} {base : Heap} {CX : CXT} {k : Nat} {x qual : Str} {params : Arguments} {body : List Stmt} {scope : Scope} {N ps : List Str} {sp : Sp}
    (F : ∃ fd, FunD K x qual params body scope [] [] (He.ga K x) fd) (g : mg x = some (.ref (He.ga K x))) (S : FnScope N ps scope)
    (hb : ∀ (kV doc pm : Value) (an : Option Addr) (cdv ct : Value) (us : List Value), us.length = ps.length →
      bindArgs (PySem.W.fnOf x qual params body scope .none kV doc pm an cdv ct) ⟨us, []⟩ = pure (ps.zip us))
    (len : ∀ vs H Q E, sp vs H Q E → vs.length = ps.length)
    (hbody : ∀ (cdv : Value) (A : Around) (outer : List Env) (s : Shared) (H : Hp) (vs : List V) (Q : VK) (E : XK),
      Room k (A.deeper (envOfC qual scope s.heap.objs.size (He.ga K x) cdv)) → sp vs H Q E →
      ∃ t, PSs (cxOf CX P w K mg base N qual scope (He.ga K x) cdv A outer s H E) body t ∧ t { nx := fun _ H' => Q .non H', rt := Q } (start N vs) H) :
    Ok P w K mg base CX (k + 1) x ps sp := by
  obtain ⟨fd, F⟩ := F
  exact ⟨fd, F.ok S len hbody, F.bindsN hb, F.kp, g⟩
end My

namespace My
open PySem PySem.Spec PyProof.Rows L2
/-! ### values of the kinds that callers pass -/
def isI : V → Bool
  | .int _ => true
  | _ => false
def isB : V → Bool
  | .bl _ => true
  | _ => false
def ixB : V → Int → Bool
  | .int i, n => decide (0 ≤ i) && decide (i < n)
  | _, _ => false
inductive Kd (K : PySem.W.Frag) (H : Hp) : V → Prop
  | non : Kd K H .non
  | bl (b : Bool) : Kd K H (.bl b)
  | int (i : Int) : Kd K H (.int i)
  | str (x : Str) : Kd K H (.str x)
  | ref {a : Addr} {t : String} (h : TyX K H (.ref a) (.type t)) (ht : t = "list" ∨ t = "tuple" ∨ t = "dict") : Kd K H (.ref a)
theorem kd_int {K : PySem.W.Frag} {H : Hp} {v : V} (h : Kd K H v) : ∃ t, TyX K H v t ∧ PySem.W.kitOne K t (.type "int") = some (isI v || isB v) := by
  cases h with
  | non => exact ⟨_, .base .non, kit_ty (a := "NoneType") (b := "int") (r := false) (by decide +kernel)⟩
  | bl b => exact ⟨_, .base (.bl b), kit_ty (a := "bool") (b := "int") (r := true) (by decide +kernel)⟩
  | int i => exact ⟨_, .base (.int i), kit_ty (a := "int") (b := "int") (r := true) (by decide +kernel)⟩
  | str x => exact ⟨_, .base (.str x), kit_ty (a := "str") (b := "int") (r := false) (by decide +kernel)⟩
  | ref h ht =>
    refine ⟨_, h, ?_⟩
    rcases ht with rfl | rfl | rfl
    · exact kit_ty (a := "list") (b := "int") (r := false) (by decide +kernel)
    · exact kit_ty (a := "tuple") (b := "int") (r := false) (by decide +kernel)
    · exact kit_ty (a := "dict") (b := "int") (r := false) (by decide +kernel)
theorem kd_bool {K : PySem.W.Frag} {H : Hp} {v : V} (h : Kd K H v) : ∃ t, TyX K H v t ∧ PySem.W.kitOne K t (.type "bool") = some (isB v) := by
  cases h with
  | non => exact ⟨_, .base .non, kit_ty (a := "NoneType") (b := "bool") (r := false) (by decide +kernel)⟩
  | bl b => exact ⟨_, .base (.bl b), kit_ty (a := "bool") (b := "bool") (r := true) (by decide +kernel)⟩
  | int i => exact ⟨_, .base (.int i), kit_ty (a := "int") (b := "bool") (r := false) (by decide +kernel)⟩
  | str x => exact ⟨_, .base (.str x), kit_ty (a := "str") (b := "bool") (r := false) (by decide +kernel)⟩
  | ref h ht =>
    refine ⟨_, h, ?_⟩
    rcases ht with rfl | rfl | rfl
    · exact kit_ty (a := "list") (b := "bool") (r := false) (by decide +kernel)
    · exact kit_ty (a := "tuple") (b := "bool") (r := false) (by decide +kernel)
    · exact kit_ty (a := "dict") (b := "bool") (r := false) (by decide +kernel)
/-! ### rings, heights, needs: the mathematics -/
def rot (ns : List Int) (p : Nat) : List Int := ns.drop p ++ ns.take p
def hts : Int → List Int → List Int
  | _, [] => []
  | h, a :: r => (h + (1 - a)) :: hts (h + (1 - a)) r
def lo : List Int → Int
  | [] => 0
  | [x] => x
  | x :: y :: r => if x ≤ lo (y :: r) then x else lo (y :: r)
def pos0 (i : Int) : Int := if i > 0 then i else 0
def nd (ns : List Int) (p : Nat) : Int := pos0 (1 - lo (hts 0 (rot ns p)))
def bal (ns : List Int) : Int := (ns.length : Int) - ns.sum
def Ring (ns : List Int) : Prop := 1 ≤ ns.length ∧ ns.length ≤ 24 ∧ ∀ x ∈ ns, 0 ≤ x ∧ x ≤ 5
theorem rot_len (ns : List Int) (p : Nat) (h : p ≤ ns.length) : (rot ns p).length = ns.length := by
  unfold rot
  rw [List.length_append, List.length_drop, List.length_take]
  omega
theorem hts_len : ∀ (r : List Int) (h : Int), (hts h r).length = r.length
  | [], _ => rfl
  | a :: r, h => by
    show (hts (h + (1 - a)) r).length + 1 = r.length + 1
    rw [hts_len r]
theorem lo_mem : ∀ (l : List Int), l ≠ [] → lo l ∈ l
  | [], h => absurd rfl h
  | [x], _ => List.mem_cons_self
  | x :: y :: r, _ => by
    have ih := lo_mem (y :: r) (List.cons_ne_nil _ _)
    show (if x ≤ lo (y :: r) then x else lo (y :: r)) ∈ x :: y :: r
    by_cases q : x ≤ lo (y :: r)
    · rw [if_pos q]
      exact List.mem_cons_self
    · rw [if_neg q]
      exact List.mem_cons_of_mem _ ih
theorem lo_le : ∀ (l : List Int) (z : Int), z ∈ l → lo l ≤ z
  | [], _, h => by cases h
  | [x], z, h => by
    have e := List.mem_singleton.mp h
    subst e
    exact Int.le_refl _
  | x :: y :: r, z, h => by
    show (if x ≤ lo (y :: r) then x else lo (y :: r)) ≤ z
    have ih := lo_le (y :: r)
    by_cases q : x ≤ lo (y :: r)
    · rw [if_pos q]
      rcases List.mem_cons.mp h with e | h
      · subst e
        exact Int.le_refl _
      · exact Int.le_trans q (ih z h)
    · rw [if_neg q]
      rcases List.mem_cons.mp h with e | h
      · subst e
        omega
      · exact ih z h
theorem lo_uniq {l : List Int} {m : Int} (h1 : m ∈ l) (h2 : ∀ y ∈ l, m ≤ y) : m = lo l := by
  have ne : l ≠ [] := fun e => by
    subst e
    cases h1
  have a := h2 _ (lo_mem l ne)
  have b := lo_le l m h1
  omega
/-- the k-th height from the start -/
theorem hts_get : ∀ (r : List Int) (h : Int) (k : Nat), k < r.length → (hts h r)[k]? = some (h + ((k : Int) + 1) - (r.take (k + 1)).sum)
  | [], _, _, q => absurd q (Nat.not_lt_zero _)
  | a :: r, h, 0, _ => by
    show some (h + (1 - a)) = some _
    rw [List.take_succ_cons, List.take_zero, List.sum_cons, List.sum_nil]
    congr 1
    omega
  | a :: r, h, k + 1, q => by
    have ih := hts_get r (h + (1 - a)) k (Nat.lt_of_succ_lt_succ q)
    show (hts (h + (1 - a)) r)[k]? = _
    rw [ih, List.take_succ_cons, List.sum_cons]
    congr 1
    omega
/-! ### the least need of a ring -/
/-- puts minus takes of the first k tokens -/
def ps (ns : List Int) (k : Nat) : Int := (k : Int) - (ns.take k).sum
theorem sum_app : ∀ (a b : List Int), (a ++ b).sum = a.sum + b.sum
  | [], b => by
    rw [List.nil_append, List.sum_nil]
    omega
  | x :: a, b => by
    rw [List.cons_append, List.sum_cons, List.sum_cons, sum_app a b]
    omega
theorem ps_all (ns : List Int) : ps ns ns.length = bal ns := by
  unfold ps bal
  rw [List.take_length]
theorem ps_zero (ns : List Int) : ps ns 0 = 0 := by
  unfold ps
  rw [List.take_zero, List.sum_nil]
  rfl
theorem sum_drop_take (ns : List Int) (p k : Nat) : ((ns.drop p).take k).sum = (ns.take (p + k)).sum - (ns.take p).sum := by
  have e : ns.take (p + k) = ns.take p ++ (ns.drop p).take k := by
    rw [List.take_add]
  rw [e, sum_app]
  omega
theorem rot_ps (ns : List Int) (p k : Nat) (hp : p ≤ ns.length) (hk : k ≤ ns.length) :
    ((k : Int) - ((rot ns p).take k).sum) = if p + k ≤ ns.length then ps ns (p + k) - ps ns p else bal ns - ps ns p + ps ns (p + k - ns.length) := by
  unfold rot
  by_cases h : p + k ≤ ns.length
  · rw [if_pos h]
    have e : (ns.drop p ++ ns.take p).take k = (ns.drop p).take k := by
      rw [List.take_append_of_le_length]
      rw [List.length_drop]
      omega
    rw [e, sum_drop_take]
    unfold ps
    omega
  · rw [if_neg h]
    have e : (ns.drop p ++ ns.take p).take k = ns.drop p ++ ns.take (p + k - ns.length) := by
      rw [List.take_append, List.length_drop, List.take_of_length_le (l := ns.drop p) (by rw [List.length_drop]; omega), List.take_take]
      congr 2
      omega
    have e2 : (ns.drop p).sum = ns.sum - (ns.take p).sum := by
      have := sum_app (ns.take p) (ns.drop p)
      rw [List.take_append_drop] at this
      omega
    rw [e, sum_app, e2]
    unfold ps bal
    omega
theorem mem_get {l : List Int} {z : Int} (h : z ∈ l) : ∃ k, k < l.length ∧ l[k]? = some z := by
  obtain ⟨k, hk, e⟩ := List.getElem_of_mem h
  exact ⟨k, hk, by rw [List.getElem?_eq_getElem hk, e]⟩
theorem Ring.rot {ns : List Int} (h : Ring ns) (p : Nat) (hp : p ≤ ns.length) : Ring (rot ns p) := by
  obtain ⟨a, b, c⟩ := h
  refine ⟨by rw [rot_len ns p hp]; exact a, by rw [rot_len ns p hp]; exact b, fun x hx => c x ?_⟩
  unfold My.rot at hx
  rcases List.mem_append.mp hx with q | q
  · exact List.mem_of_mem_drop q
  · exact List.mem_of_mem_take q
end My
namespace My
open PySem PySem.Spec PyProof.Rows L2
theorem same_upd {H : Hp} {p : Addr} {o : HO} (h : H p = none) : Same H (upd H p o) := fun b x e => by
  rw [upd_ne (ne_of_none e h)]
  exact e
theorem same_seqT {K : PySem.W.Frag} {H H' : Hp} {a : Addr} {xs : List V} (e : Same H H') (h : SqT K H a xs) : SqT K H' a xs := by
  rcases h with (h | ⟨o, h⟩) | h
  · exact .inl (.inl (e _ _ h))
  · exact .inl (.inr ⟨o, e _ _ h⟩)
  · exact .inr h
/-- what the caller's tuple of ints is -/
abbrev TupI (K : PySem.W.Frag) (H : Hp) (a : Addr) (ns : List Int) : Prop := SqT K H a (ns.map V.int)
theorem tupI_of {K : PySem.W.Frag} {H : Hp} {a : Addr} {ns : List Int} (h : H a = some (.tup (ns.map V.int))) : TupI K H a ns := .inl (.inl h)
theorem lstI_of {K : PySem.W.Frag} {H : Hp} {a : Addr} {xs : List V} (h : H a = some (.lst xs)) : SqL K H a xs := .inl (.inl h)
theorem sz {n : Nat} (h : n ≤ 1000000) : n ≤ sizeLine := by
  rw [sizeLine_eq]
  omega
theorem szl {n : Nat} (h : n ≤ 1000000) : n < sizeLine := by
  rw [sizeLine_eq]
  omega
theorem cut_lo (xs : List V) (p : Nat) (h : p ≤ xs.length) : cutV xs (some (p : Int)) none = xs.drop p := by
  unfold cutV
  rw [show HT.sIx xs.length 0 (some (p : Int)) = min p xs.length from HT.sIx_nat xs.length 0 p, HT.sIx_none, Nat.min_eq_left h]
  rw [List.take_of_length_le]
  rw [List.length_drop]
  omega
theorem cut_hi (xs : List V) (p : Nat) (h : p ≤ xs.length) : cutV xs none (some (p : Int)) = xs.take p := by
  unfold cutV
  rw [show HT.sIx xs.length xs.length (some (p : Int)) = min p xs.length from HT.sIx_nat xs.length xs.length p, HT.sIx_none, Nat.min_eq_left h]
  show List.take (p - 0) (List.drop 0 xs) = _
  rw [List.drop_zero, Nat.sub_zero]
end My

namespace My
open PySem PySem.Spec PyProof.Rows L2
/-! ### the stream of draws: a list of the great cells, the list of all cells, the turn -/
structure Strm (H : Hp) (S A B : Addr) (t : Nat) : Prop where
  s : H S = some (.lst [.ref A, .ref B, .int t])
  a : ∃ as : List Int, H A = some (.lst (as.map V.int)) ∧ as.length ≤ 64
  b : ∃ bs : List Int, H B = some (.lst (bs.map V.int)) ∧ bs.length ≤ 64 ∧ 0 < bs.length
  sa : S ≠ A
  sb : S ≠ B
  ab : A ≠ B
/-- all but the stream stands -/
def SameX (S A : Addr) (H H' : Hp) : Prop := ∀ b o, H b = some o → b ≠ S → b ≠ A → H' b = some o
theorem SameX.refl (S A : Addr) (H : Hp) : SameX S A H H := fun _ _ h _ _ => h
theorem SameX.trans {S A : Addr} {H H1 H2 : Hp} (a : SameX S A H H1) (b : SameX S A H1 H2) : SameX S A H H2 := fun c o h x y => b c o (a c o h x y) x y
theorem Same.x {S A : Addr} {H H' : Hp} (a : Same H H') : SameX S A H H' := fun c o h _ _ => a c o h
theorem Strm.same {H H' : Hp} {S A B : Addr} {t : Nat} (x : Strm H S A B t) (e : Same H H') : Strm H' S A B t := by
  obtain ⟨s, ⟨as, a1, a2⟩, ⟨bs, b1, b2, b3⟩, n1, n2, n3⟩ := x
  exact ⟨e _ _ s, ⟨as, e _ _ a1, a2⟩, ⟨bs, e _ _ b1, b2, b3⟩, n1, n2, n3⟩
/-- another object is written -/
theorem Strm.upd {H : Hp} {S A B : Addr} {t : Nat} (x : Strm H S A B t) {d : Addr} {o : HO} (h1 : S ≠ d) (h2 : A ≠ d) (h3 : B ≠ d) : Strm (L2.upd H d o) S A B t := by
  obtain ⟨s, ⟨as, a1, a2⟩, ⟨bs, b1, b2, b3⟩, n1, n2, n3⟩ := x
  exact ⟨by rw [upd_ne h1]; exact s, ⟨as, by rw [upd_ne h2]; exact a1, a2⟩, ⟨bs, by rw [upd_ne h3]; exact b1, b2, b3⟩, n1, n2, n3⟩
theorem SameX.upd {S A : Addr} {H H' : Hp} (a : SameX S A H H') {d : Addr} {o : HO} (h : H d = none) : SameX S A H (L2.upd H' d o) := fun c z e x y => by
  rw [upd_ne (ne_of_none e h)]
  exact a c z e x y
theorem dpAll_ints {K : PySem.W.Frag} {H : Hp} : ∀ ns : List Int, DpAll K H (ns.map V.int) (ns.map PyData.int)
  | [] => .nil
  | n :: ns => .cons (.int n) (dpAll_ints ns)
theorem canLay_ints : ∀ ns : List Int, PyData.canLayAll0 (ns.map PyData.int) = true
  | [] => rfl
  | n :: ns => by
    show (true && PyData.canLayAll0 (ns.map PyData.int)) = true
    rw [canLay_ints ns]
    rfl
theorem depth_ints : ∀ ns : List Int, PyData.depthAll (ns.map PyData.int) ≤ 1
  | [] => Nat.zero_le _
  | n :: ns => Nat.max_le.mpr ⟨by first | exact Nat.le_refl _ | exact Nat.zero_le _, depth_ints ns⟩
theorem shaped_ints (ns : List Int) : SeqAt.shaped (.list (ns.map PyData.int)) = true := by
  unfold SeqAt.shaped
  have h1 : PyData.canLay0 (.list (ns.map PyData.int)) = true := canLay_ints ns
  have h2 : (PyData.list (ns.map PyData.int)).depth ≤ 2 := by
    have := depth_ints ns
    show _ + 1 ≤ 2
    omega
  rw [h1, decide_eq_true (by omega)]
  rfl
theorem eqv_ints_nil : ∀ ns : List Int, PyData.eqv (.list (ns.map PyData.int)) (.list []) = ns.isEmpty
  | [] => rfl
  | _ :: _ => rfl
theorem ixN_of {n j : Nat} (h : j < n) : ixN n (j : Int) = some j := by
  unfold ixN
  rw [if_pos (by omega), if_pos (by omega)]
  rfl
/-- // by a positive divisor of at most 36 digits -/
theorem op_fdivL {X : Cx} : OpR X (binaryOp .FloorDiv) (rI (fun _ j => 0 < j ∧ j < 1000000000000000000000000000000000000) fun i j => .int (i.fdiv j)) := opI fun i j _ _ _ _ _ hc q => by
  have h1 : (0 : Int) < j := hc.1
  have h2 : j < 1000000000000000000000000000000000000 := hc.2
  have h3 : j.natAbs < 2 ^ 200 := by
    have e : (2 : Nat) ^ 200 = 1606938044258990275541962092341162602522202993782792835301376 := by decide +kernel
    rw [e]
    omega
  have h4 : j.natAbs.log2 < 9000 := Nat.lt_of_lt_of_le (PySem.Flt.log2_lt_of (by decide) h3) (by decide)
  exact floordiv_int (by omega) q (.inl (PyProof.noPylong_of_log2 h4))
def spDraw (K : PySem.W.Frag) : Sp := fun vs H Q _ => ∃ (S A B : Addr) (t : Nat) (many : Int), vs = [.ref S, .int many] ∧ Strm H S A B t ∧ 0 < many ∧ many < 1000000000000000000000000000000000000 ∧ t < 1000000000 ∧
  ∀ H' t' v, SameX S A H H' → Strm H' S A B t' → t' ≤ t + 1 → 0 ≤ v → v < many → Q (.int v) H'
def spStream (K : PySem.W.Frag) : Sp := fun vs H Q _ => ∃ (a : Addr) (ns : List Int), vs = [.ref a] ∧ SqL K H a (ns.map V.int) ∧ ns.length ≤ 63 ∧
  ∀ H' S A B, Same H H' → H S = none → H A = none → H B = none → Strm H' S A B 0 → Q (.ref S) H'
def spPick (K : PySem.W.Frag) : Sp := fun vs H Q _ => ∃ (S A B : Addr) (t : Nat) (l : Addr) (xs : List V), vs = [.ref S, .ref l] ∧ Strm H S A B t ∧ t < 1000000000 ∧ SqL K H l xs ∧ l ≠ S ∧ l ≠ A ∧ 0 < xs.length ∧ xs.length < 1000000 ∧
  ∀ H' t' v, SameX S A H H' → Strm H' S A B t' → t' ≤ t + 1 → v ∈ xs → Q v H'
def spRing (K : PySem.W.Frag) : Sp := fun vs H Q _ => ∃ (S A B : Addr) (t : Nat) (most : Int), vs = [.ref S, .int most] ∧ Strm H S A B t ∧ t < 900000000 ∧ 0 < most ∧ most ≤ 24 ∧
  ∀ H' t' r ns, SameX S A H H' → Strm H' S A B t' → t' ≤ t + 200 → H r = none → H' r = some (.tup (ns.map V.int)) → Ring ns → (ns.length : Int) ≤ most → Q (.ref r) H'
theorem fmod_nn {a b : Int} (h : 0 < b) : 0 ≤ a.fmod b := by
  rw [Int.fmod_eq_emod_of_nonneg _ (Int.le_of_lt h)]
  exact Int.emod_nonneg _ (Int.ne_of_gt h)
theorem fmod_lt' {a b : Int} (h : 0 < b) : a.fmod b < b := by
  rw [Int.fmod_eq_emod_of_nonneg _ (Int.le_of_lt h)]
  exact Int.emod_lt_of_pos _ h
end My
namespace My
open PySem PySem.Spec PyProof.Rows L2
/-- a list of arities to pick from, apart from the stream -/
def Menu (S A : Addr) (H : Hp) (v : V) : Prop := ∃ (m : Addr) (ks : List Int), v = .ref m ∧ H m = some (.lst (ks.map V.int)) ∧ m ≠ S ∧ m ≠ A ∧ 0 < ks.length ∧ ks.length ≤ 10 ∧ ∀ k ∈ ks, 0 ≤ k ∧ k ≤ 5
theorem Menu.x {S A : Addr} {H H' : Hp} {v : V} (h : Menu S A H v) (e : SameX S A H H') : Menu S A H' v := by
  obtain ⟨m, ks, h1, h2, h3, h4, h5⟩ := h
  exact ⟨m, ks, h1, e _ _ h2 h3 h4, h3, h4, h5⟩
theorem Menu.new {S A B : Addr} {t : Nat} {H : Hp} (st : Strm H S A B t) {m : Addr} (nm : H m = none) (ks : List Int) (h1 : 0 < ks.length) (h2 : ks.length ≤ 10) (h3 : ∀ k ∈ ks, 0 ≤ k ∧ k ≤ 5) : Menu S A (upd H m (.lst (ks.map V.int))) (.ref m) := by
  obtain ⟨as, ha, _⟩ := st.a
  exact ⟨m, ks, rfl, upd_same, Ne.symm (ne_of_none st.s nm), Ne.symm (ne_of_none ha nm), h1, h2, h3⟩
def Tok5 (ks : List Int) : Prop := ∀ k ∈ ks, 0 ≤ k ∧ k ≤ 5
theorem Tok5.set {ks : List Int} (h : Tok5 ks) {j : Nat} {z : Int} (h0 : 0 ≤ z) (h5 : z ≤ 5) : Tok5 (ks.set j z) := fun k hk => by
  rcases List.mem_or_eq_of_mem_set hk with q | q
  · exact h k q
  · subst q
    exact ⟨h0, h5⟩
theorem map_set_int (ks : List Int) (j : Nat) (z : Int) : (ks.map V.int).set j (.int z) = (ks.set j z).map V.int := by
  rw [List.map_set]
theorem get_map_int {ks : List Int} {j : Nat} (h : j < ks.length) : (ks.map V.int)[j]? = some (.int ks[j]) := by
  rw [List.getElem?_map, List.getElem?_eq_getElem h]
  rfl
end My

namespace My
open PySem PySem.Spec PyProof.Rows L2
/-! ### repr of data of any depth -/
/-- data whose text is short enough -/
structure Fit (n k : Nat) (d : PyData) : Prop where
  sh : d.showable = true
  lv : d.leavesShort 40 = true
  bk : d.bulk ≤ n
  dp : d.depth ≤ k
structure FitAll (n k : Nat) (ds : List PyData) : Prop where
  sh : PyData.showableAll ds = true
  lv : PyData.leavesShortAll 40 ds = true
  bk : PyData.bulkAll ds ≤ n
  dp : PyData.depthAll ds ≤ k
theorem fitAll_nil (n k : Nat) : FitAll n k [] := ⟨rfl, rfl, Nat.zero_le _, Nat.zero_le _⟩
theorem fitAll_cons {n m k : Nat} {d : PyData} {ds : List PyData} (a : Fit n k d) (b : FitAll m k ds) : FitAll (n + 1 + m) k (d :: ds) := by
  obtain ⟨a1, a2, a3, a4⟩ := a
  obtain ⟨b1, b2, b3, b4⟩ := b
  refine ⟨?_, ?_, ?_, ?_⟩
  · show (_ && _) = true
    rw [a1, b1]
    rfl
  · show (_ && _) = true
    rw [a2, b2]
    rfl
  · show d.bulk + 1 + PyData.bulkAll ds ≤ _
    omega
  · show max d.depth (PyData.depthAll ds) ≤ k
    exact Nat.max_le.mpr ⟨a4, b4⟩
theorem fit_list {n k : Nat} {ds : List PyData} (a : FitAll n k ds) : Fit n (k + 1) (.list ds) := ⟨a.sh, a.lv, a.bk, Nat.succ_le_succ a.dp⟩
theorem fit_tuple {n k : Nat} {ds : List PyData} (a : FitAll n k ds) : Fit n (k + 1) (.tuple ds) := ⟨a.sh, a.lv, a.bk, Nat.succ_le_succ a.dp⟩
theorem Fit.mono {n m k j : Nat} {d : PyData} (a : Fit n k d) (h1 : n ≤ m) (h2 : k ≤ j) : Fit m j d := ⟨a.sh, a.lv, Nat.le_trans a.bk h1, Nat.le_trans a.dp h2⟩
theorem FitAll.mono {n m k j : Nat} {d : List PyData} (a : FitAll n k d) (h1 : n ≤ m) (h2 : k ≤ j) : FitAll m j d := ⟨a.sh, a.lv, Nat.le_trans a.bk h1, Nat.le_trans a.dp h2⟩
theorem fit_none (n k : Nat) : Fit n k .none := ⟨rfl, rfl, Nat.zero_le _, Nat.zero_le _⟩
theorem fit_bool (n k : Nat) (b : Bool) : Fit n k (.bool b) := ⟨rfl, rfl, Nat.zero_le _, Nat.zero_le _⟩
theorem log_of {i : Int} (h : i.natAbs < 10 ^ 30) : i.natAbs.log2 < 1920 := by
  by_cases e : i.natAbs = 0
  · rw [e]
    decide
  · refine (Nat.log2_lt e).mpr (Nat.lt_of_lt_of_le h ?_)
    exact Nat.le_trans (show 10 ^ 30 ≤ 2 ^ 100 by decide) (Nat.pow_le_pow_right (show 0 < 2 by decide) (show 100 ≤ 1920 by decide))
theorem fit_int (n k : Nat) {i : Int} (h : i.natAbs < 10 ^ 30) : Fit n k (.int i) := by
  have e1 : (toString i).length ≤ 31 := int_text_length_le10 (by decide) h
  have e2 : (PyData.shown (.int i)).length ≤ 40 := by
    show (Str.ofString (toString i)).length ≤ 40
    rw [PySem.ofString_length]
    omega
  exact ⟨decide_eq_true (log_of h), decide_eq_true e2, Nat.zero_le _, Nat.zero_le _⟩
theorem fitAll_ints : ∀ (ns : List Int) (k : Nat), (∀ x ∈ ns, x.natAbs < 10 ^ 30) → FitAll ns.length k (ns.map PyData.int)
  | [], k, _ => fitAll_nil _ _
  | x :: ns, k, h => by
    have a := fitAll_cons (fit_int 0 k (h x List.mem_cons_self)) (fitAll_ints ns k fun y hy => h y (List.mem_cons_of_mem _ hy))
    exact a.mono (by show 0 + 1 + ns.length ≤ ns.length + 1; omega) (Nat.le_refl _)
theorem Fit.text {d : PyData} (a : Fit 100000 50 d) : d.shown.length ≤ sizeLine := by
  have h := PyData.shown_le_bulk 40 (by decide) d a.lv
  have h2 := a.bk
  rw [sizeLine_eq]
  omega
/-! what a value is as data; b: dicts may occur in it -/
mutual
inductive Dq (b : Bool) (K : PySem.W.Frag) (H : Hp) : V → PyData → Prop
  | non : Dq b K H .non .none
  | bl (x : Bool) : Dq b K H (.bl x) (.bool x)
  | int (i : Int) : Dq b K H (.int i) (.int i)
  | str (x : Str) : Dq b K H (.str x) (.str x)
  | lst {a : Addr} {xs : List V} {ds : List PyData} : SqL K H a xs → (b = true → a ≠ sysModules) → DqAll b K H xs ds → Dq b K H (.ref a) (.list ds)
  | tup {a : Addr} {xs : List V} {ds : List PyData} : SqT K H a xs → DqAll b K H xs ds → Dq b K H (.ref a) (.tuple ds)
  | dic {a : Addr} {kvs : List (Str × Int)} : b = true → H a = some (.dK (kvs.map fun p => ((Sum.inr p.1 : Key), V.int p.2))) → Dq b K H (.ref a) (.dict (kvs.map fun p => (PyData.str p.1, PyData.int p.2)))
inductive DqAll (b : Bool) (K : PySem.W.Frag) (H : Hp) : List V → List PyData → Prop
  | nil : DqAll b K H [] []
  | cons {v : V} {vs : List V} {d : PyData} {ds : List PyData} : Dq b K H v d → DqAll b K H vs ds → DqAll b K H (v :: vs) (d :: ds)
end
mutual
theorem Dq.same {b : Bool} {K : PySem.W.Frag} {H H' : Hp} (e : Same H H') : ∀ {v : V} {d : PyData}, Dq b K H v d → Dq b K H' v d
  | _, _, .non => .non
  | _, _, .bl x => .bl x
  | _, _, .int i => .int i
  | _, _, .str x => .str x
  | _, _, .lst h n a => .lst (e.seq h) n (DqAll.same e a)
  | _, _, .tup h a => .tup (same_seqT e h) (DqAll.same e a)
  | _, _, .dic h1 h2 => .dic h1 (e _ _ h2)
theorem DqAll.same {b : Bool} {K : PySem.W.Frag} {H H' : Hp} (e : Same H H') : ∀ {vs : List V} {ds : List PyData}, DqAll b K H vs ds → DqAll b K H' vs ds
  | _, _, .nil => .nil
  | _, _, .cons h a => .cons (Dq.same e h) (DqAll.same e a)
end
section
variable {X : Cx} {pins : List (Addr × Obj)} {σ : L2.St} {H : Hp} {s : Shared}
theorem dic_reads {P : Program} {w : World} : ∀ (kvs : List (Str × Int)) (vs : List (Key × Value)) (es : List DictEntry) (h : Heap),
    KV (kvs.map fun p => ((Sum.inr p.1 : Key), V.int p.2)) vs → Pairs (mixKind P w) es vs →
    ReadsAll h (es.map (·.key)) ((kvs.map fun p => (PyData.str p.1, PyData.int p.2)).map (·.1)) [] ∧ ReadsAll h (es.map (·.val)) ((kvs.map fun p => (PyData.str p.1, PyData.int p.2)).map (·.2)) []
  | [], vs, es, h, r, q => by
    cases r
    cases q
    exact ⟨.nil, .nil⟩
  | p :: kvs, vs, es, h, r, q => by
    cases r with
    | cons r1 r2 =>
      cases q with
      | cons q1 q2 q3 =>
        obtain ⟨a1, a2⟩ := dic_reads kvs _ _ h r2 q3
        obtain ⟨e1, t, e2⟩ := r1
        rw [← e1] at q1
        have q1 : keyIs (Sum.inr p.1) _ = true := q1
        rcases keyIs_shape q1 with ⟨i, t2, ek, _⟩ | ⟨x, t2, ek, ev⟩
        · cases ek
        · cases ek
          refine ⟨?_, ?_⟩
          · have := ReadsAll.cons (h := h) (Reads.str p.1 t2) a1
            rw [← ev] at this
            exact this
          · have := ReadsAll.cons (h := h) (Reads.int p.2 t) a2
            rw [← e2, ← q2] at this
            exact this
mutual
theorem Dq.reads {b : Bool} (I : Inv X pins σ H s) : ∀ (d : PyData) (v : V) (u : Value), Dq b X.K H v d → RelV v u → ∃ as, Reads s.heap u d as ∧ (b = true → sysModules ∉ as) ∧ (b = false → d.hasDict = false)
  | .none, _, _, h, r => by
    cases h
    cases r
    exact ⟨_, Reads.none, (fun _ z => nomatch z), fun _ => rfl⟩
  | .bool x, _, _, h, r => by
    cases h
    cases r
    exact ⟨_, Reads.bool x, (fun _ z => nomatch z), fun _ => rfl⟩
  | .int i, _, _, h, r => by
    cases h
    obtain ⟨t, rfl⟩ := r
    exact ⟨_, Reads.int i t, (fun _ z => nomatch z), fun _ => rfl⟩
  | .str x, _, _, h, r => by
    cases h
    obtain ⟨t, rfl⟩ := r
    exact ⟨_, Reads.str x t, (fun _ z => nomatch z), fun _ => rfl⟩
  | .list ds, _, _, h, r => by
    cases h with
    | lst hs hn ha =>
      cases r
      obtain ⟨its, rv, ⟨o, n, ho, hc, _, hd⟩, _⟩ := I.list hs
      obtain ⟨as, q, q1, q2⟩ := DqAll.reads I ds _ its ha rv
      refine ⟨_, Reads.list ho hc hd q, fun e z => ?_, q2⟩
      rcases List.mem_cons.mp z with z | z
      · exact hn e z.symm
      · exact q1 e z
  | .tuple ds, _, _, h, r => by
    cases h with
    | tup hs ha =>
      cases r
      obtain ⟨its, rv, ⟨o, ho, hc, n, hd⟩, _⟩ := I.tuple hs
      obtain ⟨as, q, q1, q2⟩ := DqAll.reads I ds _ its ha rv
      exact ⟨_, Reads.tuple ho hc hd q, q1, q2⟩
  | .dict _, _, _, h, r => by
    cases h with
    | dic hb hd =>
      cases r
      obtain ⟨_, hm, vs, rv, o, es, ep, ho, ⟨hc, _⟩, hdat, _, pr, _⟩ := I.hok _ _ hd
      obtain ⟨a1, a2⟩ := dic_reads _ _ _ s.heap rv pr
      refine ⟨_, Reads.dict ho hc hdat a1 a2, fun _ z => ?_, fun e => ?_⟩
      · rcases List.mem_cons.mp z with z | z
        · rw [← z] at hm
          exact absurd hm (by decide)
        · cases z
      · rw [hb] at e
        cases e
theorem DqAll.reads {b : Bool} (I : Inv X pins σ H s) : ∀ (ds : List PyData) (vs : List V) (us : List Value), DqAll b X.K H vs ds → Vals vs us → ∃ as, ReadsAll s.heap us ds as ∧ (b = true → sysModules ∉ as) ∧ (b = false → PyData.hasDictAll ds = false)
  | [], _, _, h, r => by
    cases h
    cases r
    exact ⟨_, ReadsAll.nil, (fun _ z => nomatch z), fun _ => rfl⟩
  | d :: ds, _, _, h, r => by
    cases h with
    | cons h1 h2 =>
      cases r with
      | cons r1 r2 =>
        obtain ⟨as, q, q1, q2⟩ := Dq.reads I d _ _ h1 r1
        obtain ⟨bs, p, p1, p2⟩ := DqAll.reads I ds _ _ h2 r2
        refine ⟨_, ReadsAll.cons q p, fun e z => ?_, fun e => ?_⟩
        · rcases List.mem_append.mp z with z | z
          · exact q1 e z
          · exact p1 e z
        · show (d.hasDict || PyData.hasDictAll ds) = false
          rw [q2 e, p2 e]
          rfl
end
end
section
variable {X : Cx}
/-- repr(x) -/
def rRepr (K : PySem.W.Frag) : List V → Hp → VK → Prop := fun xs H Q => ∃ (b : Bool) (v : V) (d : PyData), xs = [v] ∧ Dq b K H v d ∧ Fit 100000 50 d ∧ Q (.str d.shown) H
theorem call_repr (hg : X.A.guards = some []) (hu : X.A.units + 64 < cLine) : CallR X (.builtin "repr") (rRepr X.K) := by
  intro pins s σ H xs us Q I r hq
  obtain ⟨b, v, d, rfl, dq, ft, q⟩ := hq
  obtain ⟨u, rfl, rx⟩ := vals1 r
  obtain ⟨as, rd, n1, n2⟩ := Dq.reads I d v u dq rx
  have hsm : d.hasDict = true → sysModules ∉ as := fun e => by
    cases b with
    | true => exact n1 rfl
    | false =>
      rw [n2 rfl] at e
      cases e
  have tx := ft.text
  have dp := ft.dp
  have big : ∀ (a : Addr), u = .ref a → wpAny (model X.prog X.w) X.A (call (.builtin "repr") [u]) (EP X pins σ Q) X.xe s := fun a e => by
    subst e
    exact repr_of_reads' rd ft.sh hsm hg (by omega) (fun _ _ e => e) (fun h' u2 tk hk => ⟨.str _, H, I.kept hk, ⟨_, rfl⟩, q⟩) tx
  cases rd with
  | none => exact PySem.P.repr_of_none ⟨.str _, H, I.tok _, ⟨_, rfl⟩, q⟩
  | bool x =>
    refine PySem.P.repr_of_bool ⟨.str _, H, I.tok _, ⟨_, rfl⟩, ?_⟩
    cases x <;> exact q
  | int i t => exact PySem.P.repr_of_int (of_decide_eq_true ft.sh) ⟨.str _, H, I.tok _, ⟨_, rfl⟩, q⟩
  | str x t => exact PySem.P.repr_of_str ⟨.str _, H, I.tok _, ⟨_, rfl⟩, q⟩ tx
  | list _ _ _ _ => exact big _ rfl
  | tuple _ _ _ _ => exact big _ rfl
  | dict _ _ _ _ _ => exact big _ rfl
end
end My

namespace My
open PySem PySem.Spec PyProof.Rows L2
/-! ### the law's own def where it is known that no repr runs around it -/
/-- a def's run at a caller around whom nothing is being shown -/
def RunG (P : Program) (w : World) (K : PySem.W.Frag) (mg : Str → Option Value) (base : Heap) (k : Nat) (f : Addr) (fd : FuncData) (ps : List Str) (sp : Sp) : Prop :=
  ∀ (Ar : Around) (st0 : Shared) (hp : Hp) (vals : List Value) (vs : List V) (Q : VK) (E : XK), Ar.guards = some [] → Room k Ar →
    Env0 P w K mg base Ar [] st0 hp → BindsTo st0 fd ⟨vals, []⟩ (ps.zip vals) → Vals vs vals → sp vs hp Q E →
    codeAny (model P w) Ar (.call (.ref f) ⟨vals, []⟩) (CR CX0 [] P w hp st0 Q E) st0
theorem runG_of {P : Program} {w : World} {K : PySem.W.Frag} {mg : Str → Option Value} {base : Heap} {k : Nat} {x qual : Str} {params : Arguments} {body : List Stmt} {scope : Scope} {N ps : List Str} {sp : Sp} {f : Addr} {fd : FuncData}
    (F : FunD K x qual params body scope [] [] f fd) (S : FnScope N ps scope)
    (len : ∀ vs H Q E, sp vs H Q E → vs.length = ps.length)
    (hbody : ∀ (cdv : Value) (A : Around) (outer : List Env) (s : Shared) (H : Hp) (vs : List V) (Q : VK) (E : XK), A.guards = some [] →
      Room k (A.deeper (envOfC qual scope s.heap.objs.size f cdv)) → sp vs H Q E →
      ∃ t, PSs (cxOf CX0 P w K mg base N qual scope f cdv A outer s H E).nox body t ∧ t { nx := fun _ H' => Q .non H', rt := Q } (start N vs) H) :
    RunG P w K mg base (k + 1) f fd ps sp := by
  intro Ar st0 hp vals vs Q E hgd room env0 bnd rel hsp
  obtain ⟨c1, c2, c3, c4, c5, c6, c7, code, c9, c10, rfl, found, coded, _, _⟩ := F.ex
  have same := len _ _ _ _ hsp
  have stands : ∀ b o, base.get? b = some o → st0.heap.get? b = some o := fun b o e => (env0.bs b o e).1
  have kin := env0.mod.kin.keeps stands
  have free := env0.mod.nolimit.keeps stands
  refine codeAny_call_function room.depth (kin _ _ found) rfl S.co S.gen rfl
    (PySem.W.codeRec_of kin coded) (bnd _ _ _ _ ?_)
  refine wpAny_newFunctionEnv_cells S.kind (fun y hy => ?_) fun env isEnv st1 made => ?_
  · obtain ⟨n, v⟩ := y
    rcases S.par n (List.of_mem_zip hy).1 with z | z
    · exact Or.inl z
    · exact Or.inr ⟨z, PySem.W.cellsFrom_some _ _ _ (Or.inl z)⟩
  subst isEnv
  refine ⟨free.keeps made.toInCall.keep, codeAny_func ?_⟩
  obtain ⟨t, der, rd⟩ := hbody code Ar [] st0 hp vs Q E hgd (room.deeper _) hsp
  have start0 := inv_start (CX := CX0) (E := E) S room.hd env0 same rel made
  refine wpAny_mono (der.nox.run [] st1 (start N vs) hp _ start0 rd) (fun fl st2 post => ?_) fun e st2 post => post
  cases fl with
  | ret u =>
    obtain ⟨v, σ2, H2, J, rv, q⟩ := post
    exact ⟨v, H2, J.os, J.bare, J.base, J.hok, rv, q⟩
  | next =>
    obtain ⟨σ2, H2, J, q⟩ := post
    exact ⟨V.non, H2, J.os, J.bare, J.base, J.hok, rfl, q⟩
  | brk =>
    obtain ⟨_, _, _, q⟩ := post
    exact q.elim
  | cont =>
    obtain ⟨_, _, _, q⟩ := post
    exact q.elim
/-- the heap at the law's entry: what is tracked there -/
theorem entry_heap {P : Program} {w : World} {K : PySem.W.Frag} {s₁ : Shared} {a : Addr} {vs : List Value} {ns : List Int} (kin : K.In s₁.heap)
    (ha : s₁.heap.get? a = some { cls := .type "list", data := .seq vs.toArray }) (hi : IntsAre vs ns) (hl : ns.length ≤ sizeLine) :
    ∃ H : Hp, Only H ∧ SqL K H a (ns.map V.int) ∧ HOk P w H s₁.heap ∧ (∀ b u, H b = some u → b = a) ∧ ∀ b o u, K.lookup b = some o → H b = some u → False := by
  have rel := vals_ints hi
  cases look : K.lookup a with
  | some o =>
    have same := kin a o look
    rw [ha] at same
    cases same
    refine ⟨fun _ => none, fun _ => Or.inl rfl, Or.inr ⟨_, vs.toArray, _, look, rfl, rfl, rfl, ?_, by simpa using rel⟩, ?_, ?_, ?_⟩
    · rw [List.size_toArray, hi.length]
      exact hl
    · intro b u e
      cases (show (none : Option HO) = some u from e)
    · intro b u e
      cases (show (none : Option HO) = some u from e)
    · intro b o u _ e
      cases (show (none : Option HO) = some u from e)
  | none =>
    refine ⟨upd (fun _ => none) a (.frz { cls := .type "list", data := .seq vs.toArray } (.lst (ns.map V.int))), fun b => ?_, Or.inl (Or.inr ⟨_, upd_same⟩), fun b u e => ?_, fun b u e => ?_, fun b o u e1 e2 => ?_⟩
    · by_cases hb : b = a
      · rw [hb]
        exact Or.inr ⟨_, _, upd_same⟩
      · exact Or.inl (upd_ne hb)
    · by_cases hb : b = a
      · rw [hb, upd_same] at e
        cases e
        rw [hb]
        exact ⟨ha, by rw [List.length_map]; exact hl, vs, _, rel, ha⟩
      · rw [upd_ne hb] at e
        cases e
    · by_cases hb : b = a
      · exact hb
      · rw [upd_ne hb] at e
        cases e
    · by_cases hb : b = a
      · rw [hb, look] at e1
        cases e1
      · rw [upd_ne hb] at e2
        cases e2
theorem law_callG {P : Program} {w : World} {K : PySem.W.Frag} {mg mb : Str → Option Value} {k : Nat} {fa a : Addr} {fd : FuncData} {x : Str} {sp : Sp} {s₁ : Shared} {vs : List Value} {ns : List Int}
    (kin : K.In s₁.heap) (glob : s₁.heap.Ns mainGlobals mg) (bns : s₁.heap.Ns builtinsNs mb) (bboot : ∀ y : Str, y ≠ "__name__" → mb y = bootBuiltins y) (nolim : s₁.heap.NoLimit) (gens : s₁.gens = #[])
    (ha : s₁.heap.get? a = some { cls := .type "list", data := .seq vs.toArray }) (hi : IntsAre vs ns) (hl : ns.length ≤ sizeLine) (room : Room k callerA)
    (R : ∀ base : Heap, K.In base → base.Ns mainGlobals mg → RunG P w K mg base k fa fd [x] sp) (bnd : ∀ (s : Shared) (u : Value), BindsTo s fd ⟨[u], []⟩ [(x, u)])
    (hsp : ∀ H : Hp, Only H → SqL K H a (ns.map V.int) → sp [.ref a] H (fun v _ => v = .bl true) fun _ _ _ => False) :
    codeAny (model P w) callerA (.call (.ref fa) ⟨[.ref a], []⟩)
      (fun r s' => r = .ok (.ret (.bool true)) ∧ OldK s₁.heap s'.heap ∧ s'.os = s₁.os ∧ AllBare s'.gens) s₁ := by
  obtain ⟨H, only, sq, ok, isA, offK⟩ := entry_heap (P := P) (w := w) kin ha hi hl
  have away : ∀ {b : Addr} {o : Obj} {es : Array DictEntry} {ep : Nat}, s₁.heap.get? b = some o → o.data = .dict es ep → H b = none := by
    intro b o es ep e d
    cases q : H b with
    | none => rfl
    | some u =>
      rw [isA b u q, ha] at e
      cases e
      cases (show Data.seq vs.toArray _ = Data.dict es ep from d)
  have names : ∀ {b : Addr} {m : Str → Option Value}, s₁.heap.Ns b m → (hidT s₁.heap H).Ns b m := by
    intro b m z
    obtain ⟨o, es, ep, e, d, more⟩ := z
    exact ⟨o, es, ep, hidT_get e (away e d), d, more⟩
  have kin2 : K.In (hidT s₁.heap H) := by
    intro b o e
    refine hidT_get (kin b o e) ?_
    cases q : H b with
    | none => rfl
    | some u => exact (offK b o u e q).elim
  have lim2 : (hidT s₁.heap H).NoLimit := by
    obtain ⟨mc, z1, z2⟩ := nolim
    exact ⟨mc, names z1, z2⟩
  have e0 : Env0 P w K mg (hidT s₁.heap H) callerA [] s₁ H := by
    refine ⟨rfl, ⟨kin2, names glob, ⟨mb, names bns, bboot⟩, lim2⟩, fun b o e => of_hidT e, Nat.le_of_eq (hidT_size _ _), trivial, ?_, ok, AllBare.of_eq gens⟩
    intro b hb
    cases (show b ∈ ([] : List Addr) from hb)
  refine codeAny_mono (R _ kin2 (names glob) callerA s₁ H [.ref a] [.ref a] _ _ rfl room e0 (bnd s₁ (.ref a)) (.cons rfl .nil) (hsp H only sq)) fun r s2 post => ?_
  cases r with
  | error e => exact (show False from post).elim
  | ok fl =>
    cases fl with
    | ret u =>
      obtain ⟨v, H2, hos, bare, un, ok2, rv, q⟩ := post
      have q : v = .bl true := q
      subst q
      have ru : u = Value.bool true := rv
      subst ru
      refine ⟨rfl, OldK.of_keep fun b o e => ?_, hos, bare⟩
      cases z : H b with
      | none =>
        refine un.keep b o e z (fun y => ?_) (fun y => ?_)
        · cases (show b ∈ ([] : List Addr) from y)
        · cases y
      | some u2 =>
        rcases only b with y | ⟨ob, xs, y⟩
        · rw [z] at y
          cases y
        · obtain ⟨g1, _⟩ := ok b _ y
          obtain ⟨g2, _⟩ := ok2 b _ (un.frzs b ob _ y)
          rw [e] at g1
          cases g1
          exact g2
    | next => exact (show False from post).elim
    | brk => exact (show False from post).elim
    | cont => exact (show False from post).elim
/-- a law's end over a head by facts, its def's run told at its own caller -/
theorem walk_ofG {l : PySem.W.OpenLaw} {n k : Nat} {q : Program} {loose : List Str} {XP : (Str → Option Value) → Heap → Prop} {YP : World → Heap → Prop} {d : DefRec} {x : Str}
    (hn : l.most = some n) (hn2 : n ≤ sizeLine) (hdf : d.params.defaults = []) (hr : Room k callerA)
    (F : ∀ (w : World) (mg : Str → Option Value) (fa : Addr) (h : Heap), YP w h → h.Ns mainGlobals mg → mg d.name = some (.ref fa) →
      ∃ (K : PySem.W.Frag) (fd : FuncData) (sp : Sp), K.In h ∧ (∀ (s : Shared) (u : Value), BindsTo s fd ⟨[u], []⟩ [(x, u)]) ∧
        (∀ (H : Hp) (a : Addr) (ns : List Int), ns.length ≤ n → Only H → SqL K H a (ns.map V.int) → sp [.ref a] H (fun v _ => v = .bl true) fun _ _ _ => False) ∧
        ∀ base : Heap, K.In base → base.Ns mainGlobals mg → RunG l.prog w K mg base k fa fd [x] sp) :
    PySem.W.WalkO q loose XP YP l.row.toRowW d [] (fun f vs => PySem.call f vs) := by
  refine Att.attach_call hn hdf fun w t0 t1 mg mb fa o pm cd doc a vs ns G Y ho hd hcd hmg ha hi hlen hg => ?_
  obtain ⟨K, fd, sp, kin, bnd, hsp, R⟩ := F w mg fa _ Y G.T.g hmg
  exact law_callG kin G.T.g G.T.b G.T.builtins G.T.nolimit hg ha hi (Nat.le_trans hlen hn2) hr R bnd fun H o1 o2 => hsp H a ns hlen o1 o2
end My

namespace My
open PySem PySem.Spec PyProof.Rows L2
/-! ### a stack that is filled up where a token finds too few values: (depth, missing) -/
def filS (d m a : Int) : Int × Int := if d < a then (a - a + 1, m + a - d) else (d - a + 1, m)
def fil : Int → Int → List Int → Int × Int
  | d, m, [] => (d, m)
  | d, m, a :: r => fil (filS d m a).1 (filS d m a).2 r
theorem fil_app : ∀ (r s : List Int) (d m : Int), fil d m (r ++ s) = fil (fil d m r).1 (fil d m r).2 s
  | [], s, d, m => rfl
  | a :: r, s, d, m => fil_app r s _ _
theorem fil_step (ns : List Int) (d m : Int) (i : Nat) (hi : i < ns.length) :
    fil d m (ns.take (i + 1)) = if (fil d m (ns.take i)).1 < ns[i] then (ns[i] - ns[i] + 1, (fil d m (ns.take i)).2 + ns[i] - (fil d m (ns.take i)).1) else ((fil d m (ns.take i)).1 - ns[i] + 1, (fil d m (ns.take i)).2) := by
  rw [List.take_add_one, List.getElem?_eq_getElem hi]
  show fil d m (ns.take i ++ [ns[i]]) = _
  rw [fil_app]
  rfl
theorem lo_cons (x : Int) (l : List Int) (h : l ≠ []) : lo (x :: l) = if x ≤ lo l then x else lo l := by
  cases l with
  | nil => exact absurd rfl h
  | cons y r => rfl
theorem fil_eq : ∀ (r : List Int) (h m : Int), 0 ≤ m → r ≠ [] →
    (fil (h + m) m r).2 = (if 1 - lo (hts h r) > m then 1 - lo (hts h r) else m) ∧ (fil (h + m) m r).1 = h + (r.length : Int) - r.sum + (fil (h + m) m r).2
  | [], _, _, _, n => absurd rfl n
  | a :: r, h, m, hm, _ => by
    have key : ∃ m', filS (h + m) m a = (h + (1 - a) + m', m') ∧ 0 ≤ m' ∧ m' = if 1 - (h + (1 - a)) > m then 1 - (h + (1 - a)) else m := by
      unfold filS
      by_cases c : h + m < a
      · rw [if_pos c]
        refine ⟨m + a - (h + m), ?_, by omega, ?_⟩
        · congr 1
          omega
        · rw [if_pos (by omega)]
          omega
      · rw [if_neg c]
        refine ⟨m, ?_, hm, ?_⟩
        · congr 1
          omega
        · rw [if_neg (by omega)]
    obtain ⟨m', e1, e2, e3⟩ := key
    have e4 : fil (h + m) m (a :: r) = fil (h + (1 - a) + m') m' r := by
      show fil (filS (h + m) m a).1 (filS (h + m) m a).2 r = _
      rw [e1]
    rw [e4]
    by_cases n : r = []
    · subst n
      show m' = (if 1 - (h + (1 - a)) > m then 1 - (h + (1 - a)) else m) ∧ h + (1 - a) + m' = h + 1 - (a :: ([] : List Int)).sum + m'
      refine ⟨e3, ?_⟩
      rw [List.sum_cons, List.sum_nil]
      omega
    · obtain ⟨i1, i2⟩ := fil_eq r (h + (1 - a)) m' e2 n
      have hn : hts (h + (1 - a)) r ≠ [] := fun z => by
        have := hts_len r (h + (1 - a))
        rw [z] at this
        exact n (List.eq_nil_of_length_eq_zero this.symm)
      have el : lo (hts h (a :: r)) = if h + (1 - a) ≤ lo (hts (h + (1 - a)) r) then h + (1 - a) else lo (hts (h + (1 - a)) r) := lo_cons _ _ hn
      refine ⟨?_, ?_⟩
      · rw [i1, el]
        revert e3
        split <;> split <;> split <;> omega
      · rw [i2, List.sum_cons, List.length_cons]
        omega
theorem fil_nd (ns : List Int) (p : Nat) (hp : p < ns.length) : (fil 0 0 (rot ns p)).2 = nd ns p := by
  have ne : rot ns p ≠ [] := fun z => by
    have := rot_len ns p (by omega)
    rw [z] at this
    have : (0 : Nat) = ns.length := this
    omega
  have e := (fil_eq (rot ns p) 0 0 (Int.le_refl _) ne).1
  rw [Int.zero_add] at e
  rw [e]
  rfl
def spFrom (K : PySem.W.Frag) : Sp := fun vs H Q _ => ∃ (a : Addr) (ns : List Int) (p : Nat), vs = [.ref a, .int p] ∧ TupI K H a ns ∧ p < ns.length ∧ ns.length ≤ 24 ∧
  ∀ H' q, Same H H' → TupI K H' q (rot ns p) → Q (.ref q) H'
def spMissing (K : PySem.W.Frag) : Sp := fun vs H Q _ => ∃ (a : Addr) (ns : List Int), vs = [.ref a] ∧ TupI K H a ns ∧
  ∀ H' q, Same H H' → H q = none → H' q = some (.lst [.int (fil 0 0 ns).2, .int (fil 0 0 ns).1]) → Q (.ref q) H'
end My
namespace My
open PySem PySem.Spec PyProof.Rows L2
theorem small30 {x : Int} (h1 : -1000000 ≤ x) (h2 : x ≤ 1000000) : x.natAbs < 10 ^ 30 := by
  have : x.natAbs ≤ 1000000 := by omega
  exact Nat.lt_of_le_of_lt this (by decide)
end My

/-! ### an error of an own class over any built-in base, with one field: stored -/
namespace PySem
namespace NX
open PySem.W PySem.Calls PyProof.Rows PySem.HandSPX
theorem osaB {prog : Program} {w : World} {A : Around} {R : Result → Shared → Prop} {hp : Heap} {g : Array GenState} {d : Drawn} {t : Nat} {os : OsState} {K : Frag} {name : Str} {tk : Tok} {v : Value} {x C t1 : Addr} {B : String} {bmB : List Value}
    (SF : StoreFacts B bmB "object.__setattr__" "object") (X : K.In hp) (hx : hp.get? x = some (excO C t1)) (ov : excOver K C bmB = true) (tkr : takerIn K C name = some none) (hdi : hasDictIn K C = true)
    (hq : ∀ h' tk' dx, (∀ b o, b ≠ x → hp.get? b = some o → h'.get? b = some o) → hp.objs.size ≤ dx → dx ≠ x →
      h'.get? x = some { cls := .ref C, dict := some dx, data := .fields #[.ref t1, .none, .none, .none, .bool false, .none] } →
      h'.Ns1 dx (fun y => if y = name then some v else none) → R (.ok (.ret .none)) ⟨h', g, d, tk', os⟩) :
    codeAny (model prog w) A (.call (.builtin "object.__setattr__") ⟨[.ref x, .str name tk, v], []⟩) R ⟨hp, g, d, t, os⟩ := by
  refine osa_openX (s := ⟨hp, g, d, t, os⟩) (od := none) SF X ⟨hx, rfl, rfl, trivial⟩ ov tkr fun b => ?_
  obtain ⟨cd, look, dict⟩ := any_some hdi
  have small : x < hp.objs.size := Heap.lt_size hx
  have apart : x ≠ hp.objs.size := Nat.ne_of_lt small
  have there : (hp.push (dictOf [] 0)).get? x = some (excO C t1) := Heap.get?_push_of_some _ hx
  refine wpAny_bind (wpAny_pure (wpAny_bind
    (instanceDict_exc (s := ⟨hp, g, d, t, os⟩) (t := t1) (c2 := .none) hx (looks_clsIn X look) dict ?_)))
  refine store_in_new ?_ fun h' tk' names same => ?_
  · exact ⟨_, #[], _, (Heap.get?_update_ne _ _ _ _ apart.symm).trans (Heap.get?_push_at rfl rfl), rfl,
      fun e he => absurd he (by simp), fun _ => rfl⟩
  · refine hq h' tk' hp.objs.size (fun b o hb ho => ?_) (Nat.le_refl _) apart.symm ?_ names
    · have far : b ≠ hp.objs.size := Nat.ne_of_lt (Heap.lt_size ho)
      exact (same.2 b far).trans ((Heap.get?_update_ne _ _ _ _ hb).trans (Heap.get?_push_of_some _ ho))
    · exact (same.2 x apart).trans (Heap.get?_update_self _ there rfl)
end NX
end PySem

/-! ### the block of the guide's own-error skeleton, for any class over any built-in base whose __init__ stores the field value -/
namespace PySem
namespace Xf_value
open PySem.W PySem.Calls PyProof.Rows PySem.HandSPX
def iA (p1 p2 : Pos) : Arguments := { posonlyargs := [], args := [{ arg := "self", annotation := none, pos := p1 }, { arg := "value", annotation := none, pos := p2 }], vararg := none, kwonlyargs := [], kw_defaults := [], kwarg := none, defaults := [] }
def iB (q1 q2 q3 q4 : Pos) : List Stmt := [.Assign [.Attribute (.Name "self" q1) "value" q2] (.Name "value" q3) q4]
def iS : Scope := { kind := .function, names := [(PySem.Str.ofString "self", .local), (PySem.Str.ofString "value", .local)], isGenerator := false, isCoroutine := false, more := [] }
/-- what the written part says of the class x at C and of its __init__ at fI -/
structure Txt (K : Frag) (mg : Str → Option Value) (x q : Str) (C fI : Addr) (newId : String) (bmB : List Value) : Prop where
  gC : mg x = some (.ref C)
  mkr : excInitIn K C bmB newId = true
  ov : excOver K C bmB = true
  tk : takerIn K C "value" = some none
  sa : findIn K (.ref C) "__setattr__" = some (some (.builtin "object.__setattr__"))
  ga : findIn K (.ref C) "__getattribute__" = some (some (.builtin "BaseException.__getattribute__"))
  gg : findIn K (.ref C) "__getattr__" = some none
  noN : findIn K (.ref C) "value" = some none
  iC : findIn K (.ref C) "__init__" = some (some (.ref fI))
  tC : typeIn K (.ref fI) = some (.type "function")
  kC : keepIn K (.ref C) = true
  exC : subIn K (.ref C) (.type "BaseException") = some true
  tyC : typeIn K (.ref C) = some (.type "type")
  hdC : hasDictIn K C = true
  te : exmOne K (.ref C) (.ref C) = some true
  fn : ∃ (p1 p2 q1 q2 q3 q4 : Pos) (fd : FuncData), L2.FunD K "__init__" q (iA p1 p2) (iB q1 q2 q3 q4) iS [] [] fI fd
theorem one_size (v : Value) : [v].length ≤ sizeLine := by
  rw [sizeLine_eq]
  exact (by decide : 1 ≤ 16777216)
theorem ldC {M : Model} {s : Shared} {name : Str} {scope : Scope} {L a : Addr} {cd : Value} {m : Str → Option Value} {x : Str} {pos : Pos} {v : Value} {Q : Value → Shared → Prop} {A : Around} {E : Value → Shared → Prop} (hn : s.heap.Ns L m) (hv : m x = some v) (h : Q v s)
    (hk : scope.kind = .function := by rfl) (hl : (envOfC name scope L a cd).kindOf x = some .local := by rfl) (hd : (x == ("__debug__" : Str)) = false := by decide) :
    wpAny M A (eval (.Name x pos) (envOfC name scope L a cd)) Q E s := wpAny_Name (wpAny_loadName_local hk hl hn hv h) hd
/-- what __init__ leaves of a fresh error at x -/
structure InitEnd (h h' : Heap) (x C dx t1 : Addr) (v : Value) : Prop where
  keep : ∀ b o, b ≠ x → h.get? b = some o → h'.get? b = some o
  obj : h'.get? x = some { cls := .ref C, dict := some dx, data := .fields #[.ref t1, .none, .none, .none, .bool false, .none] }
  dbig : h.objs.size ≤ dx
  dne : dx ≠ x
  ns : h'.Ns1 dx (fun y => if y = "value" then some v else none)
/-- a made error -/
structure OwnMade (h h' : Heap) (e C d : Addr) (v : Value) : Prop where
  keep : ∀ b o, h.get? b = some o → h'.get? b = some o
  new : h.objs.size ≤ e
  obj : ∃ oe vs, h'.get? e = some oe ∧ oe.cls = .ref C ∧ oe.dict = some d ∧ oe.data = .fields vs ∧ vs[1]? = some .none
  dbig : h.objs.size ≤ d
  dne : d ≠ e
  ns : h'.Ns1 d (fun y => if y = "value" then some v else none)
section
variable {prog : Program} {w : World} {A : Around} {E : Value → Shared → Prop} {R : Result → Shared → Prop} {s : Shared} {K : Frag} {mg : Str → Option Value} {C fI : Addr} {x0 q0 : Str} {B newId initId : String} {bmB : List Value}
theorem init_end (SF : StoreFacts B bmB "object.__setattr__" "object") (T : Txt K mg x0 q0 C fI newId bmB) {x t0 : Addr} {v : Value} (X : K.In s.heap) (hlim : s.heap.NoLimit) (hx : s.heap.get? x = some (excO C t0)) (hroom : A.depth < recursionLimit)
    (hq : ∀ h' tk dx, InitEnd s.heap h' x C dx t0 v → R (.ok (.ret .none)) { s with heap := h', toks := tk }) :
    codeAny (model prog w) A (.call (.ref fI) ⟨[.ref x, v], []⟩) R s := by
  obtain ⟨p1, p2, q1, q2, q3, q4, fd, F⟩ := T.fn
  obtain ⟨oc, od, dV, kV, doc, pm, an, cdv, ct, osl, rfl, ho, hcd, hdv, _⟩ := F.ex
  have e0 : dV = .none := by
    rcases hdv with ⟨_, e⟩ | ⟨e, _⟩
    · exact e
    · exact absurd rfl e
  subst e0
  refine Att.call_fn (binds := [("self", .ref x), ("value", v)]) X hlim ho hcd hroom (BindsTo.of_eq (by first | rfl | with_unfolding_all rfl)) (by first | rfl | decide | with_unfolding_all rfl) (fun s₁ IC => ?_) rfl rfl rfl
  obtain ⟨h₁, tk₁, rfl⟩ := IC.toInCall.same
  have k : ∀ b o, s.heap.get? b = some o → h₁.get? b = some o := IC.toInCall.keep
  have hn := IC.toInCall.ns
  have X₁ : K.In h₁ := X.keeps k
  have hx₁ := k _ _ hx
  show wpAny _ _ (execs _ _) _ _ _
  refine wpAny_execs_cons (plainObj_wpAny_Assign_Attribute ?_)
  refine ldC (v := v) hn (by first | rfl | with_unfolding_all rfl | kernel_rfl) (ldC (v := .ref x) hn (by first | rfl | with_unfolding_all rfl | kernel_rfl) ?_)
  refine set_plain X₁ (ox := excO C t0) (od := none) ⟨hx₁, rfl, rfl, trivial⟩ T.sa ?_
  refine PySem.NX.osaB SF X₁ hx₁ T.ov T.tk T.hdC (fun h₃ tk₃ dx k₃ dn dne hx₃ hn₃ => ?_)
  show wpAny _ _ (execs _ _) _ _ _
  have z : s.heap.objs.size < h₁.objs.size := hn.lt
  exact wpAny_execs_nil (hq h₃ tk₃ dx ⟨fun b o hb e => k₃ b o hb (k b o e), hx₃, Nat.le_of_lt (Nat.lt_of_lt_of_le z dn), dne, hn₃⟩)
theorem made (FB : ExcBaseFacts B newId initId bmB) (SF : StoreFacts B bmB "object.__setattr__" "object") (T : Txt K mg x0 q0 C fI newId bmB) {v : Value} (X : K.In s.heap) (hlim : s.heap.NoLimit) (hroom : A.depth + 1 < recursionLimit)
    (hq : ∀ h' tk e d, OwnMade s.heap h' e C d v → R (.ok (.ret (.ref e))) { s with heap := h', toks := tk }) :
    codeAny (model prog w) A (.call (.ref C) ⟨[v], []⟩) R s := by
  obtain ⟨nm, N, q, bs, bm, hdct, sn, sub, ab, col, dd, k0, k1, k2, k3, k5, hC, hbm⟩ := excInit_of X T.mkr
  obtain ⟨hp, g, dr, tk, os⟩ := s
  have k : ∀ b o, hp.get? b = some o → ((hp.push (kdv_tup [v])).push (excO C hp.objs.size)).get? b = some o := fun b o e => Heap.get?_push_of_some _ (Heap.get?_push_of_some _ e)
  have hget : ((hp.push (kdv_tup [v])).push (excO C hp.objs.size)).get? (hp.objs.size + 1) = some (excO C hp.objs.size) := by heap_get
  refine call_own FB hbm hC (looks_findIn X T.iC) (fun self => bind_fn X self T.tC) (one_size v) ?_
  refine init_end (s := ⟨(hp.push (kdv_tup [v])).push (excO C hp.objs.size), g, dr, tk, os⟩) SF T (X.keeps k) (hlim.keeps k) hget ?_ fun h' tk' dx ⟨k', hx, dn, dne, hns⟩ => ?_
  · show A.depth + 1 < recursionLimit
    exact hroom
  · have old : ∀ b o, hp.get? b = some o → h'.get? b = some o := fun b o e => k' b o (Nat.ne_of_lt (Nat.lt_succ_of_lt (Heap.lt_size e))) (k b o e)
    have z : hp.objs.size + 1 + 1 ≤ dx := by
      first
        | (simpa only [Heap.size_push] using dn)
        | exact dn
        | (have q := dn; rw [Heap.size_push, Heap.size_push] at q; exact q)
    exact ⟨rfl, hq h' tk' (hp.objs.size + 1) dx ⟨old, Nat.le_succ _, ⟨_, _, hx, rfl, rfl, rfl, rfl⟩, Nat.le_trans (Nat.le_trans (Nat.le_succ _) (Nat.le_succ _)) z, dne, hns⟩⟩
end
end Xf_value
end PySem
namespace L2
open PySem PySem.Spec PyProof.Rows
section
variable {X : Cx} {C fI : Addr} {x0 q0 : Str} {B newId initId : String} {bmB : List Value}
end
end L2

namespace My
open PySem PySem.Spec PyProof.Rows L2
/-! ### classes of errors: what a head's own Bool tells -/
structure ClsE (K : PySem.W.Frag) (D : Addr) : Prop where
  c1 : (PySem.W.clsIn K D).isSome = true
  c2 : PySem.W.findIn K (.ref D) "__getattribute__" = some (some (.builtin "BaseException.__getattribute__"))
  c3 : PySem.W.findIn K (.ref D) "__getattr__" = some none
  c4 : PySem.W.subIn K (.ref D) (.type "BaseException") = some true
  c5 : PySem.W.findIn K (.ref D) "__class__" = some (some (.builtin "object.__class__"))
  c6 : PySem.W.specialIn K (.builtin "object.__class__") "__get__" = some (some (.builtin "getset_descriptor.__get__"))
  c7 : PySem.W.takesIn K (.builtin "object.__class__") = some true
  c8 : PySem.W.mroIn K D (.type "object") = some true
theorem clsB_ok {K : PySem.W.Frag} {x : Str} (c : clsB K x = true) : ClsE K (He.ga K x) := by
  unfold clsB at c
  simp only [Bool.and_eq_true, decide_eq_true_eq] at c
  obtain ⟨c1, c2, c3, c4, c5, c6, c7, c8⟩ := c
  exact ⟨c1, He.eqO_ok c2, He.eqO_ok c3, c4, He.eqO_ok c5, c6, c7, c8⟩
/-! ### isinstance of the error that a suite holds -/
section
variable {X : Cx} {a : Addr} {oe : Obj} {cls : Value} {d : Option Addr} {pn : List (Addr × Obj)}
theorem kit_exc {K : PySem.W.Frag} {D x : Addr} {ox : Obj} {od : Option Obj} (c : ClsE K D) : PySem.W.KitX K (.ref x) (.ref D) (fun h => PySem.W.InstAt h x ox D od) :=
  PySem.W.kitx_exc c.c1 c.c2 c.c3 c.c4 c.c5 c.c6 c.c7 c.c8
end
/-! ### a list display that lies beyond the system's modules; the call of a def that a parameter holds -/
section
variable {X : Cx} {es : List Expr} {t : TA} {pos : Pos}
def tLst' (t : TA) : TE := fun σ H Q => t σ H fun xs H1 => xs.length ≤ sizeLine ∧ ∀ p, H1 p = none → p ≠ sysModules → Q (.ref p) (upd H1 p (.lst xs))
theorem pe_lst' (h : PA X es t) : PE X (.List es pos) (tLst' t) := by
  refine ⟨fun pins s σ H Q I hq => ?_⟩
  refine wpAny_List_spliced (thn (h.run pos pins s σ H _ I hq) fun us s1 got => ?_)
  obtain ⟨xs, H1, J, rel, size, fin⟩ := got
  have lies : H1 s1.heap.objs.size = none := J.hok.fresh (Nat.le_refl _)
  have new : ObjOk X.prog X.w (upd H1 s1.heap.objs.size (.lst xs)) (s1.heap.push { cls := .type "list", data := .seq us.toArray }) s1.heap.objs.size (.lst xs) :=
    ⟨size, us, 0, rel, Heap.get?_push_size _ rfl⟩
  refine ⟨by rw [← rel.length]; exact size, ?_⟩
  exact ⟨.ref s1.heap.objs.size, upd H1 s1.heap.objs.size (.lst xs), J.laid (t' := s1.toks) (fun b u e => Heap.get?_push_of_some _ e) (Nat.le_refl _) new, rfl, fin _ lies (Nat.ne_of_gt J.big)⟩
end
section
variable {X : Cx} {CX : CXT} {k i : Nat} {f : Addr} {fd : FuncData} {ps : List Str} {sp : Sp} {E : L2.St → XK} {x : Str} {p pos : Pos} {e : Expr} {es : List Expr} {t : TA}
end
/-- a call of a def that may raise, where what it raises leaves -/
theorem calX {X : Cx} {k : Nat} {ps : List Str} {sp : Sp} {E : XK} {x : Str} {p pos : Pos} {e : Expr} {es : List Expr} {t : TA} (O : Ok X.prog X.w X.K X.mg X.base (L2.CX X.prog X.w) k x ps sp) (hr : Room k X.A) (tk : Takes X (fun c d _ H => E c d H)) (ha : PA X (e :: es) t) (hg : Gl X x := by rfl)
    (hdb : (x == ("__debug__" : Str)) = false := by decide)
    (he : starEach (e :: es) X.env = (false, eval e X.env) :: starEach es X.env := by rfl) (hpl : (backTo pos (starEach es X.env)).any (·.1) = false := by rfl) :
    PE X (.Call (.Name x p) (e :: es) [] pos) (tCall sp [] E t) := by
  obtain ⟨fd, F, b, kp, m⟩ := O
  exact pe_call F hr hg m kp b .nil (passes_call tk fun _ _ _ _ h => h) ha hdb he hpl
end My

namespace My
open PySem PySem.Spec PyProof.Rows L2
theorem tyOf_same {K : PySem.W.Frag} {H H' : Hp} (e : Same H H') {v : V} {t : Value} (h : TyOf K H v t) : TyOf K H' v t := by
  cases h with
  | non => exact .non
  | bl x => exact .bl x
  | int i => exact .int i
  | str x => exact .str x
  | flt x => exact .flt x
  | lst z => exact .lst (e _ _ z)
  | frz z => exact .frz (e _ _ z)
  | tup z => exact .tup (e _ _ z)
  | dK z => exact .dK (e _ _ z)
  | dT z => exact .dT (e _ _ z)
  | ins z a b c d f => exact .ins (e _ _ z) a b c d f
theorem tyX_same {K : PySem.W.Frag} {H H' : Hp} (e : Same H H') {v : V} {t : Value} (h : TyX K H v t) : TyX K H' v t := by
  cases h with
  | base b => exact .base (tyOf_same e b)
  | byt b => exact .byt b
  | set z => exact .set (e _ _ z)
  | kList a b => exact .kList a b
  | kTuple a b => exact .kTuple a b
  | kDict a b => exact .kDict a b
  | fTuple z => exact .fTuple (e _ _ z)
  | fDict z => exact .fDict (e _ _ z)
theorem Kd.same {K : PySem.W.Frag} {H H' : Hp} (e : Same H H') {v : V} (h : Kd K H v) : Kd K H' v := by
  cases h with
  | non => exact .non
  | bl b => exact .bl b
  | int i => exact .int i
  | str x => exact .str x
  | ref h ht => exact .ref (tyX_same e h) ht
/-! ### values of any kind beside the stream -/
/-- the heap without the stream's two lists that draws change -/
def hid (S A : Addr) (H : Hp) : Hp := fun b => if b = S ∨ b = A then none else H b
theorem hid_ne {S A b : Addr} {H : Hp} (h1 : b ≠ S) (h2 : b ≠ A) : hid S A H b = H b := if_neg fun z => z.elim h1 h2
theorem hid_same (S A : Addr) (H : Hp) : Same (hid S A H) H := fun b o e => by
  unfold hid at e
  by_cases h : b = S ∨ b = A
  · rw [if_pos h] at e
    cases e
  · rw [if_neg h] at e
    exact e
theorem SameX.hid {S A : Addr} {H H' : Hp} (e : SameX S A H H') : Same (hid S A H) (hid S A H') := fun b o q => by
  unfold My.hid at q ⊢
  by_cases h : b = S ∨ b = A
  · rw [if_pos h] at q
    cases q
  · rw [if_neg h] at q ⊢
    exact e b o q (fun z => h (.inl z)) (fun z => h (.inr z))
theorem hid_get {S A B : Addr} {t : Nat} {H : Hp} (st : Strm H S A B t) {p : Addr} (np : H p = none) (o : HO) : hid S A (upd H p o) p = some o := by
  obtain ⟨as, ha, _⟩ := st.a
  rw [hid_ne (Ne.symm (ne_of_none st.s np)) (Ne.symm (ne_of_none ha np)), upd_same]
/-- a value of any kind, apart from the stream -/
structure Odd (K : PySem.W.Frag) (S A : Addr) (H : Hp) (v : V) : Prop where
  dq : ∃ d, Dq true K (hid S A H) v d ∧ Fit 100 10 d
  kd : Kd K (hid S A H) v
theorem Odd.x {K : PySem.W.Frag} {S A : Addr} {H H' : Hp} {v : V} (o : Odd K S A H v) (e : SameX S A H H') : Odd K S A H' v := by
  obtain ⟨⟨d, h1, h2⟩, h3⟩ := o
  exact ⟨⟨d, Dq.same e.hid h1, h2⟩, h3.same e.hid⟩
theorem Odd.same {K : PySem.W.Frag} {S A : Addr} {H H' : Hp} {v : V} (o : Odd K S A H v) (e : Same H H') : Odd K S A H' v := o.x (Same.x e)
theorem Odd.kind {K : PySem.W.Frag} {S A : Addr} {H : Hp} {v : V} (o : Odd K S A H v) : Kd K H v := o.kd.same (hid_same S A H)
theorem Odd.data {K : PySem.W.Frag} {S A : Addr} {H : Hp} {v : V} (o : Odd K S A H v) : ∃ d, Dq true K H v d ∧ Fit 100 10 d := by
  obtain ⟨d, h1, h2⟩ := o.dq
  exact ⟨d, Dq.same (hid_same S A H) h1, h2⟩
theorem odd_non {K : PySem.W.Frag} {S A : Addr} {H : Hp} : Odd K S A H .non := ⟨⟨_, .non, fit_none _ _⟩, .non⟩
theorem odd_bl {K : PySem.W.Frag} {S A : Addr} {H : Hp} (b : Bool) : Odd K S A H (.bl b) := ⟨⟨_, .bl b, fit_bool _ _ b⟩, .bl b⟩
theorem odd_int {K : PySem.W.Frag} {S A : Addr} {H : Hp} {i : Int} (h : i.natAbs < 10 ^ 30) : Odd K S A H (.int i) := ⟨⟨_, .int i, fit_int _ _ h⟩, .int i⟩
theorem odd_str {K : PySem.W.Frag} {S A : Addr} {H : Hp} {x : Str} (h : Fit 100 10 (.str x)) : Odd K S A H (.str x) := ⟨⟨_, .str x, h⟩, .str x⟩
/-- a new tuple of data -/
theorem odd_tup {K : PySem.W.Frag} {S A B : Addr} {t : Nat} {H : Hp} (st : Strm H S A B t) {p : Addr} (np : H p = none) {xs : List V} {ds : List PyData} (h : DqAll true K (hid S A H) xs ds) (f : Fit 100 10 (.tuple ds)) : Odd K S A (upd H p (.tup xs)) (.ref p) := by
  have e := (Same.x (S := S) (A := A) (same_upd (o := .tup xs) np)).hid
  have g := hid_get st np (.tup xs)
  exact ⟨⟨_, .tup (.inl (.inl g)) (DqAll.same e h), f⟩, .ref (.base (.tup g)) (.inr (.inl rfl))⟩
theorem odd_lst {K : PySem.W.Frag} {S A B : Addr} {t : Nat} {H : Hp} (st : Strm H S A B t) {p : Addr} (np : H p = none) (ns : p ≠ sysModules) {xs : List V} {ds : List PyData} (h : DqAll true K (hid S A H) xs ds) (f : Fit 100 10 (.list ds)) : Odd K S A (upd H p (.lst xs)) (.ref p) := by
  have e := (Same.x (S := S) (A := A) (same_upd (o := .lst xs) np)).hid
  have g := hid_get st np (.lst xs)
  exact ⟨⟨_, .lst (.inl (.inl g)) (fun _ => ns) (DqAll.same e h), f⟩, .ref (.base (.lst g)) (.inl rfl)⟩
theorem odd_dic {K : PySem.W.Frag} {S A B : Addr} {t : Nat} {H : Hp} (st : Strm H S A B t) {p : Addr} (np : H p = none) (kvs : List (Str × Int))
    (f : Fit 100 10 (.dict (kvs.map fun p => (PyData.str p.1, PyData.int p.2)))) : Odd K S A (upd H p (.dK (kvs.map fun p => ((Sum.inr p.1 : Key), V.int p.2)))) (.ref p) := by
  have g := hid_get st np (.dK (kvs.map fun p => ((Sum.inr p.1 : Key), V.int p.2)))
  exact ⟨⟨_, .dic rfl g, f⟩, .ref (.base (.dK g)) (.inr (.inr rfl))⟩
/-! ### promises of the defs that raise NoPlace -/
end My
namespace My
open PySem PySem.Spec PyProof.Rows L2
/-! ### reading a row with so many values on the stack -/
end My
namespace My
open PySem PySem.Spec PyProof.Rows L2
/-! ### inside a comprehension: the rules whose relation names no context -/
theorem ix_tupK {X : Cx} {K : PySem.W.Frag} (e : X.K = K) : IxR X (rIxT K) := by
  subst e
  exact ix_tup
end My

/-! ### t[::-1], t == (), list(t) beyond the system's modules -/
namespace PySem
namespace HTR
open PySem.W PySem.Calls PyProof.Rows HT L2
section
variable {prog : Program} {w : World} {A : Around} {E : Value → Shared → Prop} {s : Shared}
end
end HTR
end PySem
/-! ### enumerate(t), t a tuple -/
namespace PySem
open Sem (wp)
namespace HTR
theorem meets_enumerate_new1 {v : Value} {o : Obj} {H : Heap → Prop} (B : Begins v o H) :
    Meets (Builtin.«enumerate.__new__» ⟨[.type "enumerate", v], []⟩) (fun _ R s => H s.heap ∧
      R (.ok (.ret (.ref (s.heap.push o).objs.size))) { s with heap := (s.heap.push o).push { cls := .type "enumerate", data := .fields #[.none, .bool false, .ref s.heap.objs.size, rawInt 0, .none, .none] } }) :=
  .of_wp fun prog w A R s h => by
    obtain ⟨hp, g, d, tk, os⟩ := s; obtain ⟨h1, h⟩ := h
    have hsub := sub_enumerate
    have q1 : ∀ {A' : Around} {E : Value → Shared → Prop} {Q : Value → Shared → Prop}, Q (.ref hp.objs.size) ⟨hp.push o, g, d, tk, os⟩ → wpAny (model prog w) A' (pyIter v) Q E ⟨hp, g, d, tk, os⟩ :=
      fun q => B.iter prog w _ _ ⟨hp, g, d, tk, os⟩ _ h1 q
    wp_walk using q1
    refine wpAny_stack_any fun st => wpAny_pure ?_
    split
    · rename_i c _ _ _ _ _
      cases (c == Value.type "enumerate")
      · wp_walk using q1
        exact ⟨_, rfl, h⟩
      · wp_walk using q1
        exact ⟨_, rfl, h⟩
    · wp_walk using q1
      exact ⟨_, rfl, h⟩
theorem enum1 {prog : Program} {w : World} {A : Around} {E : Value → Shared → Prop} {s : Shared} {v : Value} {o : Obj} {H : Heap → Prop} {Q : Value → Shared → Prop} (B : Begins v o H) (h1 : H s.heap)
    (h : ∀ h', IsEnum h' (s.heap.objs.size + 1) s.heap.objs.size 0 .none → h'.get? s.heap.objs.size = some o → h'.objs.size = s.heap.objs.size + 2 →
      (∀ b o, s.heap.get? b = some o → h'.get? b = some o) → Q (.ref (s.heap.objs.size + 1)) { s with heap := h' }) :
    wpAny (model prog w) A (call (.type "enumerate") [v]) Q E s := by
  refine callType_new F.called_enumerate (by decide) (F.typeCall_enumerate_1 _) (F.newCall_enumerate_1 _) (fun obj => F.args_object_init_2 obj _) F.entry_enumerate_new
    (meets_enumerate_new1 B) ⟨h1, ?_⟩
  have hz : (s.heap.push o).objs.size = s.heap.objs.size + 1 := Heap.size_push ..
  show _ ∧ _
  rw [hz]
  have he : IsEnum ((s.heap.push o).push { cls := .type "enumerate", data := .fields #[.none, .bool false, .ref s.heap.objs.size, rawInt 0, .none, .none] }) (s.heap.objs.size + 1) s.heap.objs.size 0 .none := by
    have := Heap.get?_push_size (s.heap.push o) (o := { cls := .type "enumerate", data := .fields #[.none, .bool false, .ref s.heap.objs.size, rawInt 0, .none, .none] }) rfl
    rw [hz] at this; exact this
  refine ⟨⟨_, he, rfl⟩, h _ he (Heap.get?_push_of_some _ (Heap.get?_push_size _ B.free)) (by rw [Heap.size_push, hz]) fun b o x => Heap.get?_push_of_some _ (Heap.get?_push_of_some _ x)⟩
theorem wpAny_pyNext_enum_endT {prog : Program} {w : World} {A : Around} {E : Value → Shared → Prop} {s : Shared} {e it l : Addr} {i : Nat} {items : Array Value} {c : Int} {old : Value} {Q : Option Value → Shared → Prop} (hh : A.handled = none)
    (he : IsEnum s.heap e it c old) (hit : s.heap.IsTupleIter it l i) (hl : s.heap.IsTuple l items) (hx : items[i]? = none)
    (hQ : ∀ h', Heap.ExtBut it s.heap h' → Q none { s with heap := h' }) : wpAny (model prog w) A (pyNext (.ref e)) Q E s := by
  have hT : s.TypeIs (.ref e) "enumerate" := ⟨_, he, rfl⟩
  unfold pyNext
  refine wpAny_bind (wpAny_attempt (wpAny_callSpecial?_slot (name := Str.ofString "__next__") hT F.slot_enumerate_next
    (wpAny_call_entry F.slot_enumerate_next hT F.entry_enumerate_next ?_ (F.args_enumerate_next_1 _))))
  show wpAny _ _ (field (.ref e) 2 >>= _) _ _ _
  refine wpAny_bind (wpAny_field he rfl (x := .ref it) rfl ?_)
  refine wpAny_bind (wpAny_nextOf_tuple_end hh hit hl hx fun h' x he' hx' => ?_)
  obtain ⟨o, ho, hc⟩ := hx'
  refine wpAny_bind (wpAny_isInstance (T := "StopIteration") (b := true) ⟨o, ho, hc⟩ isSubtype_stop ?_)
  exact wpAny_pure (hQ _ he')
end HTR
end PySem
namespace L2
open PySem PySem.Spec PyProof.Rows
def Itet (K : PySem.W.Frag) (a : Addr) : It :=
  ⟨fun i H => ∃ (xs : List V) (x : V), SqT K H a xs ∧ xs[i]? = some x, fun i H v H' => ∃ T x, v = .ref T ∧ H T = none ∧ H' = upd H T (.tup [.int (i : Nat), x]) ∧ ∀ xs, SqT K H a xs → xs[i]? = some x, fun i H => ∃ xs : List V, SqT K H a xs ∧ xs.length ≤ i⟩
theorem turn_enumT {P : Program} {w : World} {K : PySem.W.Frag} {elts : List Expr} {kk : Nat} {tpos : Pos} (a e it : Addr) :
    Turn P w K (.Tuple elts kk tpos) (Itet K a) [e, it] e (fun i h => (∃ old, IsEnum h e it ((i : Nat) : Int) old) ∧ h.IsTupleIter it a i ∧ e ≠ it) where
  mem := by simp
  obj := fun i h st b hb => by
    obtain ⟨⟨old, he⟩, ⟨o, ho, hc, hd⟩, _⟩ := st
    have e' : b = e ∨ b = it := by simpa using hb
    rcases e' with z | z
    · rw [z]; exact ⟨_, he, fun v q => nomatch q⟩
    · rw [z]; exact ⟨o, ho, fun v q => by rw [hd] at q; cases q⟩
  keep := fun i h h' st k => let ⟨⟨old, he⟩, hi, hne⟩ := st; ⟨⟨old, k e (by simp) _ he⟩, hi.at fun o q => k it (by simp) o q, hne⟩
  item := by
    intro X hP hw hK hc i pins s σ H E I hf st hg
    subst hP hw hK
    obtain ⟨⟨old, he⟩, hit, hne⟩ := st
    obtain ⟨xs, x, hq, hx⟩ := hg
    obtain ⟨its, rv, p, hz⟩ := I.tuple hq
    obtain ⟨u, hu, ru⟩ := rv.get hx
    have hel : e < s.heap.objs.size := Heap.lt_size he
    have hil : it < s.heap.objs.size := by obtain ⟨_, q, _⟩ := hit; exact Heap.lt_size q
    have nai : a ≠ it := fun z => by
      obtain ⟨o1, ho1, hc1, _⟩ := p
      obtain ⟨o2, ho2, hc2, _⟩ := hit
      rw [z] at ho1
      have q := Option.some.inj (ho2.symm.trans ho1)
      rw [← q, hc2] at hc1
      injection hc1 with t
      exact absurd t (by decide)
    have nea : e ≠ a := fun z => by
      obtain ⟨o1, ho1, hc1, _⟩ := p
      rw [← z] at ho1
      have q := Option.some.inj (Eq.trans (Eq.symm he) ho1)
      rw [← q] at hc1
      injection hc1 with t
      exact absurd t (by decide)
    have hlt : i < its.toArray.size := by
      rw [List.size_toArray]
      exact (List.getElem?_eq_some_iff.mp hu).1
    refine wpAny_pyNext_enum_itemD (Draws.tuple (A := X.A.in1) (show X.A.in1.handled = none from I.ok.hd hc) it a nai its.toArray) he ⟨hit, p⟩ hlt hne (by simp [hne, nea]) fun x' h' tk hx' ho st' hT hsz hk => ?_
    have ex : x' = u := by
      have q : its[i]? = some x' := by simpa using hx'
      rw [hu] at q
      exact (Option.some.inj q).symm
    subst ex
    refine ⟨_, rfl, wpAny_letOwnedTupleGo_enum (s := { s with heap := h', toks := tk + 1 }) ho fun h'' he' sb => ?_⟩
    have hT2 : h''.get? s.heap.objs.size = some { cls := .type "tuple", data := .seq #[.int i tk, x'] } := (sb.2 _ (Nat.ne_of_gt hel)).trans hT
    have new : ObjOk X.prog X.w (upd H s.heap.objs.size (.tup [.int (i : Nat), x])) h'' s.heap.objs.size (.tup [.int (i : Nat), x]) :=
      ⟨by show 2 ≤ sizeLine; decide, [.int i tk, x'], .cons ⟨_, rfl⟩ (.cons ru .nil), ⟨_, hT2, rfl, _, rfl⟩⟩
    have I1 : Inv X pins σ (upd H s.heap.objs.size (.tup [.int (i : Nat), x])) { s with heap := h'', toks := tk + 1 } :=
      I.turnedNew (ch := [e, it]) (fun b ob hb q => (sb.2 b (fun z => hb (by simp [z]))).trans (hk b ob (fun z => hb (by simp [z])) (fun z => hb (by simp [z])) q)) hf (Nat.le_refl _) new
    refine ⟨.ref s.heap.objs.size, _, I1, rfl, ⟨_, x, rfl, I.hok.fresh (Nat.le_refl _), rfl, fun ys hy => by rw [I.tuple_inj hy hq]; exact hx⟩, ⟨⟨x', ?_⟩, st'.1.at fun o q => (sb.2 it (Ne.symm hne)).trans q, hne⟩, fun b hb => ?_⟩
    · have e1 : ((i + 1 : Nat) : Int) = (i : Int) + 1 := by omega
      rw [e1]; exact he'
    · have hb' : b < s.heap.objs.size := by
        have e' : b = e ∨ b = it := by simpa using hb
        rcases e' with z | z
        · rw [z]; exact hel
        · rw [z]; exact hil
      rw [upd_ne (Nat.ne_of_lt hb')]
      exact (hf b hb).1
  done := by
    intro X hP hw hK hc i pins s σ H E I hf st hg
    subst hP hw hK
    obtain ⟨⟨old, he⟩, hit, hne⟩ := st
    obtain ⟨xs, hq, hx⟩ := hg
    obtain ⟨its, rv, p, hz⟩ := I.tuple hq
    obtain ⟨f0, f1, f2, f3, f4, f5⟩ := hf it (by simp)
    have hl := rv.length
    exact HTR.wpAny_pyNext_enum_endT (I.ok.hd hc) he hit p (by simp; omega) fun h' eb => ⟨rfl, I.turned (t' := s.toks) (fun b o hb q => eb b o hb q) f0 f1 f3 f4 f5⟩
  self := fun A i s Q E st h => let ⟨⟨_, he⟩, _⟩ := st; wpAny_pyIter_enum he h
end L2

namespace L2
open PySem PySem.Spec PyProof.Rows
def iEnumT (K : PySem.W.Frag) (ta : TA) : TI := fun σ H R => ta σ H fun vs H1 => ∃ a xs, vs = [.ref a] ∧ SqT K H1 a xs ∧ R (Itet K a) H1
theorem pi_enumT {X : Cx} {e : Expr} {ta : TA} {p pos tpos : Pos} {elts : List Expr} {kk : Nat} (hg : Gl X "enumerate") (hm : X.mg "enumerate" = none) (ha : PA X [e] ta) (hs : starEach [e] X.env = [(false, eval e X.env)] := by rfl) :
    PI X (.Tuple elts kk tpos) (.Call (.Name "enumerate" p) [e] [] pos) (iEnumT X.K ta) := by
  refine ⟨fun pins s σ H R I h => ?_⟩
  refine Call_ (ld_blt I hg hm boot_enumerate (PyProof.Rows.callWith_type1 (thn (ha.run pos pins s σ H _ I h) fun us s1 ⟨vs, H1, I1, r1, q1⟩ => ?_) hs rfl))
  obtain ⟨a, xs, ex, hq, q⟩ := q1
  subst ex
  cases r1 with
  | cons r rr =>
    cases rr
    cases r
    obtain ⟨its, rv, p', hz⟩ := I1.tuple hq
    refine HTR.enum1 (begins_tuple a its.toArray) p' fun h' he hit hsz hk => wpAny_pyIter_enum he ?_
    have I2 : Inv X pins σ H1 { s1 with heap := h' } := I1.kept (t' := s1.toks) hk
    refine ⟨s1.heap.objs.size + 1, [s1.heap.objs.size + 1, s1.heap.objs.size], _, _, H1, rfl, I2, turn_enumT a (s1.heap.objs.size + 1) s1.heap.objs.size, ⟨⟨.none, he⟩, ⟨_, hit, rfl, rfl⟩, Nat.succ_ne_self _⟩, fun b hb => ?_, q⟩
    have e' : b = s1.heap.objs.size + 1 ∨ b = s1.heap.objs.size := by simpa using hb
    have hle : s1.heap.objs.size ≤ b := by
      rcases e' with z | z
      · rw [z]; exact Nat.le_add_right _ _
      · rw [z]; exact Nat.le_refl _
    exact I1.fpOk hle (I1.hok.fresh hle)
theorem for_enumT {K : PySem.W.Frag} {a : Addr} {xs : List V} {g : TG} {tb : TS} {D : Ends} {σ : L2.St} {H : Hp} (Pv : Nat → L2.St → Hp → Prop) (h0 : Pv 0 σ H) (hl : ∀ i σ H, i ≤ xs.length → Pv i σ H → SqT K H a xs)
    (hs : ∀ i x σ H T, xs[i]? = some x → Pv i σ H → H T = none → g (.ref T) σ (upd H T (.tup [.int (i : Nat), x])) fun σ2 H2 => tb { D with nx := Pv (i + 1), ct := Pv (i + 1), bk := D.nx } σ2 H2) (hd : ∀ σ H, Pv xs.length σ H → D.nx σ H) :
    ∃ W : Nat → Nat → L2.St → Hp → Prop, (∃ m, W 0 m σ H) ∧ ∀ i m σ H, W i m σ H →
      ((Itet K a).stop i H ∧ D.nx σ H) ∨ ((Itet K a).go i H ∧ ∃ N : L2.St → Hp → Prop, (∀ σ' H', N σ' H' → ∃ m', m' < m ∧ W (i + 1) m' σ' H') ∧ ∀ x H', (Itet K a).yld i H x H' → g x σ H' fun σ2 H2 => tb { D with nx := N, ct := N, bk := D.nx } σ2 H2) := by
  refine ⟨fun i m σ H => m = xs.length - i ∧ i ≤ xs.length ∧ Pv i σ H, ⟨xs.length, by simp, Nat.zero_le _, h0⟩, ?_⟩
  rintro i m σ H ⟨rfl, hi, p⟩
  have q := hl i σ H hi p
  by_cases hlt : i < xs.length
  · refine .inr ⟨⟨xs, xs[i], q, by simp [hlt]⟩, Pv (i + 1), fun σ' H' p' => ⟨xs.length - (i + 1), by omega, rfl, hlt, p'⟩, fun x H' y => ?_⟩
    obtain ⟨T, x, rfl, hT, rfl, y⟩ := y
    exact hs i x σ _ T (y xs q) p hT
  · have e : i = xs.length := by omega
    subst e
    exact .inl ⟨⟨xs, q, Nat.le_refl _⟩, hd σ H p⟩
/-! ### t == (), t[::-1], list(t) -/
section
variable {X : Cx}
def rEqE (K : PySem.W.Frag) : R2 := fun x y H Q => ∃ a b xs, x = .ref a ∧ y = .ref b ∧ SqT K H a xs ∧ SqT K H b [] ∧ Q (.bl (decide (xs.length = 0))) H
theorem op_eqE (hu : X.A.units < cLine) : OpR X (compareOp .Eq) (rEqE X.K) := by
  intro pins s σ H x y v u Q I rx ry h
  obtain ⟨a, b, xs, rfl, rfl, ha, hb, q⟩ := h
  cases rx
  cases ry
  obtain ⟨its, r1, p1, _⟩ := I.tuple ha
  obtain ⟨its2, r2, p2, _⟩ := I.tuple hb
  cases r2
  refine SeqAt.eq_tupleAt (e := fun _ => true) p1 p2 hu (fun j h1 h2 => absurd h2 (by simp)) ?_
  refine ⟨.bl (decide (xs.length = 0)), H, I, ?_, q⟩
  have e : its.toArray.size = xs.length := by rw [List.size_toArray]; exact r1.length.symm
  show Value.bool _ = Value.bool _
  rw [e]
  by_cases h : xs.length = 0
  · simp [h]
  · simp [h]
theorem call_list_of' : CallR X (.type "list") (fun xs H Q => ∃ p ys, xs = [.ref p] ∧ (SqL X.K H p ys ∨ SqT X.K H p ys) ∧ ∀ l, H l = none → l ≠ sysModules → Q (.ref l) (upd H l (.lst ys))) := by
  intro pins s σ H xs us Q I r h
  obtain ⟨p, ys, rfl, hq, q⟩ := h
  obtain ⟨u, rfl, rx⟩ := vals1 r
  cases rx
  have fin : ∀ (its : List Value), Vals ys its → ys.length ≤ sizeLine → ∀ (h' : Heap) (c' : Nat), (∀ b o', s.heap.get? b = some o' → h'.get? b = some o') →
      h'.get? s.heap.objs.size = some { cls := .type "list", dict := none, data := .seq its.toArray c', slots := #[] } → EP X pins σ Q (.ref s.heap.objs.size) { s with heap := h' } := fun its r' hz h' c' kp e =>
    ⟨.ref s.heap.objs.size, _, I.laid (t' := s.toks) kp (Nat.le_refl _) (show ObjOk X.prog X.w _ h' _ (.lst ys) from ⟨hz, its, c', r', e⟩), rfl, q _ (I.hok.fresh (Nat.le_refl _)) (Nat.ne_of_gt I.big)⟩
  rcases hq with hq | hq
  · obtain ⟨its, r', pl, hz⟩ := I.list hq
    have hlen := r'.length
    obtain ⟨o, ho, hc, n, hd⟩ := pl.isList
    exact call_list_seq p (.inl rfl) ho hc hd (fun h' c' kp e => fin its r' hz h' c' kp e) (by simp only [List.size_toArray] <;> omega)
  · obtain ⟨its, r', pl, hz⟩ := I.tuple hq
    have hlen := r'.length
    obtain ⟨o, ho, hc, n, hd⟩ := pl
    exact call_list_seq p (.inr rfl) ho hc hd (fun h' c' kp e => fin its r' hz h' c' kp e) (by simp only [List.size_toArray] <;> omega)
end
end L2

namespace My
open PySem PySem.Spec PyProof.Rows L2
/-! ### values of any kind: a tuple of odd values, or no tuple -/
def NotT (K : PySem.W.Frag) (G : Hp) (v : V) : Prop := ∃ t, TyX K G v t ∧ PySem.W.kitOne K t (.type "tuple") = some false
theorem NotT.same {K : PySem.W.Frag} {G G' : Hp} {v : V} (h : NotT K G v) (e : Same G G') : NotT K G' v := by
  obtain ⟨t, h1, h2⟩ := h
  exact ⟨t, tyX_same e h1, h2⟩
def Vl (K : PySem.W.Frag) (S A : Addr) (n : Nat) (H : Hp) (v : V) : Prop :=
  (∃ p xs, v = .ref p ∧ hid S A H p = some (.tup xs) ∧ xs.length ≤ n ∧ ∀ x ∈ xs, Odd K S A H x) ∨ ((∃ d, Dq true K (hid S A H) v d ∧ Fit 50000 20 d) ∧ NotT K (hid S A H) v)
section
variable {K : PySem.W.Frag} {S A B : Addr} {n m t : Nat} {H H' : Hp} {v : V}
theorem Vl.x (h : Vl K S A n H v) (e : SameX S A H H') : Vl K S A n H' v := by
  rcases h with ⟨p, xs, h1, h2, h3, h4⟩ | ⟨⟨d, h1, h2⟩, h3⟩
  · exact .inl ⟨p, xs, h1, e.hid _ _ h2, h3, fun x hx => (h4 x hx).x e⟩
  · exact .inr ⟨⟨d, Dq.same e.hid h1, h2⟩, h3.same e.hid⟩
theorem Vl.same (h : Vl K S A n H v) (e : Same H H') : Vl K S A n H' v := h.x (Same.x e)
theorem Vl.mono (h : Vl K S A n H v) (e : n ≤ m) : Vl K S A m H v := by
  rcases h with ⟨p, xs, h1, h2, h3, h4⟩ | h
  · exact .inl ⟨p, xs, h1, h2, Nat.le_trans h3 e, h4⟩
  · exact .inr h
theorem odds_data : ∀ {xs : List V}, (∀ x ∈ xs, Odd K S A H x) → ∃ ds, DqAll true K (hid S A H) xs ds ∧ FitAll (101 * xs.length) 10 ds
  | [], _ => ⟨[], .nil, fitAll_nil _ _⟩
  | x :: xs, h => by
    obtain ⟨d, h1, h2⟩ := (h x List.mem_cons_self).dq
    obtain ⟨ds, h3, h4⟩ := odds_data fun y hy => h y (List.mem_cons_of_mem _ hy)
    refine ⟨d :: ds, .cons h1 h3, ?_⟩
    have e : 101 * (x :: xs).length = 100 + 1 + 101 * xs.length := by
      rw [List.length_cons]
      omega
    rw [e]
    exact fitAll_cons h2 h4
theorem Vl.data (h : Vl K S A n H v) (hn : n ≤ 300) : ∃ d, Dq true K H v d ∧ Fit 60000 30 d := by
  rcases h with ⟨p, xs, rfl, h2, h3, h4⟩ | ⟨⟨d, h1, h2⟩, h3⟩
  · obtain ⟨ds, g1, g2⟩ := odds_data h4
    exact ⟨_, Dq.same (hid_same S A H) (.tup (.inl (.inl h2)) g1), (fit_tuple g2).mono (by omega) (by decide)⟩
  · exact ⟨d, Dq.same (hid_same S A H) h1, h2.mono (by decide) (by decide)⟩
theorem vl_tup {p : Addr} {xs : List V} (st : Strm H S A B t) (h : H p = some (.tup xs)) (hn : xs.length ≤ n) (hx : ∀ x ∈ xs, Odd K S A H x) : Vl K S A n H (.ref p) := by
  obtain ⟨as, ha, _⟩ := st.a
  refine .inl ⟨p, xs, rfl, ?_, hn, hx⟩
  rw [hid_ne (fun z => ?_) (fun z => ?_)]
  · exact h
  · rw [z, st.s] at h
    cases h
  · rw [z, ha] at h
    cases h
theorem Odd.vl (o : Odd K S A H v) (h : NotT K (hid S A H) v) : Vl K S A n H v := by
  obtain ⟨d, h1, h2⟩ := o.dq
  exact .inr ⟨⟨d, h1, h2.mono (by decide) (by decide)⟩, h⟩
def Od2 (K : PySem.W.Frag) (S A : Addr) (H : Hp) (v : V) : Prop := Odd K S A H v ∧ Vl K S A 3 H v
theorem Od2.x (h : Od2 K S A H v) (e : SameX S A H H') : Od2 K S A H' v := ⟨h.1.x e, h.2.x e⟩
theorem Od2.same (h : Od2 K S A H v) (e : Same H H') : Od2 K S A H' v := h.x (Same.x e)
theorem od2_non : Od2 K S A H .non := ⟨odd_non, odd_non.vl ⟨_, .base .non, kit_ty (a := "NoneType") (b := "tuple") (r := false) (by decide +kernel)⟩⟩
theorem od2_bl (b : Bool) : Od2 K S A H (.bl b) := ⟨odd_bl b, (odd_bl b).vl ⟨_, .base (.bl b), kit_ty (a := "bool") (b := "tuple") (r := false) (by decide +kernel)⟩⟩
theorem od2_int {i : Int} (h : i.natAbs < 10 ^ 30) : Od2 K S A H (.int i) := ⟨odd_int h, (odd_int h).vl ⟨_, .base (.int i), kit_ty (a := "int") (b := "tuple") (r := false) (by decide +kernel)⟩⟩
theorem od2_str {x : Str} (h : Fit 100 10 (.str x)) : Od2 K S A H (.str x) := ⟨odd_str h, (odd_str h).vl ⟨_, .base (.str x), kit_ty (a := "str") (b := "tuple") (r := false) (by decide +kernel)⟩⟩
theorem od2_tup (st : Strm H S A B t) {p : Addr} (np : H p = none) {xs : List V} {ds : List PyData} (h : DqAll true K (hid S A H) xs ds) (f : Fit 100 10 (.tuple ds)) (h3 : xs.length ≤ 3) (hx : ∀ x ∈ xs, Odd K S A H x) : Od2 K S A (upd H p (.tup xs)) (.ref p) :=
  ⟨odd_tup st np h f, .inl ⟨p, xs, rfl, hid_get st np _, h3, fun x z => (hx x z).same (same_upd np)⟩⟩
theorem od2_lst (st : Strm H S A B t) {p : Addr} (np : H p = none) (ns : p ≠ sysModules) {xs : List V} {ds : List PyData} (h : DqAll true K (hid S A H) xs ds) (f : Fit 100 10 (.list ds)) : Od2 K S A (upd H p (.lst xs)) (.ref p) :=
  ⟨odd_lst st np ns h f, (odd_lst st np ns h f).vl ⟨_, .base (.lst (hid_get st np _)), kit_ty (a := "list") (b := "tuple") (r := false) (by decide +kernel)⟩⟩
theorem od2_dic (st : Strm H S A B t) {p : Addr} (np : H p = none) (kvs : List (Str × Int))
    (f : Fit 100 10 (.dict (kvs.map fun p => (PyData.str p.1, PyData.int p.2)))) : Od2 K S A (upd H p (.dK (kvs.map fun p => ((Sum.inr p.1 : Key), V.int p.2)))) (.ref p) :=
  ⟨odd_dic st np kvs f, (odd_dic st np kvs f).vl ⟨_, .base (.dK (hid_get st np _)), kit_ty (a := "dict") (b := "tuple") (r := false) (by decide +kernel)⟩⟩
/-! ### rows of odd values: slices and sums -/
def Rw (K : PySem.W.Frag) (S A : Addr) (n : Nat) (H : Hp) (p : Addr) : Prop := ∃ xs, H p = some (.tup xs) ∧ xs.length ≤ n ∧ ∀ x ∈ xs, Odd K S A H x
theorem Rw.same {p : Addr} (h : Rw K S A n H p) (e : Same H H') : Rw K S A n H' p := by
  obtain ⟨xs, h1, h2, h3⟩ := h
  exact ⟨xs, e _ _ h1, h2, fun x hx => (h3 x hx).same e⟩
theorem Rw.vl {p : Addr} (h : Rw K S A n H p) (st : Strm H S A B t) : Vl K S A n H (.ref p) := by
  obtain ⟨xs, h1, h2, h3⟩ := h
  exact vl_tup st h1 h2 h3
end
section
variable {K : PySem.W.Frag} {S A B : Addr} {n m t : Nat} {H H' : Hp} {v : V}
theorem Rw.x {p : Addr} (h : Rw K S A n H p) (st : Strm H S A B t) (e : SameX S A H H') : Rw K S A n H' p := by
  obtain ⟨xs, h1, h2, h3⟩ := h
  obtain ⟨as, ha, _⟩ := st.a
  refine ⟨xs, e _ _ h1 (fun z => ?_) (fun z => ?_), h2, fun x hx => (h3 x hx).x e⟩
  · rw [z, st.s] at h1
    cases h1
  · rw [z, ha] at h1
    cases h1
end
def spOdd2 (K : PySem.W.Frag) : Sp := fun vs H Q _ => ∃ (S A B : Addr) (t : Nat), vs = [.ref S] ∧ Strm H S A B t ∧ t < 1000000000 ∧
  ∀ H' t' v, SameX S A H H' → Strm H' S A B t' → t' ≤ t + 1 → Od2 K S A H' v → Q v H'
/-! ### the judgement of a ring -/
def arB (v : V) : Bool := ixB v 6
def jdF : Nat → List V → PyData
  | _, [] => .none
  | i, x :: xs => if arB x then jdF (i + 1) xs else .tuple [.int (i : Int), .str "arity"]
def jdT (xs : List V) : PyData := if 1 ≤ xs.length ∧ xs.length ≤ 24 then jdF 0 xs else .tuple [.none, .str "length"]
def jdN : PyData := .tuple [.none, .str "tuple"]
end My

namespace My
open PySem PySem.Spec PyProof.Rows L2
/-! ### the beginnings of a ring -/
/-- the beginnings among the first i places -/
def bgU (ns : List Int) (i : Nat) : List Nat := (List.range i).filter fun p => decide (nd ns p = 0)
def bgn (ns : List Int) : List Nat := bgU ns ns.length
def ofN (ps : List Nat) : List Int := ps.map fun p : Nat => (p : Int)
theorem bgU_yes {ns : List Int} {i : Nat} (h : nd ns i = 0) : bgU ns (i + 1) = bgU ns i ++ [i] := by
  unfold bgU
  rw [List.range_succ, List.filter_append, List.filter_cons_of_pos (by simp [h])]
  rfl
theorem bgU_no {ns : List Int} {i : Nat} (h : nd ns i ≠ 0) : bgU ns (i + 1) = bgU ns i := by
  unfold bgU
  rw [List.range_succ, List.filter_append, List.filter_cons_of_neg (by simp [h]), List.filter_nil, List.append_nil]
theorem bgU_len (ns : List Int) (i : Nat) : (bgU ns i).length ≤ i := by
  have := List.length_filter_le (fun p => decide (nd ns p = 0)) (List.range i)
  rw [List.length_range] at this
  exact this
theorem ofN_len (ps : List Nat) : (ofN ps).length = ps.length := List.length_map _
theorem ofN_app (a b : List Nat) : ofN (a ++ b) = ofN a ++ ofN b := List.map_append
theorem mem_bgn {ns : List Int} {p : Nat} : p ∈ bgn ns ↔ p < ns.length ∧ nd ns p = 0 := by
  unfold bgn bgU
  rw [List.mem_filter, List.mem_range, decide_eq_true_iff]
theorem mem_ofN {ps : List Nat} {x : Int} : x ∈ ofN ps ↔ ∃ p ∈ ps, x = (p : Int) := by
  unfold ofN
  rw [List.mem_map]
  exact ⟨fun ⟨p, h, e⟩ => ⟨p, h, e.symm⟩, fun ⟨p, h, e⟩ => ⟨p, h, e.symm⟩⟩
theorem ofN_small {ps : List Nat} {n : Nat} (h : ∀ p ∈ ps, p < n) (hn : n ≤ 1000) : ∀ x ∈ ofN ps, x.natAbs < 10 ^ 30 := fun x hx => by
  obtain ⟨p, hp, rfl⟩ := mem_ofN.mp hx
  have := h p hp
  exact small30 (by omega) (by omega)
theorem ix_listK {X : Cx} {K : PySem.W.Frag} (e : X.K = K) : IxR X (rIxL K) := by
  subst e
  exact ix_list
end My

namespace My
open PySem PySem.Spec PyProof.Rows L2
/-! ### a written tuple of ints that the module's name holds -/
/-! ### slices of a tuple, whole or not -/
theorem slT_lo {K : PySem.W.Frag} {H : Hp} {a : Addr} {xs : List V} {p : Nat} {Q : VK} (hT : SqT K H a xs) (hp : p ≤ xs.length) (h : ∀ H' d, Same H H' → SqT K H' d (xs.drop p) → Q (.ref d) H') :
    rSlA K (.ref a) (some (p : Int)) none H Q := by
  refine ⟨a, _, rfl, hT, fun e => ?_, fun e d nd => ?_⟩
  · rw [show HT.sIx xs.length 0 (some (p : Int)) = min p xs.length from HT.sIx_nat _ _ p] at e
    have p0 : p = 0 ∨ xs.length = 0 := by omega
    refine h H a (Same.refl H) ?_
    rcases p0 with z | z
    · rw [z, List.drop_zero]
      exact hT
    · rw [List.eq_nil_of_length_eq_zero z] at hT ⊢
      rw [List.drop_nil]
      exact hT
  · refine h _ d (same_upd nd) (.inl (.inl ?_))
    rw [upd_same, cut_lo _ _ hp]
theorem slT_hi {K : PySem.W.Frag} {H : Hp} {a : Addr} {xs : List V} {p : Nat} {Q : VK} (hT : SqT K H a xs) (hp : p ≤ xs.length) (h : ∀ H' d, Same H H' → SqT K H' d (xs.take p) → Q (.ref d) H') :
    rSlA K (.ref a) none (some (p : Int)) H Q := by
  refine ⟨a, _, rfl, hT, fun e => ?_, fun e d nd => ?_⟩
  · rw [HT.sIx_none, show HT.sIx xs.length xs.length (some (p : Int)) = min p xs.length from HT.sIx_nat _ _ p] at e
    refine h H a (Same.refl H) ?_
    rw [List.take_of_length_le (by omega)]
    exact hT
  · refine h _ d (same_upd nd) (.inl (.inl ?_))
    rw [upd_same, cut_hi _ _ hp]
theorem catT {K : PySem.W.Frag} {H : Hp} {a b : Addr} {xs ys : List V} {Q : VK} (hx : SqT K H a xs) (hy : SqT K H b ys) (hl : xs.length + ys.length ≤ 1000000) (h : ∀ H' d, Same H H' → SqT K H' d (xs ++ ys) → Q (.ref d) H') :
    rCatA K (.ref a) (.ref b) H Q := by
  refine ⟨a, b, _, _, rfl, rfl, hx, hy, sz hl, fun e => ?_, fun e1 e2 => ?_, fun e1 e2 d nd => ?_⟩
  · refine h H b (Same.refl H) ?_
    rw [e, List.nil_append]
    exact hy
  · refine h H a (Same.refl H) ?_
    rw [e2, List.append_nil]
    exact hx
  · refine h _ d (same_upd nd) (.inl (.inl ?_))
    rw [upd_same]
/-! ### effects -/
/-- two effects, one after the other -/
def jn (e f : Int × Int) : Int × Int := (e.1 + pos0 (f.1 - e.2), f.2 + pos0 (e.2 - f.1))
end My
namespace My
open PySem PySem.Spec PyProof.Rows L2
/-- a row: at most 24 arities -/
def Row (ns : List Int) : Prop := ns.length ≤ 24 ∧ ∀ x ∈ ns, 0 ≤ x ∧ x ≤ 5
theorem Ring.row {ns : List Int} (h : Ring ns) : Row ns := ⟨h.2.1, h.2.2⟩
theorem Row.take {ns : List Int} (h : Row ns) (p : Nat) : Row (ns.take p) := ⟨by rw [List.length_take]; have := h.1; omega, fun x hx => h.2 x (List.mem_of_mem_take hx)⟩
theorem Row.drop {ns : List Int} (h : Row ns) (p : Nat) : Row (ns.drop p) := ⟨by rw [List.length_drop]; have := h.1; omega, fun x hx => h.2 x (List.mem_of_mem_drop hx)⟩
theorem Row.reverse {ns : List Int} (h : Row ns) : Row ns.reverse := ⟨by rw [List.length_reverse]; exact h.1, fun x hx => h.2 x (List.mem_reverse.mp hx)⟩
/-- a value that is a row -/
def RowAt (K : PySem.W.Frag) (H : Hp) (v : V) : Prop := ∃ a ns, v = .ref a ∧ TupI K H a ns ∧ Row ns
theorem RowAt.same {K : PySem.W.Frag} {H H' : Hp} {v : V} (h : RowAt K H v) (e : Same H H') : RowAt K H' v := by
  obtain ⟨a, ns, h1, h2, h3⟩ := h
  exact ⟨a, ns, h1, same_seqT e h2, h3⟩
end My
namespace My
open PySem PySem.Spec PyProof.Rows L2
end My

namespace My
open PySem PySem.Spec PyProof.Rows L2
/-! ### reading round and round: the height after k tokens, without an end -/
/-- the arity of the token that is read as number k -/
def ar (ns : List Int) (k : Nat) : Int := ns.getD (k % ns.length) 0
def Sh (ns : List Int) : Nat → Int
  | 0 => 0
  | k + 1 => Sh ns k + 1 - ar ns k
theorem ar_at (ns : List Int) (k : Nat) (h : k < ns.length) : ar ns k = ns[k] := by
  unfold ar
  rw [Nat.mod_eq_of_lt h, List.getD_eq_getElem?_getD, List.getElem?_eq_getElem h]
  rfl
theorem ar_round (ns : List Int) (k : Nat) : ar ns (k + ns.length) = ar ns k := by
  unfold ar
  rw [Nat.add_mod_right]
theorem Sh_ps (ns : List Int) : ∀ k : Nat, k ≤ ns.length → Sh ns k = ps ns k
  | 0, _ => (ps_zero ns).symm
  | k + 1, h => by
    have ih := Sh_ps ns k (by omega)
    have hk : k < ns.length := by omega
    show Sh ns k + 1 - ar ns k = _
    rw [ih, ar_at ns k hk]
    unfold ps
    rw [sum_take (List.getElem?_eq_getElem hk)]
    omega
theorem Sh_all (ns : List Int) : Sh ns ns.length = bal ns := by rw [Sh_ps ns _ (Nat.le_refl _), ps_all]
theorem Sh_round (ns : List Int) : ∀ k : Nat, Sh ns (k + ns.length) = Sh ns k + bal ns
  | 0 => by rw [Nat.zero_add, Sh_all]; show _ = (0 : Int) + _; omega
  | k + 1 => by
    have ih := Sh_round ns k
    have e : k + 1 + ns.length = (k + ns.length) + 1 := by omega
    rw [e]
    show Sh ns (k + ns.length) + 1 - ar ns (k + ns.length) = Sh ns k + 1 - ar ns k + bal ns
    rw [ih, ar_round]
    omega
/-- the heights from the place p -/
theorem rot_Sh (ns : List Int) (p k : Nat) (hp : p ≤ ns.length) (hk : k ≤ ns.length) : ps (rot ns p) k = Sh ns (p + k) - Sh ns p := by
  have h := rot_ps ns p k hp hk
  have e : ps (rot ns p) k = (k : Int) - ((rot ns p).take k).sum := rfl
  rw [e, h]
  by_cases c : p + k ≤ ns.length
  · rw [if_pos c, Sh_ps ns _ c, Sh_ps ns p hp]
  · rw [if_neg c, Sh_ps ns p hp]
    have e2 : p + k = (p + k - ns.length) + ns.length := by omega
    have := Sh_round ns (p + k - ns.length)
    rw [← e2, Sh_ps ns (p + k - ns.length) (by omega)] at this
    omega
theorem hts_Sh (ns : List Int) (p k : Nat) (hp : p ≤ ns.length) (hk : k < ns.length) : (hts 0 (rot ns p))[k]? = some (Sh ns (p + (k + 1)) - Sh ns p) := by
  rw [hts_get _ _ _ (by rw [rot_len ns p hp]; exact hk), ← rot_Sh ns p (k + 1) hp (by omega)]
  unfold ps
  congr 1
  omega
theorem nd_zero_win (ns : List Int) (p : Nat) (hp : p < ns.length) : nd ns p = 0 ↔ ∀ k, k < ns.length → Sh ns p < Sh ns (p + (k + 1)) := by
  have ne : hts 0 (rot ns p) ≠ [] := fun e => by
    have := hts_len (rot ns p) 0
    rw [e, rot_len ns p (by omega), List.length_nil] at this
    omega
  constructor
  · intro h k hk
    have m := lo_le _ _ (List.mem_of_getElem? (hts_Sh ns p k (by omega) hk))
    have : 1 ≤ lo (hts 0 (rot ns p)) := by
      unfold nd pos0 at h
      split at h <;> omega
    omega
  · intro h
    obtain ⟨k, hk, e⟩ := mem_get (lo_mem _ ne)
    rw [hts_len, rot_len ns p (by omega)] at hk
    rw [hts_Sh ns p k (by omega) hk] at e
    have e := Option.some.inj e
    have := h k hk
    unfold nd pos0
    split <;> omega
/-! the least height from k on -/
def Fm (ns : List Int) (k : Nat) : Int := lo ((List.range ns.length).map fun i => Sh ns (k + i))
end My

namespace My
open PySem PySem.Spec PyProof.Rows L2
/-! ### the way from a beginning to the next -/
/-- L is the number of tokens from the beginning p to the next one -/
def Unl (ns : List Int) (p L : Nat) : Prop := 1 ≤ L ∧ nd ns ((p + L) % ns.length) = 0 ∧ ∀ k, 1 ≤ k → k < L → nd ns ((p + k) % ns.length) ≠ 0
theorem Unl.uniq {ns : List Int} {p L M : Nat} (a : Unl ns p L) (b : Unl ns p M) : L = M := by
  obtain ⟨a1, a2, a3⟩ := a
  obtain ⟨b1, b2, b3⟩ := b
  rcases Nat.lt_trichotomy L M with h | h | h
  · exact absurd a2 (b3 L a1 h)
  · exact h
  · exact absurd b2 (a3 M b1 h)
theorem Unl.le {ns : List Int} {p L : Nat} (a : Unl ns p L) (hp : p < ns.length) (h : nd ns p = 0) : L ≤ ns.length := by
  obtain ⟨a1, a2, a3⟩ := a
  by_cases c : L ≤ ns.length
  · exact c
  · refine absurd ?_ (a3 ns.length (by omega) (by omega))
    rw [Nat.add_mod_right, Nat.mod_eq_of_lt hp]
    exact h
/-! the list of the beginnings ascends -/
theorem bgn_asc (ns : List Int) : (bgn ns).Pairwise (· < ·) := List.Pairwise.filter _ List.pairwise_lt_range
theorem bgn_lt {ns : List Int} {i j a b : Nat} (ha : (bgn ns)[i]? = some a) (hb : (bgn ns)[j]? = some b) (h : i < j) : a < b := by
  obtain ⟨h1, e1⟩ := List.getElem?_eq_some_iff.mp ha
  obtain ⟨h2, e2⟩ := List.getElem?_eq_some_iff.mp hb
  have := List.pairwise_iff_getElem.mp (bgn_asc ns) i j h1 h2 h
  rw [e1, e2] at this
  exact this
theorem bgn_at {ns : List Int} {p : Nat} (hp : p < ns.length) (h : nd ns p = 0) : ∃ i : Nat, (bgn ns)[i]? = some p := by
  obtain ⟨i, hi, e⟩ := List.getElem_of_mem (mem_bgn.mpr ⟨hp, h⟩)
  exact ⟨i, by rw [List.getElem?_eq_getElem hi, e]⟩
theorem unl_mid {ns : List Int} {i s a : Nat} (hs : (bgn ns)[i]? = some s) (ha : (bgn ns)[i + 1]? = some a) : Unl ns s (a - s) ∧ s < a := by
  obtain ⟨s1, s2⟩ := mem_bgn.mp (List.mem_of_getElem? hs)
  obtain ⟨a1, a2⟩ := mem_bgn.mp (List.mem_of_getElem? ha)
  have lt := bgn_lt hs ha (Nat.lt_succ_self i)
  refine ⟨⟨by omega, ?_, fun k k1 k2 z => ?_⟩, lt⟩
  · rw [show s + (a - s) = a by omega, Nat.mod_eq_of_lt a1]
    exact a2
  · rw [Nat.mod_eq_of_lt (by omega)] at z
    obtain ⟨j, hj⟩ := bgn_at (p := s + k) (by omega) z
    rcases Nat.lt_trichotomy j (i + 1) with h | h | h
    · by_cases e : j = i
      · rw [e, hs] at hj
        have := Option.some.inj hj
        omega
      · have := bgn_lt hj hs (by omega)
        omega
    · rw [h, ha] at hj
      have := Option.some.inj hj
      omega
    · have := bgn_lt ha hj h
      omega
theorem unl_last {ns : List Int} {i s a : Nat} (hi : i + 1 = (bgn ns).length) (hs : (bgn ns)[i]? = some s) (ha : (bgn ns)[0]? = some a) : Unl ns s (ns.length - s + a) ∧ a ≤ s := by
  obtain ⟨s1, s2⟩ := mem_bgn.mp (List.mem_of_getElem? hs)
  obtain ⟨a1, a2⟩ := mem_bgn.mp (List.mem_of_getElem? ha)
  have le : a ≤ s := by
    by_cases c0 : i = 0
    · rw [c0, ha] at hs
      have := Option.some.inj hs
      omega
    · have := bgn_lt ha hs (by omega)
      omega
  refine ⟨⟨by omega, ?_, fun k k1 k2 z => ?_⟩, le⟩
  · rw [show s + (ns.length - s + a) = a + ns.length by omega, Nat.add_mod_right, Nat.mod_eq_of_lt a1]
    exact a2
  · by_cases c2 : s + k < ns.length
    · rw [Nat.mod_eq_of_lt c2] at z
      obtain ⟨j, hj⟩ := bgn_at (p := s + k) c2 z
      have hj2 := (List.getElem?_eq_some_iff.mp hj).1
      by_cases e : j = i
      · rw [e, hs] at hj
        have := Option.some.inj hj
        omega
      · have := bgn_lt hj hs (by omega)
        omega
    · rw [show s + k = (s + k - ns.length) + ns.length by omega, Nat.add_mod_right, Nat.mod_eq_of_lt (by omega)] at z
      obtain ⟨j, hj⟩ := bgn_at (p := s + k - ns.length) (by omega) z
      by_cases c0 : j = 0
      · rw [c0, ha] at hj
        have := Option.some.inj hj
        omega
      · have := bgn_lt ha hj (by omega)
        omega
/-- the lengths of the units, in order -/
structure Lens (ns : List Int) (us : List Nat) : Prop where
  len : us.length = (bgn ns).length
  at_ : ∀ (i s L : Nat), (bgn ns)[i]? = some s → us[i]? = some L → Unl ns s L
theorem Lens.pre {ns : List Int} {us : List Nat} (h : Lens ns us) {a : Nat} (ha : (bgn ns)[0]? = some a) : ∀ (k s : Nat), (bgn ns)[k]? = some s → (us.take k).sum + a = s
  | 0, s, hs => by
    rw [ha] at hs
    have := Option.some.inj hs
    rw [List.take_zero, List.sum_nil, Nat.zero_add]
    exact this
  | k + 1, s, hs => by
    have hk := (List.getElem?_eq_some_iff.mp hs).1
    obtain ⟨r, hr⟩ : ∃ r, (bgn ns)[k]? = some r := ⟨_, List.getElem?_eq_getElem (by omega)⟩
    obtain ⟨L, hL⟩ : ∃ L, us[k]? = some L := ⟨_, List.getElem?_eq_getElem (by rw [h.len]; omega)⟩
    have ih := h.pre ha k r hr
    obtain ⟨u, lt⟩ := unl_mid hr hs
    have e := (h.at_ k r L hr hL).uniq u
    rw [List.take_add_one, hL]
    show (us.take k ++ [L]).sum + a = s
    rw [List.sum_append, List.sum_cons, List.sum_nil]
    omega
theorem Lens.sum {ns : List Int} {us : List Nat} (h : Lens ns us) (ne : 0 < us.length) : us.sum = ns.length := by
  have hm := h.len
  obtain ⟨a, ha⟩ : ∃ a, (bgn ns)[0]? = some a := ⟨_, List.getElem?_eq_getElem (by omega)⟩
  obtain ⟨s, hs⟩ : ∃ s, (bgn ns)[us.length - 1]? = some s := ⟨_, List.getElem?_eq_getElem (by omega)⟩
  obtain ⟨L, hL⟩ : ∃ L, us[us.length - 1]? = some L := ⟨_, List.getElem?_eq_getElem (by omega)⟩
  have p := h.pre ha _ _ hs
  obtain ⟨u, le⟩ := unl_last (by omega) hs ha
  have e := (h.at_ _ _ _ hs hL).uniq u
  have t : us.take (us.length - 1 + 1) = us := List.take_of_length_le (by omega)
  rw [List.take_add_one, hL] at t
  have t : us.take (us.length - 1) ++ [L] = us := t
  obtain ⟨s1, s2⟩ := mem_bgn.mp (List.mem_of_getElem? hs)
  rw [← t, List.sum_append, List.sum_cons, List.sum_nil]
  omega
/-! a list of pairs, as the program and the law hold it -/
def Duo (H : Hp) (as : List Addr) (ss us : List Nat) : Prop := ∀ (k : Nat) (a : Addr) (s L : Nat), as[k]? = some a → ss[k]? = some s → us[k]? = some L → H a = some (.tup [.int (s : Int), .int (L : Int)])
theorem Duo.same {H H' : Hp} {as : List Addr} {ss us : List Nat} (h : Duo H as ss us) (e : Same H H') : Duo H' as ss us := fun k a s L h1 h2 h3 => e _ _ (h k a s L h1 h2 h3)
theorem Duo.upd {H : Hp} {as : List Addr} {ss us : List Nat} (h : Duo H as ss us) {d : Addr} {xs : List V} {o : HO} (hd : H d = some (.lst xs)) (hl : as.length ≤ ss.length) (hu : as.length ≤ us.length) : Duo (upd H d o) as ss us := fun k a s L h1 h2 h3 => by
  have e := h k a s L h1 h2 h3
  rw [upd_ne (ne_of e hd (by intro q; cases q))]
  exact e
theorem snoc_get {α : Type} {l : List α} {x y : α} {k : Nat} (h : (l ++ [x])[k]? = some y) : (l[k]? = some y ∧ k < l.length) ∨ (k = l.length ∧ x = y) := by
  rcases Nat.lt_trichotomy k l.length with c | c | c
  · rw [List.getElem?_append_left c] at h
    exact .inl ⟨h, c⟩
  · rw [c, List.getElem?_append_right (Nat.le_refl _), Nat.sub_self] at h
    exact .inr ⟨c, Option.some.inj h⟩
  · rw [List.getElem?_eq_none (by rw [List.length_append]; show l.length + 1 ≤ k; omega)] at h
    cases h
end My
namespace My
open PySem PySem.Spec PyProof.Rows L2
end My
namespace My
theorem iteN {c : Bool} {A B : Prop} (h : c = false) (b : B) : if c = true then A else B := by
  rw [if_neg (by rw [h]; exact Bool.false_ne_true)]
  exact b
theorem iteY {c : Bool} {A B : Prop} (h : c = true) (a : A) : if c = true then A else B := by
  rw [if_pos h]
  exact a
end My

namespace My
open PySem PySem.Spec PyProof.Rows L2
/-! ### the next beginning, going round -/
/-- None, or the place -/
def optV : Option Nat → V
  | none => .non
  | some q => .int (q : Int)
def optD : Option Nat → PyData
  | none => .none
  | some q => .int (q : Int)
theorem opt_dq {b : Bool} {K : PySem.W.Frag} {H : Hp} : ∀ o : Option Nat, Dq b K H (optV o) (optD o)
  | none => .non
  | some q => .int _
end My
namespace My
open PySem PySem.Spec PyProof.Rows L2
end My
namespace My
open PySem PySem.Spec PyProof.Rows L2
end My

namespace My
open PySem PySem.Spec PyProof.Rows L2
/-! ### turning a turned ring -/
theorem rot_get {ns : List Int} {p k : Nat} (hp : p < ns.length) (hk : k < ns.length) : (rot ns p)[k]? = ns[(p + k) % ns.length]? := by
  unfold rot
  by_cases c : p + k < ns.length
  · rw [Nat.mod_eq_of_lt c, List.getElem?_append_left (by rw [List.length_drop]; omega), List.getElem?_drop]
  · rw [List.getElem?_append_right (by rw [List.length_drop]; omega), List.length_drop, List.getElem?_take_of_lt (by omega), show p + k = (p + k - ns.length) + ns.length by omega, Nat.add_mod_right, Nat.mod_eq_of_lt (by omega)]
    congr 1
    omega
/-- the place b as it is numbered from p on -/
def back (n p b : Nat) : Nat := (b + (n - p)) % n
/-- a ring that the stream leaves alone -/
def RingX (S A : Addr) (H : Hp) (v : V) : Prop := ∃ a ns, v = .ref a ∧ a ≠ S ∧ a ≠ A ∧ H a = some (.tup (ns.map V.int)) ∧ Ring ns
theorem RingX.x {S A : Addr} {H H' : Hp} {v : V} (h : RingX S A H v) (e : SameX S A H H') : RingX S A H' v := by
  obtain ⟨a, ns, h1, h2, h3, h4, h5⟩ := h
  exact ⟨a, ns, h1, h2, h3, e _ _ h4 h2 h3, h5⟩
theorem RingX.same {S A : Addr} {H H' : Hp} {v : V} (h : RingX S A H v) (e : Same H H') : RingX S A H' v := h.x (Same.x e)
end My
namespace My
open PySem PySem.Spec PyProof.Rows L2
end My
namespace My
open PySem PySem.Spec PyProof.Rows L2
theorem RingX.upd {S A : Addr} {H : Hp} {v : V} (h : RingX S A H v) {d : Addr} {xs : List V} {o : HO} (hd : H d = some (.lst xs)) : RingX S A (L2.upd H d o) v := by
  obtain ⟨a, ns, h1, h2, h3, h4, h5⟩ := h
  exact ⟨a, ns, h1, h2, h3, by rw [upd_ne (ne_of h4 hd (by intro q; cases q))]; exact h4, h5⟩
end My
namespace My
open PySem PySem.Spec PyProof.Rows L2
end My

namespace My
open PySem PySem.Spec PyProof.Rows L2
/-! ### a def with a star parameter alone -/
def OkS (P : Program) (w : World) (K : PySem.W.Frag) (mg : Str → Option Value) (base : Heap) (CX : CXT) (k : Nat) (x : Str) (sp : Sp) : Prop :=
  FnR P w K mg base CX k (He.ga K x) sp ∧ PySem.W.keepIn K (.ref (He.ga K x)) = true ∧ mg x = some (.ref (He.ga K x))
section
variable {X : Cx} {CX : CXT} {k : Nat} {sp : Sp} {E : XK} {x : Str} {p pos : Pos} {e : Expr} {es : List Expr} {t : TA}
end
theorem okS_of {P : Program} {w : World} {K : PySem.W.Frag} {mg : Str → Option Value} {base : Heap} {CX : CXT} {k : Nat} {x qual : Str} {params : Arguments} {body : List Stmt} {scope : Scope} {N : List Str} {pv : Str} {sp : Sp}
    (F : ∃ fd, FunD K x qual params body scope [] [] (He.ga K x) fd) (g : mg x = some (.ref (He.ga K x))) (S : FnScope N [pv] scope) (hCX : StX.CXUp CX)
    (hb : ∀ (kV doc pm : Value) (an : Option Addr) (cdv ct : Value) (us : List Value),
      bindArgs (PySem.W.fnOf x qual params body scope .none kV doc pm an cdv ct) ⟨us, []⟩ = (newTuple us >>= fun t => pure [(pv, t)]))
    (hbody : ∀ (cdv : Value) (A : Around) (outer : List Env) (s : Shared) (H : Hp) (vs : List V) (Q : VK) (E : XK),
      Room k (A.deeper (envOfC qual scope s.heap.objs.size (He.ga K x) cdv)) → sp vs H Q E →
      ∃ t, PSs (cxOf CX P w K mg base N qual scope (He.ga K x) cdv A outer s H E) body t ∧ t { nx := fun _ H' => Q .non H', rt := Q } (start N vs) H) :
    OkS P w K mg base CX (k + 1) x (fun vs H Q E => vs.length ≤ sizeLine ∧ ∀ p, H p = none → sp [V.ref p] (upd H p (.tup vs)) Q E) := by
  obtain ⟨fd, F⟩ := F
  obtain ⟨oc, od, dV, kV, doc, pm, an, cdv, ct, osl, rfl, lk, hcd, hD, _⟩ := F.ex
  have hd : dV = .none := by
    rcases hD with ⟨_, rfl⟩ | ⟨e, _⟩
    · rfl
    · exact absurd rfl e
  subst hd
  refine ⟨FnR.imp (StX.fn_star (ps := []) (pv := pv) lk hcd S hCX (fun us rest hl => ?_) (fun A outer s H vs Q E hr h => hbody cdv A outer s H vs Q E hr h)) fun vs H Q E h => ⟨[], vs, rfl, rfl, h.1, h.2⟩, F.kp, g⟩
  have e : us = [] := List.eq_nil_of_length_eq_zero hl
  subst e
  exact hb kV doc pm an cdv ct rest
/-! ### effects at addresses -/
def Effs (K : PySem.W.Frag) (H : Hp) (as : List Addr) (es : List (Int × Int)) : Prop := as.length = es.length ∧ ∀ (k : Nat) (a : Addr) (e : Int × Int), as[k]? = some a → es[k]? = some e → TupI K H a [e.1, e.2]
theorem Effs.same {K : PySem.W.Frag} {H H' : Hp} {as : List Addr} {es : List (Int × Int)} (h : Effs K H as es) (s : Same H H') : Effs K H' as es := ⟨h.1, fun k a e h1 h2 => same_seqT s (h.2 k a e h1 h2)⟩
theorem Effs.nil {K : PySem.W.Frag} {H : Hp} : Effs K H [] [] := ⟨rfl, fun _ _ _ z => nomatch z⟩
theorem Effs.at_ {K : PySem.W.Frag} {H : Hp} {as : List Addr} {es : List (Int × Int)} (h : Effs K H as es) {k : Nat} {a : Addr} (ha : as[k]? = some a) : ∃ e, es[k]? = some e ∧ TupI K H a [e.1, e.2] := by
  have hk := (List.getElem?_eq_some_iff.mp ha).1
  have hk2 : k < es.length := by rw [← h.1]; exact hk
  exact ⟨es[k], List.getElem?_eq_getElem hk2, h.2 k a _ ha (List.getElem?_eq_getElem hk2)⟩
/-! ### data with great ints -/
structure FitB (n k : Nat) (d : PyData) : Prop where
  sh : d.showable = true
  lv : d.leavesShort 100 = true
  bk : d.bulk ≤ n
  dp : d.depth ≤ k
structure FitBAll (n k : Nat) (ds : List PyData) : Prop where
  sh : PyData.showableAll ds = true
  lv : PyData.leavesShortAll 100 ds = true
  bk : PyData.bulkAll ds ≤ n
  dp : PyData.depthAll ds ≤ k
theorem FitB.mono {n m k j : Nat} {d : PyData} (a : FitB n k d) (h1 : n ≤ m) (h2 : k ≤ j) : FitB m j d := ⟨a.sh, a.lv, Nat.le_trans a.bk h1, Nat.le_trans a.dp h2⟩
theorem FitBAll.mono {n m k j : Nat} {d : List PyData} (a : FitBAll n k d) (h1 : n ≤ m) (h2 : k ≤ j) : FitBAll m j d := ⟨a.sh, a.lv, Nat.le_trans a.bk h1, Nat.le_trans a.dp h2⟩
theorem FitB.text {d : PyData} (a : FitB 1000 50 d) : d.shown.length ≤ sizeLine := by
  have h := PyData.shown_le_bulk 100 (by decide) d a.lv
  have h2 := a.bk
  rw [sizeLine_eq]
  omega
section
variable {X : Cx}
end
theorem SameX.free {S A B : Addr} {t : Nat} {H H' : Hp} (st : Strm H' S A B t) (sx : SameX S A H H') {p : Addr} (np : H' p = none) : H p = none := by
  cases e : H p with
  | none => rfl
  | some o =>
    exfalso
    obtain ⟨as, ha, _⟩ := st.a
    have n1 := Ne.symm (ne_of_none st.s np)
    have n2 := Ne.symm (ne_of_none ha np)
    have := sx _ _ e n1 n2
    rw [np] at this
    cases this
end My
namespace My
open PySem PySem.Spec PyProof.Rows L2
/-- effects that are objects of their own, apart from the stream -/
def EffX (S A : Addr) (H : Hp) (as : List Addr) (es : List (Int × Int)) : Prop := as.length = es.length ∧ (∀ a ∈ as, a ≠ S ∧ a ≠ A) ∧ ∀ (k : Nat) (a : Addr) (e : Int × Int), as[k]? = some a → es[k]? = some e → H a = some (.tup ([e.1, e.2].map V.int))
theorem EffX.x {S A : Addr} {H H' : Hp} {as : List Addr} {es : List (Int × Int)} (h : EffX S A H as es) (s : SameX S A H H') : EffX S A H' as es := ⟨h.1, h.2.1, fun k a e h1 h2 => by
  obtain ⟨n1, n2⟩ := h.2.1 a (List.mem_of_getElem? h1)
  exact s _ _ (h.2.2 k a e h1 h2) n1 n2⟩
theorem EffX.nil {S A : Addr} {H : Hp} : EffX S A H [] [] := ⟨rfl, fun _ z => (nomatch z), fun _ _ _ z => (nomatch z)⟩
theorem EffX.upd {S A : Addr} {H : Hp} {as : List Addr} {es : List (Int × Int)} (h : EffX S A H as es) {d : Addr} {xs : List V} {o : HO} (hd : H d = some (.lst xs)) : EffX S A (L2.upd H d o) as es := ⟨h.1, h.2.1, fun k a e h1 h2 => by
  have z := h.2.2 k a e h1 h2
  rw [upd_ne (ne_of z hd (by intro q; cases q))]
  exact z⟩
/-- a new object is none of the stream's -/
theorem Strm.ne {S A B : Addr} {t : Nat} {H : Hp} (st : Strm H S A B t) {p : Addr} (np : H p = none) : p ≠ S ∧ p ≠ A ∧ p ≠ B := by
  obtain ⟨as, ha, _⟩ := id st.a
  obtain ⟨bs, hb, _⟩ := id st.b
  exact ⟨Ne.symm (ne_of_none st.s np), Ne.symm (ne_of_none ha np), Ne.symm (ne_of_none hb np)⟩
end My

namespace My
open PySem PySem.Spec PyProof.Rows L2
/-! ### an effect so many times -/
end My

namespace My
open PySem PySem.Spec PyProof.Rows L2
/-! ### tuple * int, also 0 and 1 times -/
theorem tuple_mul1 (l : Addr) (items : Array Value) (n : Nat) (dd : Option Addr) (sl : Array (Option Value)) (x : Int) (u : Tok) (c0 : (decide (x < -(2 ^ 63)) || decide (x ≥ 2 ^ 63)) = false) (c1 : (items.isEmpty || x == 1) = true) :
    Meets (Builtin.«tuple.__mul__» ⟨[.ref l, .int x u], []⟩) (fun _ R s => s.heap.get? l = some { cls := .type "tuple", dict := dd, data := .seq items n, slots := sl } ∧ R (.ok (.ret (Value.ref l))) s) :=
  .of_wp fun prog w A R s h => by
    obtain ⟨hp, g, d, tk, os⟩ := s
    obtain ⟨hl, h⟩ := h
    have f1 := AutoSeq1.idx_int
    wp_walk using wpAny_loadPart' hl
    refine wpAny_ite_false (decide_eq_false (by rw [c0]; exact Bool.false_ne_true)) ?_
    wp_walk using wpAny_loadPart' hl
    exact ⟨_, rfl, h⟩
theorem tuple_mul0 (l : Addr) (items : Array Value) (n : Nat) (dd : Option Addr) (sl : Array (Option Value)) (x : Int) (u : Tok) (c0 : (decide (x < -(2 ^ 63)) || decide (x ≥ 2 ^ 63)) = false) (c1 : (items.isEmpty || x == 1) = false) (c2 : (decide (x ≤ 0) || items.isEmpty) = true) :
    Meets (Builtin.«tuple.__mul__» ⟨[.ref l, .int x u], []⟩) (fun _ R s => s.heap.get? l = some { cls := .type "tuple", dict := dd, data := .seq items n, slots := sl } ∧
      R (.ok (.ret (Value.ref s.heap.objs.size))) { s with heap := s.heap.push { cls := Value.type "tuple", data := Data.seq #[] }, toks := s.toks }) :=
  .of_wp fun prog w A R s h => by
    obtain ⟨hp, g, d, tk, os⟩ := s
    obtain ⟨hl, h⟩ := h
    have f1 := AutoSeq1.idx_int
    wp_walk using wpAny_loadPart' hl
    refine wpAny_ite_false (decide_eq_false (by rw [c0]; exact Bool.false_ne_true)) ?_
    wp_walk using wpAny_loadPart' hl
    exact ⟨_, rfl, h⟩
def rRepTA (K : PySem.W.Frag) : R2 := fun x y H Q => ∃ (l : Addr) (k : Nat) (xs : List V), x = .ref l ∧ y = .int (k : Int) ∧ SqT K H l xs ∧ xs ≠ [] ∧ k ≤ 1000 ∧ xs.length ≤ 1000 ∧ ∀ H' p, Same H H' → SqT K H' p (List.replicate k xs).flatten → Q (.ref p) H'
theorem op_repTA {X : Cx} : OpR X (binaryOp .Mult) (rRepTA X.K) := by
  intro pins s σ H x y v u Q I rx ry h
  obtain ⟨l, k, xs, rfl, rfl, hT, hne, h2, hz, q⟩ := h
  by_cases ck : 2 ≤ k
  · refine op_repT pins s σ H _ _ v u Q I rx ry ⟨l, (k : Int), xs, rfl, rfl, hT, hne, by omega, by omega, hz, fun p np => ?_⟩
    refine q _ p (same_upd np) (.inl (.inl ?_))
    rw [upd_same, Int.toNat_natCast]
  cases rx
  obtain ⟨t, rfl⟩ := ry
  obtain ⟨its, r, ⟨⟨cls, dd, data, sl⟩, ho, hc, n, hd⟩, hs⟩ := I.tuple hT
  simp only at hc hd
  subst hc hd
  have hle : its.length = xs.length := r.length.symm
  have hn : its ≠ [] := fun e => hne (by
    rw [e] at hle
    exact List.eq_nil_of_length_eq_zero hle.symm)
  have hi : its.toArray.isEmpty = false := by
    cases its with
    | nil => exact absurd rfl hn
    | cons a b => rfl
  have c0 : (decide ((k : Int) < -(2 ^ 63)) || decide ((k : Int) ≥ 2 ^ 63)) = false := by
    rw [decide_eq_false (by omega), decide_eq_false (by omega)] <;> rfl
  by_cases c1k : k = 1
  · subst c1k
    have c1 : (its.toArray.isEmpty || (((1 : Nat) : Int) == 1)) = true := by
      rw [hi]
      rfl
    refine wpAny_binaryOp_repeat_ref (T := "tuple") (U := "int") (by decide) ⟨_, ho, rfl⟩ (fun s' => typeIs_int s' _ t) noFill_tuple_mul F.fills_int_mul F.slot_int_rmul repeat_tuple F.slot_int_index.lookup
      (call_meets F.slot_int_rmul (typeIs_int s _ t) F.entry_int_rmul (F.args_int_rmul_2 _ _) (int_rmul_tuple _ t l its.toArray n dd sl)
        ⟨ho, rfl, ⟨_, ho, rfl⟩, call_meets F.slot_tuple_mul ⟨_, ho, rfl⟩ F.entry_tuple_mul (F.args_tuple_mul_2 _ _) (tuple_mul1 l its.toArray n dd sl _ t c0 c1) ⟨ho, ?_⟩⟩)
    refine ⟨.ref l, H, I, rfl, q H l (Same.refl H) ?_⟩
    rw [List.replicate_succ, List.replicate_zero, List.flatten_cons, List.flatten_nil, List.append_nil]
    exact hT
  · have k0 : k = 0 := by omega
    subst k0
    have c1 : (its.toArray.isEmpty || (((0 : Nat) : Int) == 1)) = false := by
      rw [hi]
      rfl
    have c2 : (decide (((0 : Nat) : Int) ≤ 0) || its.toArray.isEmpty) = true := by
      rw [decide_eq_true (by omega)]
      rfl
    refine wpAny_binaryOp_repeat_ref (T := "tuple") (U := "int") (by decide) ⟨_, ho, rfl⟩ (fun s' => typeIs_int s' _ t) noFill_tuple_mul F.fills_int_mul F.slot_int_rmul repeat_tuple F.slot_int_index.lookup
      (call_meets F.slot_int_rmul (typeIs_int s _ t) F.entry_int_rmul (F.args_int_rmul_2 _ _) (int_rmul_tuple _ t l its.toArray n dd sl)
        ⟨ho, rfl, ⟨_, ho, rfl⟩, call_meets F.slot_tuple_mul ⟨_, ho, rfl⟩ F.entry_tuple_mul (F.args_tuple_mul_2 _ _) (tuple_mul0 l its.toArray n dd sl _ t c0 c1 c2) ⟨ho, ?_⟩⟩)
    have nn := I.hok.fresh (Nat.le_refl s.heap.objs.size)
    refine ⟨.ref s.heap.objs.size, _, I.laid (t' := s.toks) (o := .tup []) (fun b ob q => Heap.get?_push_of_some _ q) (Nat.le_refl _) ?_, rfl, q _ _ (same_upd nn) (.inl (.inl upd_same))⟩
    exact ⟨Nat.zero_le _, [], .nil, IsTup.new _ _⟩
/-! more rules with the context's K named -/
end My

namespace My
open PySem PySem.Spec PyProof.Rows L2
/-! ### effects of stretches -/
def Ar (ns : List Int) : Prop := ∀ x ∈ ns, 0 ≤ x ∧ x ≤ 5
theorem Ar.take {ns : List Int} (h : Ar ns) (k : Nat) : Ar (ns.take k) := fun x hx => h x (List.mem_of_mem_take hx)
theorem Ar.drop {ns : List Int} (h : Ar ns) (k : Nat) : Ar (ns.drop k) := fun x hx => h x (List.mem_of_mem_drop hx)
theorem Effs.take {K : PySem.W.Frag} {H : Hp} {as : List Addr} {es : List (Int × Int)} (h : Effs K H as es) (k : Nat) : Effs K H (as.take k) (es.take k) :=
  ⟨by rw [List.length_take, List.length_take, h.1], fun i a e h1 h2 => by
    have hi := (List.getElem?_eq_some_iff.mp h1).1
    rw [List.length_take] at hi
    rw [List.getElem?_take_of_lt (by omega)] at h1 h2
    exact h.2 i a e h1 h2⟩
theorem Effs.drop {K : PySem.W.Frag} {H : Hp} {as : List Addr} {es : List (Int × Int)} (h : Effs K H as es) (k : Nat) : Effs K H (as.drop k) (es.drop k) :=
  ⟨by rw [List.length_drop, List.length_drop, h.1], fun i a e h1 h2 => by
    rw [List.getElem?_drop] at h1 h2
    exact h.2 _ a e h1 h2⟩
theorem sqT_upd {K : PySem.W.Frag} {H : Hp} {a d : Addr} {xs ys : List V} {o : HO} (h : SqT K H a xs) (hd : H d = some (.lst ys)) : SqT K (upd H d o) a xs := by
  rcases h with (z | ⟨ob, z⟩) | z
  · exact .inl (.inl (by rw [upd_ne (ne_of z hd (by intro q; cases q))]; exact z))
  · exact .inl (.inr ⟨ob, by rw [upd_ne (ne_of z hd (by intro q; cases q))]; exact z⟩)
  · exact .inr z
theorem Effs.upd {K : PySem.W.Frag} {H : Hp} {as : List Addr} {es : List (Int × Int)} (h : Effs K H as es) {d : Addr} {ys : List V} {o : HO} (hd : H d = some (.lst ys)) : Effs K (L2.upd H d o) as es := ⟨h.1, fun k a e h1 h2 => sqT_upd (h.2 k a e h1 h2) hd⟩
end My

namespace My
open PySem PySem.Spec PyProof.Rows L2
/-! ### the first number below i that passes -/
def fst1 (f : Nat → Bool) (i : Nat) : Option Nat := ((List.range i).filter f).head?
/-! ### who takes which value -/
/-- the token read as number i takes the value of number j -/
def Tk (ns : List Int) (j i : Nat) : Prop := j < i ∧ Sh ns (i + 1) ≤ Sh ns (j + 1) ∧ ∀ m, j < m → m < i → Sh ns (j + 1) < Sh ns (m + 1)
def tks (ns : List Int) (j : Nat) : Option Nat := fst1 (fun s => decide (Sh ns (j + s + 2) ≤ Sh ns (j + 1))) ns.length
def tkr (ns : List Int) (p : Nat) : Option Nat := (tks ns p).map fun s => (p + s + 1) % ns.length
theorem Tk.le {ns : List Int} {j i : Nat} (h0 : 0 < ns.length) (a : Tk ns j i) : i ≤ j + ns.length := by
  obtain ⟨a1, a2, a3⟩ := a
  by_cases c : i ≤ j + ns.length
  · exact c
  · exfalso
    have h1 := a3 (j + ns.length) (by omega) (by omega)
    rw [show j + ns.length + 1 = (j + 1) + ns.length by omega, Sh_round] at h1
    have h2 := a3 (i - ns.length) (by omega) (by omega)
    have h3 := Sh_round ns (i - ns.length + 1)
    rw [show i - ns.length + 1 + ns.length = i + 1 by omega] at h3
    omega
def tkL (ns : List Int) : List (Option Nat) := (List.range ns.length).map (tkr ns)
/-! ### the stack of the numbers whose values wait -/
structure Stk (ns : List Int) (t : Nat) (st : List Nat) : Prop where
  asc : st.Pairwise (· < ·)
  lt : ∀ j ∈ st, j < t
  alive : ∀ j ∈ st, ∀ m, j < m → m < t → Sh ns (j + 1) < Sh ns (m + 1)
  lev : ∀ (k j : Nat), st[k]? = some j → Sh ns (j + 1) = Sh ns t - ((st.length : Int) - 1 - (k : Int))
  dead : ∀ j, j < t → j ∉ st → ∃ i, i < t ∧ Tk ns j i
theorem Stk.popped {ns : List Int} {t : Nat} {st : List Nat} (h : Stk ns t st) {a : Nat} (ha : ar ns t = (a : Int)) {j : Nat} (hj : j ∈ st.drop (st.length - a)) : Tk ns j t := by
  obtain ⟨k, hk, e⟩ := List.getElem_of_mem hj
  rw [List.length_drop] at hk
  have e2 : (st.drop (st.length - a))[k]? = some j := by rw [List.getElem?_eq_getElem (by rw [List.length_drop]; exact hk), e]
  rw [List.getElem?_drop] at e2
  have hm : j ∈ st := List.mem_of_mem_drop hj
  refine ⟨h.lt j hm, ?_, fun m m1 m2 => h.alive j hm m m1 m2⟩
  have l := h.lev _ _ e2
  have e3 : Sh ns (t + 1) = Sh ns t + 1 - ar ns t := rfl
  rw [e3, ha, l]
  omega
theorem Stk.kept {ns : List Int} {t : Nat} {st : List Nat} (h : Stk ns t st) {a : Nat} (ha : ar ns t = (a : Int)) {k j : Nat} (hj : (st.take (st.length - a))[k]? = some j) : Sh ns (j + 1) < Sh ns (t + 1) ∧ Sh ns (j + 1) = Sh ns t - ((st.length : Int) - 1 - (k : Int)) ∧ k + a < st.length := by
  have hk := (List.getElem?_eq_some_iff.mp hj).1
  rw [List.length_take] at hk
  rw [List.getElem?_take_of_lt (by omega)] at hj
  have l := h.lev _ _ hj
  have e3 : Sh ns (t + 1) = Sh ns t + 1 - ar ns t := rfl
  refine ⟨?_, l, by omega⟩
  rw [e3, ha, l]
  omega
theorem Stk.next {ns : List Int} {t : Nat} {st : List Nat} (h : Stk ns t st) {a : Nat} (ha : ar ns t = (a : Int)) : Stk ns (t + 1) (st.take (st.length - a) ++ [t]) := by
  have hl : (st.take (st.length - a)).length = st.length - a := by
    rw [List.length_take]
    omega
  refine ⟨?_, fun j hj => ?_, fun j hj m m1 m2 => ?_, fun k j hj => ?_, fun j hj hn => ?_⟩
  · refine List.pairwise_append.mpr ⟨h.asc.sublist (List.take_sublist _ _), List.pairwise_singleton _ _, fun x hx y hy => ?_⟩
    rw [List.mem_singleton] at hy
    rw [hy]
    exact h.lt x (List.mem_of_mem_take hx)
  · rcases List.mem_append.mp hj with z | z
    · have := h.lt j (List.mem_of_mem_take z)
      omega
    · rw [List.mem_singleton] at z
      omega
  · rcases List.mem_append.mp hj with z | z
    · by_cases e : m = t
      · obtain ⟨k, hk, ek⟩ := List.getElem_of_mem z
        rw [e]
        exact (h.kept ha (by rw [List.getElem?_eq_getElem hk, ek])).1
      · exact h.alive j (List.mem_of_mem_take z) m m1 (by omega)
    · rw [List.mem_singleton] at z
      omega
  · rw [List.length_append, hl]
    rcases snoc_get hj with ⟨z1, z2⟩ | ⟨z1, rfl⟩
    · obtain ⟨y1, y2, y3⟩ := h.kept ha z1
      have e3 : Sh ns (t + 1) = Sh ns t + 1 - ar ns t := rfl
      rw [e3, ha, y2]
      show _ = _ - ((((st.length - a) + 1 : Nat) : Int) - 1 - (k : Int))
      omega
    · rw [z1, hl]
      show _ = _ - ((((st.length - a) + 1 : Nat) : Int) - 1 - ((st.length - a : Nat) : Int))
      omega
  · by_cases e : j = t
    · exact absurd (List.mem_append.mpr (.inr (List.mem_singleton.mpr e))) hn
    · by_cases c : j ∈ st
      · have : j ∈ st.drop (st.length - a) := by
          rw [← List.take_append_drop (st.length - a) st] at c
          rcases List.mem_append.mp c with z | z
          · exact absurd (List.mem_append.mpr (.inl z)) hn
          · exact z
        exact ⟨t, Nat.lt_succ_self t, h.popped ha this⟩
      · obtain ⟨i, i1, i2⟩ := h.dead j (by omega) c
        exact ⟨i, by omega, i2⟩
/-! the list of what is taken: None first, then the numbers -/
end My

namespace My
open PySem PySem.Spec PyProof.Rows L2
end My
namespace My
open PySem PySem.Spec PyProof.Rows L2
end My
namespace My
open PySem PySem.Spec PyProof.Rows L2
theorem asc_eq {l m : List Nat} (h1 : l.Pairwise (· < ·)) (h2 : m.Pairwise (· < ·)) (h : ∀ x, x ∈ l ↔ x ∈ m) : l = m := by
  refine List.Perm.eq_of_pairwise (le := (· < ·)) (fun a b _ _ x y => by omega) h1 h2 ?_
  exact (List.perm_ext_iff_of_nodup (h1.imp fun h => Nat.ne_of_lt h) (h2.imp fun h => Nat.ne_of_lt h)).mpr h
theorem Stk.len {ns : List Int} {t : Nat} {st : List Nat} (h : Stk ns t st) : st.length ≤ t := by
  have e : st = (List.range t).filter fun x => decide (x ∈ st) := asc_eq h.asc (List.Pairwise.filter _ List.pairwise_lt_range) fun x => by
    rw [List.mem_filter, List.mem_range, decide_eq_true_iff]
    exact ⟨fun z => ⟨h.lt x z, z⟩, fun z => z.2⟩
  rw [e]
  have := List.length_filter_le (fun x => decide (x ∈ st)) (List.range t)
  rw [List.length_range] at this
  exact this
end My
namespace My
open PySem PySem.Spec PyProof.Rows L2
end My

namespace My
open PySem PySem.Spec PyProof.Rows L2
/-! ### count of flat values -/
theorem countP_eqU {x : V} : ∀ {xs : List V} {us : List Value}, Vals xs us → xs.all flatV = true → us.countP (eqU x) = xs.countP fun y => eqV y x
  | _, _, .nil, _ => rfl
  | y :: xs, u :: us, .cons r t, f => by
    rw [List.all_cons, Bool.and_eq_true] at f
    rw [List.countP_cons, List.countP_cons, eqU_of r f.1, countP_eqU t f.2]
def rCntF (K : PySem.W.Frag) : V → List V → Hp → VK → Prop := fun x xs H Q => ∃ (p : Addr) (ys : List V) (k : V), x = .ref p ∧ xs = [k] ∧ SqL K H p ys ∧ flatV k = true ∧ ys.all flatV = true ∧ Q (.int ((ys.countP fun y => eqV y k : Nat) : Int)) H
theorem mt_lcountF {X : Cx} {K : PySem.W.Frag} (e : X.K = K) : MtR X "list.count" (rCntF K) := by
  subst e
  intro pins s σ H x xs v us Q I rx rxs h
  obtain ⟨p, ys, k, rfl, rfl, hs, fk, fy, q⟩ := h
  cases rx
  obtain ⟨u, rfl, ru⟩ := rxs.one
  obtain ⟨its, rv, ⟨⟨cls, dd, data, sl⟩, n, ho, hc, hdn, hd⟩, hlen⟩ := I.list hs
  simp only at hc hd
  subst hc hd
  refine call_meets PySem.F.slot_list_count ⟨_, ho, rfl⟩ PySem.F.entry_list_count (PySem.F.args_list_count_2 _ _)
    (SeqAt.list_countAt p its.toArray n dd sl u (eqU k)) ⟨ho, fun y hy => mem_eqAt ru fk rv fy y (by simpa using hy), ?_⟩
  have ec : its.toArray.toList.countP (eqU k) = ys.countP fun y => eqV y k := countP_eqU rv fy
  refine ⟨.int ((ys.countP fun y => eqV y k : Nat) : Int), H, I.tok _, ⟨s.toks, ?_⟩, q⟩
  show Value.int ((its.toArray.toList.countP (eqU k) : Nat) : Int) s.toks = Value.int ((ys.countP fun y => eqV y k : Nat) : Int) s.toks
  rw [ec]
/-! ### givers and lacks -/
/-! a new tuple whose object is known, and its methods -/
/-- the takers, as an object that is known -/
def TkAt (ns : List Int) (H : Hp) (t : Addr) : Prop := ∃ ob : Obj, H t = some (.frz ob (.tup ((tkL ns).map optV))) ∧ ob.cls = .type "tuple" ∧ ob.dict = none
theorem TkAt.same {ns : List Int} {H H' : Hp} {t : Addr} (h : TkAt ns H t) (e : Same H H') : TkAt ns H' t := by
  obtain ⟨ob, h1, h2⟩ := h
  exact ⟨ob, e _ _ h1, h2⟩
theorem TkAt.seq {ns : List Int} {H : Hp} {t : Addr} {K : PySem.W.Frag} (h : TkAt ns H t) : SqT K H t ((tkL ns).map optV) := by
  obtain ⟨ob, h1, h2⟩ := h
  exact .inl (.inr ⟨ob, h1⟩)
end My
namespace My
open PySem PySem.Spec PyProof.Rows L2
end My

namespace My
open PySem PySem.Spec PyProof.Rows L2
/-! ### beginnings stand behind free tokens -/
/-! the takers of a turned ring -/
theorem ar_rot {ns : List Int} {o : Nat} (ho : o < ns.length) (k : Nat) : ar (rot ns o) k = ar ns (o + k) := by
  have l := rot_len ns o (by omega)
  have hk := Nat.mod_lt k (show 0 < ns.length by omega)
  unfold ar
  rw [l, List.getD_eq_getElem?_getD, List.getD_eq_getElem?_getD, rot_get ho hk, Nat.add_mod_mod]
theorem Sh_rot {ns : List Int} {o : Nat} (ho : o < ns.length) : ∀ k, Sh (rot ns o) k = Sh ns (o + k) - Sh ns o
  | 0 => by
    rw [Nat.add_zero, Int.sub_self]
    rfl
  | k + 1 => by
    show Sh (rot ns o) k + 1 - ar (rot ns o) k = Sh ns (o + k) + 1 - ar ns (o + k) - Sh ns o
    rw [Sh_rot ho k, ar_rot ho]
    omega
end My
namespace My
open PySem PySem.Spec PyProof.Rows L2
end My

namespace My
open PySem PySem.Spec PyProof.Rows L2
/-! ### building values: an expression that gives a value of some kind, whatever the heap, as long as what stood there stands -/
/-- the stream, drawn from at most t times -/
def St0 (S A B : Addr) (t : Nat) (H : Hp) : Prop := ∃ t', t' ≤ t ∧ Strm H S A B t'
/-- a kind of values that stays while the stream is drawn from -/
class MoV (S A : Addr) (P : Hp → V → Prop) : Prop where
  x : ∀ {H H' : Hp} {v : V}, P H v → SameX S A H H' → P H' v
section
variable {K : PySem.W.Frag} {S A B : Addr} {H0 : Hp} {σ : L2.St} {n m k j : Nat} {P R : Hp → V → Prop} {t u : TE} {ta : TA}
theorem St0.same {H H' : Hp} (h : St0 S A B n H) (e : Same H H') : St0 S A B n H' := by
  obtain ⟨t', h1, h2⟩ := h
  exact ⟨t', h1, h2.same e⟩
theorem St0.mono {H : Hp} (h : St0 S A B n H) (e : n ≤ m) : St0 S A B m H := by
  obtain ⟨t', h1, h2⟩ := h
  exact ⟨t', Nat.le_trans h1 e, h2⟩
theorem Strm.st0 {H : Hp} (h : Strm H S A B n) : St0 S A B n H := ⟨n, Nat.le_refl _, h⟩
instance moOdd : MoV S A (Odd K S A) := ⟨fun h e => h.x e⟩
instance moVl : MoV S A (Vl K S A n) := ⟨fun h e => h.x e⟩
instance moOd2 : MoV S A (Od2 K S A) := ⟨fun h e => h.x e⟩
def Gv (S A B : Addr) (H0 : Hp) (σ : L2.St) (k : Nat) (t : TE) (P : Hp → V → Prop) : Prop :=
  ∀ (H : Hp) (n : Nat) (Q : VK), SameX S A H0 H → St0 S A B n H → n + k ≤ 800000000 → (∀ H' v, SameX S A H H' → St0 S A B (n + k) H' → P H' v → Q v H') → t σ H Q
def AllV (P : Hp → V → Prop) (n : Nat) (H : Hp) (vs : List V) : Prop := vs.length = n ∧ ∀ v ∈ vs, P H v
def GvA (S A B : Addr) (H0 : Hp) (σ : L2.St) (k : Nat) (ta : TA) (P : Hp → List V → Prop) : Prop :=
  ∀ (H : Hp) (n : Nat) (Q : List V → Hp → Prop), SameX S A H0 H → St0 S A B n H → n + k ≤ 800000000 → (∀ H' vs, SameX S A H H' → St0 S A B (n + k) H' → P H' vs → Q vs H') → ta σ H Q
theorem Gv.imp (g : Gv S A B H0 σ k t P) (h : ∀ H v, P H v → R H v) : Gv S A B H0 σ k t R := fun H n Q sx st hn q => g H n Q sx st hn fun H' v s' st' p => q H' v s' st' (h H' v p)
/-- a list -/
def Lof (S A : Addr) (P : Hp → V → Prop) (n : Nat) (H : Hp) (v : V) : Prop := ∃ (l : Addr) (xs : List V), v = .ref l ∧ H l = some (.lst xs) ∧ l ≠ S ∧ l ≠ A ∧ xs.length = n ∧ ∀ x ∈ xs, P H x
instance moLof [MoV S A P] : MoV S A (Lof S A P n) := ⟨fun h e => by
  obtain ⟨l, xs, e1, h1, n1, n2, h2, h3⟩ := h
  exact ⟨l, xs, e1, e _ _ h1 n1 n2, n1, n2, h2, fun x hx => MoV.x (S := S) (A := A) (P := P) (h3 x hx) e⟩⟩
end
end My

namespace My
open PySem PySem.Spec PyProof.Rows L2
/-! ### texts of whole numbers; small whole numbers; one tuple of them in another -/
theorem fit_itext {i : Int} (h : i.natAbs < 10 ^ 30) : Fit 100 10 (.str (Str.ofString (toString i))) := by
  have e1 : (toString i).length ≤ 31 := int_text_length_le10 (by decide) h
  refine ⟨rfl, ?_, ?_, Nat.zero_le _⟩
  · show List.all _ _ = true
    rw [List.all_eq_true]
    intro c hc
    refine decide_eq_true (Decidable.byContradiction fun z => ?_)
    exact int_text_free' c ⟨by omega, by omega⟩ i hc
  · show (Str.ofString (toString i)).length ≤ 100
    rw [PySem.ofString_length]
    omega
/-- a small whole number -/
def SmI : Hp → V → Prop := fun _ v => ∃ i : Int, v = .int i ∧ i.natAbs < 10 ^ 30
section
variable {K : PySem.W.Frag} {S A B : Addr} {H0 : Hp} {σ : L2.St} {n m k j : Nat} {t u : TE} {ta : TA}
instance moSmI : MoV S A SmI := ⟨fun h _ => h⟩
end
end My

namespace My
open PySem PySem.Spec PyProof.Rows L2
/-! ### reading once from a beginning -/
theorem Tk.up {ns : List Int} {j i : Nat} : Tk ns j i ↔ Tk ns (j + ns.length) (i + ns.length) := by
  have e : ∀ k, Sh ns (k + ns.length + 1) = Sh ns (k + 1) + bal ns := fun k => by
    rw [show k + ns.length + 1 = (k + 1) + ns.length by omega, Sh_round]
  unfold Tk
  constructor
  · rintro ⟨h1, h2, h3⟩
    refine ⟨by omega, by rw [e, e]; omega, fun m m1 m2 => ?_⟩
    have := h3 (m - ns.length) (by omega) (by omega)
    have e2 := e (m - ns.length)
    rw [show m - ns.length + ns.length = m by omega] at e2
    rw [e, e2]
    omega
  · rintro ⟨h1, h2, h3⟩
    rw [e, e] at h2
    refine ⟨by omega, by omega, fun m m1 m2 => ?_⟩
    have := h3 (m + ns.length) (by omega) (by omega)
    rw [e, e] at this
    omega
theorem Tk.rot {ns : List Int} {b j i : Nat} (hb : b < ns.length) : Tk (rot ns b) j i ↔ Tk ns (b + j) (b + i) := by
  have e : ∀ k, Sh (My.rot ns b) (k + 1) = Sh ns (b + k + 1) - Sh ns b := fun k => by rw [Sh_rot hb, Nat.add_assoc]
  unfold Tk
  constructor
  · rintro ⟨h1, h2, h3⟩
    rw [e, e] at h2
    refine ⟨by omega, by omega, fun m m1 m2 => ?_⟩
    have := h3 (m - b) (by omega) (by omega)
    rw [e, e, show b + (m - b) + 1 = m + 1 by omega] at this
    omega
  · rintro ⟨h1, h2, h3⟩
    refine ⟨by omega, by rw [e, e]; omega, fun m m1 m2 => ?_⟩
    have := h3 (b + m) (by omega) (by omega)
    rw [e, e]
    omega
end My

namespace My
open PySem PySem.Spec PyProof.Rows L2
theorem sqT_x {K : PySem.W.Frag} {S A B : Addr} {t : Nat} {H H' : Hp} {a : Addr} {xs : List V} (st : Strm H S A B t) (sx : SameX S A H H') (h : SqT K H a xs) : SqT K H' a xs := by
  obtain ⟨as, ha, _⟩ := id st.a
  have key : ∀ o : HO, H a = some o → (∀ ys, o ≠ .lst ys) → H' a = some o := fun o e n => sx _ _ e (fun z => by
    rw [z, st.s] at e
    exact n _ (Option.some.inj e).symm) (fun z => by
    rw [z, ha] at e
    exact n _ (Option.some.inj e).symm)
  rcases h with (h | ⟨ob, h⟩) | h
  · exact .inl (.inl (key _ h (fun ys z => nomatch z)))
  · exact .inl (.inr ⟨ob, key _ h (fun ys z => nomatch z)⟩)
  · exact .inr h
/-! ### rows of rows -/
structure Rws (K : PySem.W.Frag) (H : Hp) (as : List Addr) (rs : List (List Int)) : Prop where
  len : as.length = rs.length
  at_ : ∀ (k : Nat) (a : Addr) (r : List Int), as[k]? = some a → rs[k]? = some r → TupI K H a r
theorem Rws.same {K : PySem.W.Frag} {H H' : Hp} {as : List Addr} {rs : List (List Int)} (h : Rws K H as rs) (e : Same H H') : Rws K H' as rs := ⟨h.len, fun k a r h1 h2 => same_seqT e (h.at_ k a r h1 h2)⟩
theorem Rws.x {K : PySem.W.Frag} {S A B : Addr} {t : Nat} {H H' : Hp} {as : List Addr} {rs : List (List Int)} (h : Rws K H as rs) (st : Strm H S A B t) (e : SameX S A H H') : Rws K H' as rs := ⟨h.len, fun k a r h1 h2 => sqT_x st e (h.at_ k a r h1 h2)⟩
theorem Rws.get {K : PySem.W.Frag} {H : Hp} {as : List Addr} {rs : List (List Int)} (h : Rws K H as rs) {k : Nat} {a : Addr} (e : as[k]? = some a) : ∃ r, rs[k]? = some r ∧ TupI K H a r := by
  have hk := (List.getElem?_eq_some_iff.mp e).1
  obtain ⟨r, hr⟩ : ∃ r, rs[k]? = some r := ⟨_, List.getElem?_eq_getElem (by rw [← h.len]; exact hk)⟩
  exact ⟨r, hr, h.at_ k a r e hr⟩
theorem Rws.nil {K : PySem.W.Frag} {H : Hp} : Rws K H [] [] := ⟨rfl, fun _ _ _ z => nomatch z⟩
theorem Rws.upd {K : PySem.W.Frag} {H : Hp} {as : List Addr} {rs : List (List Int)} (h : Rws K H as rs) {d : Addr} {ys : List V} {o : HO} (hd : H d = some (.lst ys)) : Rws K (L2.upd H d o) as rs := ⟨h.len, fun k a r h1 h2 => sqT_upd (h.at_ k a r h1 h2) hd⟩
end My
namespace L2
open PySem PySem.Spec PyProof.Rows
/-! ### xs[-3::-1] of a list of two items or more -/
section
variable {X : Cx}
end
end L2

namespace L2
open PySem PySem.Spec PyProof.Rows
/-! ### xs.extend(t), t a tuple whatever else its object holds -/
/-! ### xs.extend(t), t a tuple -/
end L2
namespace My
open PySem PySem.Spec PyProof.Rows L2
/-! ### ready rows, one after the other -/
def Rdy (r : List Int) : Prop := 0 < r.length ∧ nd r 0 = 0
theorem Rdy.win {r : List Int} (h : Rdy r) : ∀ k, k < r.length → 0 < Sh r (k + 1) := fun k hk => by
  have := (nd_zero_win r 0 h.1).mp h.2 k hk
  rw [Nat.zero_add] at this
  exact this
theorem Rdy.bal {r : List Int} (h : Rdy r) : 0 < bal r := by
  have := h.win (r.length - 1) (by have := h.1; omega)
  rw [show r.length - 1 + 1 = r.length by have := h.1; omega, Sh_all] at this
  exact this
theorem Rws.take {K : PySem.W.Frag} {H : Hp} {as : List Addr} {rs : List (List Int)} (h : Rws K H as rs) (n : Nat) : Rws K H (as.take n) (rs.take n) := by
  refine ⟨by rw [List.length_take, List.length_take, h.len], fun k a r h1 h2 => ?_⟩
  have k1 : k < (as.take n).length := (List.getElem?_eq_some_iff.mp h1).1
  rw [List.length_take] at k1
  rw [List.getElem?_take_of_lt (by omega)] at h1 h2
  exact h.at_ _ a r h1 h2
theorem Rws.drop {K : PySem.W.Frag} {H : Hp} {as : List Addr} {rs : List (List Int)} (h : Rws K H as rs) (n : Nat) : Rws K H (as.drop n) (rs.drop n) := by
  refine ⟨by rw [List.length_drop, List.length_drop, h.len], fun k a r h1 h2 => ?_⟩
  rw [List.getElem?_drop] at h1 h2
  exact h.at_ _ a r h1 h2
end My

/-! ### the block of the guide's own-error skeleton, for any class over any built-in base whose __init__ stores the field row -/
namespace PySem
namespace Xf_row
open PySem.W PySem.Calls PyProof.Rows PySem.HandSPX
def iA (p1 p2 : Pos) : Arguments := { posonlyargs := [], args := [{ arg := "self", annotation := none, pos := p1 }, { arg := "row", annotation := none, pos := p2 }], vararg := none, kwonlyargs := [], kw_defaults := [], kwarg := none, defaults := [] }
def iB (q1 q2 q3 q4 : Pos) : List Stmt := [.Assign [.Attribute (.Name "self" q1) "row" q2] (.Name "row" q3) q4]
def iS : Scope := { kind := .function, names := [(PySem.Str.ofString "self", .local), (PySem.Str.ofString "row", .local)], isGenerator := false, isCoroutine := false, more := [] }
/-- what the written part says of the class x at C and of its __init__ at fI -/
structure Txt (K : Frag) (mg : Str → Option Value) (x q : Str) (C fI : Addr) (newId : String) (bmB : List Value) : Prop where
  gC : mg x = some (.ref C)
  mkr : excInitIn K C bmB newId = true
  ov : excOver K C bmB = true
  tk : takerIn K C "row" = some none
  sa : findIn K (.ref C) "__setattr__" = some (some (.builtin "object.__setattr__"))
  ga : findIn K (.ref C) "__getattribute__" = some (some (.builtin "BaseException.__getattribute__"))
  gg : findIn K (.ref C) "__getattr__" = some none
  noN : findIn K (.ref C) "row" = some none
  iC : findIn K (.ref C) "__init__" = some (some (.ref fI))
  tC : typeIn K (.ref fI) = some (.type "function")
  kC : keepIn K (.ref C) = true
  exC : subIn K (.ref C) (.type "BaseException") = some true
  tyC : typeIn K (.ref C) = some (.type "type")
  hdC : hasDictIn K C = true
  te : exmOne K (.ref C) (.ref C) = some true
  fn : ∃ (p1 p2 q1 q2 q3 q4 : Pos) (fd : FuncData), L2.FunD K "__init__" q (iA p1 p2) (iB q1 q2 q3 q4) iS [] [] fI fd
theorem one_size (v : Value) : [v].length ≤ sizeLine := by
  rw [sizeLine_eq]
  exact (by decide : 1 ≤ 16777216)
theorem ldC {M : Model} {s : Shared} {name : Str} {scope : Scope} {L a : Addr} {cd : Value} {m : Str → Option Value} {x : Str} {pos : Pos} {v : Value} {Q : Value → Shared → Prop} {A : Around} {E : Value → Shared → Prop} (hn : s.heap.Ns L m) (hv : m x = some v) (h : Q v s)
    (hk : scope.kind = .function := by rfl) (hl : (envOfC name scope L a cd).kindOf x = some .local := by rfl) (hd : (x == ("__debug__" : Str)) = false := by decide) :
    wpAny M A (eval (.Name x pos) (envOfC name scope L a cd)) Q E s := wpAny_Name (wpAny_loadName_local hk hl hn hv h) hd
/-- what __init__ leaves of a fresh error at x -/
structure InitEnd (h h' : Heap) (x C dx t1 : Addr) (v : Value) : Prop where
  keep : ∀ b o, b ≠ x → h.get? b = some o → h'.get? b = some o
  obj : h'.get? x = some { cls := .ref C, dict := some dx, data := .fields #[.ref t1, .none, .none, .none, .bool false, .none] }
  dbig : h.objs.size ≤ dx
  dne : dx ≠ x
  ns : h'.Ns1 dx (fun y => if y = "row" then some v else none)
/-- a made error -/
structure OwnMade (h h' : Heap) (e C d : Addr) (v : Value) : Prop where
  keep : ∀ b o, h.get? b = some o → h'.get? b = some o
  new : h.objs.size ≤ e
  obj : ∃ oe vs, h'.get? e = some oe ∧ oe.cls = .ref C ∧ oe.dict = some d ∧ oe.data = .fields vs ∧ vs[1]? = some .none
  dbig : h.objs.size ≤ d
  dne : d ≠ e
  ns : h'.Ns1 d (fun y => if y = "row" then some v else none)
section
variable {prog : Program} {w : World} {A : Around} {E : Value → Shared → Prop} {R : Result → Shared → Prop} {s : Shared} {K : Frag} {mg : Str → Option Value} {C fI : Addr} {x0 q0 : Str} {B newId initId : String} {bmB : List Value}
theorem init_end (SF : StoreFacts B bmB "object.__setattr__" "object") (T : Txt K mg x0 q0 C fI newId bmB) {x t0 : Addr} {v : Value} (X : K.In s.heap) (hlim : s.heap.NoLimit) (hx : s.heap.get? x = some (excO C t0)) (hroom : A.depth < recursionLimit)
    (hq : ∀ h' tk dx, InitEnd s.heap h' x C dx t0 v → R (.ok (.ret .none)) { s with heap := h', toks := tk }) :
    codeAny (model prog w) A (.call (.ref fI) ⟨[.ref x, v], []⟩) R s := by
  obtain ⟨p1, p2, q1, q2, q3, q4, fd, F⟩ := T.fn
  obtain ⟨oc, od, dV, kV, doc, pm, an, cdv, ct, osl, rfl, ho, hcd, hdv, _⟩ := F.ex
  have e0 : dV = .none := by
    rcases hdv with ⟨_, e⟩ | ⟨e, _⟩
    · exact e
    · exact absurd rfl e
  subst e0
  refine Att.call_fn (binds := [("self", .ref x), ("row", v)]) X hlim ho hcd hroom (BindsTo.of_eq (by first | rfl | with_unfolding_all rfl)) (by first | rfl | decide | with_unfolding_all rfl) (fun s₁ IC => ?_) rfl rfl rfl
  obtain ⟨h₁, tk₁, rfl⟩ := IC.toInCall.same
  have k : ∀ b o, s.heap.get? b = some o → h₁.get? b = some o := IC.toInCall.keep
  have hn := IC.toInCall.ns
  have X₁ : K.In h₁ := X.keeps k
  have hx₁ := k _ _ hx
  show wpAny _ _ (execs _ _) _ _ _
  refine wpAny_execs_cons (plainObj_wpAny_Assign_Attribute ?_)
  refine ldC (v := v) hn (by first | rfl | with_unfolding_all rfl | kernel_rfl) (ldC (v := .ref x) hn (by first | rfl | with_unfolding_all rfl | kernel_rfl) ?_)
  refine set_plain X₁ (ox := excO C t0) (od := none) ⟨hx₁, rfl, rfl, trivial⟩ T.sa ?_
  refine PySem.NX.osaB SF X₁ hx₁ T.ov T.tk T.hdC (fun h₃ tk₃ dx k₃ dn dne hx₃ hn₃ => ?_)
  show wpAny _ _ (execs _ _) _ _ _
  have z : s.heap.objs.size < h₁.objs.size := hn.lt
  exact wpAny_execs_nil (hq h₃ tk₃ dx ⟨fun b o hb e => k₃ b o hb (k b o e), hx₃, Nat.le_of_lt (Nat.lt_of_lt_of_le z dn), dne, hn₃⟩)
theorem made (FB : ExcBaseFacts B newId initId bmB) (SF : StoreFacts B bmB "object.__setattr__" "object") (T : Txt K mg x0 q0 C fI newId bmB) {v : Value} (X : K.In s.heap) (hlim : s.heap.NoLimit) (hroom : A.depth + 1 < recursionLimit)
    (hq : ∀ h' tk e d, OwnMade s.heap h' e C d v → R (.ok (.ret (.ref e))) { s with heap := h', toks := tk }) :
    codeAny (model prog w) A (.call (.ref C) ⟨[v], []⟩) R s := by
  obtain ⟨nm, N, q, bs, bm, hdct, sn, sub, ab, col, dd, k0, k1, k2, k3, k5, hC, hbm⟩ := excInit_of X T.mkr
  obtain ⟨hp, g, dr, tk, os⟩ := s
  have k : ∀ b o, hp.get? b = some o → ((hp.push (kdv_tup [v])).push (excO C hp.objs.size)).get? b = some o := fun b o e => Heap.get?_push_of_some _ (Heap.get?_push_of_some _ e)
  have hget : ((hp.push (kdv_tup [v])).push (excO C hp.objs.size)).get? (hp.objs.size + 1) = some (excO C hp.objs.size) := by heap_get
  refine call_own FB hbm hC (looks_findIn X T.iC) (fun self => bind_fn X self T.tC) (one_size v) ?_
  refine init_end (s := ⟨(hp.push (kdv_tup [v])).push (excO C hp.objs.size), g, dr, tk, os⟩) SF T (X.keeps k) (hlim.keeps k) hget ?_ fun h' tk' dx ⟨k', hx, dn, dne, hns⟩ => ?_
  · show A.depth + 1 < recursionLimit
    exact hroom
  · have old : ∀ b o, hp.get? b = some o → h'.get? b = some o := fun b o e => k' b o (Nat.ne_of_lt (Nat.lt_succ_of_lt (Heap.lt_size e))) (k b o e)
    have z : hp.objs.size + 1 + 1 ≤ dx := by
      first
        | (simpa only [Heap.size_push] using dn)
        | exact dn
        | (have q := dn; rw [Heap.size_push, Heap.size_push] at q; exact q)
    exact ⟨rfl, hq h' tk' (hp.objs.size + 1) dx ⟨old, Nat.le_succ _, ⟨_, _, hx, rfl, rfl, rfl, rfl⟩, Nat.le_trans (Nat.le_trans (Nat.le_succ _) (Nat.le_succ _)) z, dne, hns⟩⟩
end
end Xf_row
end PySem
namespace L2
open PySem PySem.Spec PyProof.Rows
section
variable {X : Cx} {C fI : Addr} {x0 q0 : Str} {B newId initId : String} {bmB : List Value}
end
end L2
namespace My
open PySem PySem.Spec PyProof.Rows L2
end My

/-! ### the block of the guide's own-error skeleton, for any class over any built-in base whose __init__ stores the field limit -/
namespace PySem
namespace Xf_limit
open PySem.W PySem.Calls PyProof.Rows PySem.HandSPX
def iA (p1 p2 : Pos) : Arguments := { posonlyargs := [], args := [{ arg := "self", annotation := none, pos := p1 }, { arg := "limit", annotation := none, pos := p2 }], vararg := none, kwonlyargs := [], kw_defaults := [], kwarg := none, defaults := [] }
def iB (q1 q2 q3 q4 : Pos) : List Stmt := [.Assign [.Attribute (.Name "self" q1) "limit" q2] (.Name "limit" q3) q4]
def iS : Scope := { kind := .function, names := [(PySem.Str.ofString "self", .local), (PySem.Str.ofString "limit", .local)], isGenerator := false, isCoroutine := false, more := [] }
/-- what the written part says of the class x at C and of its __init__ at fI -/
structure Txt (K : Frag) (mg : Str → Option Value) (x q : Str) (C fI : Addr) (newId : String) (bmB : List Value) : Prop where
  gC : mg x = some (.ref C)
  mkr : excInitIn K C bmB newId = true
  ov : excOver K C bmB = true
  tk : takerIn K C "limit" = some none
  sa : findIn K (.ref C) "__setattr__" = some (some (.builtin "object.__setattr__"))
  ga : findIn K (.ref C) "__getattribute__" = some (some (.builtin "BaseException.__getattribute__"))
  gg : findIn K (.ref C) "__getattr__" = some none
  noN : findIn K (.ref C) "limit" = some none
  iC : findIn K (.ref C) "__init__" = some (some (.ref fI))
  tC : typeIn K (.ref fI) = some (.type "function")
  kC : keepIn K (.ref C) = true
  exC : subIn K (.ref C) (.type "BaseException") = some true
  tyC : typeIn K (.ref C) = some (.type "type")
  hdC : hasDictIn K C = true
  te : exmOne K (.ref C) (.ref C) = some true
  fn : ∃ (p1 p2 q1 q2 q3 q4 : Pos) (fd : FuncData), L2.FunD K "__init__" q (iA p1 p2) (iB q1 q2 q3 q4) iS [] [] fI fd
theorem one_size (v : Value) : [v].length ≤ sizeLine := by
  rw [sizeLine_eq]
  exact (by decide : 1 ≤ 16777216)
theorem ldC {M : Model} {s : Shared} {name : Str} {scope : Scope} {L a : Addr} {cd : Value} {m : Str → Option Value} {x : Str} {pos : Pos} {v : Value} {Q : Value → Shared → Prop} {A : Around} {E : Value → Shared → Prop} (hn : s.heap.Ns L m) (hv : m x = some v) (h : Q v s)
    (hk : scope.kind = .function := by rfl) (hl : (envOfC name scope L a cd).kindOf x = some .local := by rfl) (hd : (x == ("__debug__" : Str)) = false := by decide) :
    wpAny M A (eval (.Name x pos) (envOfC name scope L a cd)) Q E s := wpAny_Name (wpAny_loadName_local hk hl hn hv h) hd
/-- what __init__ leaves of a fresh error at x -/
structure InitEnd (h h' : Heap) (x C dx t1 : Addr) (v : Value) : Prop where
  keep : ∀ b o, b ≠ x → h.get? b = some o → h'.get? b = some o
  obj : h'.get? x = some { cls := .ref C, dict := some dx, data := .fields #[.ref t1, .none, .none, .none, .bool false, .none] }
  dbig : h.objs.size ≤ dx
  dne : dx ≠ x
  ns : h'.Ns1 dx (fun y => if y = "limit" then some v else none)
/-- a made error -/
structure OwnMade (h h' : Heap) (e C d : Addr) (v : Value) : Prop where
  keep : ∀ b o, h.get? b = some o → h'.get? b = some o
  new : h.objs.size ≤ e
  obj : ∃ oe vs, h'.get? e = some oe ∧ oe.cls = .ref C ∧ oe.dict = some d ∧ oe.data = .fields vs ∧ vs[1]? = some .none
  dbig : h.objs.size ≤ d
  dne : d ≠ e
  ns : h'.Ns1 d (fun y => if y = "limit" then some v else none)
section
variable {prog : Program} {w : World} {A : Around} {E : Value → Shared → Prop} {R : Result → Shared → Prop} {s : Shared} {K : Frag} {mg : Str → Option Value} {C fI : Addr} {x0 q0 : Str} {B newId initId : String} {bmB : List Value}
theorem init_end (SF : StoreFacts B bmB "object.__setattr__" "object") (T : Txt K mg x0 q0 C fI newId bmB) {x t0 : Addr} {v : Value} (X : K.In s.heap) (hlim : s.heap.NoLimit) (hx : s.heap.get? x = some (excO C t0)) (hroom : A.depth < recursionLimit)
    (hq : ∀ h' tk dx, InitEnd s.heap h' x C dx t0 v → R (.ok (.ret .none)) { s with heap := h', toks := tk }) :
    codeAny (model prog w) A (.call (.ref fI) ⟨[.ref x, v], []⟩) R s := by
  obtain ⟨p1, p2, q1, q2, q3, q4, fd, F⟩ := T.fn
  obtain ⟨oc, od, dV, kV, doc, pm, an, cdv, ct, osl, rfl, ho, hcd, hdv, _⟩ := F.ex
  have e0 : dV = .none := by
    rcases hdv with ⟨_, e⟩ | ⟨e, _⟩
    · exact e
    · exact absurd rfl e
  subst e0
  refine Att.call_fn (binds := [("self", .ref x), ("limit", v)]) X hlim ho hcd hroom (BindsTo.of_eq (by first | rfl | with_unfolding_all rfl)) (by first | rfl | decide | with_unfolding_all rfl) (fun s₁ IC => ?_) rfl rfl rfl
  obtain ⟨h₁, tk₁, rfl⟩ := IC.toInCall.same
  have k : ∀ b o, s.heap.get? b = some o → h₁.get? b = some o := IC.toInCall.keep
  have hn := IC.toInCall.ns
  have X₁ : K.In h₁ := X.keeps k
  have hx₁ := k _ _ hx
  show wpAny _ _ (execs _ _) _ _ _
  refine wpAny_execs_cons (plainObj_wpAny_Assign_Attribute ?_)
  refine ldC (v := v) hn (by first | rfl | with_unfolding_all rfl | kernel_rfl) (ldC (v := .ref x) hn (by first | rfl | with_unfolding_all rfl | kernel_rfl) ?_)
  refine set_plain X₁ (ox := excO C t0) (od := none) ⟨hx₁, rfl, rfl, trivial⟩ T.sa ?_
  refine PySem.NX.osaB SF X₁ hx₁ T.ov T.tk T.hdC (fun h₃ tk₃ dx k₃ dn dne hx₃ hn₃ => ?_)
  show wpAny _ _ (execs _ _) _ _ _
  have z : s.heap.objs.size < h₁.objs.size := hn.lt
  exact wpAny_execs_nil (hq h₃ tk₃ dx ⟨fun b o hb e => k₃ b o hb (k b o e), hx₃, Nat.le_of_lt (Nat.lt_of_lt_of_le z dn), dne, hn₃⟩)
theorem made (FB : ExcBaseFacts B newId initId bmB) (SF : StoreFacts B bmB "object.__setattr__" "object") (T : Txt K mg x0 q0 C fI newId bmB) {v : Value} (X : K.In s.heap) (hlim : s.heap.NoLimit) (hroom : A.depth + 1 < recursionLimit)
    (hq : ∀ h' tk e d, OwnMade s.heap h' e C d v → R (.ok (.ret (.ref e))) { s with heap := h', toks := tk }) :
    codeAny (model prog w) A (.call (.ref C) ⟨[v], []⟩) R s := by
  obtain ⟨nm, N, q, bs, bm, hdct, sn, sub, ab, col, dd, k0, k1, k2, k3, k5, hC, hbm⟩ := excInit_of X T.mkr
  obtain ⟨hp, g, dr, tk, os⟩ := s
  have k : ∀ b o, hp.get? b = some o → ((hp.push (kdv_tup [v])).push (excO C hp.objs.size)).get? b = some o := fun b o e => Heap.get?_push_of_some _ (Heap.get?_push_of_some _ e)
  have hget : ((hp.push (kdv_tup [v])).push (excO C hp.objs.size)).get? (hp.objs.size + 1) = some (excO C hp.objs.size) := by heap_get
  refine call_own FB hbm hC (looks_findIn X T.iC) (fun self => bind_fn X self T.tC) (one_size v) ?_
  refine init_end (s := ⟨(hp.push (kdv_tup [v])).push (excO C hp.objs.size), g, dr, tk, os⟩) SF T (X.keeps k) (hlim.keeps k) hget ?_ fun h' tk' dx ⟨k', hx, dn, dne, hns⟩ => ?_
  · show A.depth + 1 < recursionLimit
    exact hroom
  · have old : ∀ b o, hp.get? b = some o → h'.get? b = some o := fun b o e => k' b o (Nat.ne_of_lt (Nat.lt_succ_of_lt (Heap.lt_size e))) (k b o e)
    have z : hp.objs.size + 1 + 1 ≤ dx := by
      first
        | (simpa only [Heap.size_push] using dn)
        | exact dn
        | (have q := dn; rw [Heap.size_push, Heap.size_push] at q; exact q)
    exact ⟨rfl, hq h' tk' (hp.objs.size + 1) dx ⟨old, Nat.le_succ _, ⟨_, _, hx, rfl, rfl, rfl, rfl⟩, Nat.le_trans (Nat.le_trans (Nat.le_succ _) (Nat.le_succ _)) z, dne, hns⟩⟩
end
end Xf_limit
end PySem
namespace L2
open PySem PySem.Spec PyProof.Rows
section
variable {X : Cx} {C fI : Addr} {x0 q0 : Str} {B newId initId : String} {bmB : List Value}
end
end L2
namespace My
open PySem PySem.Spec PyProof.Rows L2
end My

namespace My
open PySem PySem.Spec PyProof.Rows L2
/-! ### errors of no field -/
section
variable {X : Cx} {C : Addr} {bmB : List Value} {B newId initId : String}
end
/-! ### isinstance of a held error, with a dict or without -/
section
variable {X : Cx} {a : Addr} {oe : Obj} {cls : Value} {d : Option Addr} {pn : List (Addr × Obj)}
def HasD (H : Hp) (d : Option Addr) : Prop := d = none ∨ ∃ dd fs, d = some dd ∧ H dd = some (.xd fs)
theorem HasD.same {H H' : Hp} {d : Option Addr} (h : HasD H d) (e : Same H H') : HasD H' d := by
  rcases h with h | ⟨dd, fs, h1, h2⟩
  · exact .inl h
  · exact .inr ⟨dd, fs, h1, e _ _ h2⟩
def rIsT2 (K : PySem.W.Frag) (cls : Value) (d : Option Addr) (a : Addr) : List V → Hp → VK → Prop := fun xs H Q => ∃ (D tp : Addr) (cs : List V) (us : List Value) (b : Bool),
  xs = [.ref a, .ref tp] ∧ cls = .ref D ∧ ClsE K D ∧ HasD H d ∧ H tp = some (.tup cs) ∧ Paired ClsV cs us ∧ PySem.W.kitAny K (.ref D) us = some b ∧ Q (.bl b) H
def rIsO2 (K : PySem.W.Frag) (cls : Value) (d : Option Addr) (a : Addr) : List V → Hp → VK → Prop := fun xs H Q => ∃ (D : Addr) (c : V) (u : Value) (b : Bool),
  xs = [.ref a, c] ∧ cls = .ref D ∧ ClsE K D ∧ HasD H d ∧ ClsV c u ∧ PySem.W.kitOne K (.ref D) u = some b ∧ Q (.bl b) H
end
/-! ### a call of a def that takes any number of arguments, where it may raise -/
section
variable {X : Cx} {CX : CXT} {k : Nat} {sp : Sp} {E : L2.St → XK} {x : Str} {p pos : Pos} {e : Expr} {es : List Expr} {t : TA}
end
/-- a call of a def with so many arguments, where it may raise into a handler -/
theorem calXS {X : Cx} {CX : CXT} {k : Nat} {ps : List Str} {sp : Sp} {E : L2.St → XK} {x : Str} {p pos : Pos} {e : Expr} {es : List Expr} {t : TA} (O : Ok X.prog X.w X.K X.mg X.base CX k x ps sp) (hr : Room k X.A) (hx : ∀ σ, PassesAt CX X σ (E σ)) (ha : PA X (e :: es) t) (hg : Gl X x := by rfl)
    (hdb : (x == ("__debug__" : Str)) = false := by decide)
    (he : starEach (e :: es) X.env = (false, eval e X.env) :: starEach es X.env := by rfl) (hpl : (backTo pos (starEach es X.env)).any (·.1) = false := by rfl) :
    PE X (.Call (.Name x p) (e :: es) [] pos) (tCallS sp E t) := by
  obtain ⟨fd, F, b, kp, m⟩ := O
  exact pe_callS F hr hg m kp b hx ha hdb he hpl
end My

namespace My
open PySem PySem.Spec PyProof.Rows L2
/-! ### trees -/
inductive Tr
  | nd : List Tr → Tr
mutual
def Tr.row : Tr → List Int
  | .nd cs => Tr.rowL cs ++ [(cs.length : Int)]
def Tr.rowL : List Tr → List Int
  | [] => []
  | c :: cs => Tr.row c ++ Tr.rowL cs
end
mutual
def Tr.dat : Tr → PyData
  | .nd cs => .tuple (Tr.datL cs)
def Tr.datL : List Tr → List PyData
  | [] => []
  | c :: cs => Tr.dat c :: Tr.datL cs
end
/-! ### trees in the heap -/
mutual
inductive TrAt (K : PySem.W.Frag) (H : Hp) : V → Tr → Prop
  | nd {a : Addr} {xs : List V} {cs : List Tr} : SqT K H a xs → TrsAt K H xs cs → TrAt K H (.ref a) (.nd cs)
inductive TrsAt (K : PySem.W.Frag) (H : Hp) : List V → List Tr → Prop
  | nil : TrsAt K H [] []
  | cons {x : V} {t : Tr} {xs : List V} {ts : List Tr} : TrAt K H x t → TrsAt K H xs ts → TrsAt K H (x :: xs) (t :: ts)
end
mutual
theorem TrAt.tr {K : PySem.W.Frag} {H H' : Hp} (e : ∀ a xs, SqT K H a xs → SqT K H' a xs) : ∀ {v : V} {t : Tr}, TrAt K H v t → TrAt K H' v t
  | _, _, .nd h1 h2 => .nd (e _ _ h1) (TrsAt.tr e h2)
theorem TrsAt.tr {K : PySem.W.Frag} {H H' : Hp} (e : ∀ a xs, SqT K H a xs → SqT K H' a xs) : ∀ {vs : List V} {ts : List Tr}, TrsAt K H vs ts → TrsAt K H' vs ts
  | _, _, .nil => .nil
  | _, _, .cons h1 h2 => .cons (TrAt.tr e h1) (TrsAt.tr e h2)
end
section
variable {K : PySem.W.Frag} {H H' : Hp} {v : V} {t : Tr} {xs ys : List V} {ts us : List Tr} {S A B : Addr} {n : Nat}
theorem TrAt.same (h : TrAt K H v t) (e : Same H H') : TrAt K H' v t := TrAt.tr (fun _ _ => same_seqT e) h
theorem TrsAt.same (h : TrsAt K H xs ts) (e : Same H H') : TrsAt K H' xs ts := TrsAt.tr (fun _ _ => same_seqT e) h
theorem TrAt.x (h : TrAt K H v t) (st : Strm H S A B n) (e : SameX S A H H') : TrAt K H' v t := TrAt.tr (fun _ _ => sqT_x st e) h
theorem TrsAt.x (h : TrsAt K H xs ts) (st : Strm H S A B n) (e : SameX S A H H') : TrsAt K H' xs ts := TrsAt.tr (fun _ _ => sqT_x st e) h
theorem TrAt.upd (h : TrAt K H v t) {d : Addr} {zs : List V} {o : HO} (hd : H d = some (.lst zs)) : TrAt K (L2.upd H d o) v t := TrAt.tr (fun _ _ z => sqT_upd z hd) h
theorem TrsAt.upd (h : TrsAt K H xs ts) {d : Addr} {zs : List V} {o : HO} (hd : H d = some (.lst zs)) : TrsAt K (L2.upd H d o) xs ts := TrsAt.tr (fun _ _ z => sqT_upd z hd) h
theorem TrsAt.len : ∀ {xs : List V} {ts : List Tr}, TrsAt K H xs ts → xs.length = ts.length
  | _, _, .nil => rfl
  | _, _, .cons _ h => congrArg Nat.succ (TrsAt.len h)
theorem TrsAt.get : ∀ {xs : List V} {ts : List Tr}, TrsAt K H xs ts → ∀ {k : Nat} {x : V}, xs[k]? = some x → ∃ c, ts[k]? = some c ∧ TrAt K H x c
  | _, _, .nil, k, x, e => nomatch e
  | _, _, .cons h1 h2, 0, x, e => ⟨_, rfl, by cases e; exact h1⟩
  | _, _, .cons h1 h2, k + 1, x, e => TrsAt.get h2 (k := k) e
theorem TrsAt.take : ∀ {xs : List V} {ts : List Tr}, TrsAt K H xs ts → ∀ n : Nat, TrsAt K H (xs.take n) (ts.take n)
  | _, _, _, 0 => .nil
  | _, _, .nil, _ + 1 => .nil
  | _, _, .cons h1 h2, n + 1 => .cons h1 (TrsAt.take h2 n)
theorem TrsAt.drop : ∀ {xs : List V} {ts : List Tr}, TrsAt K H xs ts → ∀ n : Nat, TrsAt K H (xs.drop n) (ts.drop n)
  | _, _, h, 0 => h
  | _, _, .nil, _ + 1 => .nil
  | _, _, .cons h1 h2, n + 1 => TrsAt.drop h2 n
end
mutual
theorem TrAt.dq {b : Bool} {K : PySem.W.Frag} {H : Hp} : ∀ {v : V} {t : Tr}, TrAt K H v t → Dq b K H v t.dat
  | _, _, .nd h1 h2 => .tup h1 (TrsAt.dq h2)
theorem TrsAt.dq {b : Bool} {K : PySem.W.Frag} {H : Hp} : ∀ {vs : List V} {ts : List Tr}, TrsAt K H vs ts → DqAll b K H vs (Tr.datL ts)
  | _, _, .nil => .nil
  | _, _, .cons h1 h2 => .cons (TrAt.dq h1) (TrsAt.dq h2)
end
/-! ### a tree that is written as lists of children -/
end My

namespace My
open PySem PySem.Spec PyProof.Rows L2
/-! ### the nodes of a tree, with their paths -/
mutual
def Tr.lst : Tr → List Int → List (List Int × Int)
  | .nd cs, p => Tr.lstL cs p 0 ++ [(p, (cs.length : Int))]
def Tr.lstL : List Tr → List Int → Nat → List (List Int × Int)
  | [], _, _ => []
  | c :: cs, p, i => Tr.lst c (p ++ [(i : Int)]) ++ Tr.lstL cs p (i + 1)
end
/-! ### in the heap -/
def NdAt (K : PySem.W.Frag) (H : Hp) (x : V) (f : List Int × Int) : Prop := ∃ a q : Addr, x = .ref a ∧ SqT K H a [.ref q, .int f.2] ∧ TupI K H q f.1
def WtAt (K : PySem.W.Frag) (H : Hp) (x : V) (f : List Int × Tr) : Prop := ∃ (a q : Addr) (v : V), x = .ref a ∧ SqT K H a [.ref q, v] ∧ TupI K H q f.1 ∧ TrAt K H v f.2
def All2 {α : Type} (R : V → α → Prop) (xs : List V) (fs : List α) : Prop := xs.length = fs.length ∧ ∀ (k : Nat) (x : V) (f : α), xs[k]? = some x → fs[k]? = some f → R x f
theorem NdAt.tr {K : PySem.W.Frag} {H H' : Hp} {x : V} {f : List Int × Int} (e : ∀ a xs, SqT K H a xs → SqT K H' a xs) (h : NdAt K H x f) : NdAt K H' x f := by
  obtain ⟨a, q, h1, h2, h3⟩ := h
  exact ⟨a, q, h1, e _ _ h2, e _ _ h3⟩
theorem WtAt.tr {K : PySem.W.Frag} {H H' : Hp} {x : V} {f : List Int × Tr} (e : ∀ a xs, SqT K H a xs → SqT K H' a xs) (h : WtAt K H x f) : WtAt K H' x f := by
  obtain ⟨a, q, v, h1, h2, h3, h4⟩ := h
  exact ⟨a, q, v, h1, e _ _ h2, e _ _ h3, TrAt.tr e h4⟩
section
variable {α : Type} {R R' : V → α → Prop} {xs : List V} {fs : List α}
theorem All2.imp (h : All2 R xs fs) (e : ∀ x f, R x f → R' x f) : All2 R' xs fs := ⟨h.1, fun k x f h1 h2 => e x f (h.2 k x f h1 h2)⟩
theorem All2.nil : All2 R [] [] := ⟨rfl, fun _ _ _ z => nomatch z⟩
theorem All2.front (h : All2 R xs fs) (n : Nat) : All2 R (xs.take n) (fs.take n) := by
  refine ⟨by rw [List.length_take, List.length_take, h.1], fun k a r h1 h2 => ?_⟩
  have k1 : k < (xs.take n).length := (List.getElem?_eq_some_iff.mp h1).1
  rw [List.length_take] at k1
  rw [List.getElem?_take_of_lt (by omega)] at h1 h2
  exact h.2 k a r h1 h2
theorem All2.back (h : All2 R xs fs) (hne : 0 < xs.length) : ∃ x f, xs = xs.dropLast ++ [x] ∧ fs = fs.dropLast ++ [f] ∧ R x f ∧ All2 R xs.dropLast fs.dropLast := by
  have hl := h.1
  have h1 : xs ≠ [] := fun z => by rw [z] at hne; exact absurd hne (Nat.lt_irrefl _)
  have h2 : fs ≠ [] := fun z => by rw [z] at hl; rw [hl] at hne; exact absurd hne (Nat.lt_irrefl _)
  refine ⟨xs.getLast h1, fs.getLast h2, (List.dropLast_concat_getLast h1).symm, (List.dropLast_concat_getLast h2).symm, ?_, ?_⟩
  · refine h.2 (xs.length - 1) _ _ ?_ ?_
    · rw [List.getLast_eq_getElem, List.getElem?_eq_getElem]
    · rw [List.getLast_eq_getElem, hl, List.getElem?_eq_getElem]
  · have e1 : xs.dropLast = xs.take (xs.length - 1) := List.dropLast_eq_take
    have e2 : fs.dropLast = fs.take (xs.length - 1) := by rw [List.dropLast_eq_take, hl]
    rw [e1, e2]
    exact h.front _
end
end My
namespace L2
open PySem PySem.Spec PyProof.Rows
end L2

namespace L2
open PySem PySem.Spec PyProof.Rows RZ
/-! ### all(list of bools) -/
/-! ### a comprehension over zip of two tuples of one length -/
end L2
namespace My
open PySem PySem.Spec PyProof.Rows L2
theorem seq_go {a b : TS} {D : Ends} {σ : L2.St} {H : Hp} (h : a { D with nx := b D } σ H) : tSeq a b D σ H := h
/-! ### lists of children in the heap -/
def Bel (H : Hp) (l : Addr) (bl : List (List Nat)) : Prop := ∃ as : List Addr, H l = some (.lst (as.map V.ref)) ∧ as.length = bl.length ∧ ∀ (j : Nat) (a : Addr) (ks : List Nat), as[j]? = some a → bl[j]? = some ks → H a = some (.lst ((ofN ks).map V.int))
theorem Bel.same {H H' : Hp} {l : Addr} {bl : List (List Nat)} (h : Bel H l bl) (e : Same H H') : Bel H' l bl := by
  obtain ⟨as, h1, h2, h3⟩ := h
  exact ⟨as, e _ _ h1, h2, fun j a ks x y => e _ _ (h3 j a ks x y)⟩
theorem Bel.get {H : Hp} {l : Addr} {bl : List (List Nat)} (h : Bel H l bl) {j : Nat} (hj : j < bl.length) : ∃ (as : List Addr) (a : Addr) (ks : List Nat), H l = some (.lst (as.map V.ref)) ∧ as[j]? = some a ∧ bl[j]? = some ks ∧ H a = some (.lst ((ofN ks).map V.int)) := by
  obtain ⟨as, h1, h2, h3⟩ := h
  exact ⟨as, as[j], bl[j], h1, List.getElem?_eq_getElem (by omega), List.getElem?_eq_getElem hj, h3 j _ _ (List.getElem?_eq_getElem (by omega)) (List.getElem?_eq_getElem hj)⟩
end My

namespace L2
open PySem PySem.Spec PyProof.Rows
/-! ### del xs[f:] of a list -/
section
variable {prog : Program} {w : World} {A : Around} {E : Value → Shared → Prop} {s : Shared}
end
end L2

namespace L2
open PySem PySem.Spec PyProof.Rows
end L2
namespace My
open PySem PySem.Spec PyProof.Rows L2
/-! ### trees built from a row, from the left -/
theorem tySq {K : PySem.W.Frag} {H : Hp} {p : Addr} {xs : List V} (h : SqT K H p xs) : ∃ t, TyX K H (.ref p) t ∧ PySem.W.kitOne K t (.type "tuple") = some true := by
  have k : PySem.W.kitOne K (.type "tuple") (.type "tuple") = some true := kit_ty (a := "tuple") (b := "tuple") (r := true) (by decide +kernel)
  rcases h with (h | ⟨o, h⟩) | ⟨o, its, n, h1, h2, _⟩
  · exact ⟨_, .base (.tup h), k⟩
  · exact ⟨_, .fTuple h, k⟩
  · exact ⟨_, .kTuple h1 h2, k⟩
end My

namespace My
open PySem PySem.Spec PyProof.Rows L2
/-! ### a def that is handed the error that a suite holds -/
abbrev SpE := Addr → Value → Option Addr → Sp
def ErrO (cls : Value) (d : Option Addr) (o : Obj) : Prop := Zc cls d o ∧ ∃ xs, o.data = .fields xs
structure FnE (P : Program) (w : World) (K : PySem.W.Frag) (mg : Str → Option Value) (base : Heap) (CX : CXT) (k : Nat) (f : Addr) (fd : FuncData) (ps : List Str) (sp : SpE) : Prop where
  len : ∀ a cls d vs H Q E, sp a cls d vs H Q E → vs.length = ps.length
  run : ∀ (p : Addr × Obj) (cls : Value) (d : Option Addr), ErrO cls d p.2 → ∀ (A : Around) (fr : List Env) (z : Shared) (H : Hp), L2H.RoomH k A → L2H.PinOk fr H z p → Env0 P w K mg base A fr z H →
    ∀ (args : Args) (us : List Value) (vs : List V) (Q : VK) (E : XK), BindsTo z fd args (ps.zip us) → Vals vs us → sp p.1 cls d vs H Q E → codeAny (model P w) A (.call (.ref f) args) (CR CX fr P w H z Q E) z
theorem fnE_of {P : Program} {w : World} {K : PySem.W.Frag} {mg : Str → Option Value} {base : Heap} {CX : CXT} {k : Nat} {x qual : Str} {pa : Arguments} {body : List Stmt} {sc : Scope} {N ps : List Str} {sp : SpE} {f : Addr} {fd : FuncData}
    (F : FunD K x qual pa body sc [] [] f fd) (S : FnScope N ps sc) (len : ∀ a cls d vs H Q E, sp a cls d vs H Q E → vs.length = ps.length)
    (hbody : ∀ (p : Addr × Obj) (cls : Value) (d : Option Addr), ErrO cls d p.2 → ∀ (cdv : Value) (A : Around) (fr : List Env) (z : Shared) (H : Hp) (vs : List V) (Q : VK) (E : XK),
      L2H.RoomH k (A.deeper (envOfC qual sc z.heap.objs.size f cdv)) → sp p.1 cls d vs H Q E →
      ∃ t, PSs (L2H.cxH CX P w K mg base N qual sc f cdv A fr z H E p) body t ∧ t { nx := fun _ H' => Q .non H', rt := Q } (L2.start N vs) H) :
    FnE P w K mg base CX (k + 1) f fd ps sp := by
  obtain ⟨oc, od, dV, kV, doc, pm, an, cdv, ct, osl, rfl, hlk, hc, _, _⟩ := F.ex
  constructor
  · exact len
  intro p cls d herr A fr z H room hp env args us vs Q E hb hv hsp
  have n1 := len _ _ _ _ _ _ _ hsp
  have hk : K.In z.heap := env.mod.kin.keeps fun b o e => (env.bs b o e).1
  have hlim : z.heap.NoLimit := env.mod.nolimit.keeps fun b o e => (env.bs b o e).1
  have kinds : ∀ y ∈ ps.zip us, sc.names.lookup y.1 = some .local ∨ (sc.names.lookup y.1 = some .cell ∧ ((cellsFrom (z.heap.objs.size + 1) sc.names []).lookup y.1).isSome = true) := by
    rintro ⟨n, v⟩ hy
    exact (S.par n (List.of_mem_zip hy).1).imp (fun q => q) fun q => ⟨q, PySem.W.cellsFrom_some _ _ _ (.inl q)⟩
  refine codeAny_call_function room.depth (hk _ _ hlk) rfl S.co S.gen rfl (PySem.W.codeRec_of hk hc) (hb _ _ _ _ ?_)
  refine wpAny_newFunctionEnv_cells S.kind kinds fun e1 he1 z1 hz1 => ?_
  subst he1
  refine ⟨hlim.keeps hz1.toInCall.keep, codeAny_func ?_⟩
  obtain ⟨t, ht, hq⟩ := hbody p cls d herr cdv A fr z H vs Q E (room.deeper _) hsp
  have st := L2H.inv_startH (CX := CX) (E := E) S hp env n1 hv hz1
  refine wpAny_mono (ht.run [] z1 (L2.start N vs) H _ st hq) (fun fl z2 h2 => ?_) fun _ _ h2 => h2
  cases fl with
  | next =>
    obtain ⟨_, H2, J, q⟩ := h2
    exact ⟨V.non, H2, J.os, J.bare, J.base, J.hok, rfl, q⟩
  | ret u =>
    obtain ⟨v, _, H2, J, rv, q⟩ := h2
    exact ⟨v, H2, J.os, J.bare, J.base, J.hok, rv, q⟩
  | brk => exact h2.elim fun _ h3 => h3.elim fun _ h4 => False.elim h4.2
  | cont => exact h2.elim fun _ h3 => h3.elim fun _ h4 => False.elim h4.2
/-- the def of the module x is handed the error -/
def OkE (P : Program) (w : World) (K : PySem.W.Frag) (mg : Str → Option Value) (base : Heap) (CX : CXT) (k : Nat) (x : Str) (ps : List Str) (sp : SpE) : Prop :=
  ∃ fd : FuncData, FnE P w K mg base CX k (He.ga K x) fd ps sp ∧ Binds K fd ps [] ∧ PySem.W.keepIn K (.ref (He.ga K x)) = true ∧ mg x = some (.ref (He.ga K x))
theorem okE_of {P : Program} {w : World} {K : PySem.W.Frag} {mg : Str → Option Value} {base : Heap} {CX : CXT} {k : Nat} {x qual : Str} {pa : Arguments} {body : List Stmt} {sc : Scope} {N ps : List Str} {sp : SpE}
    (F : ∃ fd, FunD K x qual pa body sc [] [] (He.ga K x) fd) (g : mg x = some (.ref (He.ga K x))) (S : FnScope N ps sc)
    (hb : ∀ (kV doc pm : Value) (an : Option Addr) (cdv ct : Value) (us : List Value), us.length = ps.length →
      bindArgs (PySem.W.fnOf x qual pa body sc .none kV doc pm an cdv ct) ⟨us, []⟩ = pure (ps.zip us))
    (len : ∀ a cls d vs H Q E, sp a cls d vs H Q E → vs.length = ps.length)
    (hbody : ∀ (p : Addr × Obj) (cls : Value) (d : Option Addr), ErrO cls d p.2 → ∀ (cdv : Value) (A : Around) (fr : List Env) (z : Shared) (H : Hp) (vs : List V) (Q : VK) (E : XK),
      L2H.RoomH k (A.deeper (envOfC qual sc z.heap.objs.size (He.ga K x) cdv)) → sp p.1 cls d vs H Q E →
      ∃ t, PSs (L2H.cxH CX P w K mg base N qual sc (He.ga K x) cdv A fr z H E p) body t ∧ t { nx := fun _ H' => Q .non H', rt := Q } (L2.start N vs) H) :
    OkE P w K mg base CX (k + 1) x ps sp := by
  obtain ⟨fd, F⟩ := F
  exact ⟨fd, fnE_of F S len hbody, F.bindsN hb, F.kp, g⟩
section
variable {X : Cx} {CX : CXT} {k : Nat} {ps : List Str} {sp : SpE} {E : XK} {x : Str} {q pos : Pos} {e : Expr} {es : List Expr} {t : TA} {a : Addr} {oe : Obj} {cls : Value} {d : Option Addr}
def tCallE (sp : Sp) (t : TA) : TE := fun σ H Q => t σ H fun vs H1 => sp vs H1 Q fun _ _ _ => False
theorem calE (O : OkE X.prog X.w X.K X.mg X.base CX k x ps sp) (hr : L2H.RoomH k X.A) (hx : Passes CX X fun _ _ _ => False) (hz : Zc cls d oe) (hf : ∃ vs, oe.data = .fields vs) (hm : (a, oe) ∈ X.pn) (ha : PA X (e :: es) t) (hg : Gl X x := by rfl)
    (hdb : (x == ("__debug__" : Str)) = false := by decide) (he : starEach (e :: es) X.env = (false, eval e X.env) :: starEach es X.env := by rfl) (hpl : (backTo pos (starEach es X.env)).any (·.1) = false := by rfl) :
    PE X (.Call (.Name x q) (e :: es) [] pos) (tCallE (sp a cls d) t) := by
  obtain ⟨fd, F, b, kp, m⟩ := O
  refine ⟨fun pins s σ H Q I h => ?_⟩
  refine wpAny_Call_Name_kw (ld_glob I hg m ?_ hdb)
  refine PySem.W.callWith_K (h₀ := X.base) I.ok.mod.kin kp (thn (ha.run pos pins s σ H _ I h) fun us s1 ⟨vs, H1, I1, r, q1⟩ => ⟨I1.kIn, ?_⟩) he hpl
  have hl : us.length = ps.length := by rw [← r.length]; exact F.len _ _ _ _ _ _ _ q1
  have b1 := b s1 us I1.kIn (by rw [List.append_nil]; exact hl)
  rw [List.append_nil] at b1
  obtain ⟨p1, p2, p3, p4, p5⟩ := I1.pin (a, oe) (List.mem_append_left _ hm)
  have hpin : L2H.PinOk X.stack H1 s1 (a, oe) := ⟨p1, p2, fun hm => (List.mem_cons.mp (I1.stkSub a hm)).elim p3 p4, p5⟩
  refine wpAny_call (codeAny_mono (F.run (a, oe) cls d ⟨hz, hf⟩ X.A X.stack s1 H1 hr hpin I1.env0 ⟨us, []⟩ us vs Q _ b1 r q1) fun r s' hq => ?_)
  cases r with
  | error e => exact hx pins σ H1 s1 e s' I1 hq
  | ok fl =>
    cases fl with
    | ret u => exact I1.after hq
    | next => exact False.elim hq
    | brk => exact False.elim hq
    | cont => exact False.elim hq
end
/-! ### isinstance of an error that the context pins -/
section
variable {X : Cx} {a : Addr} {oe : Obj} {cls : Value} {d : Option Addr}
theorem inst_of3 {pins : List (Addr × Obj)} {σ : L2.St} {H : Hp} {s : Shared} (hz : ErrO cls d oe) (hm : (a, oe) ∈ X.pn) (I : Inv X pins σ H s) {D : Addr}
    (ec : cls = .ref D) (hd : HasD H d) : ∃ od, PySem.W.InstAt s.heap a oe D od := by
  obtain ⟨ha, _⟩ := I.pin (a, oe) (List.mem_append_left _ hm)
  obtain ⟨hz, vs, hv⟩ := hz
  have hn : PySem.W.notCls oe = true := by
    unfold PySem.W.notCls
    rw [hv] <;> rfl
  rcases hd with ed | ⟨dd, fs, ed, hd⟩
  · exact ⟨none, ha, hz.1.trans ec, hn, by rw [hz.2, ed]; trivial⟩
  · obtain ⟨mA, hns, _⟩ := (show ObjOk X.prog X.w H s.heap dd (.xd fs) from I.hok dd _ hd)
    obtain ⟨od, ho, _⟩ := lookIn_ns hns
    exact ⟨some od, ha, hz.1.trans ec, hn, by rw [hz.2, ed]; exact ho⟩
theorem call_isT3 (hz : ErrO cls d oe) (hm : (a, oe) ∈ X.pn) : CallR X (.builtin "isinstance") (rIsT2 X.K cls d a) := by
  intro pins s σ H xs us0 Q I r h
  obtain ⟨D, tp, cs, us, b, rfl, ec, cE, hd, ht, pr, ek, q⟩ := h
  obtain ⟨u1, u2, rfl, r1, r2⟩ := vals2 r
  obtain ⟨od, J⟩ := inst_of3 hz hm I ec hd
  cases (show u1 = Value.ref a from r1)
  cases (show u2 = Value.ref tp from r2)
  obtain ⟨_, its, rv, o, h1, h2, n, h3⟩ := (show ObjOk X.prog X.w H s.heap tp (.tup cs) from I.hok tp _ ht)
  have e3 := ClsV.all pr rv
  subst e3
  obtain ⟨oc, od2, dt, sl⟩ := o
  simp only at h2 h3
  subst h2 h3
  exact PySem.W.kia_tup (kit_exc cE) I.kIn J h1 ek (fun z => nomatch z) fun tk => ⟨.bl b, H, I.tok tk, rfl, q⟩
theorem call_isO3 (hz : ErrO cls d oe) (hm : (a, oe) ∈ X.pn) : CallR X (.builtin "isinstance") (rIsO2 X.K cls d a) := by
  intro pins s σ H xs us0 Q I r h
  obtain ⟨D, c, u, b, rfl, ec, cE, hd, cv, ek, q⟩ := h
  obtain ⟨u1, u2, rfl, r1, r2⟩ := vals2 r
  obtain ⟨od, J⟩ := inst_of3 hz hm I ec hd
  cases (show u1 = Value.ref a from r1)
  have e2 := cv.eq r2
  subst e2
  exact PySem.W.kia_one (kit_exc cE) I.kIn J ek (fun z => nomatch z) fun tk => ⟨.bl b, H, I.tok tk, rfl, q⟩
end
end My

namespace My
open PySem PySem.Spec PyProof.Rows L2
/-! ### trees compared by == -/
mutual
theorem TrAt.dp {K : PySem.W.Frag} {H : Hp} : ∀ {v : V} {t : Tr}, TrAt K H v t → Dp K H v t.dat
  | _, _, .nd h1 h2 => .tup h1 (TrsAt.dp h2)
theorem TrsAt.dp {K : PySem.W.Frag} {H : Hp} : ∀ {vs : List V} {ts : List Tr}, TrsAt K H vs ts → DpAll K H vs (Tr.datL ts)
  | _, _, .nil => .nil
  | _, _, .cons h1 h2 => .cons (TrAt.dp h1) (TrsAt.dp h2)
end
end My

namespace My
open PySem PySem.Spec PyProof.Rows L2
/-! ### try with several clauses 'except x as n', n the same name in each -/
abbrev Cls3 := List (Value × (Addr → Value → Option Addr → TS))
section
variable {X : Cx} {body : List Stmt} {h1 : ExceptHandler} {hs : List ExceptHandler} {l : Cls3} {pos : Pos} {tb : WX → TS} {Wout : WX} {n : Str} {i : Nat}
end
end My

namespace My
open PySem PySem.Spec PyProof.Rows L2
/-! ### the text of data is data, too -/
end My

namespace My
open PySem PySem.Spec PyProof.Rows L2
/-! ### a def that shows values: called where nothing is being shown -/
section
variable {X : Cx} {k : Nat} {ps : List Str} {sp : Sp} {x : Str} {q pos : Pos} {e : Expr} {es : List Expr} {t : TA}
end
end My

namespace My
open PySem PySem.Spec PyProof.Rows L2
/-! ### values by their data -/
mutual
/-- whole numbers up to 10 ^ 29 and m more, signs of texts in bounds -/
def okD (m : Nat) : PyData → Bool
  | .none | .bool _ => true
  | .int i => decide (i.natAbs ≤ 10 ^ 29 + m)
  | .str x => x.cps.toList.all fun c => decide (c < 16 ^ 8)
  | .list xs | .tuple xs => okDs m xs
  | .dict kvs => okKs m kvs
def okDs (m : Nat) : List PyData → Bool
  | [] => true
  | x :: xs => okD m x && okDs m xs
def okKs (m : Nat) : List (PyData × PyData) → Bool
  | [] => true
  | (k, v) :: r => okD m k && (okD m v && okKs m r)
end
mutual
theorem okD_mono {m n : Nat} (h : m ≤ n) : ∀ d : PyData, okD m d = true → okD n d = true
  | .none, _ => rfl
  | .bool _, _ => rfl
  | .int i, e => decide_eq_true (by have : i.natAbs ≤ 10 ^ 29 + m := of_decide_eq_true e; omega)
  | .str _, e => e
  | .list xs, e => okDs_mono h xs e
  | .tuple xs, e => okDs_mono h xs e
  | .dict kvs, e => okKs_mono h kvs e
theorem okDs_mono {m n : Nat} (h : m ≤ n) : ∀ xs : List PyData, okDs m xs = true → okDs n xs = true
  | [], _ => rfl
  | x :: xs, e => by
    have e : (okD m x && okDs m xs) = true := e
    rw [Bool.and_eq_true] at e
    show (okD n x && okDs n xs) = true
    rw [okD_mono h x e.1, okDs_mono h xs e.2]
    rfl
theorem okKs_mono {m n : Nat} (h : m ≤ n) : ∀ kvs : List (PyData × PyData), okKs m kvs = true → okKs n kvs = true
  | [], _ => rfl
  | (k, v) :: r, e => by
    have e : (okD m k && (okD m v && okKs m r)) = true := e
    rw [Bool.and_eq_true, Bool.and_eq_true] at e
    show (okD n k && (okD n v && okKs n r)) = true
    rw [okD_mono h k e.1, okD_mono h v e.2.1, okKs_mono h r e.2.2]
    rfl
end
theorem okDs_iff {m : Nat} : ∀ {xs : List PyData}, okDs m xs = true ↔ ∀ x ∈ xs, okD m x = true
  | [] => ⟨fun _ _ z => (nomatch z), fun _ => rfl⟩
  | x :: xs => by
    show (okD m x && okDs m xs) = true ↔ _
    rw [Bool.and_eq_true, okDs_iff]
    exact ⟨fun h y hy => (List.mem_cons.mp hy).elim (fun e => by rw [e]; exact h.1) (h.2 y), fun h => ⟨h x List.mem_cons_self, fun y hy => h y (List.mem_cons_of_mem _ hy)⟩⟩
theorem bulkAll_app : ∀ xs ys : List PyData, PyData.bulkAll (xs ++ ys) = PyData.bulkAll xs + PyData.bulkAll ys
  | [], ys => (Nat.zero_add _).symm
  | x :: xs, ys => by
    show x.bulk + 1 + PyData.bulkAll (xs ++ ys) = x.bulk + 1 + PyData.bulkAll xs + PyData.bulkAll ys
    rw [bulkAll_app xs ys]
    omega
theorem depthAll_le {k : Nat} : ∀ {xs : List PyData}, PyData.depthAll xs ≤ k ↔ ∀ x ∈ xs, x.depth ≤ k
  | [] => ⟨fun _ _ z => (nomatch z), fun _ => Nat.zero_le _⟩
  | x :: xs => by
    show max x.depth (PyData.depthAll xs) ≤ k ↔ _
    rw [Nat.max_le, depthAll_le]
    exact ⟨fun h y hy => (List.mem_cons.mp hy).elim (fun e => by rw [e]; exact h.1) (h.2 y), fun h => ⟨h x List.mem_cons_self, fun y hy => h y (List.mem_cons_of_mem _ hy)⟩⟩
structure Bd3 (m n k : Nat) (d : PyData) : Prop where
  ok : okD m d = true
  bk : d.bulk ≤ n
  dp : d.depth ≤ k
structure Bd3s (m n k : Nat) (ds : List PyData) : Prop where
  ok : okDs m ds = true
  bk : PyData.bulkAll ds ≤ n
  dp : PyData.depthAll ds ≤ k
section
variable {m n k m' n' k' : Nat} {d : PyData} {ds es : List PyData}
theorem Bd3.mono (h : Bd3 m n k d) (a : m ≤ m') (b : n ≤ n') (c : k ≤ k') : Bd3 m' n' k' d := ⟨okD_mono a d h.ok, Nat.le_trans h.bk b, Nat.le_trans h.dp c⟩
theorem Bd3s.mono (h : Bd3s m n k ds) (a : m ≤ m') (b : n ≤ n') (c : k ≤ k') : Bd3s m' n' k' ds := ⟨okDs_mono a ds h.ok, Nat.le_trans h.bk b, Nat.le_trans h.dp c⟩
theorem Bd3s.tup (h : Bd3s m n k ds) : Bd3 m n (k + 1) (.tuple ds) := ⟨h.ok, h.bk, Nat.succ_le_succ h.dp⟩
theorem Bd3s.lst (h : Bd3s m n k ds) : Bd3 m n (k + 1) (.list ds) := ⟨h.ok, h.bk, Nat.succ_le_succ h.dp⟩
theorem Bd3.all (h : Bd3 m n (k + 1) (.tuple ds)) : Bd3s m n k ds := ⟨h.ok, h.bk, Nat.le_of_succ_le_succ h.dp⟩
theorem Bd3.one (h : Bd3 m n k d) : Bd3s m (n + 1) k [d] := ⟨by show (okD m d && true) = true; rw [h.ok]; rfl, by show d.bulk + 1 + 0 ≤ _; have := h.bk; omega, by show max d.depth 0 ≤ _; have := h.dp; omega⟩
theorem bulkAll_take (i : Nat) : PyData.bulkAll (ds.take i) + PyData.bulkAll (ds.drop i) = PyData.bulkAll ds := by
  rw [← bulkAll_app, List.take_append_drop]
theorem Bd3s.take (h : Bd3s m n k ds) (i : Nat) : Bd3s m n k (ds.take i) :=
  ⟨okDs_iff.mpr fun x hx => okDs_iff.mp h.ok x (List.mem_of_mem_take hx), by have := bulkAll_take (ds := ds) i; have := h.bk; omega, depthAll_le.mpr fun x hx => depthAll_le.mp h.dp x (List.mem_of_mem_take hx)⟩
theorem Bd3s.drop (h : Bd3s m n k ds) (i : Nat) : Bd3s m n k (ds.drop i) :=
  ⟨okDs_iff.mpr fun x hx => okDs_iff.mp h.ok x (List.mem_of_mem_drop hx), by have := bulkAll_take (ds := ds) i; have := h.bk; omega, depthAll_le.mpr fun x hx => depthAll_le.mp h.dp x (List.mem_of_mem_drop hx)⟩
theorem Bd3s.get (h : Bd3s m n k ds) {i : Nat} (e : ds[i]? = some d) : Bd3 m d.bulk k d := ⟨okDs_iff.mp h.ok d (List.mem_of_getElem? e), Nat.le_refl _, depthAll_le.mp h.dp d (List.mem_of_getElem? e)⟩
end
/-! ### lists of values by their data -/
section
variable {b : Bool} {K : PySem.W.Frag} {H H' : Hp} {xs ys : List V} {ds es : List PyData}
end
/-! ### building values whose data is in bounds -/
/-- apart from the stream -/
def DvP (K : PySem.W.Frag) (S A : Addr) (m n k : Nat) : Hp → V → Prop := fun H v => ∃ d, Dq true K (hid S A H) v d ∧ Bd3 m n k d
def DvT (K : PySem.W.Frag) (S A : Addr) (m n k : Nat) : Hp → V → Prop := fun H v => ∃ a xs ds, v = .ref a ∧ SqT K (hid S A H) a xs ∧ DqAll true K (hid S A H) xs ds ∧ Bd3s m n k ds
section
variable {K : PySem.W.Frag} {S A B : Addr} {H0 H : Hp} {σ : L2.St} {n m k n' m' k' c j i : Nat} {t u : TE} {ta : TA} {v : V}
instance moDvP : MoV S A (DvP K S A m n k) := ⟨fun h e => by
  obtain ⟨d, h1, h2⟩ := h
  exact ⟨d, Dq.same e.hid h1, h2⟩⟩
instance moDvT : MoV S A (DvT K S A m n k) := ⟨fun h e => by
  obtain ⟨a, xs, ds, h1, h2, h3, h4⟩ := h
  exact ⟨a, xs, ds, h1, same_seqT e.hid h2, DqAll.same e.hid h3, h4⟩⟩
theorem DvP.mono (h : DvP K S A m n k H v) (a : m ≤ m') (b : n ≤ n') (c : k ≤ k') : DvP K S A m' n' k' H v := by
  obtain ⟨d, h1, h2⟩ := h
  exact ⟨d, h1, h2.mono a b c⟩
theorem DvT.p (h : DvT K S A m n k H v) : DvP K S A m n (k + 1) H v := by
  obtain ⟨a, xs, ds, rfl, h2, h3, h4⟩ := h
  exact ⟨_, .tup h2 h3, h4.tup⟩
theorem DvT.mono (h : DvT K S A m n k H v) (a : m ≤ m') (b : n ≤ n') (c : k ≤ k') : DvT K S A m' n' k' H v := by
  obtain ⟨p, xs, ds, h1, h2, h3, h4⟩ := h
  exact ⟨p, xs, ds, h1, h2, h3, h4.mono a b c⟩
theorem DvP.data (h : DvP K S A m n k H v) : ∃ d, Dq true K H v d ∧ Bd3 m n k d := by
  obtain ⟨d, h1, h2⟩ := h
  exact ⟨d, Dq.same (hid_same S A H) h1, h2⟩
/-- a kind of value in place of another, in a display -/
theorem GvA.imp {P R : Hp → V → Prop} (r : GvA S A B H0 σ j ta (AllV P c)) (h : ∀ H v, P H v → R H v) : GvA S A B H0 σ j ta (AllV R c) := fun H N Q sx st hN q => r H N Q sx st hN fun H' vs s' st' p => q H' vs s' st' ⟨p.1, fun v hv => h H' v (p.2 v hv)⟩
theorem Lof.imp {P R : Hp → V → Prop} (g : Gv S A B H0 σ j t (Lof S A P c)) (h : ∀ H v, P H v → R H v) : Gv S A B H0 σ j t (Lof S A R c) := g.imp fun H v p => by
  obtain ⟨l, xs, e1, e2, e3, e4, e5, e6⟩ := p
  exact ⟨l, xs, e1, e2, e3, e4, e5, fun x hx => h H x (e6 x hx)⟩
end
/-! ### odd values by their data -/
def Od3 (K : PySem.W.Frag) (S A : Addr) (H : Hp) (v : V) : Prop := Od2 K S A H v ∧ DvP K S A 0 100 10 H v
section
variable {K : PySem.W.Frag} {S A B : Addr} {n m t : Nat} {H H' : Hp} {v : V}
theorem Od3.x (h : Od3 K S A H v) (e : SameX S A H H') : Od3 K S A H' v := ⟨h.1.x e, MoV.x (S := S) (A := A) (P := DvP K S A 0 100 10) h.2 e⟩
theorem Od3.same (h : Od3 K S A H v) (e : Same H H') : Od3 K S A H' v := h.x (Same.x e)
end
end My

namespace My
open PySem PySem.Spec PyProof.Rows L2
section
variable {K : PySem.W.Frag} {S A B : Addr} {H H' : Hp} {t : Nat}
end
theorem cut_get {ds : List PyData} {i : Nat} {d : PyData} (h : ds[i]? = some d) : i < ds.length := (List.getElem?_eq_some_iff.mp h).1
end My

namespace My
open PySem PySem.Spec PyProof.Rows L2
def rEqEL (K : PySem.W.Frag) : R2 := fun x y H Q => ∃ a b xs, x = .ref a ∧ y = .ref b ∧ SqL K H a xs ∧ SqL K H b [] ∧ Q (.bl (decide (xs.length = 0))) H
theorem op_eqEL {X : Cx} (hu : X.A.units < cLine) : OpR X (compareOp .Eq) (rEqEL X.K) := by
  intro pins s σ H x y v u Q I rx ry h
  obtain ⟨a, b, xs, rfl, rfl, ha, hb, q⟩ := h
  cases rx
  cases ry
  obtain ⟨its, r1, p1, _⟩ := I.list ha
  obtain ⟨its2, r2, p2, _⟩ := I.list hb
  cases r2
  have e : its.toArray.size = xs.length := by rw [List.size_toArray]; exact r1.length.symm
  by_cases h : xs.length = 0
  · refine SeqAt.eq_listAt (e := fun _ => true) p1.isList p2.isList (by rw [e, h]; rfl) hu (fun j h1 h2 => absurd h2 (by simp)) ?_
    refine ⟨.bl (decide (xs.length = 0)), H, I, ?_, q⟩
    show Value.bool _ = Value.bool _
    rw [e, h]
    rfl
  · refine SeqAt.RcAt.lists_lengths p1.isList p2.isList (by rw [e]; simp; exact fun z => h (by rw [z]; rfl)) hu X.prog X.w _ _ ?_
    refine ⟨.bl (decide (xs.length = 0)), H, I, ?_, q⟩
    show Value.bool _ = Value.bool _
    rw [decide_eq_false h]
/-! ### a call that does not see a list of the caller's -/
section
variable {P : Program} {w : World} {K : PySem.W.Frag} {mg : Str → Option Value} {base : Heap} {A : Around} {fr : List Env} {z z' : Shared} {H : Hp} {l : Addr} {xs : List V}
end
section
variable {X : Cx} {k : Nat} {ps : List Str} {sp : Sp} {x : Str} {q pos : Pos} {e : Expr} {es : List Expr} {t : TA}
end
/-! ### values apart from the stream and a list -/
def DvL (K : PySem.W.Frag) (S A l : Addr) (m n k : Nat) : Hp → V → Prop := fun H v => DvP K S A m n k (delH H l) v
section
variable {K : PySem.W.Frag} {S A B l : Addr} {H H' : Hp} {m n k t : Nat} {v : V}
theorem delH_same' : Same (delH H l) H := fun b o e => by
  by_cases h : b = l
  · rw [h, delH_same] at e
    cases e
  · rw [delH_ne h] at e
    exact e
theorem delH_x (e : SameX S A H H') : SameX S A (delH H l) (delH H' l) := fun b o q n1 n2 => by
  have h : b ≠ l := fun h => by
    rw [h, delH_same] at q
    cases q
  rw [delH_ne h] at q ⊢
  exact e b o q n1 n2
theorem delH_upd {o : HO} : delH (upd H l o) l = delH H l := by
  funext b
  by_cases h : b = l
  · rw [h, delH_same, delH_same]
  · rw [delH_ne h, delH_ne h, upd_ne h]
theorem DvL.x (h : DvL K S A l m n k H v) (e : SameX S A H H') : DvL K S A l m n k H' v := MoV.x (S := S) (A := A) (P := DvP K S A m n k) h (delH_x e)
theorem DvL.upd {o : HO} (h : DvL K S A l m n k H v) : DvL K S A l m n k (L2.upd H l o) v := by
  unfold DvL
  rw [delH_upd]
  exact h
theorem DvL.data (h : DvL K S A l m n k H v) : ∃ d, Dq true K H v d ∧ Bd3 m n k d := by
  obtain ⟨d, h1, h2⟩ := DvP.data h
  exact ⟨d, Dq.same delH_same' h1, h2⟩
end
end My

namespace My
open PySem PySem.Spec PyProof.Rows L2
/-! ### a truth value as a whole number -/
section
variable {X : Cx}
end
/-! ### the size of a value that is nested like a tree -/
end My

namespace My
open PySem PySem.Spec PyProof.Rows L2
/-! ### the text of a tuple of places tells the tuple -/
theorem optD_some (q : Nat) : TL.tl (optD (some q)).shown = TL.numL q := TL.tl_num q
theorem optD_none : TL.tl (optD none).shown = [78, 111, 110, 101] := by decide
theorem optD_inj {o p : Option Nat} (h : (optD o).shown = (optD p).shown) : o = p := by
  have h' := congrArg TL.tl h
  cases o with
  | none =>
    cases p with
    | none => rfl
    | some q =>
      rw [optD_none, optD_some] at h'
      have : 78 ∈ TL.numL q := by rw [← h']; simp
      exact absurd this (TL.numL_free (by omega))
  | some r =>
    cases p with
    | none =>
      rw [optD_none, optD_some] at h'
      have : 78 ∈ TL.numL r := by rw [h']; simp
      exact absurd this (TL.numL_free (by omega))
    | some q =>
      rw [optD_some, optD_some] at h'
      rw [TL.numL_inj h']
end My

namespace My
open PySem PySem.Spec PyProof.Rows L2
/-! ### takers as values -/
section
variable {K : PySem.W.Frag} {S A B : Addr} {n m j t k : Nat} {H H' H0 : Hp} {l : Addr} {xs : List V} {σ : L2.St} {ta : TA}
theorem DvL.p {v : V} (h : DvL K S A l m n k H v) : DvP K S A m n k H v := by
  obtain ⟨d, h1, h2⟩ := h
  exact ⟨d, Dq.same (Same.x (S := S) (A := A) delH_same').hid h1, h2⟩
end
/-! ### a tuple, so many times, from once on -/
end My

namespace My
open PySem PySem.Spec PyProof.Rows L2
/-! ### one value, so many times -/
section
variable {K : PySem.W.Frag} {S A B : Addr} {n m j t k c : Nat} {H H' H0 : Hp} {σ : L2.St} {t0 : TE}
end
end My

namespace My
open PySem PySem.Spec PyProof.Rows L2
end My

namespace My
open PySem PySem.Spec PyProof.Rows L2
/-! ### rows of integers as values, apart from the stream; one of some values, drawn -/
def TiP (K : PySem.W.Frag) (S A : Addr) (P : List Int → Prop) (H : Hp) (v : V) : Prop := ∃ a ns, v = .ref a ∧ TupI K (hid S A H) a ns ∧ P ns
section
variable {K : PySem.W.Frag} {S A B : Addr} {n m j k c : Nat} {H H' H0 : Hp} {σ : L2.St} {t u : TE} {ta : TA} {P R : List Int → Prop}
theorem TiP.imp {v : V} (h : TiP K S A P H v) (i : ∀ ns, P ns → R ns) : TiP K S A R H v := by
  obtain ⟨a, ns, e1, h1, h2⟩ := h
  exact ⟨a, ns, e1, h1, i ns h2⟩
theorem TiP.get {v : V} (h : TiP K S A P H v) : ∃ a ns, v = .ref a ∧ TupI K H a ns ∧ P ns := by
  obtain ⟨a, ns, e1, h1, h2⟩ := h
  exact ⟨a, ns, e1, same_seqT (hid_same S A H) h1, h2⟩
end
end My

namespace My
open PySem PySem.Spec PyProof.Rows L2
/-! ### == and != of data of any texts -/
def PlainD (d : PyData) : Prop := d.plain = true ∧ d.depth ≤ 64
theorem PlainD.self {d : PyData} (h : PlainD d) : PyData.eqv d d = true := SeqAt.eqv_refl_plain d h.1
end My

namespace My
open PySem PySem.Spec PyProof.Rows L2
/-! ### x != i, x a value of any kind, i an int -/
end My

namespace My
open PySem PySem.Spec PyProof.Rows L2
/-! ### rows of tokens as values, made of one another -/
def Tok (n : Nat) (ns : List Int) : Prop := ns.length ≤ n ∧ ∀ x ∈ ns, 0 ≤ x ∧ x ≤ 5
theorem Tok.sub {n m : Nat} {ns ms : List Int} (h : Tok n ns) (hl : ms.length ≤ m) (hs : ∀ y ∈ ms, y ∈ ns) : Tok m ms := ⟨hl, fun y hy => h.2 y (hs y hy)⟩
theorem Tok.mono {n m : Nat} {ns : List Int} (h : Tok n ns) (e : n ≤ m) : Tok m ns := ⟨Nat.le_trans h.1 e, h.2⟩
theorem Ring.tok {ns : List Int} (h : Ring ns) : Tok 24 ns := ⟨h.2.1, h.2.2⟩
theorem Tok.ring {ns : List Int} (h : Tok 24 ns) (h1 : ns ≠ []) : Ring ns := ⟨by cases ns with | nil => exact absurd rfl h1 | cons _ _ => exact Nat.succ_le_succ (Nat.zero_le _), h.1, h.2⟩
section
variable {K : PySem.W.Frag} {S A B : Addr} {n m j k c : Nat} {H H' H0 : Hp} {σ : L2.St} {t u : TE} {ta : TA}
end
/-- a statement whose end is told -/
theorem cut_st {s : TS} {D : Ends} {σ : L2.St} {H : Hp} (R : L2.St → Hp → Prop) (h : ∀ D' : Ends, (∀ σ H, R σ H → D'.nx σ H) → s D' σ H) (hR : ∀ σ H, R σ H → D.nx σ H) : s D σ H := h D hR
end My

/-! ### the block of the guide's own-error skeleton, for any class over any built-in base whose __init__ stores the field effect -/
namespace PySem
namespace Xf_effect
open PySem.W PySem.Calls PyProof.Rows PySem.HandSPX
def iA (p1 p2 : Pos) : Arguments := { posonlyargs := [], args := [{ arg := "self", annotation := none, pos := p1 }, { arg := "effect", annotation := none, pos := p2 }], vararg := none, kwonlyargs := [], kw_defaults := [], kwarg := none, defaults := [] }
def iB (q1 q2 q3 q4 : Pos) : List Stmt := [.Assign [.Attribute (.Name "self" q1) "effect" q2] (.Name "effect" q3) q4]
def iS : Scope := { kind := .function, names := [(PySem.Str.ofString "self", .local), (PySem.Str.ofString "effect", .local)], isGenerator := false, isCoroutine := false, more := [] }
/-- what the written part says of the class x at C and of its __init__ at fI -/
structure Txt (K : Frag) (mg : Str → Option Value) (x q : Str) (C fI : Addr) (newId : String) (bmB : List Value) : Prop where
  gC : mg x = some (.ref C)
  mkr : excInitIn K C bmB newId = true
  ov : excOver K C bmB = true
  tk : takerIn K C "effect" = some none
  sa : findIn K (.ref C) "__setattr__" = some (some (.builtin "object.__setattr__"))
  ga : findIn K (.ref C) "__getattribute__" = some (some (.builtin "BaseException.__getattribute__"))
  gg : findIn K (.ref C) "__getattr__" = some none
  noN : findIn K (.ref C) "effect" = some none
  iC : findIn K (.ref C) "__init__" = some (some (.ref fI))
  tC : typeIn K (.ref fI) = some (.type "function")
  kC : keepIn K (.ref C) = true
  exC : subIn K (.ref C) (.type "BaseException") = some true
  tyC : typeIn K (.ref C) = some (.type "type")
  hdC : hasDictIn K C = true
  te : exmOne K (.ref C) (.ref C) = some true
  fn : ∃ (p1 p2 q1 q2 q3 q4 : Pos) (fd : FuncData), L2.FunD K "__init__" q (iA p1 p2) (iB q1 q2 q3 q4) iS [] [] fI fd
theorem one_size (v : Value) : [v].length ≤ sizeLine := by
  rw [sizeLine_eq]
  exact (by decide : 1 ≤ 16777216)
theorem ldC {M : Model} {s : Shared} {name : Str} {scope : Scope} {L a : Addr} {cd : Value} {m : Str → Option Value} {x : Str} {pos : Pos} {v : Value} {Q : Value → Shared → Prop} {A : Around} {E : Value → Shared → Prop} (hn : s.heap.Ns L m) (hv : m x = some v) (h : Q v s)
    (hk : scope.kind = .function := by rfl) (hl : (envOfC name scope L a cd).kindOf x = some .local := by rfl) (hd : (x == ("__debug__" : Str)) = false := by decide) :
    wpAny M A (eval (.Name x pos) (envOfC name scope L a cd)) Q E s := wpAny_Name (wpAny_loadName_local hk hl hn hv h) hd
/-- what __init__ leaves of a fresh error at x -/
structure InitEnd (h h' : Heap) (x C dx t1 : Addr) (v : Value) : Prop where
  keep : ∀ b o, b ≠ x → h.get? b = some o → h'.get? b = some o
  obj : h'.get? x = some { cls := .ref C, dict := some dx, data := .fields #[.ref t1, .none, .none, .none, .bool false, .none] }
  dbig : h.objs.size ≤ dx
  dne : dx ≠ x
  ns : h'.Ns1 dx (fun y => if y = "effect" then some v else none)
/-- a made error -/
structure OwnMade (h h' : Heap) (e C d : Addr) (v : Value) : Prop where
  keep : ∀ b o, h.get? b = some o → h'.get? b = some o
  new : h.objs.size ≤ e
  obj : ∃ oe vs, h'.get? e = some oe ∧ oe.cls = .ref C ∧ oe.dict = some d ∧ oe.data = .fields vs ∧ vs[1]? = some .none
  dbig : h.objs.size ≤ d
  dne : d ≠ e
  ns : h'.Ns1 d (fun y => if y = "effect" then some v else none)
section
variable {prog : Program} {w : World} {A : Around} {E : Value → Shared → Prop} {R : Result → Shared → Prop} {s : Shared} {K : Frag} {mg : Str → Option Value} {C fI : Addr} {x0 q0 : Str} {B newId initId : String} {bmB : List Value}
theorem init_end (SF : StoreFacts B bmB "object.__setattr__" "object") (T : Txt K mg x0 q0 C fI newId bmB) {x t0 : Addr} {v : Value} (X : K.In s.heap) (hlim : s.heap.NoLimit) (hx : s.heap.get? x = some (excO C t0)) (hroom : A.depth < recursionLimit)
    (hq : ∀ h' tk dx, InitEnd s.heap h' x C dx t0 v → R (.ok (.ret .none)) { s with heap := h', toks := tk }) :
    codeAny (model prog w) A (.call (.ref fI) ⟨[.ref x, v], []⟩) R s := by
  obtain ⟨p1, p2, q1, q2, q3, q4, fd, F⟩ := T.fn
  obtain ⟨oc, od, dV, kV, doc, pm, an, cdv, ct, osl, rfl, ho, hcd, hdv, _⟩ := F.ex
  have e0 : dV = .none := by
    rcases hdv with ⟨_, e⟩ | ⟨e, _⟩
    · exact e
    · exact absurd rfl e
  subst e0
  refine Att.call_fn (binds := [("self", .ref x), ("effect", v)]) X hlim ho hcd hroom (BindsTo.of_eq (by first | rfl | with_unfolding_all rfl)) (by first | rfl | decide | with_unfolding_all rfl) (fun s₁ IC => ?_) rfl rfl rfl
  obtain ⟨h₁, tk₁, rfl⟩ := IC.toInCall.same
  have k : ∀ b o, s.heap.get? b = some o → h₁.get? b = some o := IC.toInCall.keep
  have hn := IC.toInCall.ns
  have X₁ : K.In h₁ := X.keeps k
  have hx₁ := k _ _ hx
  show wpAny _ _ (execs _ _) _ _ _
  refine wpAny_execs_cons (plainObj_wpAny_Assign_Attribute ?_)
  refine ldC (v := v) hn (by first | rfl | with_unfolding_all rfl | kernel_rfl) (ldC (v := .ref x) hn (by first | rfl | with_unfolding_all rfl | kernel_rfl) ?_)
  refine set_plain X₁ (ox := excO C t0) (od := none) ⟨hx₁, rfl, rfl, trivial⟩ T.sa ?_
  refine PySem.NX.osaB SF X₁ hx₁ T.ov T.tk T.hdC (fun h₃ tk₃ dx k₃ dn dne hx₃ hn₃ => ?_)
  show wpAny _ _ (execs _ _) _ _ _
  have z : s.heap.objs.size < h₁.objs.size := hn.lt
  exact wpAny_execs_nil (hq h₃ tk₃ dx ⟨fun b o hb e => k₃ b o hb (k b o e), hx₃, Nat.le_of_lt (Nat.lt_of_lt_of_le z dn), dne, hn₃⟩)
theorem made (FB : ExcBaseFacts B newId initId bmB) (SF : StoreFacts B bmB "object.__setattr__" "object") (T : Txt K mg x0 q0 C fI newId bmB) {v : Value} (X : K.In s.heap) (hlim : s.heap.NoLimit) (hroom : A.depth + 1 < recursionLimit)
    (hq : ∀ h' tk e d, OwnMade s.heap h' e C d v → R (.ok (.ret (.ref e))) { s with heap := h', toks := tk }) :
    codeAny (model prog w) A (.call (.ref C) ⟨[v], []⟩) R s := by
  obtain ⟨nm, N, q, bs, bm, hdct, sn, sub, ab, col, dd, k0, k1, k2, k3, k5, hC, hbm⟩ := excInit_of X T.mkr
  obtain ⟨hp, g, dr, tk, os⟩ := s
  have k : ∀ b o, hp.get? b = some o → ((hp.push (kdv_tup [v])).push (excO C hp.objs.size)).get? b = some o := fun b o e => Heap.get?_push_of_some _ (Heap.get?_push_of_some _ e)
  have hget : ((hp.push (kdv_tup [v])).push (excO C hp.objs.size)).get? (hp.objs.size + 1) = some (excO C hp.objs.size) := by heap_get
  refine call_own FB hbm hC (looks_findIn X T.iC) (fun self => bind_fn X self T.tC) (one_size v) ?_
  refine init_end (s := ⟨(hp.push (kdv_tup [v])).push (excO C hp.objs.size), g, dr, tk, os⟩) SF T (X.keeps k) (hlim.keeps k) hget ?_ fun h' tk' dx ⟨k', hx, dn, dne, hns⟩ => ?_
  · show A.depth + 1 < recursionLimit
    exact hroom
  · have old : ∀ b o, hp.get? b = some o → h'.get? b = some o := fun b o e => k' b o (Nat.ne_of_lt (Nat.lt_succ_of_lt (Heap.lt_size e))) (k b o e)
    have z : hp.objs.size + 1 + 1 ≤ dx := by
      first
        | (simpa only [Heap.size_push] using dn)
        | exact dn
        | (have q := dn; rw [Heap.size_push, Heap.size_push] at q; exact q)
    exact ⟨rfl, hq h' tk' (hp.objs.size + 1) dx ⟨old, Nat.le_succ _, ⟨_, _, hx, rfl, rfl, rfl, rfl⟩, Nat.le_trans (Nat.le_trans (Nat.le_succ _) (Nat.le_succ _)) z, dne, hns⟩⟩
end
end Xf_effect
end PySem
namespace L2
open PySem PySem.Spec PyProof.Rows
section
variable {X : Cx} {C fI : Addr} {x0 q0 : Str} {B newId initId : String} {bmB : List Value}
end
end L2
namespace My
open PySem PySem.Spec PyProof.Rows L2
end My

namespace My
open PySem PySem.Spec PyProof.Rows L2
/-! ### a walk over a list or a tuple -/
/-- a list or a tuple -/
def SqA (K : PySem.W.Frag) (H : Hp) (a : Addr) (xs : List V) : Prop := SqL K H a xs ∨ SqT K H a xs
theorem SqA.same {K : PySem.W.Frag} {H H' : Hp} {a : Addr} {xs : List V} (h : SqA K H a xs) (e : Same H H') : SqA K H' a xs := h.elim (fun z => .inl (e.seq z)) (fun z => .inr (same_seqT e z))
/-! ### rings in runs -/
def RunOk (e : Int × Int) : Prop := 0 ≤ e.1 ∧ e.1 ≤ 5 ∧ 1 ≤ e.2 ∧ e.2 ≤ 1000000000000
def RunsOk (es : List (Int × Int)) : Prop := ∀ e ∈ es, RunOk e
theorem RunsOk.tail {e : Int × Int} {es : List (Int × Int)} (h : RunsOk (e :: es)) : RunsOk es := fun x hx => h x (List.mem_cons_of_mem _ hx)
theorem Effs.insert {K : PySem.W.Frag} {H : Hp} {as : List Addr} {es : List (Int × Int)} (h : Effs K H as es) {a : Addr} {e : Int × Int} (ha : TupI K H a [e.1, e.2]) (k : Nat) : Effs K H (as.take k ++ [a] ++ as.drop k) (es.take k ++ [e] ++ es.drop k) := by
  have hl := h.1
  refine ⟨by simp only [List.length_append, List.length_take, List.length_drop, List.length_singleton]; omega, fun j b f h1 h2 => ?_⟩
  have lt : (as.take k).length = (es.take k).length := by rw [List.length_take, List.length_take, hl]
  rw [List.append_assoc] at h1 h2
  by_cases c1 : j < (as.take k).length
  · rw [List.getElem?_append_left c1] at h1
    rw [List.getElem?_append_left (by omega)] at h2
    exact (h.take k).2 j b f h1 h2
  · rw [List.getElem?_append_right (by omega)] at h1
    rw [List.getElem?_append_right (by omega), ← lt] at h2
    cases hj : j - (as.take k).length with
    | zero =>
      rw [hj] at h1 h2
      cases h1
      cases h2
      exact ha
    | succ i =>
      rw [hj] at h1 h2
      exact (h.drop k).2 i b f h1 h2
end My

namespace My
open PySem PySem.Spec PyProof.Rows L2
/-! ### runs that may be empty, a ring in runs read from a position -/
def RunOk0 (e : Int × Int) : Prop := 0 ≤ e.1 ∧ e.1 ≤ 5 ∧ 0 ≤ e.2 ∧ e.2 ≤ 1000000000000
def RunsOk0 (es : List (Int × Int)) : Prop := ∀ e ∈ es, RunOk0 e
theorem RunsOk.z {es : List (Int × Int)} (h : RunsOk es) : RunsOk0 es := fun e he => by
  obtain ⟨h1, h2, h3, h4⟩ := h e he
  exact ⟨h1, h2, by omega, h4⟩
theorem RunsOk0.tail {e : Int × Int} {es : List (Int × Int)} (h : RunsOk0 (e :: es)) : RunsOk0 es := fun x hx => h x (List.mem_cons_of_mem _ hx)
theorem RunsOk0.take {es : List (Int × Int)} (h : RunsOk0 es) (k : Nat) : RunsOk0 (es.take k) := fun x hx => h x (List.mem_of_mem_take hx)
theorem RunsOk0.drop {es : List (Int × Int)} (h : RunsOk0 es) (k : Nat) : RunsOk0 (es.drop k) := fun x hx => h x (List.mem_of_mem_drop hx)
theorem RunsOk.take {es : List (Int × Int)} (h : RunsOk es) (k : Nat) : RunsOk (es.take k) := fun x hx => h x (List.mem_of_mem_take hx)
theorem RunsOk.drop {es : List (Int × Int)} (h : RunsOk es) (k : Nat) : RunsOk (es.drop k) := fun x hx => h x (List.mem_of_mem_drop hx)
/-- whole numbers within bounds -/
def whB (v : V) (lo hi : Int) : Bool := match v with
  | .int i => decide (lo ≤ i) && decide (i ≤ hi)
  | _ => false
theorem whB_ix (v : V) (n : Int) : whB v 0 (n - 1) = ixB v n := by
  cases v with
  | int i =>
    show (decide ((0 : Int) ≤ i) && decide (i ≤ n - 1)) = (decide ((0 : Int) ≤ i) && decide (i < n))
    congr 1
    exact decide_eq_decide.mpr (by omega)
  | _ => rfl
end My

namespace My
open PySem PySem.Spec PyProof.Rows L2
/-! ### ranges of positions, put together -/
abbrev Rg := Int × Int
/-- ranges apart from each other -/
def Apart (rs : List Rg) : Prop := rs.Pairwise fun r q => r.2 + 2 ≤ q.1
/-! ### the beginnings of a ring in runs -/
theorem Effs.x {K : PySem.W.Frag} {S A B : Addr} {t : Nat} {H H' : Hp} {as : List Addr} {es : List (Int × Int)} (h : Effs K H as es) (st : Strm H S A B t) (e : SameX S A H H') : Effs K H' as es := ⟨h.1, fun k a f h1 h2 => sqT_x st e (h.2 k a f h1 h2)⟩
theorem Apart.two : ∀ {rs : List Rg}, Apart rs → ∀ {r q : Rg}, r ∈ rs → q ∈ rs → r = q ∨ r.2 + 2 ≤ q.1 ∨ q.2 + 2 ≤ r.1
  | [], _, _, _, h, _ => nomatch h
  | x :: rs, h, r, q, hr, hq => by
    obtain ⟨h1, h2⟩ := List.pairwise_cons.mp h
    rcases List.mem_cons.mp hr with rfl | hr2
    · rcases List.mem_cons.mp hq with rfl | hq2
      · exact .inl rfl
      · exact .inr (.inl (h1 q hq2))
    · rcases List.mem_cons.mp hq with rfl | hq2
      · exact .inr (.inr (h1 r hr2))
      · exact Apart.two h2 hr2 hq2
theorem Apart.at_ {rs : List Rg} (h : Apart rs) {k j : Nat} {r q : Rg} (hk : rs[k]? = some r) (hj : rs[j]? = some q) (lt : k < j) : r.2 + 2 ≤ q.1 := by
  have h1 := (List.getElem?_eq_some_iff.mp hk)
  have h2 := (List.getElem?_eq_some_iff.mp hj)
  obtain ⟨a1, rfl⟩ := h1
  obtain ⟨a2, rfl⟩ := h2
  exact List.pairwise_iff_getElem.mp h k j a1 a2 lt
/-- a statement whose end is told, or that returns -/
theorem cut_rt {s : TS} {D : Ends} {σ : L2.St} {H : Hp} (R : L2.St → Hp → Prop) (h : ∀ D' : Ends, (∀ σ H, R σ H → D'.nx σ H) → D'.rt = D.rt → s D' σ H) (hR : ∀ σ H, R σ H → D.nx σ H) : s D σ H := h D hR rfl
end My

namespace My
open PySem PySem.Spec PyProof.Rows L2
/-! ### the first token that takes the value at a depth -/
end My

namespace My
open PySem PySem.Spec PyProof.Rows L2
/-! ### a tuple so many times, the empty one too -/
/-! ### bounds that grow by 10 ^ 12 -/
/-! ### the judgement of runs -/
section
variable {K : PySem.W.Frag} {S A B : Addr} {n m j k : Nat} {H0 : Hp} {σ : L2.St} {t u : TE} {P : Hp → V → Prop}
end
end My

namespace My
open PySem PySem.Spec PyProof.Rows L2
/-! ### texts that are joined -/
theorem joinL_mem {S : List Nat} : ∀ {ps : List (List Nat)} {c : Nat}, c ∈ TL.joinL S ps → c ∈ S ∨ ∃ p ∈ ps, c ∈ p
  | [], c, h => nomatch h
  | [p], c, h => .inr ⟨p, List.mem_cons_self, h⟩
  | p :: q :: r, c, h => by
    have h : c ∈ p ++ (S ++ TL.joinL S (q :: r)) := h
    rcases List.mem_append.mp h with z | z
    · exact .inr ⟨p, List.mem_cons_self, z⟩
    rcases List.mem_append.mp z with z | z
    · exact .inl z
    rcases joinL_mem z with w | ⟨p', hp, hc⟩
    · exact .inl w
    · exact .inr ⟨p', List.mem_cons_of_mem _ hp, hc⟩
theorem joinL_len {S : List Nat} {m : Nat} : ∀ {ps : List (List Nat)}, (∀ p ∈ ps, p.length ≤ m) → (TL.joinL S ps).length ≤ (m + S.length) * ps.length
  | [], _ => Nat.zero_le _
  | [p], h => by
    have := h p List.mem_cons_self
    show p.length ≤ (m + S.length) * 1
    omega
  | p :: q :: r, h => by
    have h1 := h p List.mem_cons_self
    have h2 := joinL_len (S := S) (m := m) (ps := q :: r) fun x hx => h x (List.mem_cons_of_mem _ hx)
    show (p ++ (S ++ TL.joinL S (q :: r))).length ≤ (m + S.length) * ((q :: r).length + 1)
    rw [List.length_append, List.length_append, Nat.mul_add]
    omega
theorem str_len_tl (x : Str) : x.length = (TL.tl x).length := rfl
/-- the text of a whole number -/
abbrev txI (i : Int) : Str := Str.ofString (toString i)
def jnI (ns : List Int) : Str := Txt.join " " (ns.map txI)
theorem txI_len {i : Int} (h : i.natAbs < 10 ^ 30) : (txI i).length ≤ 31 := by
  rw [PySem.ofString_length]
  exact int_text_length_le10 (by decide) h
theorem tl_sp : TL.tl (" " : Str) = [32] := by decide +kernel
theorem jnI_tl (ns : List Int) : TL.tl (jnI ns) = TL.joinL [32] (ns.map fun i => TL.tl (txI i)) := by
  unfold jnI
  rw [TL.join_eq, TL.tl_join, tl_sp, List.map_map]
  rfl
theorem jnI_len {ns : List Int} (h : ∀ i ∈ ns, i.natAbs < 10 ^ 30) : (jnI ns).length ≤ 32 * ns.length := by
  rw [str_len_tl, jnI_tl]
  have := joinL_len (S := [32]) (m := 31) (ps := ns.map fun i => TL.tl (txI i)) fun p hp => by
    obtain ⟨i, hi, rfl⟩ := List.mem_map.mp hp
    exact txI_len (h i hi)
  rw [List.length_map] at this
  exact this
theorem fit_jnI {ns : List Int} (h : ∀ i ∈ ns, i.natAbs < 10 ^ 30) : Fit (32 * ns.length) 0 (.str (jnI ns)) := by
  refine ⟨rfl, ?_, jnI_len h, Nat.zero_le _⟩
  show List.all (TL.tl (jnI ns)) _ = true
  rw [List.all_eq_true, jnI_tl]
  intro c hc
  rcases joinL_mem hc with z | ⟨p, hp, hc⟩
  · rw [List.mem_singleton.mp z]
    exact decide_eq_true (by decide)
  · obtain ⟨i, hi, rfl⟩ := List.mem_map.mp hp
    have := (fit_itext (h i hi)).lv
    have : List.all (TL.tl (txI i)) _ = true := this
    exact List.all_eq_true.mp this c hc
theorem sum_len {ns : List Int} (h : ∀ i ∈ ns, i.natAbs < 10 ^ 30) : (((ns.map txI).map (·.length)).sum) ≤ 31 * ns.length := by
  induction ns with
  | nil => decide
  | cons i ns ih =>
    have h1 := txI_len (h i List.mem_cons_self)
    have h2 := ih fun x hx => h x (List.mem_cons_of_mem _ hx)
    show (txI i).length + ((ns.map txI).map (·.length)).sum ≤ 31 * (ns.length + 1)
    omega
/-! ### a dict comprehension over a range -/
theorem dc_range {lo : Int} {n : Nat} {g : TG} {tt : TT} {tk tv : TE} {vs : List Nat} {σ : L2.St} {H1 : Hp} {D : Addr} {Qd : Hp → Prop} (Pv : Nat → Hp → Prop) (h0 : Pv 0 (upd H1 D (.dK [])))
    (hs : ∀ i H, i < n → Pv i H → g (.int (lo + i)) (wipe σ vs) H fun σ2 H2 => wipe σ2 vs = wipe σ vs ∧ tt σ2 H2 fun b H3 =>
      if b = true then tk σ2 H3 fun y H4 => tv σ2 H4 fun z H5 => ∃ kvs k, y = kV k ∧ H5 D = some (.dK kvs) ∧ kvs.length < sizeLine ∧ Pv (i + 1) (upd H5 D (.dK (putK kvs k z))) else Pv (i + 1) H3) (hd : ∀ H, Pv n H → Qd H) :
    ∃ W : Nat → Nat → Hp → Prop, (∃ m, W 0 m (upd H1 D (.dK []))) ∧ ∀ i m H, W i m H →
      ((Itr lo n).stop i H ∧ Qd H) ∨ ((Itr lo n).go i H ∧ ∃ Nx : Hp → Prop, (∀ H', Nx H' → ∃ m', m' < m ∧ W (i + 1) m' H') ∧ ∀ x H', (Itr lo n).yld i H x H' → g x (wipe σ vs) H' fun σ2 H2 => wipe σ2 vs = wipe σ vs ∧ tt σ2 H2 fun b H3 =>
        if b = true then tk σ2 H3 fun y H4 => tv σ2 H4 fun z H5 => ∃ kvs k, y = kV k ∧ H5 D = some (.dK kvs) ∧ kvs.length < sizeLine ∧ Nx (upd H5 D (.dK (putK kvs k z))) else Nx H3) := by
  refine ⟨fun i m H => m = n - i ∧ i ≤ n ∧ Pv i H, ⟨n, by simp, Nat.zero_le _, h0⟩, ?_⟩
  rintro i m H ⟨rfl, hi, p⟩
  by_cases hlt : i < n
  · refine .inr ⟨hlt, Pv (i + 1), fun H' p' => ⟨n - (i + 1), by omega, rfl, hlt, p'⟩, fun x H' y => ?_⟩
    obtain ⟨e, y⟩ := y
    subst e
    subst y
    exact hs i _ hlt p
  · have e : i = n := by omega
    subst e
    exact .inl ⟨Nat.le_refl _, hd H p⟩
/-! ### the dict of the texts of the arities -/
def dicA (i : Nat) : List (Key × V) := (List.range i).map fun k : Nat => ((Sum.inr (txI (k : Int)) : Key), V.int (k : Int))
theorem dicA_put : ∀ i : Nat, i < 6 → putK (dicA i) (.inr (txI (i : Int))) (.int (i : Int)) = dicA (i + 1)
  | 0, _ => by decide +kernel
  | 1, _ => by decide +kernel
  | 2, _ => by decide +kernel
  | 3, _ => by decide +kernel
  | 4, _ => by decide +kernel
  | 5, _ => by decide +kernel
  | n + 6, h => absurd h (by omega)
theorem dicA_len (i : Nat) : (dicA i).length = i := by
  unfold dicA
  rw [List.length_map, List.length_range]
/-! ### a loop over enumerate of a list -/
theorem for_enumL {K : PySem.W.Frag} {a : Addr} {xs : List V} {g : TG} {tb : TS} {D : Ends} {σ : L2.St} {H : Hp} (Pv : Nat → L2.St → Hp → Prop) (h0 : Pv 0 σ H) (hl : ∀ i σ H, i ≤ xs.length → Pv i σ H → SqL K H a xs)
    (hs : ∀ i x σ H T, xs[i]? = some x → Pv i σ H → H T = none → g (.ref T) σ (upd H T (.tup [.int (i : Nat), x])) fun σ2 H2 => tb { D with nx := Pv (i + 1), ct := Pv (i + 1), bk := D.nx } σ2 H2) (hd : ∀ σ H, Pv xs.length σ H → D.nx σ H) :
    ∃ W : Nat → Nat → L2.St → Hp → Prop, (∃ m, W 0 m σ H) ∧ ∀ i m σ H, W i m σ H →
      ((Ite K a).stop i H ∧ D.nx σ H) ∨ ((Ite K a).go i H ∧ ∃ N : L2.St → Hp → Prop, (∀ σ' H', N σ' H' → ∃ m', m' < m ∧ W (i + 1) m' σ' H') ∧ ∀ x H', (Ite K a).yld i H x H' → g x σ H' fun σ2 H2 => tb { D with nx := N, ct := N, bk := D.nx } σ2 H2) := by
  refine ⟨fun i m σ H => m = xs.length - i ∧ i ≤ xs.length ∧ Pv i σ H, ⟨xs.length, by simp, Nat.zero_le _, h0⟩, ?_⟩
  rintro i m σ H ⟨rfl, hi, p⟩
  have q := hl i σ H hi p
  by_cases hlt : i < xs.length
  · refine .inr ⟨⟨xs, xs[i], q, by simp [hlt]⟩, Pv (i + 1), fun σ' H' p' => ⟨xs.length - (i + 1), by omega, rfl, hlt, p'⟩, fun x H' y => ?_⟩
    obtain ⟨T, x, rfl, hT, rfl, y⟩ := y
    exact hs i x σ _ T (y xs q) p hT
  · have e : i = xs.length := by omega
    subst e
    exact .inl ⟨⟨xs, q, Nat.le_refl _⟩, hd σ H p⟩
end My
namespace L2
open PySem PySem.Spec PyProof.Rows
section
variable {X : Cx}
/-- a name set to a dict comprehension -/
theorem ps_setDc {i : Nat} {y : Str} {py : Pos} {kx vx tg iter : Expr} {ifs : List Expr} {scope : Scope} {own : List (Str × Nat)} {pos spos : Pos} {wi : TI} {g : TG} {tt : TT} {tk tv : TE} (hc : X.calm = true) (hN : X.N.Nodup) (hy : X.N[i]? = some y) (hyl : X.env.scope.names.lookup y = some .local)
    (hsw : swapsWith (.DictComp kx vx [⟨tg, iter, ifs, 0⟩] scope pos) (some (.Name y py)) spos.line X.env = pure true) (hi : PI X tg iter wi) (ok : BlkOk X.N X.env.scope scope own)
    (hg : ∀ (s : Shared) (H : Hp) (C : Addr) (cl : List (Str × Addr)) (fp : List Addr), PG (X.blk s H scope (compEnvC scope cl C X.env) fp) tg g) (ht : ∀ (s : Shared) (H : Hp) (C : Addr) (cl : List (Str × Addr)) (fp : List Addr), PTs (X.blk s H scope (compEnvC scope cl C X.env) fp) ifs tt)
    (hk : ∀ (s : Shared) (H : Hp) (C : Addr) (cl : List (Str × Addr)) (fp : List Addr), PE (X.blk s H scope (compEnvC scope cl C X.env) fp) kx tk)
    (he : ∀ (s : Shared) (H : Hp) (C : Addr) (cl : List (Str × Addr)) (fp : List Addr), PE (X.blk s H scope (compEnvC scope cl C X.env) fp) vx tv) (hs : ∀ x, foldedSetIterable iter X.env x = pure x := by intro _; rfl) :
    PS X (.Assign [.Name y py] (.DictComp kx vx [⟨tg, iter, ifs, 0⟩] scope pos) spos) (tAsg (tDc wi g tt tk tv (own.map (·.2))) (gName i)) := by
  refine ⟨fun pins s σ H D I h => ?_⟩
  rw [exec_Assign_Name_used _ _ _ _ hsw]
  refine wpAny_bind (wpAny_standAt (wpAny_bind ?_))
  show wpAny _ X.A (do let _ ← comprehension (.DictComp kx vx [⟨tg, iter, ifs, 0⟩] scope pos) scope X.env (firstIterPos [⟨tg, iter, ifs, 0⟩] pos) newDict false (eval iter X.env) (some (assign (.Name y py) X.env))) _ _ s
  have h : tDc wi g tt tk tv (own.map (·.2)) σ H (fun x H1 => gName i x σ H1 D.nx) := h
  refine wpAny_bind (thn (dc_core (Qf := fun _ s' => SP X pins D .next s') hc hN I hi ok hg ht hk he hs h fun L C s' m H' I' q hn f => ?_) fun _ s' hq => wpAny_pure (wpAny_pure hq))
  show wpAny _ _ (assign (.Name y py) X.env (.ref L)) _ _ _
  refine wpAny_assign_Name (store_ok2 (v := V.ref L) I' hN hy (.inl hyl) rfl (fun s2 I2 ⟨a, sb, ha⟩ => ?_) (.inr hyl))
  obtain ⟨f0, f1, f2, f3, f4, f5⟩ := f
  have haC : C ≠ a := by
    rcases ha with z | z
    · rw [z]; exact f1
    · exact fun e => f4 y a z e.symm
  refine ⟨m, hn.sameBut sb haC, fun h3 sb3 => ?_⟩
  exact ⟨_, H', I2.turned (t' := s2.toks) (fun b o hb e => (sb3.2 b hb).trans e) f0 f1 f3 f4 f5, q⟩
theorem sw_trueD {kx vx : Expr} {gs : List Comprehension} {scope : Scope} {pos py : Pos} {y : Str} {l : Nat} {env : Env} (hk : env.scope.kind = .function) (hy : env.scope.names.lookup y = some .local) (hl : (py.line == pos.line) = true)
    (ha : (scope.names.any fun (n, k) => n == y && (k == .local || k == .cell)) = false) : swapsWith (.DictComp kx vx gs scope pos) (some (.Name y py)) l env = pure true := by
  have ky : env.kindOf y = some .local := hy
  have hb : env.blockKind = .function := by unfold Env.blockKind; rw [hk]; rfl
  unfold swapsWith
  simp only [hb, ky, ha, Expr.pos, hl]
  rfl
end
end L2

/-! ### the block of the guide's own-error skeleton, for any class over any built-in base whose __init__ stores the field index -/
namespace PySem
namespace Xf_index
open PySem.W PySem.Calls PyProof.Rows PySem.HandSPX
def iA (p1 p2 : Pos) : Arguments := { posonlyargs := [], args := [{ arg := "self", annotation := none, pos := p1 }, { arg := "index", annotation := none, pos := p2 }], vararg := none, kwonlyargs := [], kw_defaults := [], kwarg := none, defaults := [] }
def iB (q1 q2 q3 q4 : Pos) : List Stmt := [.Assign [.Attribute (.Name "self" q1) "index" q2] (.Name "index" q3) q4]
def iS : Scope := { kind := .function, names := [(PySem.Str.ofString "self", .local), (PySem.Str.ofString "index", .local)], isGenerator := false, isCoroutine := false, more := [] }
/-- what the written part says of the class x at C and of its __init__ at fI -/
structure Txt (K : Frag) (mg : Str → Option Value) (x q : Str) (C fI : Addr) (newId : String) (bmB : List Value) : Prop where
  gC : mg x = some (.ref C)
  mkr : excInitIn K C bmB newId = true
  ov : excOver K C bmB = true
  tk : takerIn K C "index" = some none
  sa : findIn K (.ref C) "__setattr__" = some (some (.builtin "object.__setattr__"))
  ga : findIn K (.ref C) "__getattribute__" = some (some (.builtin "BaseException.__getattribute__"))
  gg : findIn K (.ref C) "__getattr__" = some none
  noN : findIn K (.ref C) "index" = some none
  iC : findIn K (.ref C) "__init__" = some (some (.ref fI))
  tC : typeIn K (.ref fI) = some (.type "function")
  kC : keepIn K (.ref C) = true
  exC : subIn K (.ref C) (.type "BaseException") = some true
  tyC : typeIn K (.ref C) = some (.type "type")
  hdC : hasDictIn K C = true
  te : exmOne K (.ref C) (.ref C) = some true
  fn : ∃ (p1 p2 q1 q2 q3 q4 : Pos) (fd : FuncData), L2.FunD K "__init__" q (iA p1 p2) (iB q1 q2 q3 q4) iS [] [] fI fd
theorem one_size (v : Value) : [v].length ≤ sizeLine := by
  rw [sizeLine_eq]
  exact (by decide : 1 ≤ 16777216)
theorem ldC {M : Model} {s : Shared} {name : Str} {scope : Scope} {L a : Addr} {cd : Value} {m : Str → Option Value} {x : Str} {pos : Pos} {v : Value} {Q : Value → Shared → Prop} {A : Around} {E : Value → Shared → Prop} (hn : s.heap.Ns L m) (hv : m x = some v) (h : Q v s)
    (hk : scope.kind = .function := by rfl) (hl : (envOfC name scope L a cd).kindOf x = some .local := by rfl) (hd : (x == ("__debug__" : Str)) = false := by decide) :
    wpAny M A (eval (.Name x pos) (envOfC name scope L a cd)) Q E s := wpAny_Name (wpAny_loadName_local hk hl hn hv h) hd
/-- what __init__ leaves of a fresh error at x -/
structure InitEnd (h h' : Heap) (x C dx t1 : Addr) (v : Value) : Prop where
  keep : ∀ b o, b ≠ x → h.get? b = some o → h'.get? b = some o
  obj : h'.get? x = some { cls := .ref C, dict := some dx, data := .fields #[.ref t1, .none, .none, .none, .bool false, .none] }
  dbig : h.objs.size ≤ dx
  dne : dx ≠ x
  ns : h'.Ns1 dx (fun y => if y = "index" then some v else none)
/-- a made error -/
structure OwnMade (h h' : Heap) (e C d : Addr) (v : Value) : Prop where
  keep : ∀ b o, h.get? b = some o → h'.get? b = some o
  new : h.objs.size ≤ e
  obj : ∃ oe vs, h'.get? e = some oe ∧ oe.cls = .ref C ∧ oe.dict = some d ∧ oe.data = .fields vs ∧ vs[1]? = some .none
  dbig : h.objs.size ≤ d
  dne : d ≠ e
  ns : h'.Ns1 d (fun y => if y = "index" then some v else none)
section
variable {prog : Program} {w : World} {A : Around} {E : Value → Shared → Prop} {R : Result → Shared → Prop} {s : Shared} {K : Frag} {mg : Str → Option Value} {C fI : Addr} {x0 q0 : Str} {B newId initId : String} {bmB : List Value}
theorem init_end (SF : StoreFacts B bmB "object.__setattr__" "object") (T : Txt K mg x0 q0 C fI newId bmB) {x t0 : Addr} {v : Value} (X : K.In s.heap) (hlim : s.heap.NoLimit) (hx : s.heap.get? x = some (excO C t0)) (hroom : A.depth < recursionLimit)
    (hq : ∀ h' tk dx, InitEnd s.heap h' x C dx t0 v → R (.ok (.ret .none)) { s with heap := h', toks := tk }) :
    codeAny (model prog w) A (.call (.ref fI) ⟨[.ref x, v], []⟩) R s := by
  obtain ⟨p1, p2, q1, q2, q3, q4, fd, F⟩ := T.fn
  obtain ⟨oc, od, dV, kV, doc, pm, an, cdv, ct, osl, rfl, ho, hcd, hdv, _⟩ := F.ex
  have e0 : dV = .none := by
    rcases hdv with ⟨_, e⟩ | ⟨e, _⟩
    · exact e
    · exact absurd rfl e
  subst e0
  refine Att.call_fn (binds := [("self", .ref x), ("index", v)]) X hlim ho hcd hroom (BindsTo.of_eq (by first | rfl | with_unfolding_all rfl)) (by first | rfl | decide | with_unfolding_all rfl) (fun s₁ IC => ?_) rfl rfl rfl
  obtain ⟨h₁, tk₁, rfl⟩ := IC.toInCall.same
  have k : ∀ b o, s.heap.get? b = some o → h₁.get? b = some o := IC.toInCall.keep
  have hn := IC.toInCall.ns
  have X₁ : K.In h₁ := X.keeps k
  have hx₁ := k _ _ hx
  show wpAny _ _ (execs _ _) _ _ _
  refine wpAny_execs_cons (plainObj_wpAny_Assign_Attribute ?_)
  refine ldC (v := v) hn (by first | rfl | with_unfolding_all rfl | kernel_rfl) (ldC (v := .ref x) hn (by first | rfl | with_unfolding_all rfl | kernel_rfl) ?_)
  refine set_plain X₁ (ox := excO C t0) (od := none) ⟨hx₁, rfl, rfl, trivial⟩ T.sa ?_
  refine PySem.NX.osaB SF X₁ hx₁ T.ov T.tk T.hdC (fun h₃ tk₃ dx k₃ dn dne hx₃ hn₃ => ?_)
  show wpAny _ _ (execs _ _) _ _ _
  have z : s.heap.objs.size < h₁.objs.size := hn.lt
  exact wpAny_execs_nil (hq h₃ tk₃ dx ⟨fun b o hb e => k₃ b o hb (k b o e), hx₃, Nat.le_of_lt (Nat.lt_of_lt_of_le z dn), dne, hn₃⟩)
theorem made (FB : ExcBaseFacts B newId initId bmB) (SF : StoreFacts B bmB "object.__setattr__" "object") (T : Txt K mg x0 q0 C fI newId bmB) {v : Value} (X : K.In s.heap) (hlim : s.heap.NoLimit) (hroom : A.depth + 1 < recursionLimit)
    (hq : ∀ h' tk e d, OwnMade s.heap h' e C d v → R (.ok (.ret (.ref e))) { s with heap := h', toks := tk }) :
    codeAny (model prog w) A (.call (.ref C) ⟨[v], []⟩) R s := by
  obtain ⟨nm, N, q, bs, bm, hdct, sn, sub, ab, col, dd, k0, k1, k2, k3, k5, hC, hbm⟩ := excInit_of X T.mkr
  obtain ⟨hp, g, dr, tk, os⟩ := s
  have k : ∀ b o, hp.get? b = some o → ((hp.push (kdv_tup [v])).push (excO C hp.objs.size)).get? b = some o := fun b o e => Heap.get?_push_of_some _ (Heap.get?_push_of_some _ e)
  have hget : ((hp.push (kdv_tup [v])).push (excO C hp.objs.size)).get? (hp.objs.size + 1) = some (excO C hp.objs.size) := by heap_get
  refine call_own FB hbm hC (looks_findIn X T.iC) (fun self => bind_fn X self T.tC) (one_size v) ?_
  refine init_end (s := ⟨(hp.push (kdv_tup [v])).push (excO C hp.objs.size), g, dr, tk, os⟩) SF T (X.keeps k) (hlim.keeps k) hget ?_ fun h' tk' dx ⟨k', hx, dn, dne, hns⟩ => ?_
  · show A.depth + 1 < recursionLimit
    exact hroom
  · have old : ∀ b o, hp.get? b = some o → h'.get? b = some o := fun b o e => k' b o (Nat.ne_of_lt (Nat.lt_succ_of_lt (Heap.lt_size e))) (k b o e)
    have z : hp.objs.size + 1 + 1 ≤ dx := by
      first
        | (simpa only [Heap.size_push] using dn)
        | exact dn
        | (have q := dn; rw [Heap.size_push, Heap.size_push] at q; exact q)
    exact ⟨rfl, hq h' tk' (hp.objs.size + 1) dx ⟨old, Nat.le_succ _, ⟨_, _, hx, rfl, rfl, rfl, rfl⟩, Nat.le_trans (Nat.le_trans (Nat.le_succ _) (Nat.le_succ _)) z, dne, hns⟩⟩
end
end Xf_index
end PySem
namespace L2
open PySem PySem.Spec PyProof.Rows
theorem relO_index {v : V} {v' : Value} (r : RelV v v') (f : Str) : RelO (List.lookup f [(("index" : Str), v)]) (if f = "index" then some v' else none) := by
  by_cases hw : f = "index"
  · subst hw
    rw [if_pos rfl]
    have q : List.lookup ("index" : Str) [(("index" : Str), v)] = some v := by simp [List.lookup]
    rw [q]
    exact r
  · rw [if_neg hw]
    have qw : (f == ("index" : Str)) = false := by simpa using hw
    have q2 : List.lookup f [(("index" : Str), v)] = none := by simp [List.lookup, qw]
    rw [q2]
    trivial
section
variable {X : Cx} {C fI : Addr} {x0 q0 : Str} {B newId initId : String} {bmB : List Value}
/-- x(e) -/
def tMk_index (C : Addr) (ta : TA) : L2.St → Hp → XK → Prop := fun σ H Q => ta σ H fun vs H1 => ∃ v, vs = [v] ∧ ∀ d, H1 d = none → Q (.ref C) (some d) (upd H1 d (.xd [(("index" : Str), v)]))
theorem pmk_index {a : Expr} {ta : TA} {p pos : Pos} {k : Nat} (FB : ExcBaseFacts B newId initId bmB) (SF : StoreFacts B bmB "object.__setattr__" "object") (T : PySem.Xf_index.Txt X.K X.mg x0 q0 C fI newId bmB) (hr : Room k X.A) (ha : PA X [a] ta) (hg : Gl X x0 := by rfl) (hdb : (x0 == ("__debug__" : Str)) = false := by decide)
    (he : starEach (a :: []) X.env = (false, eval a X.env) :: starEach [] X.env := by rfl) (hpl : (backTo pos (starEach [] X.env)).any (·.1) = false := by rfl) :
    PMk X (.Call (.Name x0 p) [a] [] pos) (tMk_index C ta) := by
  intro pins s σ H Q I h
  refine wpAny_Call_Name_kw (ld_glob I hg T.gC ?_ hdb)
  refine PySem.W.callWith_K (h₀ := X.base) I.ok.mod.kin T.kC (thn (ha.run pos pins s σ H _ I h) fun us s1 hh => ?_) he hpl
  obtain ⟨vs, H1, I1, r1, v, ev, q1⟩ := hh
  subst ev
  refine ⟨I1.kIn, ?_⟩
  cases r1 with
  | cons rv rn =>
    rename_i v' us'
    cases rn
    show wpAny _ _ (call (.ref C) [v']) _ _ _
    have hlim := I1.nolimit
    obtain ⟨hp, g, dr, tk, os⟩ := s1
    refine wpAny_call (PySem.Xf_index.made FB SF T I1.kIn hlim (by have := hr.dp; omega) fun h' tk' e d M => ?_)
    show MkP X pins σ Q (.ref e) ⟨h', g, dr, tk', os⟩
    obtain ⟨oe, fv, hoe, hc, hd, hdat, h1⟩ := M.obj
    have hns := M.ns
    obtain ⟨G', g1, g2⟩ := restrict h' fun b => decide (b ≠ e)
    have gk : ∀ b, b ≠ e → G'.get? b = h'.get? b := fun b hb => g1 b (decide_eq_true hb)
    have ge : G'.get? e = none := g2 e (by simp)
    have old : ∀ b o, hp.get? b = some o → G'.get? b = some o := fun b o q => (gk b (Nat.ne_of_lt (Nat.lt_of_lt_of_le (Heap.lt_size q) M.new))).trans (M.keep b o q)
    have ob : ObjOk X.prog X.w (upd H1 d (.xd [(("index" : Str), v)])) G' d (.xd [(("index" : Str), v)]) :=
      ⟨_, hns.at (fun o q => (gk d M.dne).trans q), fun f => relO_index rv f⟩
    have J : Inv X pins σ (upd H1 d (.xd [(("index" : Str), v)])) ⟨G', g, dr, tk', os⟩ := I1.laid (t' := tk') old M.dbig ob
    refine ⟨e, oe, fv, ⟨G', g, dr, tk', os⟩, _, .ref C, some d, rfl, J, fun b o q => ?_, ge, hoe, ⟨hc, hd⟩, hdat, h1, ?_, rfl, I1.bare, raises_own T.exC T.tyC, q1 d (I1.hok.fresh M.dbig)⟩
    · by_cases hb : b = e
      · have q' : G'.get? b = some o := q
        rw [hb, ge] at q'; cases q'
      · exact (gk b hb).symm.trans q
    · rw [upd_ne (Ne.symm M.dne)]
      exact I1.hok.fresh M.new
/-- raise x(e) -/
def tRaise_index (C : Addr) (W : WX) (ta : TA) : TS := fun _ σ H => tMk_index C ta σ H fun cls d H' => W cls d σ H'
theorem ps_raise_index {a : Expr} {ta : TA} {W : WX} {p pos pos2 : Pos} {k : Nat} (hc : X.calm = true) (FB : ExcBaseFacts B newId initId bmB) (SF : StoreFacts B bmB "object.__setattr__" "object") (T : PySem.Xf_index.Txt X.K X.mg x0 q0 C fI newId bmB) (hr : Room k X.A) (tk : Takes X W) (ha : PA X [a] ta) (hg : Gl X x0 := by rfl) (hdb : (x0 == ("__debug__" : Str)) = false := by decide)
    (he : starEach (a :: []) X.env = (false, eval a X.env) :: starEach [] X.env := by rfl) (hpl : (backTo pos (starEach [] X.env)).any (·.1) = false := by rfl) :
    PS X (.Raise (some (.Call (.Name x0 p) [a] [] pos)) none pos2) (tRaise_index C W ta) := ps_raise hc tk (pmk_index FB SF T hr ha hg hdb he hpl)
end
end L2
namespace My
open PySem PySem.Spec PyProof.Rows L2
theorem excB_index {K : PySem.W.Frag} {mg : Str → Option Value} {x q : Str} {newId : String} {bmB : List Value} (glo : mg x = some (.ref (He.ga K x))) (c : excB K x "index" newId bmB = true)
    (fn : ∃ (p1 p2 q1 q2 q3 q4 : Pos) (fd : FuncData), FunD K "__init__" q (PySem.Xf_index.iA p1 p2) (PySem.Xf_index.iB q1 q2 q3 q4) PySem.Xf_index.iS [] [] (He.ma K (He.ga K x) "__init__") fd) :
    PySem.Xf_index.Txt K mg x q (He.ga K x) (He.ma K (He.ga K x) "__init__") newId bmB := by
  unfold excB at c
  simp only [Bool.and_eq_true, decide_eq_true_eq] at c
  obtain ⟨c1, c2, c3, c4, c5, c6, c7, c8, c9, c10, c11, c12, c13, c14⟩ := c
  exact ⟨glo, c1, c2, c3, He.eqO_ok c4, He.eqO_ok c5, He.eqO_ok c6, He.eqO_ok c7, He.eqO_ok c8, c9, c10, c11, c12, c13, c14, fn⟩
end My

/-! ### the block of the guide's own-error skeleton, for any class over any built-in base whose __init__ stores the field error -/
namespace PySem
namespace Xf_error
open PySem.W PySem.Calls PyProof.Rows PySem.HandSPX
def iA (p1 p2 : Pos) : Arguments := { posonlyargs := [], args := [{ arg := "self", annotation := none, pos := p1 }, { arg := "error", annotation := none, pos := p2 }], vararg := none, kwonlyargs := [], kw_defaults := [], kwarg := none, defaults := [] }
def iB (q1 q2 q3 q4 : Pos) : List Stmt := [.Assign [.Attribute (.Name "self" q1) "error" q2] (.Name "error" q3) q4]
def iS : Scope := { kind := .function, names := [(PySem.Str.ofString "self", .local), (PySem.Str.ofString "error", .local)], isGenerator := false, isCoroutine := false, more := [] }
/-- what the written part says of the class x at C and of its __init__ at fI -/
structure Txt (K : Frag) (mg : Str → Option Value) (x q : Str) (C fI : Addr) (newId : String) (bmB : List Value) : Prop where
  gC : mg x = some (.ref C)
  mkr : excInitIn K C bmB newId = true
  ov : excOver K C bmB = true
  tk : takerIn K C "error" = some none
  sa : findIn K (.ref C) "__setattr__" = some (some (.builtin "object.__setattr__"))
  ga : findIn K (.ref C) "__getattribute__" = some (some (.builtin "BaseException.__getattribute__"))
  gg : findIn K (.ref C) "__getattr__" = some none
  noN : findIn K (.ref C) "error" = some none
  iC : findIn K (.ref C) "__init__" = some (some (.ref fI))
  tC : typeIn K (.ref fI) = some (.type "function")
  kC : keepIn K (.ref C) = true
  exC : subIn K (.ref C) (.type "BaseException") = some true
  tyC : typeIn K (.ref C) = some (.type "type")
  hdC : hasDictIn K C = true
  te : exmOne K (.ref C) (.ref C) = some true
  fn : ∃ (p1 p2 q1 q2 q3 q4 : Pos) (fd : FuncData), L2.FunD K "__init__" q (iA p1 p2) (iB q1 q2 q3 q4) iS [] [] fI fd
theorem one_size (v : Value) : [v].length ≤ sizeLine := by
  rw [sizeLine_eq]
  exact (by decide : 1 ≤ 16777216)
theorem ldC {M : Model} {s : Shared} {name : Str} {scope : Scope} {L a : Addr} {cd : Value} {m : Str → Option Value} {x : Str} {pos : Pos} {v : Value} {Q : Value → Shared → Prop} {A : Around} {E : Value → Shared → Prop} (hn : s.heap.Ns L m) (hv : m x = some v) (h : Q v s)
    (hk : scope.kind = .function := by rfl) (hl : (envOfC name scope L a cd).kindOf x = some .local := by rfl) (hd : (x == ("__debug__" : Str)) = false := by decide) :
    wpAny M A (eval (.Name x pos) (envOfC name scope L a cd)) Q E s := wpAny_Name (wpAny_loadName_local hk hl hn hv h) hd
/-- what __init__ leaves of a fresh error at x -/
structure InitEnd (h h' : Heap) (x C dx t1 : Addr) (v : Value) : Prop where
  keep : ∀ b o, b ≠ x → h.get? b = some o → h'.get? b = some o
  obj : h'.get? x = some { cls := .ref C, dict := some dx, data := .fields #[.ref t1, .none, .none, .none, .bool false, .none] }
  dbig : h.objs.size ≤ dx
  dne : dx ≠ x
  ns : h'.Ns1 dx (fun y => if y = "error" then some v else none)
/-- a made error -/
structure OwnMade (h h' : Heap) (e C d : Addr) (v : Value) : Prop where
  keep : ∀ b o, h.get? b = some o → h'.get? b = some o
  new : h.objs.size ≤ e
  obj : ∃ oe vs, h'.get? e = some oe ∧ oe.cls = .ref C ∧ oe.dict = some d ∧ oe.data = .fields vs ∧ vs[1]? = some .none
  dbig : h.objs.size ≤ d
  dne : d ≠ e
  ns : h'.Ns1 d (fun y => if y = "error" then some v else none)
section
variable {prog : Program} {w : World} {A : Around} {E : Value → Shared → Prop} {R : Result → Shared → Prop} {s : Shared} {K : Frag} {mg : Str → Option Value} {C fI : Addr} {x0 q0 : Str} {B newId initId : String} {bmB : List Value}
theorem init_end (SF : StoreFacts B bmB "object.__setattr__" "object") (T : Txt K mg x0 q0 C fI newId bmB) {x t0 : Addr} {v : Value} (X : K.In s.heap) (hlim : s.heap.NoLimit) (hx : s.heap.get? x = some (excO C t0)) (hroom : A.depth < recursionLimit)
    (hq : ∀ h' tk dx, InitEnd s.heap h' x C dx t0 v → R (.ok (.ret .none)) { s with heap := h', toks := tk }) :
    codeAny (model prog w) A (.call (.ref fI) ⟨[.ref x, v], []⟩) R s := by
  obtain ⟨p1, p2, q1, q2, q3, q4, fd, F⟩ := T.fn
  obtain ⟨oc, od, dV, kV, doc, pm, an, cdv, ct, osl, rfl, ho, hcd, hdv, _⟩ := F.ex
  have e0 : dV = .none := by
    rcases hdv with ⟨_, e⟩ | ⟨e, _⟩
    · exact e
    · exact absurd rfl e
  subst e0
  refine Att.call_fn (binds := [("self", .ref x), ("error", v)]) X hlim ho hcd hroom (BindsTo.of_eq (by first | rfl | with_unfolding_all rfl)) (by first | rfl | decide | with_unfolding_all rfl) (fun s₁ IC => ?_) rfl rfl rfl
  obtain ⟨h₁, tk₁, rfl⟩ := IC.toInCall.same
  have k : ∀ b o, s.heap.get? b = some o → h₁.get? b = some o := IC.toInCall.keep
  have hn := IC.toInCall.ns
  have X₁ : K.In h₁ := X.keeps k
  have hx₁ := k _ _ hx
  show wpAny _ _ (execs _ _) _ _ _
  refine wpAny_execs_cons (plainObj_wpAny_Assign_Attribute ?_)
  refine ldC (v := v) hn (by first | rfl | with_unfolding_all rfl | kernel_rfl) (ldC (v := .ref x) hn (by first | rfl | with_unfolding_all rfl | kernel_rfl) ?_)
  refine set_plain X₁ (ox := excO C t0) (od := none) ⟨hx₁, rfl, rfl, trivial⟩ T.sa ?_
  refine PySem.NX.osaB SF X₁ hx₁ T.ov T.tk T.hdC (fun h₃ tk₃ dx k₃ dn dne hx₃ hn₃ => ?_)
  show wpAny _ _ (execs _ _) _ _ _
  have z : s.heap.objs.size < h₁.objs.size := hn.lt
  exact wpAny_execs_nil (hq h₃ tk₃ dx ⟨fun b o hb e => k₃ b o hb (k b o e), hx₃, Nat.le_of_lt (Nat.lt_of_lt_of_le z dn), dne, hn₃⟩)
theorem made (FB : ExcBaseFacts B newId initId bmB) (SF : StoreFacts B bmB "object.__setattr__" "object") (T : Txt K mg x0 q0 C fI newId bmB) {v : Value} (X : K.In s.heap) (hlim : s.heap.NoLimit) (hroom : A.depth + 1 < recursionLimit)
    (hq : ∀ h' tk e d, OwnMade s.heap h' e C d v → R (.ok (.ret (.ref e))) { s with heap := h', toks := tk }) :
    codeAny (model prog w) A (.call (.ref C) ⟨[v], []⟩) R s := by
  obtain ⟨nm, N, q, bs, bm, hdct, sn, sub, ab, col, dd, k0, k1, k2, k3, k5, hC, hbm⟩ := excInit_of X T.mkr
  obtain ⟨hp, g, dr, tk, os⟩ := s
  have k : ∀ b o, hp.get? b = some o → ((hp.push (kdv_tup [v])).push (excO C hp.objs.size)).get? b = some o := fun b o e => Heap.get?_push_of_some _ (Heap.get?_push_of_some _ e)
  have hget : ((hp.push (kdv_tup [v])).push (excO C hp.objs.size)).get? (hp.objs.size + 1) = some (excO C hp.objs.size) := by heap_get
  refine call_own FB hbm hC (looks_findIn X T.iC) (fun self => bind_fn X self T.tC) (one_size v) ?_
  refine init_end (s := ⟨(hp.push (kdv_tup [v])).push (excO C hp.objs.size), g, dr, tk, os⟩) SF T (X.keeps k) (hlim.keeps k) hget ?_ fun h' tk' dx ⟨k', hx, dn, dne, hns⟩ => ?_
  · show A.depth + 1 < recursionLimit
    exact hroom
  · have old : ∀ b o, hp.get? b = some o → h'.get? b = some o := fun b o e => k' b o (Nat.ne_of_lt (Nat.lt_succ_of_lt (Heap.lt_size e))) (k b o e)
    have z : hp.objs.size + 1 + 1 ≤ dx := by
      first
        | (simpa only [Heap.size_push] using dn)
        | exact dn
        | (have q := dn; rw [Heap.size_push, Heap.size_push] at q; exact q)
    exact ⟨rfl, hq h' tk' (hp.objs.size + 1) dx ⟨old, Nat.le_succ _, ⟨_, _, hx, rfl, rfl, rfl, rfl⟩, Nat.le_trans (Nat.le_trans (Nat.le_succ _) (Nat.le_succ _)) z, dne, hns⟩⟩
end
end Xf_error
end PySem
namespace L2
open PySem PySem.Spec PyProof.Rows
theorem relO_error {v : V} {v' : Value} (r : RelV v v') (f : Str) : RelO (List.lookup f [(("error" : Str), v)]) (if f = "error" then some v' else none) := by
  by_cases hw : f = "error"
  · subst hw
    rw [if_pos rfl]
    have q : List.lookup ("error" : Str) [(("error" : Str), v)] = some v := by simp [List.lookup]
    rw [q]
    exact r
  · rw [if_neg hw]
    have qw : (f == ("error" : Str)) = false := by simpa using hw
    have q2 : List.lookup f [(("error" : Str), v)] = none := by simp [List.lookup, qw]
    rw [q2]
    trivial
section
variable {X : Cx} {C fI : Addr} {x0 q0 : Str} {B newId initId : String} {bmB : List Value}
/-- x(e) -/
def tMk_error (C : Addr) (ta : TA) : L2.St → Hp → XK → Prop := fun σ H Q => ta σ H fun vs H1 => ∃ v, vs = [v] ∧ ∀ d, H1 d = none → Q (.ref C) (some d) (upd H1 d (.xd [(("error" : Str), v)]))
theorem pmk_error {a : Expr} {ta : TA} {p pos : Pos} {k : Nat} (FB : ExcBaseFacts B newId initId bmB) (SF : StoreFacts B bmB "object.__setattr__" "object") (T : PySem.Xf_error.Txt X.K X.mg x0 q0 C fI newId bmB) (hr : Room k X.A) (ha : PA X [a] ta) (hg : Gl X x0 := by rfl) (hdb : (x0 == ("__debug__" : Str)) = false := by decide)
    (he : starEach (a :: []) X.env = (false, eval a X.env) :: starEach [] X.env := by rfl) (hpl : (backTo pos (starEach [] X.env)).any (·.1) = false := by rfl) :
    PMk X (.Call (.Name x0 p) [a] [] pos) (tMk_error C ta) := by
  intro pins s σ H Q I h
  refine wpAny_Call_Name_kw (ld_glob I hg T.gC ?_ hdb)
  refine PySem.W.callWith_K (h₀ := X.base) I.ok.mod.kin T.kC (thn (ha.run pos pins s σ H _ I h) fun us s1 hh => ?_) he hpl
  obtain ⟨vs, H1, I1, r1, v, ev, q1⟩ := hh
  subst ev
  refine ⟨I1.kIn, ?_⟩
  cases r1 with
  | cons rv rn =>
    rename_i v' us'
    cases rn
    show wpAny _ _ (call (.ref C) [v']) _ _ _
    have hlim := I1.nolimit
    obtain ⟨hp, g, dr, tk, os⟩ := s1
    refine wpAny_call (PySem.Xf_error.made FB SF T I1.kIn hlim (by have := hr.dp; omega) fun h' tk' e d M => ?_)
    show MkP X pins σ Q (.ref e) ⟨h', g, dr, tk', os⟩
    obtain ⟨oe, fv, hoe, hc, hd, hdat, h1⟩ := M.obj
    have hns := M.ns
    obtain ⟨G', g1, g2⟩ := restrict h' fun b => decide (b ≠ e)
    have gk : ∀ b, b ≠ e → G'.get? b = h'.get? b := fun b hb => g1 b (decide_eq_true hb)
    have ge : G'.get? e = none := g2 e (by simp)
    have old : ∀ b o, hp.get? b = some o → G'.get? b = some o := fun b o q => (gk b (Nat.ne_of_lt (Nat.lt_of_lt_of_le (Heap.lt_size q) M.new))).trans (M.keep b o q)
    have ob : ObjOk X.prog X.w (upd H1 d (.xd [(("error" : Str), v)])) G' d (.xd [(("error" : Str), v)]) :=
      ⟨_, hns.at (fun o q => (gk d M.dne).trans q), fun f => relO_error rv f⟩
    have J : Inv X pins σ (upd H1 d (.xd [(("error" : Str), v)])) ⟨G', g, dr, tk', os⟩ := I1.laid (t' := tk') old M.dbig ob
    refine ⟨e, oe, fv, ⟨G', g, dr, tk', os⟩, _, .ref C, some d, rfl, J, fun b o q => ?_, ge, hoe, ⟨hc, hd⟩, hdat, h1, ?_, rfl, I1.bare, raises_own T.exC T.tyC, q1 d (I1.hok.fresh M.dbig)⟩
    · by_cases hb : b = e
      · have q' : G'.get? b = some o := q
        rw [hb, ge] at q'; cases q'
      · exact (gk b hb).symm.trans q
    · rw [upd_ne (Ne.symm M.dne)]
      exact I1.hok.fresh M.new
/-- raise x(e) -/
def tRaise_error (C : Addr) (W : WX) (ta : TA) : TS := fun _ σ H => tMk_error C ta σ H fun cls d H' => W cls d σ H'
theorem ps_raise_error {a : Expr} {ta : TA} {W : WX} {p pos pos2 : Pos} {k : Nat} (hc : X.calm = true) (FB : ExcBaseFacts B newId initId bmB) (SF : StoreFacts B bmB "object.__setattr__" "object") (T : PySem.Xf_error.Txt X.K X.mg x0 q0 C fI newId bmB) (hr : Room k X.A) (tk : Takes X W) (ha : PA X [a] ta) (hg : Gl X x0 := by rfl) (hdb : (x0 == ("__debug__" : Str)) = false := by decide)
    (he : starEach (a :: []) X.env = (false, eval a X.env) :: starEach [] X.env := by rfl) (hpl : (backTo pos (starEach [] X.env)).any (·.1) = false := by rfl) :
    PS X (.Raise (some (.Call (.Name x0 p) [a] [] pos)) none pos2) (tRaise_error C W ta) := ps_raise hc tk (pmk_error FB SF T hr ha hg hdb he hpl)
end
end L2
namespace My
open PySem PySem.Spec PyProof.Rows L2
theorem excB_error {K : PySem.W.Frag} {mg : Str → Option Value} {x q : Str} {newId : String} {bmB : List Value} (glo : mg x = some (.ref (He.ga K x))) (c : excB K x "error" newId bmB = true)
    (fn : ∃ (p1 p2 q1 q2 q3 q4 : Pos) (fd : FuncData), FunD K "__init__" q (PySem.Xf_error.iA p1 p2) (PySem.Xf_error.iB q1 q2 q3 q4) PySem.Xf_error.iS [] [] (He.ma K (He.ga K x) "__init__") fd) :
    PySem.Xf_error.Txt K mg x q (He.ga K x) (He.ma K (He.ga K x) "__init__") newId bmB := by
  unfold excB at c
  simp only [Bool.and_eq_true, decide_eq_true_eq] at c
  obtain ⟨c1, c2, c3, c4, c5, c6, c7, c8, c9, c10, c11, c12, c13, c14⟩ := c
  exact ⟨glo, c1, c2, c3, He.eqO_ok c4, He.eqO_ok c5, He.eqO_ok c6, He.eqO_ok c7, He.eqO_ok c8, c9, c10, c11, c12, c13, c14, fn⟩
end My

namespace My
open PySem PySem.Spec PyProof.Rows L2
/-! ### words that are arities -/
def tokW (w : Str) : Option Nat := (List.range 6).find? fun i => decide (w = txI (i : Int))
theorem tokW_some {w : Str} {i : Nat} (h : tokW w = some i) : i < 6 ∧ w = txI (i : Int) := by
  have h1 := List.find?_some h
  have h2 := List.mem_of_find?_eq_some h
  exact ⟨List.mem_range.mp h2, of_decide_eq_true h1⟩
theorem dicA_val (w : Str) : valV (dicA 6) (.inr w) = (tokW w).map fun i : Nat => V.int (i : Int) := by
  unfold valV dicA tokW
  rw [List.find?_map, Option.map_map]
  have e : ((fun kv : Key × V => decide (kv.1 = Sum.inr w)) ∘ fun k : Nat => ((Sum.inr (txI (k : Int)) : Key), V.int (k : Int))) = fun i : Nat => decide (w = txI (i : Int)) := by
    funext i
    show decide ((Sum.inr (txI (i : Int)) : Key) = Sum.inr w) = _
    rw [Bool.eq_iff_iff, decide_eq_true_iff, decide_eq_true_iff]
    exact ⟨fun h => (Sum.inr.inj h).symm, fun h => by rw [h]⟩
  rw [e]
  rfl
theorem six_list : ([.str "0", .str "1", .str "2", .str "3", .str "4", .str "5"] : List V) = (List.range 6).map fun i : Nat => V.str (txI (i : Int)) := by decide +kernel
theorem inV_six (w : Str) : inV (.str w) [.str "0", .str "1", .str "2", .str "3", .str "4", .str "5"] = (tokW w).isSome := by
  rw [six_list]
  unfold inV tokW
  rw [Bool.eq_iff_iff, List.any_eq_true, List.find?_isSome]
  constructor
  · rintro ⟨x, hx, h⟩
    obtain ⟨i, hi, rfl⟩ := List.mem_map.mp hx
    have h : (txI (i : Int) == w) = true := h
    exact ⟨i, hi, decide_eq_true (eq_of_beq h).symm⟩
  · rintro ⟨i, hi, h⟩
    refine ⟨_, List.mem_map.mpr ⟨i, hi, rfl⟩, ?_⟩
    show (txI (i : Int) == w) = true
    rw [of_decide_eq_true h]
    exact beq_self_eq_true _
theorem intT : ∀ i : Nat, i < 6 → PySem.intText? (txI (i : Int)) = some (i : Int) := fun i h => TL.int_num (by rw [TL.numL_lt (by omega)]; show 1 ≤ 4300; decide)
def badW (k : Nat) (w : Str) : Bool := decide (24 ≤ k) || (tokW w).isNone
def resW : Nat → List Str → List Int → PyData
  | _, [], acc => .list [.str "ring", .tuple (acc.map PyData.int)]
  | k, w :: r, acc => if badW k w = true then .list [.str "BadText", .int (k : Int)] else resW (k + 1) r (acc ++ [(((tokW w).getD 0 : Nat) : Int)])
def resD : PyData → PyData
  | .str x => resW 0 (Txt.split x " ") []
  | _ => .list [.str "BadText", .none]
theorem resW_bad {k : Nat} {w : Str} {r : List Str} {acc : List Int} (h : badW k w = true) : resW k (w :: r) acc = .list [.str "BadText", .int (k : Int)] := if_pos h
theorem resW_go {k i : Nat} {w : Str} {r : List Str} {acc : List Int} (h : badW k w = false) (e : tokW w = some i) : resW k (w :: r) acc = resW (k + 1) r (acc ++ [(i : Int)]) := by
  show (if badW k w = true then _ else resW (k + 1) r (acc ++ [(((tokW w).getD 0 : Nat) : Int)])) = _
  rw [if_neg (by rw [h]; exact Bool.false_ne_true), e]
  rfl
theorem badW_no {k : Nat} {w : Str} (h : badW k w = false) : k < 24 ∧ ∃ i, tokW w = some i ∧ i < 6 ∧ w = txI (i : Int) := by
  unfold badW at h
  rw [Bool.or_eq_false_iff] at h
  have h1 := of_decide_eq_false h.1
  cases e : tokW w with
  | none =>
    rw [e] at h
    exact absurd h.2 (by decide)
  | some i => exact ⟨by omega, i, rfl, tokW_some e⟩
theorem fit_resW : ∀ (ws : List Str) (k : Nat) (acc : List Int), acc.length ≤ k → k ≤ 24 → (∀ x ∈ acc, x.natAbs < 10 ^ 30) → Fit 1000 5 (resW k ws acc)
  | [], k, acc, h1, h2, h3 => (fit_list (fitAll_cons (show Fit 20 2 (.str "ring") from ⟨by decide +kernel, by decide +kernel, by decide +kernel, by decide +kernel⟩) (fitAll_cons ((fit_tuple (fitAll_ints acc 0 h3)).mono (m := 30) (j := 2) (by omega) (by decide)) (fitAll_nil 0 2)))).mono (by decide) (by decide)
  | w :: r, k, acc, h1, h2, h3 => by
    cases c : badW k w with
    | true =>
      rw [resW_bad c]
      exact (fit_list (fitAll_cons (show Fit 20 2 (.str "BadText") from ⟨by decide +kernel, by decide +kernel, by decide +kernel, by decide +kernel⟩) (fitAll_cons (fit_int 0 2 (i := (k : Int)) (by omega)) (fitAll_nil 0 2)))).mono (by decide) (by decide)
    | false =>
      obtain ⟨hk, i, e, hi, _⟩ := badW_no c
      rw [resW_go c e]
      refine fit_resW r (k + 1) _ (by rw [List.length_append]; show _ + 1 ≤ _; omega) (by omega) fun x hx => ?_
      rcases List.mem_append.mp hx with z | z
      · exact h3 x z
      · rw [List.mem_singleton.mp z]
        omega
theorem fit_resN : Fit 1000 5 (.list [.str "BadText", .none]) := ⟨by decide +kernel, by decide +kernel, by decide +kernel, by decide +kernel⟩
theorem fit_resD (d : PyData) : Fit 1000 5 (resD d) := by
  cases d with
  | str x => exact fit_resW _ 0 [] (Nat.le_refl _) (by decide) fun _ z => nomatch z
  | _ => exact fit_resN
/-! ### texts in bounds -/
def Cok (x : Str) : Prop := ∀ c ∈ TL.tl x, c < 16 ^ 8
def Sok (n : Nat) (x : Str) : Prop := x.length ≤ n ∧ Cok x
def wsz (ws : List Str) : Nat := (ws.map (·.length)).sum + ws.length
def Wok (n : Nat) (ws : List Str) : Prop := wsz ws ≤ n ∧ ∀ w ∈ ws, Cok w
theorem Sok.mono {n m : Nat} {x : Str} (h : Sok n x) (g : n ≤ m) : Sok m x := ⟨Nat.le_trans h.1 g, h.2⟩
theorem str_app_len (x y : Str) : (x ++ y).length = x.length + y.length := by
  rw [str_len_tl, TL.tl_append, List.length_append]
  rfl
theorem wsz_app (a b : List Str) : wsz (a ++ b) = wsz a + wsz b := by
  unfold wsz
  rw [List.map_append, List.sum_append, List.length_append]
  omega
theorem wsz_split (a : List Str) (i : Nat) : wsz (a.take i) + wsz (a.drop i) = wsz a := by
  rw [← wsz_app, List.take_append_drop]
theorem Wok.take {n : Nat} {a : List Str} (h : Wok n a) (i : Nat) : Wok n (a.take i) := ⟨by have := wsz_split a i; have := h.1; omega, fun w hw => h.2 w (List.mem_of_mem_take hw)⟩
theorem Wok.drop {n : Nat} {a : List Str} (h : Wok n a) (i : Nat) : Wok n (a.drop i) := ⟨by have := wsz_split a i; have := h.1; omega, fun w hw => h.2 w (List.mem_of_mem_drop hw)⟩
theorem Wok.one {n : Nat} {x : Str} (h : Sok n x) : Wok (n + 1) [x] := ⟨by show x.length + 0 + 1 ≤ _; have := h.1; omega, fun w hw => by rw [List.mem_singleton.mp hw]; exact h.2⟩
theorem joinL_len2 : ∀ ps : List (List Nat), (TL.joinL [32] ps).length ≤ (ps.map (·.length)).sum + ps.length
  | [] => Nat.zero_le _
  | [p] => by
    show p.length ≤ p.length + 0 + 1
    omega
  | p :: q :: r => by
    have h2 := joinL_len2 (q :: r)
    show (p ++ ([32] ++ TL.joinL [32] (q :: r))).length ≤ p.length + ((q :: r).map (·.length)).sum + ((q :: r).length + 1)
    rw [List.length_append, List.length_append]
    show p.length + (1 + _) ≤ _
    omega
theorem Wok.join {n : Nat} {a : List Str} (h : Wok n a) : Sok n (Txt.join " " a) := by
  have e : TL.tl (Txt.join " " a) = TL.joinL [32] (a.map TL.tl) := by rw [TL.join_eq, TL.tl_join, tl_sp]
  refine ⟨?_, fun c hc => ?_⟩
  · rw [str_len_tl, e]
    have h1 := joinL_len2 (a.map TL.tl)
    rw [List.map_map, List.length_map] at h1
    have h2 := h.1
    have h3 : ((a.map ((fun x : List Nat => x.length) ∘ TL.tl)).sum) = (a.map (·.length)).sum := rfl
    unfold wsz at h2
    omega
  · rw [e] at hc
    rcases joinL_mem hc with z | ⟨p, hp, hc⟩
    · rw [List.mem_singleton.mp z]
      decide
    · obtain ⟨w, hw, rfl⟩ := List.mem_map.mp hp
      exact h.2 w hw c hc
theorem spl_sum : ∀ (l acc : List Nat), ((TL.spl [32] 0 acc l).map (·.length)).sum + (TL.spl [32] 0 acc l).length = acc.length + l.length + 1
  | [], acc => by
    rw [TL.spl_nil]
    show acc.length + 0 + 1 = acc.length + 0 + 1
    rfl
  | c :: r, acc => by
    cases h : TL.pre [32] (c :: r) with
    | true =>
      rw [TL.spl_hit h]
      have ih := spl_sum r []
      show acc.length + ((TL.spl [32] 0 [] r).map (·.length)).sum + ((TL.spl [32] 0 [] r).length + 1) = acc.length + (r.length + 1) + 1
      have : ([] : List Nat).length = 0 := rfl
      omega
    | false =>
      rw [TL.spl_miss h]
      have ih := spl_sum r (acc ++ [c])
      rw [List.length_append] at ih
      have : [c].length = 1 := rfl
      show _ = acc.length + (r.length + 1) + 1
      omega
theorem spl_mem : ∀ (l acc : List Nat) {w : List Nat} {c : Nat}, w ∈ TL.spl [32] 0 acc l → c ∈ w → c ∈ acc ∨ c ∈ l
  | [], acc, w, c, hw, hc => by
    rw [TL.spl_nil] at hw
    rw [List.mem_singleton.mp hw] at hc
    exact .inl hc
  | d :: r, acc, w, c, hw, hc => by
    cases h : TL.pre [32] (d :: r) with
    | true =>
      rw [TL.spl_hit h] at hw
      rcases List.mem_cons.mp hw with z | z
      · rw [z] at hc
        exact .inl hc
      · rcases spl_mem r [] z hc with y | y
        · cases y
        · exact .inr (List.mem_cons_of_mem _ y)
    | false =>
      rw [TL.spl_miss h] at hw
      rcases spl_mem r (acc ++ [d]) hw hc with y | y
      · rcases List.mem_append.mp y with y | y
        · exact .inl y
        · rw [List.mem_singleton.mp y]
          exact .inr List.mem_cons_self
      · exact .inr (List.mem_cons_of_mem _ y)
theorem split_tl (x : Str) : (Txt.split x " ").map TL.tl = TL.spl [32] 0 [] (TL.tl x) := by
  have := TL.split_spl x " " (by rw [tl_sp]; simp) (TL.kind_ok (by decide +kernel))
  rw [tl_sp] at this
  exact this
theorem Sok.split {n : Nat} {x : Str} (h : Sok n x) : Wok (n + 1) (Txt.split x " ") := by
  have e := split_tl x
  refine ⟨?_, fun w hw c hc => ?_⟩
  · have h1 := spl_sum (TL.tl x) []
    rw [← e, List.map_map, List.length_map] at h1
    have h2 := h.1
    rw [str_len_tl] at h2
    have h3 : ((Txt.split x " ").map ((fun x : List Nat => x.length) ∘ TL.tl)).sum = ((Txt.split x " ").map (·.length)).sum := rfl
    have h4 : ([] : List Nat).length = 0 := rfl
    unfold wsz
    omega
  · have hm : TL.tl w ∈ (Txt.split x " ").map TL.tl := List.mem_map.mpr ⟨w, hw, rfl⟩
    rw [e] at hm
    rcases spl_mem _ _ hm hc with y | y
    · cases y
    · exact h.2 c y
theorem split_ne (x : Str) : 1 ≤ (Txt.split x " ").length := by
  have e := congrArg List.length (split_tl x)
  rw [List.length_map] at e
  rw [e]
  have : ∀ (l acc : List Nat), 1 ≤ (TL.spl [32] 0 acc l).length := by
    intro l
    induction l with
    | nil => intro acc; rw [TL.spl_nil]; exact Nat.le_refl _
    | cons c r ih =>
      intro acc
      cases h : TL.pre [32] (c :: r) with
      | true => rw [TL.spl_hit h]; show 1 ≤ _ + 1; omega
      | false => rw [TL.spl_miss h]; exact ih _
  exact this _ _
theorem sok_jnI {ns : List Int} (h : ∀ i ∈ ns, i.natAbs < 10 ^ 30) : Sok (32 * ns.length) (jnI ns) :=
  ⟨jnI_len h, fun c hc => of_decide_eq_true (List.all_eq_true.mp (show List.all (TL.tl (jnI ns)) _ = true from (fit_jnI h).lv) c hc)⟩
/-! ### '9' * 30 -/
def isStrD : PyData → Bool
  | .str _ => true
  | _ => false
theorem dq_str? {b : Bool} {K : PySem.W.Frag} {H : Hp} {v : V} {d : PyData} (h : Dq b K H v d) : ∃ t, TyX K H v t ∧ PySem.W.kitOne K t (.type "str") = some (isStrD d) := by
  have kl : PySem.W.kitOne K (.type "list") (.type "str") = some false := kit_ty (a := "list") (b := "str") (r := false) (by decide +kernel)
  have kt : PySem.W.kitOne K (.type "tuple") (.type "str") = some false := kit_ty (a := "tuple") (b := "str") (r := false) (by decide +kernel)
  cases h with
  | non => exact ⟨_, .base .non, kit_ty (a := "NoneType") (b := "str") (r := false) (by decide +kernel)⟩
  | bl x => exact ⟨_, .base (.bl x), kit_ty (a := "bool") (b := "str") (r := false) (by decide +kernel)⟩
  | int i => exact ⟨_, .base (.int i), kit_ty (a := "int") (b := "str") (r := false) (by decide +kernel)⟩
  | str x => exact ⟨_, .base (.str x), kit_ty (a := "str") (b := "str") (r := true) (by decide +kernel)⟩
  | lst hs _ _ =>
    rcases hs with (h | ⟨o, h⟩) | ⟨o, its, n, h1, h2, _⟩
    · exact ⟨_, .base (.lst h), kl⟩
    · exact ⟨_, .base (.frz h), kl⟩
    · exact ⟨_, .kList h1 h2, kl⟩
  | tup hs _ =>
    rcases hs with (h | ⟨o, h⟩) | ⟨o, its, n, h1, h2, _⟩
    · exact ⟨_, .base (.tup h), kt⟩
    · exact ⟨_, .fTuple h, kt⟩
    · exact ⟨_, .kTuple h1 h2, kt⟩
  | dic _ h => exact ⟨_, .base (.dK h), kit_ty (a := "dict") (b := "str") (r := false) (by decide +kernel)⟩
theorem resD_no {d : PyData} (h : isStrD d = false) : resD d = .list [.str "BadText", .none] := by
  cases d with
  | str x => cases h
  | _ => rfl
end My

namespace My
open PySem PySem.Spec PyProof.Rows L2
/-! ### lists of texts in bounds -/
def WL (S A : Addr) (n : Nat) (H : Hp) (v : V) : Prop := ∃ (l : Addr) (ws : List Str), v = .ref l ∧ H l = some (.lst (ws.map V.str)) ∧ l ≠ S ∧ l ≠ A ∧ Wok n ws
section
variable {K : PySem.W.Frag} {S A B : Addr} {n m j i : Nat} {H0 : Hp} {σ : L2.St} {t u : TE}
theorem WL.mono {H : Hp} {v : V} (h : WL S A n H v) (g : n ≤ m) : WL S A m H v := by
  obtain ⟨l, ws, e1, h1, n1, n2, w⟩ := h
  exact ⟨l, ws, e1, h1, n1, n2, Nat.le_trans w.1 g, w.2⟩
end
def sokB (n : Nat) (x : Str) : Bool := decide (x.length ≤ n) && (TL.tl x).all fun c => decide (c < 16 ^ 8)
theorem sok_of {n : Nat} {x : Str} (h : sokB n x = true) : Sok n x := by
  unfold sokB at h
  rw [Bool.and_eq_true, List.all_eq_true] at h
  exact ⟨of_decide_eq_true h.1, fun c hc => of_decide_eq_true (h.2 c hc)⟩
end My

namespace My
open PySem PySem.Spec PyProof.Rows L2
/-! ### the text of a tree, its names in a list from a place on -/
/-! ### bounds of such texts -/
/-! ### a text, once or not at all -/
end My

namespace My
open PySem PySem.Spec PyProof.Rows L2
/-! ### how a text of a term is read -/
/-! ### the text of a tree is read back -/
/-! ### pieces of a text -/
theorem All2.pop {α : Type} {R : V → α → Prop} {xs : List V} {fs : List α} {f : α} (h : All2 R xs (fs ++ [f])) : ∃ x xs', xs = xs' ++ [x] ∧ R x f ∧ All2 R xs' fs := by
  have hl := h.1
  rw [List.length_append] at hl
  have hl : xs.length = fs.length + 1 := hl
  obtain ⟨x, g, e1, e2, r, h2⟩ := h.back (by omega)
  have e3 : (fs ++ [f]).dropLast = fs := List.dropLast_concat
  rw [e3] at h2 e2
  have e4 : f = g := by
    have := List.append_cancel_left e2
    injection this
  rw [e4]
  exact ⟨x, xs.dropLast, e1, r, h2⟩
def PrT (K : PySem.W.Frag) (H : Hp) (v : V) (x : Nat × Str) : Prop := ∃ a, v = .ref a ∧ SqT K H a [.int (x.1 : Int), .str x.2]
def PrU (K : PySem.W.Frag) (H : Hp) (v : V) (x : Str × Nat) : Prop := ∃ a, v = .ref a ∧ SqT K H a [.str x.1, .int (x.2 : Int)]
theorem PrT.tr {K : PySem.W.Frag} {H H' : Hp} {v : V} {x : Nat × Str} (e : ∀ a xs, SqT K H a xs → SqT K H' a xs) (h : PrT K H v x) : PrT K H' v x := by
  obtain ⟨a, h1, h2⟩ := h
  exact ⟨a, h1, e _ _ h2⟩
theorem PrU.tr {K : PySem.W.Frag} {H H' : Hp} {v : V} {x : Str × Nat} (e : ∀ a xs, SqT K H a xs → SqT K H' a xs) (h : PrU K H v x) : PrU K H' v x := by
  obtain ⟨a, h1, h2⟩ := h
  exact ⟨a, h1, e _ _ h2⟩
/-! ### max of a tuple -/
section
variable {X : Cx}
end
/-! ### one part of each token -/
/-! ### letters -/
end My

namespace My
open PySem PySem.Spec PyProof.Rows L2
/-! ### texts of trees with the names from another place on -/
end My

namespace My
open PySem PySem.Spec PyProof.Rows L2
/-! ### a term read by recursion -/
open Classical in
/-! ### how many parentheses are open at most -/
/-! ### deep texts -/
/-! ### a text, many times -/
end My

namespace My
open PySem PySem.Spec PyProof.Rows L2
/-! ### a head with the getters of properties -/
theorem prop_ok {K : PySem.W.Frag} {x f : Str} (h : propB K x f = true) : PropOf K (He.ga K x) f (prA K (He.ga K x) f) (gtA K (He.ga K x) f) := by
  obtain ⟨h1, h⟩ := He.ba h
  obtain ⟨h2, h⟩ := He.ba h
  obtain ⟨h3, h4⟩ := He.ba h
  refine ⟨He.eqO_ok h1, of_decide_eq_true h2, of_decide_eq_true h3, ?_⟩
  unfold gtA
  cases e : PySem.W.recIn K (prA K (He.ga K x) f) "property" with
  | none =>
    rw [e] at h4
    cases h4
  | some l =>
    rw [e] at h4
    cases l with
    | nil => cases h4
    | cons v rest =>
      cases v with
      | ref g => exact ⟨rest, rfl⟩
      | _ => cases h4
theorem funD_at {K : PySem.W.Frag} {d : He.DefD} {a : Addr} (e : fnA K a = d.val) (c : okA K a d = true) : ∃ fd, FunD K d.name d.qual d.params d.body d.scope (d.dvs K) (d.kws K) a fd := by
  obtain ⟨kp, c2⟩ := He.ba c
  unfold fnA at e
  cases q : K.lookup a with
  | none =>
    rw [q] at c2
    cases c2
  | some o =>
    obtain ⟨oc, od, dt, osl⟩ := o
    rw [q] at c2 e
    cases dt with
    | func fd =>
      obtain ⟨n1, n2, n3, n4, n5, n6, n7, n8, n9, n10, n11, n12, n13, n14, n15⟩ := fd
      have e2 : (some (n1, n2, n3, n4, n5, n6, n7, n15) : He.FnW) = some (d.name, d.qual, d.params, .stmts d.body, d.scope, mainGlobals, [], builtinsNs) := e
      simp only [Option.some.injEq, Prod.mk.injEq] at e2
      obtain ⟨h1, h2, h3, h4, h5, h6, h7, h8⟩ := e2
      subst h1 h2 h3 h4 h5 h6 h7 h8
      have c3 : (PySem.W.codeIn K n13 d.qual && (He.dflB K n8 (d.dvs K) && He.kwdB K n9 (d.kws K))) = true := c2
      obtain ⟨k1, k2⟩ := He.ba c3
      obtain ⟨k3, k4⟩ := He.ba k2
      exact ⟨_, ⟨oc, od, n8, n9, n10, n11, n12, n13, n14, osl, rfl, q, k1, He.dflB_ok k3, He.kwdB_ok k4⟩, kp⟩
    | _ => cases c2
/-- a property that can be stored: its setter at g -/
structure PropSet (K : PySem.W.Frag) (C : Addr) (f : Str) (p g : Addr) : Prop where
  tk : PySem.W.takerIn K C f = some (some (.ref p))
  ty : PySem.W.typeIn K (.ref p) = some (.type "property")
  rc : ∃ a rest, PySem.W.recIn K p "property" = some (a :: .ref g :: rest)
theorem set_ok {K : PySem.W.Frag} {x f : Str} (h : setB K x f = true) : PropSet K (He.ga K x) f (prA K (He.ga K x) f) (stA K (He.ga K x) f) := by
  obtain ⟨h1, h⟩ := He.ba h
  obtain ⟨h2, h3⟩ := He.ba h
  refine ⟨of_decide_eq_true h1, of_decide_eq_true h2, ?_⟩
  unfold stA
  split at h3
  · rename_i a g rest e
    rw [e]
    exact ⟨a, rest, rfl⟩
  · cases h3
theorem getter_ok {K : PySem.W.Frag} {gs : Gs} (h1 : gB K gs = true) (h2 : gs.map (fun q => fnA K (gAt K q)) = gs.map fun q => q.2.2.val) (i : Nat) {q : Str × (Str × Nat) × He.DefD} (h : gs[i]? = some q := by rfl) :
    ∃ fd, FunD K q.2.2.name q.2.2.qual q.2.2.params q.2.2.body q.2.2.scope (q.2.2.dvs K) (q.2.2.kws K) (gAt K q) fd := by
  have e2 : (gs.map (fun q => fnA K (gAt K q)))[i]? = (gs.map fun q => q.2.2.val)[i]? := by rw [h2]
  rw [List.getElem?_map, List.getElem?_map, h] at e2
  exact funD_at (Option.some.inj e2) (List.all_eq_true.mp h1 q (List.mem_of_getElem? h))
end My

namespace My
open PySem PySem.Spec PyProof.Rows L2
/-! ### methods, getters, instances -/
/-- the def at the address keeps the promise -/
def OkA (P : Program) (w : World) (K : PySem.W.Frag) (mg : Str → Option Value) (base : Heap) (CX : CXT) (k : Nat) (f : Addr) (ps : List Str) (sp : Sp) : Prop :=
  ∃ fd : FuncData, FnOk P w K mg base CX k f fd ps sp ∧ Binds K fd ps []
theorem okA_of {P : Program} {w : World} {K : PySem.W.Frag} {mg : Str → Option Value} {base : Heap} {CX : CXT} {k : Nat} {x qual : Str} {params : Arguments} {body : List Stmt} {scope : Scope} {N ps : List Str} {sp : Sp} {f : Addr}
    (F : ∃ fd, FunD K x qual params body scope [] [] f fd) (S : FnScope N ps scope)
    (hb : ∀ (kV doc pm : Value) (an : Option Addr) (cdv ct : Value) (us : List Value), us.length = ps.length →
      bindArgs (PySem.W.fnOf x qual params body scope .none kV doc pm an cdv ct) ⟨us, []⟩ = pure (ps.zip us))
    (len : ∀ vs H Q E, sp vs H Q E → vs.length = ps.length)
    (hbody : ∀ (cdv : Value) (A : Around) (outer : List Env) (s : Shared) (H : Hp) (vs : List V) (Q : VK) (E : XK),
      Room k (A.deeper (envOfC qual scope s.heap.objs.size f cdv)) → sp vs H Q E →
      ∃ t, PSs (cxOf CX P w K mg base N qual scope f cdv A outer s H E).nox body t ∧ t { nx := fun _ H' => Q .non H', rt := Q } (start N vs) H) :
    OkA P w K mg base CX (k + 1) f ps sp := by
  obtain ⟨fd, F⟩ := F
  exact ⟨fd, fnok_of F S len hbody, F.bindsN hb⟩
theorem okA_ofX {P : Program} {w : World} {K : PySem.W.Frag} {mg : Str → Option Value} {base : Heap} {CX : CXT} {k : Nat} {x qual : Str} {params : Arguments} {body : List Stmt} {scope : Scope} {N ps : List Str} {sp : Sp} {f : Addr}
    (F : ∃ fd, FunD K x qual params body scope [] [] f fd) (S : FnScope N ps scope)
    (hb : ∀ (kV doc pm : Value) (an : Option Addr) (cdv ct : Value) (us : List Value), us.length = ps.length →
      bindArgs (PySem.W.fnOf x qual params body scope .none kV doc pm an cdv ct) ⟨us, []⟩ = pure (ps.zip us))
    (len : ∀ vs H Q E, sp vs H Q E → vs.length = ps.length)
    (hbody : ∀ (cdv : Value) (A : Around) (outer : List Env) (s : Shared) (H : Hp) (vs : List V) (Q : VK) (E : XK),
      Room k (A.deeper (envOfC qual scope s.heap.objs.size f cdv)) → sp vs H Q E →
      ∃ t, PSs (cxOf CX P w K mg base N qual scope f cdv A outer s H E) body t ∧ t { nx := fun _ H' => Q .non H', rt := Q } (start N vs) H) :
    OkA P w K mg base CX (k + 1) f ps sp := by
  obtain ⟨fd, F⟩ := F
  exact ⟨fd, F.ok S len hbody, F.bindsN hb⟩
section
variable {X : Cx} {CX : CXT} {k : Nat} {f C : Addr} {ps : List Str} {sp : Sp} {E : XK} {x m : Str} {p pos apos : Pos} {e o : Expr} {es : List Expr} {ta : TE} {t : TA}
/-- o.m(e, ..) -/
theorem calM {pl : Sem Bool} (O : OkA X.prog X.w X.K X.mg X.base CX k f ps sp) (hr : Room k X.A) (hx : Passes CX X E) (c : Cls X.K C) (hm : Meth X.K C m f) (he : PE X o ta) (ha : PA X (e :: es) t)
    (hst : starEach (e :: es) X.env = (false, eval e X.env) :: starEach es X.env := by rfl) (hpl : (backTo pos (starEach es X.env)).any (·.1) = false := by rfl)
    (ht : eval (.Call (.Attribute o m apos) (e :: es) [] pos) X.env = (do
      let ov ← eval o X.env
      standAt apos.atName
      let (f, first) ← holding [ov] (getMethod ov m pl)
      callWith pos f first (backTo pos (starEach (e :: es) X.env)) (backToKw pos (keywordEach [] X.env))) := by rfl) :
    PE X (.Call (.Attribute o m apos) (e :: es) [] pos) (tMeth C m sp [] E ta t) := by
  obtain ⟨fd, F, b⟩ := O
  exact pe_meth he c hm F hr b .nil hx ha hst hpl ht
/-- o.m() -/
theorem calM0 {pl : Sem Bool} (O : OkA X.prog X.w X.K X.mg X.base CX k f ps sp) (hr : Room k X.A) (hx : Passes CX X E) (c : Cls X.K C) (hm : Meth X.K C m f) (he : PE X o ta)
    (ht : eval (.Call (.Attribute o m apos) [] [] pos) X.env = (do
      let ov ← eval o X.env
      standAt apos.atName
      let (f, first) ← holding [ov] (getMethod ov m pl)
      callWith pos f first (backTo pos (starEach [] X.env)) (backToKw pos (keywordEach [] X.env))) := by rfl) :
    PE X (.Call (.Attribute o m apos) [] [] pos) (tMeth C m sp [] E ta tNil) := by
  obtain ⟨fd, F, b⟩ := O
  exact pe_meth0 he c hm F hr b .nil hx ht
/-- o.f, a property -/
theorem calP {q : Addr} (O : OkA X.prog X.w X.K X.mg X.base CX k f ps sp) (hr : Room (k + 1) X.A) (hx : Passes CX X.nox E) (c : Cls X.K C) (hp : PropOf X.K C m q f) (he : PE X o ta)
    (hab : attributeBase o m X.env (eval o X.env) = eval o X.env := by rfl) : PE X (.Attribute o m pos) (tProp C sp [] E ta) := by
  obtain ⟨fd, F, b⟩ := O
  exact pe_prop he c hp F hr b .nil hx hab
/-- C(e, ..) -/
theorem calI (O : OkA X.prog X.w X.K X.mg X.base CX k f ps sp) (hr : Room (k + 1) X.A) (hx : Passes CX X E) (M : Mk X.K C f) (hm : X.mg x = some (.ref C)) (ha : PA X (e :: es) t) (hg : Gl X x := by rfl)
    (hdb : (x == ("__debug__" : Str)) = false := by decide) (he : starEach (e :: es) X.env = (false, eval e X.env) :: starEach es X.env := by rfl) (hpl : (backTo pos (starEach es X.env)).any (·.1) = false := by rfl) :
    PE X (.Call (.Name x p) (e :: es) [] pos) (tMake C sp [] E t) := by
  obtain ⟨fd, F, b⟩ := O
  exact pe_make M F hr hg hm b .nil hx ha hdb he hpl
end
/-- y(e, ..), y another name of the def x -/
theorem calAs {X : Cx} {CX : CXT} {k : Nat} {ps : List Str} {sp : Sp} {E : XK} {x y : Str} {p pos : Pos} {e : Expr} {es : List Expr} {t : TA} (O : Ok X.prog X.w X.K X.mg X.base CX k x ps sp) (hm : X.mg y = some (.ref (He.ga X.K y))) (ha : He.ga X.K y = He.ga X.K x) (hr : Room k X.A) (hx : Passes CX X E) (hp : PA X (e :: es) t) (hg : Gl X y := by rfl)
    (hdb : (y == ("__debug__" : Str)) = false := by decide)
    (he : starEach (e :: es) X.env = (false, eval e X.env) :: starEach es X.env := by rfl) (hpl : (backTo pos (starEach es X.env)).any (·.1) = false := by rfl) :
    PE X (.Call (.Name y p) (e :: es) [] pos) (tCall sp [] E t) := by
  obtain ⟨fd, F, b, kp, _⟩ := O
  rw [ha] at hm
  exact pe_call F hr hg hm kp b .nil hx hp hdb he hpl
theorem con_ok {K : PySem.W.Frag} {x f : Str} {i : Int} (h : conB K x f i = true) : ∃ u, Con K (He.ga K x) f (.int i) u := by
  obtain ⟨h, h2⟩ := He.ba h
  cases e : PySem.W.findIn K (.ref (He.ga K x)) f with
  | none =>
    rw [e] at h
    cases h
  | some o =>
    rw [e] at h
    cases o with
    | none => cases h
    | some v =>
      cases v with
      | int j t =>
        obtain ⟨h3, h4⟩ := He.ba h
        obtain rfl := of_decide_eq_true h3
        exact ⟨_, e, ⟨t, rfl⟩, of_decide_eq_true h4, by rw [Bool.not_eq_true'] at h2; exact h2⟩
      | _ => cases h
/-! ### len(o), str(o) by own methods -/
section
variable {X : Cx} {CX : CXT} {k : Nat} {f C : Addr} {ps : List Str} {sp : Sp} {E : XK}
open PySem.Calls Builtin in
end
end My

namespace My
open PySem PySem.Spec PyProof.Rows L2
/-! ### a field of an error that the context pins, whatever its class -/
/-- instances of the error class C hold the field f in their dict -/
structure FldE (K : PySem.W.Frag) (C : Addr) (f : Str) : Prop where
  ga : PySem.W.findIn K (.ref C) "__getattribute__" = some (some (.builtin "BaseException.__getattribute__"))
  gg : PySem.W.findIn K (.ref C) "__getattr__" = some none
  exC : PySem.W.subIn K (.ref C) (.type "BaseException") = some true
  hdC : PySem.W.hasDictIn K C = true
  noN : PySem.W.findIn K (.ref C) f = some none
theorem fldB_ok {K : PySem.W.Frag} {x f : Str} (c : fldB K x f = true) : FldE K (He.ga K x) f := by
  unfold fldB at c
  simp only [Bool.and_eq_true, decide_eq_true_eq] at c
  obtain ⟨c1, c2, c3, c4, c5⟩ := c
  exact ⟨He.eqO_ok c1, He.eqO_ok c2, c3, c4, He.eqO_ok c5⟩
section
variable {X : Cx} {a : Addr} {oe : Obj} {cls : Value} {d : Option Addr} {e : Expr} {te : TE} {pos : Pos} {f : Str}
def tByN (K : PySem.W.Frag) (f : Str) (a : Addr) (cls : Value) (d : Option Addr) (te : TE) : TE := fun σ H Q => te σ H fun x H1 => ∃ C dd v, x = .ref a ∧ cls = .ref C ∧ FldE K C f ∧ d = some dd ∧ H1 dd = some (.xd [(f, v)]) ∧ Q v H1
theorem pe_byN (hz : ErrO cls d oe) (hm : (a, oe) ∈ X.pn) (he : PE X e te) (hb : attributeBase e f X.env (eval e X.env) = eval e X.env := by rfl) :
    PE X (.Attribute e f pos) (tByN X.K f a cls d te) := by
  refine ⟨fun pins s σ H Q I h => ?_⟩
  refine attr_of hb (thn (he.run pins s σ H _ I h) fun u s1 hh => ?_)
  obtain ⟨x, H1, I1, rx, C, dd, v, ex, ec, T, ed, ea, q⟩ := hh
  subst ex
  obtain rfl : u = Value.ref a := rx
  subst ec
  subst ed
  obtain ⟨ha, _⟩ := I1.pin (a, oe) (List.mem_append_left _ hm)
  obtain ⟨hz, vs, hd⟩ := hz
  have hx : ObjOk X.prog X.w H1 s1.heap dd (.xd [(f, v)]) := I1.hok dd _ ea
  obtain ⟨mA, hns, hr⟩ := hx
  obtain ⟨od, ho, hl⟩ := lookIn_ns hns
  have l : List.lookup f [(f, v)] = some v := by simp [List.lookup]
  obtain ⟨u, hu, ru⟩ := RelO.some_of (v := v) (o := mA f) (by rw [← l]; exact hr f)
  have J : PySem.W.InstAt s1.heap a oe C (some od) := ⟨ha, hz.1, by unfold PySem.W.notCls; rw [hd] <;> rfl, by rw [hz.2]; exact ho⟩
  exact HandSPX.exc_get I1.kIn J T.ga T.gg T.exC (PySem.W.findObj_own T.hdC T.noN rfl (by rw [hl, hu])) (handed_of ru) ⟨v, H1, I1.tok _, ru, q⟩
end
/-! ### try with one clause 'except (x, y) as n' -/
theorem flyingZ_keeps {h h' B : Heap} {l : List Env} {a : Addr} {Z : Obj → Prop} (k : ∀ b o, h.get? b = some o → h'.get? b = some o) (x : HandSPX.FlyingZ B l a Z h) : HandSPX.FlyingZ B l a Z h' := by
  obtain ⟨x1, x2, x3, oe, vs, T, oT, ts, he, hz, hd, h1, hn, ne, hT, hdT, h3⟩ := x
  exact ⟨fun b o e => k b o (x1 b o e), x2, x3.of_keeps fun b o e _ => ⟨o, k b o e, rfl⟩, oe, vs, T, oT, ts, k _ _ he, hz, hd, h1, hn, ne, k _ _ hT, hdT, h3⟩
def wAs2 (K : PySem.W.Frag) (c1 c2 : Value) (i : Nat) (ts : Addr → Value → Option Addr → TS) (Wout : WX) (D : Ends) : WX := fun cls d σ H =>
  ∃ b, PySem.W.exmAny K cls [c1, c2] = some b ∧ (b = true → ∀ a, H a = none → ts a cls d { nx := fun σ' H' => D.nx (σ'.set i none) H', rt := D.rt, bk := fun σ' H' => D.bk (σ'.set i none) H', ct := fun σ' H' => D.ct (σ'.set i none) H' } (σ.set i (some (.ref a))) H) ∧
    (b = false → Wout cls d σ H)
section
variable {X : Cx} {body : List Stmt} {pos : Pos} {tb : WX → TS} {Wout : WX} {n : Str} {i : Nat} {x1 x2 : Str} {c1 c2 : Value} {ts : Addr → Value → Option Addr → TS} {b1 : Stmt} {bs : List Stmt} {p1 p2 p3 p4 : Pos} {kk : Nat}
theorem ps_try_as2 (hst : X.stack = X.env :: X.outer) (hfr : X.env.frame = some X.env.locals) (hnd : X.N.Nodup) (hix : X.N[i]? = some n) (hlo : X.env.kindOf n = some .local) (hc1 : Names X x1 c1) (hc2 : Names X x2 c2) (tk : Takes X Wout)
    (hbo : ∀ (W : WX) (pn : List (Addr × Obj)) (xe : Value → Shared → Prop), Takes (X.tr pn xe) W → PassesOwn (model X.prog X.w) X.A X.env xe → PSs (X.tr pn xe) body (tb W))
    (hb : ∀ (a : Addr) (oe : Obj) (cls : Value) (d : Option Addr) (pn : List (Addr × Obj)), Zc cls d oe → (∃ vs, oe.data = .fields vs) → PSs (X.suite a ((a, oe) :: pn)) (b1 :: bs) (ts a cls d)) :
    PS X (.Try body [.ExceptHandler (some (.Tuple [.Name x1 p1, .Name x2 p2] kk p3)) (some n) (b1 :: bs) p4] [] [] pos) (fun D σ H => tb (wAs2 X.K c1 c2 i ts Wout D) D σ H) := by
  constructor
  intro pins s σ H D I hq
  have oky := I.ok
  have hA : X.A.frames = some (X.env :: X.outer) := oky.frames.trans (congrArg some hst)
  have hL : Loc X.env.scope n := Or.inl hlo
  apply wpAny_Try_except
  have hrun := (hbo (wAs2 X.K c1 c2 i ts Wout D) (X.pn ++ pins) (fun e z1 => wpAny (model X.prog X.w) X.A (noteFrame e X.env) (fun _ z2 => wpAny (model X.prog X.w) X.A (setFlight e none) (fun _ z3 => wpAny (model X.prog X.w) X.A (handleBy e X.env [.ExceptHandler (some (.Tuple [.Name x1 p1, .Name x2 p2] kk p3)) (some n) (b1 :: bs) p4]) (SP X pins D) X.xe z3) X.xe z2) X.xe z1) ?_ PassesOwn.looking).run [] s σ H D (I.toTry _) hq
  · refine wpAny_mono hrun (fun fl z hz => ?_) (fun e z he => he)
    cases fl with
    | next => exact hz.elim fun σ1 h => h.elim fun H1 h => wpAny_execs_nil ⟨σ1, H1, h.1.ofTry oky, h.2⟩
    | brk => exact hz.elim fun σ1 h => h.elim fun H1 h => ⟨σ1, H1, h.1.ofTry oky, h.2⟩
    | cont => exact hz.elim fun σ1 h => h.elim fun H1 h => ⟨σ1, H1, h.1.ofTry oky, h.2⟩
    | ret u => exact hz.elim fun v h => h.elim fun σ1 h => h.elim fun H1 h => ⟨v, σ1, H1, h.1.ofTry oky, h.2⟩
  intro u z hx
  obtain ⟨a, B, sI, pins', τ, G, cls, d, rfl, J0, nb, up, sky, na, os, ag, w⟩ := hx
  have J : Inv X pins τ G sI := J0.ofTry oky
  rw [hst] at sky
  show wpAny (model X.prog X.w) X.A (noteFrame (.ref a) X.env) _ _ _
  refine Sky.land Zc.steady hA hfr sky fun g3 fl3 up3 => ?_
  have J3 : Inv X pins τ G { z with heap := g3 } := J.landed nb fl3.1 (up.trans up3) os ag
  obtain ⟨o3, v3, e3, y3, d3⟩ := fl3.there
  have off : a ∉ frs (X.env :: X.outer) := by
    intro hm
    obtain ⟨_, o', e', hn⟩ := fl3.2.2.1.mem hm
    rw [e3] at e'
    cases e'
    exact hn _ d3
  have nL : a ≠ X.env.locals := fun q => off (List.mem_filterMap.mpr ⟨X.env, List.mem_cons_self, by rw [hfr, q]⟩)
  have nF : a ∉ X.fs := fun hm => (List.mem_filterMap.mp hm).elim fun e he => off (List.mem_filterMap.mpr ⟨e, List.mem_cons_of_mem _ he.1, he.2⟩)
  have S3 := J3.suite e3 d3 na nL nF
  obtain ⟨b, eb, yes, no⟩ := w
  refine wpAny_handleBy_cons (codeAny_handlers_test ?_) (by intro q; cases q)
  have named : ∀ {x : Str} {c : Value} {p : Pos}, Names X x c → ∀ {Q E : Value → Shared → Prop}, Q c { z with heap := g3 } → wpAny (model X.prog X.w) (X.A.mark (some (.ref a))) (eval (.Name x p) X.env) Q E { z with heap := g3 } := by
    intro x c p hc Q E q
    obtain ⟨k1, k2, k3 | ⟨k3, k4, k5⟩⟩ := hc
    · exact ld_glob (X := X.suite a ((a, o3) :: (X.pn ++ pins))) S3 k1 k3 q k2
    · exact ld_blt (X := X.suite a ((a, o3) :: (X.pn ++ pins))) S3 k1 k3 k4 q k5 k2
  refine wpAny_Tuple ?_
  refine wpAny_items_cons (named hc1 ?_)
  refine wpAny_items_cons (named hc2 ?_)
  refine wpAny_items_nil ⟨by size_fits, ?_⟩
  have kp : ∀ q o, g3.get? q = some o → (g3.push { cls := .type "tuple", data := .seq [c1, c2].toArray }).get? q = some o := fun _ _ z => Heap.get?_push_of_some _ z
  have fl5 := flyingZ_keeps kp fl3
  have up5 := up3.trans (Heap.UpToSlots.of_keeps kp)
  have J5 : Inv X pins τ G { z with heap := g3.push { cls := .type "tuple", data := .seq [c1, c2].toArray } } := J.landed nb fl5.1 (up.trans up5) os ag
  have lk : PySem.W.Looks (model X.prog X.w) (g3.push { cls := .type "tuple", data := .seq [c1, c2].toArray }) (typeOf (.ref a)) cls := fun A Q E s k q => wpAny_typeOf_ref (k _ _ (kp _ _ e3)) (by rw [y3.1]; exact q)
  have lm := PySem.W.exm_tup2 (M := model X.prog X.w) (J5.kIn) lk (Heap.get?_push_size g3 rfl) eb
  refine lm.here ?_
  cases b with
  | false =>
    show wpAny _ X.A (handleBy (.ref a) X.env []) _ _ _
    apply wpAny_handleBy_nil
    obtain ⟨_, _, _, oe, vs, T0, _, _, q1, _, q2, q3, _⟩ := id fl5
    have last : wpAny (model X.prog X.w) X.A (setFlight (.ref a) X.env.frame) (fun _ z4 => wpAny (model X.prog X.w) X.A (throw (.ref a) : Sem Flow) (SP X pins D) X.xe z4) X.xe { z with heap := g3.push { cls := .type "tuple", data := .seq [c1, c2].toArray } } := by
      rw [hfr]
      refine HandSPX.setFlight_upZ fl5 fun g4 hg4 up4 => wpAny_throw (tk _ _ ⟨a, B, sI, pins, τ, G, cls, d, rfl, J, nb, (up.trans up5).trans up4, .inr (.inr ?_), na, os, ag, no rfl⟩)
      rw [hst]
      exact hg4
    unfold PySem.passOn
    refine wpAny_bind (wpAny_field q1 q2 q3 ?_)
    have ne : ¬ ((Value.ref T0 == Value.none) = true) := by simp
    rw [if_neg ne]
    first | exact wpAny_bind (wpAny_pure (wpAny_bind last)) | exact wpAny_bind last
  | true =>
    apply codeAny_handlers_suite_as
    refine HandSPX.lands_againZ fl5 fun g4 fl4 up4 => ?_
    have J4 : Inv X pins τ G { z with heap := g4 } := J.landed nb fl4.1 ((up.trans up5).trans up4) os ag
    obtain ⟨o4, v4, e4, y4, d4⟩ := fl4.there
    have S4 := J4.suite e4 d4 na nL nF
    refine store_ok (X := X.suite a ((a, o4) :: (X.pn ++ pins))) (v := .ref a) S4 hnd hix hL rfl (fun z5 S5 => ?_) (.inr hlo)
    refine wpAny_mono ((hb a o4 cls d (X.pn ++ pins) y4 ⟨_, d4⟩).run [] z5 _ G _ S5 (yes rfl a na)) (fun fl z6 h6 => ?_) (fun _ _ q => False.elim q)
    have away : ∀ {σ6 : L2.St} {H6 : Hp} {Q : Shared → Prop}, Inv (X.suite a ((a, o4) :: (X.pn ++ pins))) [] σ6 H6 z6 → (∀ z7, Inv X pins (σ6.set i none) H6 z7 → Q z7) → wpAny (model X.prog X.w) X.A (do bindName X.env n .none; unbindBehindTheSuite X.env n p4) (fun _ z7 => Q z7) X.xe z6 := by
      intro σ6 H6 Q S6 q
      exact gone_ok (S6.unsuite oky) hnd hix hlo q
    cases fl with
    | ret u => exact h6.elim fun v h => h.elim fun σ6 h => h.elim fun H6 h => away h.1 fun z7 J7 => ⟨v, _, _, J7, h.2⟩
    | next => exact h6.elim fun σ6 h => h.elim fun H6 h => away h.1 fun z7 J7 => ⟨_, _, J7, h.2⟩
    | brk => exact h6.elim fun σ6 h => h.elim fun H6 h => away h.1 fun z7 J7 => ⟨_, _, J7, h.2⟩
    | cont => exact h6.elim fun σ6 h => h.elim fun H6 h => away h.1 fun z7 J7 => ⟨_, _, J7, h.2⟩
end
/-! ### the names of the laws' errors -/
structure NameE (K : PySem.W.Frag) (D : Addr) (j : Nat) : Prop where
  c : ClsE K D
  lt : j < 15
  k : ∀ i, i < 15 → PySem.W.kitOne K (.ref D) (.ref (He.ga K (names15.getD i ""))) = some (decide (i = j))
  r : PySem.W.kitOne K (.ref D) (.ref (He.ga K "RingError")) = some (decide (j ≤ 12))
  v : PySem.W.kitOne K (.ref D) (.type "ValueError") = some (decide (j ≤ 12))
  l : PySem.W.kitOne K (.ref D) (.type "LookupError") = some (decide (12 < j))
theorem nameB_ok {K : PySem.W.Frag} {D : Addr} {j : Nat} (c : ClsE K D) (lt : j < 15) (h : nameB K D j = true) : NameE K D j := by
  unfold nameB at h
  simp only [Bool.and_eq_true] at h
  obtain ⟨h1, h2, h3, h4⟩ := h
  exact ⟨c, lt, fun i hi => of_decide_eq_true (List.all_eq_true.mp h1 i (List.mem_range.mpr hi)), of_decide_eq_true h2, of_decide_eq_true h3, of_decide_eq_true h4⟩
structure KindE (K : PySem.W.Frag) (D : Addr) (k : Nat) : Prop where
  c : ClsE K D
  k0 : PySem.W.kitAny K (.ref D) [.ref (He.ga K "NoPlace"), .ref (He.ga K "NoVersion"), .ref (He.ga K "NoArity"), .ref (He.ga K "NoBeginning")] = some (decide (k = 0))
  k1 : PySem.W.kitAny K (.ref D) [.ref (He.ga K "BadEdit"), .ref (He.ga K "Rejected"), .ref (He.ga K "BadText")] = some (decide (k = 1))
  k2 : PySem.W.kitOne K (.ref D) (.ref (He.ga K "TooLong")) = some (decide (k = 2))
  k3 : PySem.W.kitOne K (.ref D) (.ref (He.ga K "NoBalance")) = some (decide (k = 3))
  k4 : PySem.W.kitOne K (.ref D) (.ref (He.ga K "BadRing")) = some (decide (k = 4))
theorem kindB_ok {K : PySem.W.Frag} {D : Addr} {k : Nat} (c : ClsE K D) (h : kindB K D k = true) : KindE K D k := by
  unfold kindB at h
  simp only [Bool.and_eq_true, decide_eq_true_eq] at h
  obtain ⟨h1, h2, h3, h4, h5⟩ := h
  exact ⟨c, h1, h2, of_decide_eq_true h3, of_decide_eq_true h4, of_decide_eq_true h5⟩
end My

namespace My
open PySem PySem.Spec PyProof.Rows L2
/-! ### reels: objects that change, tuples that stay -/
/-- all tuples stay -/
def KT (H H' : Hp) : Prop := ∀ b xs, (H b = some (.tup xs) → H' b = some (.tup xs)) ∧ ∀ o, H b = some (.frz o (.tup xs)) → H' b = some (.frz o (.tup xs))
/-- all but the object at a stays -/
def KX (a : Addr) (H H' : Hp) : Prop := ∀ b o, b ≠ a → H b = some o → H' b = some o
theorem KT.refl (H : Hp) : KT H H := fun _ _ => ⟨fun e => e, fun _ e => e⟩
theorem KT.trans {H H1 H2 : Hp} (h : KT H H1) (k : KT H1 H2) : KT H H2 := fun b xs => ⟨fun e => (k b xs).1 ((h b xs).1 e), fun o e => (k b xs).2 o ((h b xs).2 o e)⟩
theorem KX.refl (a : Addr) (H : Hp) : KX a H H := fun _ _ _ e => e
theorem KX.trans {a : Addr} {H H1 H2 : Hp} (h : KX a H H1) (k : KX a H1 H2) : KX a H H2 := fun b o n e => k b o n (h b o n e)
end My
namespace L2
theorem Same.kt {H H' : Hp} (h : Same H H') : My.KT H H' := fun b xs => ⟨fun e => h _ _ e, fun o e => h _ _ e⟩
theorem Same.kx {H H' : Hp} (a : PySem.Addr) (h : Same H H') : My.KX a H H' := fun b o _ e => h b o e
end L2
namespace My
open PySem PySem.Spec PyProof.Rows L2
theorem KX.kt {a C dx : Addr} {fs : List (Str × V)} {H H' : Hp} (h : KX a H H') (e : H a = some (.ins C dx fs)) : KT H H' := fun b xs =>
  ⟨fun q => h b _ (fun z => by rw [z, e] at q; cases q) q, fun o q => h b _ (fun z => by rw [z, e] at q; cases q) q⟩
theorem kx_upd {a : Addr} {H : Hp} {o : HO} : KX a H (upd H a o) := fun b u n e => by
  rw [upd_ne n]
  exact e
theorem SqT.kt {K : PySem.W.Frag} {H H' : Hp} (k : KT H H') {t : Addr} {xs : List V} (h : SqT K H t xs) : SqT K H' t xs := by
  rcases h with (h | ⟨o, h⟩) | h
  · exact .inl (.inl ((k _ _).1 h))
  · exact .inl (.inr ⟨o, (k _ _).2 o h⟩)
  · exact .inr h
mutual
/-- data of tuples alone -/
inductive Dt (K : PySem.W.Frag) (H : Hp) : V → PyData → Prop
  | non : Dt K H .non .none
  | bl (x : Bool) : Dt K H (.bl x) (.bool x)
  | int (i : Int) : Dt K H (.int i) (.int i)
  | str (x : Str) : Dt K H (.str x) (.str x)
  | tup {a : Addr} {xs : List V} {ds : List PyData} : SqT K H a xs → DtAll K H xs ds → Dt K H (.ref a) (.tuple ds)
inductive DtAll (K : PySem.W.Frag) (H : Hp) : List V → List PyData → Prop
  | nil : DtAll K H [] []
  | cons {v : V} {vs : List V} {d : PyData} {ds : List PyData} : Dt K H v d → DtAll K H vs ds → DtAll K H (v :: vs) (d :: ds)
end
mutual
theorem Dt.kt {K : PySem.W.Frag} {H H' : Hp} (e : KT H H') : ∀ {v : V} {d : PyData}, Dt K H v d → Dt K H' v d
  | _, _, .non => .non
  | _, _, .bl x => .bl x
  | _, _, .int i => .int i
  | _, _, .str x => .str x
  | _, _, .tup h a => .tup (SqT.kt e h) (DtAll.kt e a)
theorem DtAll.kt {K : PySem.W.Frag} {H H' : Hp} (e : KT H H') : ∀ {vs : List V} {ds : List PyData}, DtAll K H vs ds → DtAll K H' vs ds
  | _, _, .nil => .nil
  | _, _, .cons h a => .cons (Dt.kt e h) (DtAll.kt e a)
end
mutual
theorem Dt.dq {K : PySem.W.Frag} {H : Hp} {b : Bool} : ∀ {v : V} {d : PyData}, Dt K H v d → Dq b K H v d
  | _, _, .non => .non
  | _, _, .bl x => .bl x
  | _, _, .int i => .int i
  | _, _, .str x => .str x
  | _, _, .tup h a => .tup h (DtAll.dq a)
theorem DtAll.dq {K : PySem.W.Frag} {H : Hp} {b : Bool} : ∀ {vs : List V} {ds : List PyData}, DtAll K H vs ds → DqAll b K H vs ds
  | _, _, .nil => .nil
  | _, _, .cons h a => .cons (Dt.dq h) (DtAll.dq a)
end
section
variable {K : PySem.W.Frag} {H H' : Hp}
theorem DtAll.len : ∀ {xs : List V} {ds : List PyData}, DtAll K H xs ds → xs.length = ds.length
  | _, _, .nil => rfl
  | _, _, .cons _ a => congrArg (· + 1) a.len
theorem DtAll.snoc_of : ∀ {xs : List V} {ds : List PyData} {d : PyData}, DtAll K H xs (ds ++ [d]) → ∃ ys v, xs = ys ++ [v] ∧ DtAll K H ys ds ∧ Dt K H v d
  | _, [], _, .cons h .nil => ⟨[], _, rfl, .nil, h⟩
  | _, _ :: ds, _, .cons h a => by
    obtain ⟨ys, v, rfl, h1, h2⟩ := a.snoc_of
    exact ⟨_ :: ys, v, rfl, .cons h h1, h2⟩
theorem DtAll.get : ∀ {xs : List V} {ds : List PyData} {i : Nat} {d : PyData}, DtAll K H xs ds → ds[i]? = some d → ∃ v, xs[i]? = some v ∧ Dt K H v d
  | _, _, 0, _, .cons h _, e => ⟨_, rfl, by cases e; exact h⟩
  | _, _, i + 1, _, .cons _ a, e => a.get (i := i) e
  | _, _, 0, _, .nil, e => nomatch e
  | _, _, _ + 1, _, .nil, e => nomatch e
/-- a tuple's data: its items -/
theorem Dt.tuple_of {v : V} {ds : List PyData} (h : Dt K H v (.tuple ds)) : ∃ t xs, v = .ref t ∧ SqT K H t xs ∧ DtAll K H xs ds := by
  cases h with
  | tup h a => exact ⟨_, _, rfl, h, a⟩
def rgD (ns : List Int) : PyData := .tuple (ns.map PyData.int)
theorem dtAll_ints : ∀ ns : List Int, DtAll K H (ns.map V.int) (ns.map PyData.int)
  | [] => .nil
  | n :: ns => .cons (.int n) (dtAll_ints ns)
theorem dtAll_ints_of : ∀ {ns : List Int} {xs : List V}, DtAll K H xs (ns.map PyData.int) → xs = ns.map V.int
  | [], _, .nil => rfl
  | n :: ns, _, .cons h a => by
    cases h
    rw [dtAll_ints_of a]
    rfl
theorem dt_rg {t : Addr} {ns : List Int} (h : TupI K H t ns) : Dt K H (.ref t) (rgD ns) := .tup h (dtAll_ints ns)
theorem dt_rg_of {v : V} {ns : List Int} (h : Dt K H v (rgD ns)) : ∃ t, v = .ref t ∧ TupI K H t ns := by
  obtain ⟨t, xs, rfl, h1, h2⟩ := h.tuple_of
  rw [dtAll_ints_of h2] at h1
  exact ⟨t, rfl, h1⟩
end
/-- what a reel shows -/
structure RS where
  rs : List (List Int)
  es : List PyData
  ss : List Int
  ch : Option Nat
  b : Bool
/-- the reel of the class C at a -/
def RO (K : PySem.W.Frag) (H : Hp) (a C : Addr) (r : RS) : Prop := ∃ (dx : Addr) (vr vd vs : V), H a = some (.ins C dx [("rings", vr), ("done", vd), ("starts", vs), ("chosen", optV r.ch), ("busy", .bl r.b)]) ∧
  Dt K H vr (.tuple (r.rs.map rgD)) ∧ Dt K H vd (.tuple r.es) ∧ Dt K H vs (rgD r.ss)
theorem RO.kt {K : PySem.W.Frag} {H H' : Hp} {a C : Addr} {r : RS} (h : RO K H a C r) (k : KT H H') (e : ∀ C dx fs, H a = some (.ins C dx fs) → H' a = some (.ins C dx fs)) : RO K H' a C r := by
  obtain ⟨dx, vr, vd, vs, h1, h2, h3, h4⟩ := h
  exact ⟨dx, vr, vd, vs, e _ _ _ h1, h2.kt k, h3.kt k, h4.kt k⟩
theorem RO.same {K : PySem.W.Frag} {H H' : Hp} {a C : Addr} {r : RS} (h : RO K H a C r) (k : Same H H') : RO K H' a C r := h.kt k.kt fun _ _ _ => k _ _
/-! ### an edit's outcome -/
/-- the error that is told -/
def FldAt (H : Hp) (d : Option Addr) : Option (Str × V) → Prop
  | none => d = none
  | some q => ∃ dd, d = some dd ∧ H dd = some (.xd [q])
end My
namespace My
open PySem PySem.Spec PyProof.Rows L2
end My
namespace My
open PySem PySem.Spec PyProof.Rows L2
end My
namespace My
open PySem PySem.Spec PyProof.Rows L2
/-- what a call of a reel does -/
inductive Rz
  | bad (c : Str) (f : Option (Str × V))
  | ok (r : RS)
def RzTo (K : PySem.W.Frag) (H : Hp) (x C : Addr) (z : Rz) (Q : VK) (E : XK) : Prop := match z with
  | .bad c f => ∀ H' d, Same H H' → FldAt H' d f → E (.ref (He.ga K c)) d H'
  | .ok r => ∀ H', KX x H H' → RO K H' x C r → Q (.int (r.es.length : Int)) H'
end My
namespace My
open PySem PySem.Spec PyProof.Rows L2
theorem new_fld {x C dx : Addr} {fs fs' : List (Str × V)} {H : Hp} (hx : H x = some (.ins C dx fs)) (f : Str) (v : V) (e : putF f v fs = fs') : ∃ H', upd H x (.ins C dx (putF f v fs)) = H' ∧ KX x H H' ∧ KT H H' ∧ H' x = some (.ins C dx fs') :=
  ⟨_, rfl, kx_upd, kx_upd.kt hx, by rw [e]; exact upd_same⟩
theorem new_tup {H : Hp} {p : Addr} (np : H p = none) (xs : List V) : ∃ H', upd H p (.tup xs) = H' ∧ Same H H' ∧ H' p = some (.tup xs) := ⟨_, rfl, same_upd np, upd_same⟩
theorem new_lst {H : Hp} {p : Addr} (np : H p = none) (xs : List V) : ∃ H', upd H p (.lst xs) = H' ∧ Same H H' ∧ H' p = some (.lst xs) := ⟨_, rfl, same_upd np, upd_same⟩
end My
namespace My
open PySem PySem.Spec PyProof.Rows L2
theorem RzTo.same {K : PySem.W.Frag} {H H1 : Hp} {x C : Addr} {z : Rz} {Q : VK} {E : XK} (h : RzTo K H x C z Q E) (s : Same H H1) : RzTo K H1 x C z Q E := by
  cases z with
  | bad c f => exact fun H' d s1 => h H' d (s.trans s1)
  | ok r => exact fun H' k => h H' ((s.kx x).trans k)
theorem last_of {α : Type} {xs : List α} {x : α} (h : xs.getLast? = some x) : ∃ ys, xs = ys ++ [x] := by
  have hn : xs ≠ [] := by
    intro z
    rw [z] at h
    cases h
  rw [List.getLast?_eq_some_getLast hn] at h
  cases h
  exact ⟨_, (List.dropLast_concat_getLast hn).symm⟩
end My
namespace My
open PySem PySem.Spec PyProof.Rows L2
theorem sok_fit {n : Nat} {x : Str} (h : Sok n x) : Fit n 0 (.str x) := by
  refine ⟨rfl, ?_, h.1, Nat.zero_le _⟩
  show List.all (TL.tl x) _ = true
  rw [List.all_eq_true]
  exact fun c hc => decide_eq_true (h.2 c hc)
theorem small_nat {n : Nat} (h : n ≤ 1000) : ((n : Nat) : Int).natAbs < 10 ^ 30 := by
  rw [Int.natAbs_natCast]
  exact Nat.lt_of_le_of_lt h (by decide)
end My
namespace My
open PySem PySem.Spec PyProof.Rows L2
theorem roomH_units {k : Nat} {A : Around} (r : L2H.RoomH k A) : A.units + 64 < cLine := by
  have := r.un
  omega
end My
namespace My
open PySem PySem.Spec PyProof.Rows L2
theorem KX.free {x l : Addr} {H H' : Hp} {o : HO} (k : KX x H H') (e : H' x = some o) (n : H' l = none) : H l = none := by
  cases c : H l with
  | none => rfl
  | some u =>
    have hl : l ≠ x := fun z => by
      rw [z, e] at n
      cases n
    rw [k l u hl c] at n
    cases n
end My
namespace My
open PySem PySem.Spec PyProof.Rows L2
end My
namespace My
open PySem PySem.Spec PyProof.Rows L2
theorem sx_kt {S A B : Addr} {t : Nat} {H H' : Hp} (st : Strm H S A B t) (sx : SameX S A H H') : KT H H' := fun b xs => by
  obtain ⟨as, ha, _⟩ := st.a
  have hs := st.s
  refine ⟨fun e => sx _ _ e (fun z => ?_) (fun z => ?_), fun o e => sx _ _ e (fun z => ?_) (fun z => ?_)⟩ <;> subst z
  · rw [e] at hs
    cases hs
  · rw [e] at ha
    cases ha
  · rw [e] at hs
    cases hs
  · rw [e] at ha
    cases ha
end My
namespace My
open PySem PySem.Spec PyProof.Rows L2
end My
namespace My
open PySem PySem.Spec PyProof.Rows L2
theorem small_of {i : Int} (h0 : 0 ≤ i) (h1 : i ≤ 1000) : i.natAbs < 10 ^ 30 := by
  have e : (10 : Nat) ^ 30 = 1000000000000000000000000000000 := by decide
  rw [e]
  omega
theorem fit_rg {ns : List Int} (h : ns.length ≤ 24) (h2 : ∀ x ∈ ns, 0 ≤ x ∧ x ≤ 1000) : Fit 24 5 (rgD ns) :=
  (fit_tuple (fitAll_ints ns 4 fun x hx => small_of (h2 x hx).1 (h2 x hx).2)).mono h (Nat.le_refl _)
end My
namespace My
open PySem PySem.Spec PyProof.Rows L2
/-- all but two lists stays -/
def KL (p q : Addr) (H H' : Hp) : Prop := ∀ b o, b ≠ p → b ≠ q → H b = some o → H' b = some o
theorem KL.refl (p q : Addr) (H : Hp) : KL p q H H := fun _ _ _ _ e => e
theorem KL.trans {p q : Addr} {H H1 H2 : Hp} (h : KL p q H H1) (k : KL p q H1 H2) : KL p q H H2 := fun b o n m e => k b o n m (h b o n m e)
theorem KL.kt {p q : Addr} {xs ys : List V} {H H' : Hp} (h : KL p q H H') (e1 : H p = some (.lst xs)) (e2 : H q = some (.lst ys)) : KT H H' := fun b zs =>
  ⟨fun e => h b _ (fun z => by rw [z, e1] at e; cases e) (fun z => by rw [z, e2] at e; cases e) e, fun o e => h b _ (fun z => by rw [z, e1] at e; cases e) (fun z => by rw [z, e2] at e; cases e) e⟩
end My

namespace My
open PySem PySem.Spec PyProof.Rows L2
/-! ### a property that is stored; a class that a local holds; a classmethod through an instance -/
section
variable {X : Cx} {CX : CXT} {k i : Nat} {C p g f a dx : Addr} {fs : List (Str × V)} {n m x : Str} {ps : List Str} {sp : Sp} {E : XK} {pins : List (Addr × Obj)} {σ : L2.St} {H : Hp} {s : Shared} {o e value : Expr} {es : List Expr} {pos pos' apos px : Pos} {ta tv : TE} {t : TA}
theorem okA_raw {P : Program} {w : World} {K : PySem.W.Frag} {mg : Str → Option Value} {base : Heap} (O : OkA P w K mg base CX k f ps sp) : FnR P w K mg base CX k f (fun vs H Q E => sp (vs ++ []) H Q E) := by
  obtain ⟨fd, F, b⟩ := O
  exact F.raw b .nil
/-- x(e, ..), the slot i holding the class C -/
def tMakeL (i : Nat) (C : Addr) (sp : Sp) (E : XK) (t : TA) : TE := fun σ H Q => σ[i]? = some (some (.ref C)) ∧ tMake C sp [] E t σ H Q
theorem calL (O : OkA X.prog X.w X.K X.mg X.base CX k f ps sp) (hr : Room (k + 1) X.A) (hx : Passes CX X E) (M : Mk X.K C f) (hN : X.N[i]? = some x) (hv : Vis X.env.scope x) (ha : PA X (e :: es) t)
    (hdb : (x == ("__debug__" : Str)) = false := by decide) (hcd : (x == ("__classdict__" : Str)) = false := by decide)
    (he : starEach (e :: es) X.env = (false, eval e X.env) :: starEach es X.env := by rfl) (hpl : (backTo pos (starEach es X.env)).any (·.1) = false := by rfl) : PE X (.Call (.Name x px) (e :: es) [] pos) (tMakeL i C sp E t) := by
  obtain ⟨fd, F, hb⟩ := O
  refine ⟨fun pins s σ H Q I h => ?_⟩
  obtain ⟨held, ht⟩ := h
  have look := (pe_var (pos := px) hN hv hdb hcd).run pins s σ H (fun v H1 => v = .ref C ∧ H1 = H) I ⟨.ref C, held, rfl, rfl⟩
  refine wpAny_Call_Name_kw (thn look fun u s1 got => ?_)
  obtain ⟨v, H1, J, rel, rfl, rfl⟩ := got
  cases rel
  refine PySem.W.callWith_K (h₀ := X.base) J.ok.mod.kin M.kp (thn (ha.run pos pins s1 σ _ _ J ht) fun us s2 got => ?_) he hpl
  obtain ⟨vs, H2, J2, r, q⟩ := got
  exact ⟨J2.kIn, run_make M F hr hb .nil hx J2 r q⟩
end
end My
namespace My
open PySem PySem.Spec PyProof.Rows L2
/-- an edit's word, and how many arguments it has -/
def EdS (u : Str) (xs : List V) : Prop := (xs.length = 2 ∧ (u = "put" ∨ u = "insert")) ∨ (xs.length = 1 ∧ u = "remove")
theorem EdS.word {u : Str} {xs : List V} (h : EdS u xs) : u = "put" ∨ u = "insert" ∨ u = "remove" := by
  rcases h with ⟨_, h | h⟩ | ⟨_, h⟩
  · exact .inl h
  · exact .inr (.inl h)
  · exact .inr (.inr h)
/-- a drawn edit -/
def EdG (H : Hp) (t : Addr) : Prop := ∃ (u : Str) (is : List Int), H t = some (.tup (.str u :: is.map V.int)) ∧ EdS u (is.map V.int) ∧ ∀ i ∈ is, 0 ≤ i ∧ i ≤ 100
theorem EdG.data {K : PySem.W.Frag} {H : Hp} {t : Addr} {u : Str} {is : List Int} (hH : H t = some (.tup (.str u :: is.map V.int))) : Dt K H (.ref t) (.tuple (.str u :: is.map PyData.int)) := .tup (.inl (.inl hH)) (.cons (.str _) (dtAll_ints is))
end My
namespace My
open PySem PySem.Spec PyProof.Rows L2
end My

namespace My
open PySem PySem.Spec PyProof.Rows L2
/-- a text is not itself -/
theorem rNe_self {s : Str} {H : Hp} {Q : VK} (h : Q (.bl false) H) : rNe (.str s) (.str s) H Q := ⟨rfl, by rw [decide_eq_true rfl]; exact h⟩
theorem rEq_self {s : Str} {H : Hp} {Q : VK} (h : Q (.bl true) H) : rEq (.str s) (.str s) H Q := ⟨rfl, by rw [decide_eq_true rfl]; exact h⟩
end My
namespace My
open PySem PySem.Spec PyProof.Rows L2
/-- a new instance, filled by its __init__: all that stood stands -/
theorem made_same {H H5 : Hp} {x dx C : Addr} (nx : H x = none) (ndx : H dx = none) (nxd : dx ≠ x) (k5 : KX x (upd (upd H dx (.own x)) x (.ins C dx [])) H5) : Same H H5 := fun b o e => by
  have n1 : b ≠ x := ne_of_none e nx
  have n2 : b ≠ dx := ne_of_none e ndx
  exact k5 b o n1 (by rw [upd_ne n1, upd_ne n2]; exact e)
theorem made_before {H : Hp} {x dx C : Addr} (nx : H x = none) (ndx : H dx = none) (nxd : dx ≠ x) : Same H (upd (upd H dx (.own x)) x (.ins C dx [])) := (same_upd ndx).trans (same_upd (by rw [upd_ne (Ne.symm nxd)]; exact nx))
def EdY (H : Hp) (y : V) : Prop := ∃ te, y = .ref te ∧ EdG H te
theorem EdG.kt {H H' : Hp} {t : Addr} (h : EdG H t) (k : KT H H') : EdG H' t := by
  obtain ⟨u, is, h1, h2, h3⟩ := h
  exact ⟨u, is, (k _ _).1 h1, h2, h3⟩
theorem EdY.kt {H H' : Hp} {y : V} (h : EdY H y) (k : KT H H') : EdY H' y := by
  obtain ⟨te, h1, h2⟩ := h
  exact ⟨te, h1, h2.kt k⟩
end My

namespace My
open PySem PySem.Spec PyProof.Rows L2
/-! ### all but instances stays -/
end My
namespace My
open PySem PySem.Spec PyProof.Rows L2
/-! ### a method's call in a try: what it raises is wished for at the caller's slots -/
section
variable {X : Cx} {CX : CXT} {k : Nat} {f C : Addr} {ps : List Str} {sp : Sp} {E : L2.St → XK} {m : Str} {pos apos : Pos} {e o : Expr} {es : List Expr} {ta : TE} {t : TA}
end
end My

namespace My
open PySem PySem.Spec PyProof.Rows L2
/-! ### what the head reaches, each address once (a mask of bits), read for the kernel -/
end My
namespace My
open PySem PySem.Spec PyProof.Rows L2
end My

namespace My
open PySem PySem.Spec PyProof.Rows L2
/-! ### orders of tokens, counted -/
def ch : Nat → Nat → Nat
  | _, 0 => 1
  | 0, _ + 1 => 0
  | n + 1, k + 1 => ch n k + ch n (k + 1)
def dec (p : List Nat) (t : Nat) : List Nat := p.set t (p.getD t 0 - 1)
/-- the arities summed -/
def ws : Nat → List Nat → Nat
  | _, [] => 0
  | i, c :: cs => i * c + ws (i + 1) cs
def Sp6 (p : List Nat) : Int := (p.sum : Int) - (ws 0 p : Int)
end My

namespace My
open PySem PySem.Spec PyProof.Rows L2
/-! ### a display of one pair whose key is a tuple; a dict of counts by rests -/
abbrev Wl := List (List Nat × Nat)
def gt : Wl → List Nat → Nat
  | [], _ => 0
  | (q, y) :: l, r => if q = r then y else gt l r
def add : Wl → List Nat → Nat → Wl
  | [], r, z => [(r, z)]
  | (q, y) :: l, r, z => if q = r then (q, y + z) :: l else (q, y) :: add l r z
def Nd : Wl → Prop
  | [] => True
  | (q, _) :: l => (∀ e ∈ l, e.1 ≠ q) ∧ Nd l
def ky (r : List Nat) : List Key := r.map fun (n : Nat) => (Sum.inl (n : Int) : Key)
theorem ky_inj : ∀ {a b : List Nat}, ky a = ky b → a = b
  | [], [], _ => rfl
  | [], _ :: _, h => nomatch h
  | _ :: _, [], h => nomatch h
  | x :: a, y :: b, h => by
    have h : (Sum.inl (x : Int) : Key) :: ky a = Sum.inl (y : Int) :: ky b := h
    injection h with h1 h2
    injection h1 with h1
    have h3 : x = y := by exact_mod_cast h1
    rw [h3, ky_inj h2]
def kvL (l : Wl) : List (List Key × V) := l.map fun e => (ky e.1, V.int (e.2 : Int))
theorem val_mem {r : List Nat} {z : Nat} : ∀ {l : Wl}, Nd l → (r, z) ∈ l → valV (kvL l) (ky r) = some (V.int (z : Int))
  | (q, y) :: l, h, m => by
    show valV ((ky q, V.int (y : Int)) :: kvL l) (ky r) = _
    rcases List.mem_cons.mp m with e | e
    · injection e with e1 e2
      rw [valV_pos (p := (ky q, V.int (y : Int))) (by rw [e1]), e2]
    · have n := h.1 _ e
      rw [valV_neg (p := (ky q, V.int (y : Int))) (fun z => n (ky_inj z).symm)]
      exact val_mem h.2 e
def sub (c r : List Nat) : List Nat := List.zipWith (fun a b => a - b) c r
/-- the tokens of a rest, in turn -/
def ads (dep : Int) (r : List Nat) (z : Nat) : Nat → Wl → Wl
  | 0, l => l
  | t + 1, l => if 0 < r.getD t 0 ∧ (t : Int) ≤ dep then add (ads dep r z t l) (dec r t) z else ads dep r z t l
/-- the next dict, when i rests are walked -/
def stp (c : List Nat) (L : Wl) (i : Nat) : Wl := (L.take i).foldl (fun l e => ads (Sp6 (sub c e.1)) e.1 e.2 6 l) []
abbrev nI (cs : List Nat) : List Int := cs.map fun n : Nat => (n : Int)
end My

namespace My
open PySem PySem.Spec PyProof.Rows L2
/-! ### the ready orders, first token first -/
def nx (i : Nat) (h : Int) (r : List Nat) : List Nat := (List.range i).filter fun a => decide (0 < r.getD a 0 ∧ (a : Int) ≤ h)
def cmp : Nat → Int → List Nat → List (List Nat)
  | 0, _, _ => [[]]
  | n + 1, h, r => (nx r.length h r).flatMap fun (a : Nat) => (cmp n (h + 1 - (a : Int)) (dec r a)).map (a :: ·)
/-- how many, told by the rest alone -/
def cntF (h0 : Int) (r : List Nat) : Nat := (cmp r.sum (h0 - Sp6 r) r).length
/-! ### what is known -/
def code : List Nat → Nat
  | [] => 0
  | x :: r => code r * 11 + x
theorem code_lt : ∀ {r : List Nat}, (∀ x ∈ r, x ≤ 10) → code r < 11 ^ r.length
  | [], _ => Nat.one_pos
  | x :: r, h => by
    have ih := code_lt fun y hy => h y (List.mem_cons_of_mem _ hy)
    have hx := h x List.mem_cons_self
    show code r * 11 + x < 11 ^ (r.length + 1)
    rw [Nat.pow_succ]
    omega
theorem code_inj : ∀ {r s : List Nat}, (∀ x ∈ r, x ≤ 10) → (∀ x ∈ s, x ≤ 10) → r.length = s.length → code r = code s → r = s
  | [], [], _, _, _, _ => rfl
  | [], _ :: _, _, _, h, _ => nomatch h
  | _ :: _, [], _, _, h, _ => nomatch h
  | x :: r, y :: s, hr, hs, hl, hc => by
    have hx := hr x List.mem_cons_self
    have hy := hs y List.mem_cons_self
    have hc : code r * 11 + x = code s * 11 + y := hc
    have e1 : x = y := by omega
    have e2 := code_inj (r := r) (s := s) (fun z hz => hr z (List.mem_cons_of_mem _ hz)) (fun z hz => hs z (List.mem_cons_of_mem _ hz)) (Nat.succ.inj hl) (by omega)
    rw [e1, e2]
theorem nodup_lt : ∀ (N : Nat) (l : List Nat), l.Nodup → (∀ x ∈ l, x < N) → l.length ≤ N
  | 0, [], _, _ => Nat.le_refl _
  | 0, x :: _, _, h => absurd (h x List.mem_cons_self) (Nat.not_lt_zero _)
  | N + 1, l, hn, h => by
    by_cases m : N ∈ l
    · have h1 := nodup_lt N (l.erase N) (hn.erase N) fun x hx => by
        have h2 := (List.Nodup.mem_erase_iff hn).mp hx
        have h3 := h x h2.2
        have h4 : x ≠ N := h2.1
        omega
      rw [List.length_erase_of_mem m] at h1
      omega
    · have h1 := nodup_lt N l hn fun x hx => by
        have h3 := h x hx
        have h4 : x ≠ N := fun z => m (by rw [← z]; exact hx)
        omega
      omega
structure Kn (h0 : Int) (m : Nat) (W : Wl) : Prop where
  nd : Nd W
  ok : ∀ e ∈ W, e.2 = cntF h0 e.1 ∧ e.1.length = m ∧ ∀ x ∈ e.1, x ≤ 10
theorem nd_codes : ∀ {W : Wl} {m : Nat}, Nd W → (∀ e ∈ W, e.1.length = m ∧ ∀ x ∈ e.1, x ≤ 10) → (W.map fun e => code e.1).Nodup
  | [], _, _, _ => List.nodup_nil
  | (q, y) :: W, m, h, hk => by
    rw [List.map_cons]
    refine List.nodup_cons.mpr ⟨fun z => ?_, nd_codes h.2 fun e he => hk e (List.mem_cons_of_mem _ he)⟩
    obtain ⟨e, he, hc⟩ := List.mem_map.mp z
    have k1 := hk e (List.mem_cons_of_mem _ he)
    have k2 := hk (q, y) List.mem_cons_self
    exact h.1 e he (code_inj k1.2 k2.2 (k1.1.trans k2.1.symm) hc)
theorem Kn.room {h0 : Int} {m : Nat} {W : Wl} (h : Kn h0 m W) (hm : m ≤ 6) : W.length < sizeLine := by
  have h1 := nodup_lt (11 ^ m) _ (nd_codes h.nd fun e he => (h.ok e he).2) fun x hx => by
    obtain ⟨e, he, rfl⟩ := List.mem_map.mp hx
    have h2 := (h.ok e he).2
    rw [← h2.1]
    exact code_lt h2.2
  rw [List.length_map] at h1
  have h3 : 11 ^ m ≤ 11 ^ 6 := Nat.pow_le_pow_right (by decide) hm
  have h4 : (11 : Nat) ^ 6 = 1771561 := by decide
  rw [sizeLine_eq]
  omega
theorem val_none {r : List Nat} : ∀ {W : Wl}, (∀ e ∈ W, e.1 ≠ r) → valV (kvL W) (ky r) = none
  | [], _ => rfl
  | (q, y) :: W, h => by
    show valV ((ky q, V.int (y : Int)) :: kvL W) (ky r) = none
    rw [valV_neg (p := (ky q, V.int (y : Int))) (fun z => h _ List.mem_cons_self (ky_inj z))]
    exact val_none fun e he => h e (List.mem_cons_of_mem _ he)
theorem Kn.get {h0 : Int} {m : Nat} {W : Wl} (h : Kn h0 m W) (r : List Nat) : valV (kvL W) (ky r) = none ∧ (∀ e ∈ W, e.1 ≠ r) ∨ valV (kvL W) (ky r) = some (.int (cntF h0 r : Int)) ∧ (r, cntF h0 r) ∈ W := by
  by_cases c : ∃ e ∈ W, e.1 = r
  · obtain ⟨⟨q, y⟩, he, rfl⟩ := c
    have hy : y = cntF h0 q := (h.ok _ he).1
    subst hy
    exact .inr ⟨val_mem h.nd he, he⟩
  · have c : ∀ e ∈ W, e.1 ≠ r := fun e he z => c ⟨e, he, z⟩
    exact .inl ⟨val_none c, c⟩
theorem nd_snoc {r : List Nat} {z : Nat} : ∀ {W : Wl}, Nd W → (∀ e ∈ W, e.1 ≠ r) → Nd (W ++ [(r, z)])
  | [], _, _ => ⟨fun _ h => (List.not_mem_nil h).elim, trivial⟩
  | (q, y) :: W, h, hk => by
    refine ⟨fun e he => ?_, nd_snoc h.2 fun e he => hk e (List.mem_cons_of_mem _ he)⟩
    rcases List.mem_append.mp he with c | c
    · exact h.1 e c
    · rw [List.mem_singleton.mp c]
      exact fun y => hk _ List.mem_cons_self y.symm
theorem Kn.put {h0 : Int} {m : Nat} {W : Wl} (h : Kn h0 m W) {r : List Nat} (hl : r.length = m) (hx : ∀ x ∈ r, x ≤ 10) : ∃ W', putK (kvL W) (ky r) (.int (cntF h0 r : Int)) = kvL W' ∧ Kn h0 m W' ∧ (r, cntF h0 r) ∈ W' := by
  rcases h.get r with ⟨e, c⟩ | ⟨e, c⟩
  · refine ⟨W ++ [(r, cntF h0 r)], ?_, ⟨nd_snoc h.nd c, fun e he => ?_⟩, List.mem_append_right _ (List.mem_singleton.mpr rfl)⟩
    · rw [putK_new _ e]
      unfold kvL
      rw [List.map_append]
      rfl
    · rcases List.mem_append.mp he with z | z
      · exact h.ok e z
      · rw [List.mem_singleton.mp z]
        exact ⟨rfl, hl, hx⟩
  · refine ⟨W, ?_, h, c⟩
    unfold putK
    rw [if_pos (by rw [valV_any, e]; rfl)]
    refine (List.map_congr_left fun kv hkv => ?_).trans (List.map_id _)
    obtain ⟨⟨q, y⟩, he, rfl⟩ := List.mem_map.mp hkv
    show (if ky q = ky r then (ky q, V.int (cntF h0 r : Int)) else (ky q, V.int (y : Int))) = (ky q, V.int (y : Int))
    by_cases c2 : ky q = ky r
    · have hy : y = cntF h0 q := (h.ok _ he).1
      rw [if_pos c2, hy, ky_inj c2]
    · rw [if_neg c2]
end My

namespace My
open PySem PySem.Spec PyProof.Rows L2
/-! ### how often each token stands in a row -/
/-! ### where a row stands -/
/-! ### arities that do not occur -/
/-! ### the number of ready rows, from either end -/
/-! ### how long the lists grow -/
/-! ### the rows that wait -/
/-! ### tuples that are known to be plain: their methods can be called -/
def Pl (H : Hp) (a : Addr) (xs : List V) : Prop := ∃ ob : Obj, H a = some (.frz ob (.tup xs)) ∧ ob.cls = .type "tuple" ∧ ob.dict = none
theorem Pl.same {H H' : Hp} {a : Addr} {xs : List V} (h : Pl H a xs) (e : Same H H') : Pl H' a xs := by
  obtain ⟨ob, h1, h2⟩ := h
  exact ⟨ob, e _ _ h1, h2⟩
theorem Pl.seq {K : PySem.W.Frag} {H : Hp} {a : Addr} {xs : List V} (h : Pl H a xs) : SqT K H a xs := by
  obtain ⟨ob, h1, h2⟩ := h
  exact .inl (.inr ⟨ob, h1⟩)
theorem Pl.new {H : Hp} {a : Addr} {xs : List V} {ob : Obj} (h1 : ob.cls = .type "tuple") (h2 : ob.dict = none) : Pl (upd H a (.frz ob (.tup xs))) a xs := ⟨ob, upd_same, h1, h2⟩
section
variable {X : Cx}
end
/-! ### a pair of a row and what is left -/
def EltP (H : Hp) (v : V) (e : List Nat × List Nat) : Prop := ∃ p q1 q2 : Addr, v = .ref p ∧ H p = some (.tup [.ref q1, .ref q2]) ∧ Pl H q1 ((nI e.1).map V.int) ∧ H q2 = some (.tup ((nI e.2).map V.int))
/-- all tuples stay -/
def TpO : HO → Prop
  | .tup _ => True
  | .frz _ (.tup _) => True
  | _ => False
def SameT (H H' : Hp) : Prop := ∀ b o, TpO o → H b = some o → H' b = some o
theorem SameT.trans {H H' H'' : Hp} (a : SameT H H') (b : SameT H' H'') : SameT H H'' := fun c o t h => b c o t (a c o t h)
theorem SameT.tup {H H' : Hp} (a : SameT H H') {b : Addr} {xs : List V} (h : H b = some (.tup xs)) : H' b = some (.tup xs) := a b (.tup xs) trivial h
theorem SameT.pl {H H' : Hp} (a : SameT H H') {b : Addr} {xs : List V} (h : Pl H b xs) : Pl H' b xs := by
  obtain ⟨ob, h1, h2⟩ := h
  exact ⟨ob, a b (.frz ob (.tup xs)) trivial h1, h2⟩
theorem _root_.L2.Same.t {H H' : Hp} (a : Same H H') : SameT H H' := fun b o _ h => a _ _ h
theorem SameT.upd {H : Hp} {a : Addr} {o o' : HO} (h : H a = some o) (hn : ¬ TpO o) : SameT H (upd H a o') := fun b o1 t hb => by
  have e : b ≠ a := fun z => by
    rw [z, h] at hb
    injection hb with hb
    rw [hb] at hn
    exact hn t
  rw [upd_ne e]
  exact hb
theorem EltP.t {H H' : Hp} {v : V} {e : List Nat × List Nat} (s : SameT H H') (h : EltP H v e) : EltP H' v e := by
  obtain ⟨p, q1, q2, rfl, h1, h2, h3⟩ := h
  exact ⟨p, q1, q2, rfl, s.tup h1, s.pl h2, s.tup h3⟩
/-- a row as a value -/
def RowP (H : Hp) (v : V) (R : List Nat) : Prop := ∃ p : Addr, v = .ref p ∧ Pl H p ((nI R).map V.int)
theorem RowP.t {H H' : Hp} {v : V} {R : List Nat} (s : SameT H H') (h : RowP H v R) : RowP H' v R := by
  obtain ⟨p, rfl, h1⟩ := h
  exact ⟨p, rfl, s.pl h1⟩
/-- all but one object stay -/
def SameD (d : Addr) (H H' : Hp) : Prop := ∀ b o, H b = some o → b ≠ d → H' b = some o
theorem SameD.refl (d : Addr) (H : Hp) : SameD d H H := fun _ _ h _ => h
theorem SameD.trans {d : Addr} {H H' H'' : Hp} (a : SameD d H H') (b : SameD d H' H'') : SameD d H H'' := fun c o h n => b c o (a c o h n) n
theorem _root_.L2.Same.d {d : Addr} {H H' : Hp} (a : Same H H') : SameD d H H' := fun b o h _ => a b o h
theorem SameD.upd {d : Addr} {H H' : Hp} {o : HO} (a : SameD d H H') : SameD d H (upd H' d o) := fun b o' h n => by
  rw [upd_ne n]
  exact a b o' h n
theorem SameD.t {d : Addr} {H H' : Hp} {o : HO} (a : SameD d H H') (h : H d = some o) (hn : ¬ TpO o) : SameT H H' := fun b o1 t hb => a b _ hb fun z => by
  rw [z, h] at hb
  injection hb with hb
  rw [hb] at hn
  exact hn t
theorem SameD.same {d : Addr} {H H1 H' : Hp} (s : Same H H1) (a : SameD d H1 H') (n : H d = none) : Same H H' := fun b o h => a b o (s b o h) (ne_of_none h n)
end My

namespace My
open PySem PySem.Spec PyProof.Rows L2
/-! ### more plain tuples: ten times one, one backwards -/
section
variable {X : Cx}
end
/-! ### rows turned -/
end My

namespace My
open PySem PySem.Spec PyProof.Rows L2
/-! ### a set of the ints of a list -/
section
variable {P : Program} {w : World} {A : Around} {E : Value → Shared → Prop} {s : Shared}
end
section
variable {X : Cx}
end
/-! ### rows in order -/
open TS HT
end My

namespace My
open PySem PySem.Spec PyProof.Rows L2
/-! ### a call with keywords of a def that takes them as a dict -/
section
variable {P : Program} {w : World} {A : Around} {E : Value → Shared → Prop} {h0 : Heap}
end
section
variable {X : Cx} {CX : CXT} {k : Nat} {f : Addr} {sp : Sp} {E : XK} {x : Str} {e : Expr} {es : List Expr} {kws : List Keyword} {t tk : TA} {ns : List Str} {p pos : Pos}
end
/-! ### a tuple of texts that stands behind the top -/
theorem eqSs_ok : ∀ {vs : List Value} {ys : List Str}, eqSs vs ys = true → Vals (ys.map V.str) vs
  | [], [], _ => .nil
  | [], _ :: _, h => nomatch h
  | v :: vs, ys, h => by
    cases v with
    | str x t =>
      cases ys with
      | nil => exact nomatch h
      | cons y ys =>
        have h : (decide (x = y) && eqSs vs ys) = true := h
        rw [Bool.and_eq_true, decide_eq_true_iff] at h
        obtain ⟨rfl, h2⟩ := h
        exact .cons ⟨t, rfl⟩ (eqSs_ok h2)
    | _ => cases ys <;> exact nomatch h
def kvs (ws : List (Str × V)) : List (Key × V) := ws.map fun x => ((Sum.inr x.1 : Key), x.2)
end My

/-! ### the block of the guide's own-error skeleton, for any class over any built-in base whose __init__ stores the field name -/
namespace PySem
namespace Xf_name
open PySem.W PySem.Calls PyProof.Rows PySem.HandSPX
def iA (p1 p2 : Pos) : Arguments := { posonlyargs := [], args := [{ arg := "self", annotation := none, pos := p1 }, { arg := "name", annotation := none, pos := p2 }], vararg := none, kwonlyargs := [], kw_defaults := [], kwarg := none, defaults := [] }
def iB (q1 q2 q3 q4 : Pos) : List Stmt := [.Assign [.Attribute (.Name "self" q1) "name" q2] (.Name "name" q3) q4]
def iS : Scope := { kind := .function, names := [(PySem.Str.ofString "self", .local), (PySem.Str.ofString "name", .local)], isGenerator := false, isCoroutine := false, more := [] }
/-- what the written part says of the class x at C and of its __init__ at fI -/
structure Txt (K : Frag) (mg : Str → Option Value) (x q : Str) (C fI : Addr) (newId : String) (bmB : List Value) : Prop where
  gC : mg x = some (.ref C)
  mkr : excInitIn K C bmB newId = true
  ov : excOver K C bmB = true
  tk : takerIn K C "name" = some none
  sa : findIn K (.ref C) "__setattr__" = some (some (.builtin "object.__setattr__"))
  ga : findIn K (.ref C) "__getattribute__" = some (some (.builtin "BaseException.__getattribute__"))
  gg : findIn K (.ref C) "__getattr__" = some none
  noN : findIn K (.ref C) "name" = some none
  iC : findIn K (.ref C) "__init__" = some (some (.ref fI))
  tC : typeIn K (.ref fI) = some (.type "function")
  kC : keepIn K (.ref C) = true
  exC : subIn K (.ref C) (.type "BaseException") = some true
  tyC : typeIn K (.ref C) = some (.type "type")
  hdC : hasDictIn K C = true
  te : exmOne K (.ref C) (.ref C) = some true
  fn : ∃ (p1 p2 q1 q2 q3 q4 : Pos) (fd : FuncData), L2.FunD K "__init__" q (iA p1 p2) (iB q1 q2 q3 q4) iS [] [] fI fd
theorem one_size (v : Value) : [v].length ≤ sizeLine := by
  rw [sizeLine_eq]
  exact (by decide : 1 ≤ 16777216)
theorem ldC {M : Model} {s : Shared} {name : Str} {scope : Scope} {L a : Addr} {cd : Value} {m : Str → Option Value} {x : Str} {pos : Pos} {v : Value} {Q : Value → Shared → Prop} {A : Around} {E : Value → Shared → Prop} (hn : s.heap.Ns L m) (hv : m x = some v) (h : Q v s)
    (hk : scope.kind = .function := by rfl) (hl : (envOfC name scope L a cd).kindOf x = some .local := by rfl) (hd : (x == ("__debug__" : Str)) = false := by decide) :
    wpAny M A (eval (.Name x pos) (envOfC name scope L a cd)) Q E s := wpAny_Name (wpAny_loadName_local hk hl hn hv h) hd
/-- what __init__ leaves of a fresh error at x -/
structure InitEnd (h h' : Heap) (x C dx t1 : Addr) (v : Value) : Prop where
  keep : ∀ b o, b ≠ x → h.get? b = some o → h'.get? b = some o
  obj : h'.get? x = some { cls := .ref C, dict := some dx, data := .fields #[.ref t1, .none, .none, .none, .bool false, .none] }
  dbig : h.objs.size ≤ dx
  dne : dx ≠ x
  ns : h'.Ns1 dx (fun y => if y = "name" then some v else none)
section
variable {prog : Program} {w : World} {A : Around} {E : Value → Shared → Prop} {R : Result → Shared → Prop} {s : Shared} {K : Frag} {mg : Str → Option Value} {C fI : Addr} {x0 q0 : Str} {B newId initId : String} {bmB : List Value}
theorem init_end (SF : StoreFacts B bmB "object.__setattr__" "object") (T : Txt K mg x0 q0 C fI newId bmB) {x t0 : Addr} {v : Value} (X : K.In s.heap) (hlim : s.heap.NoLimit) (hx : s.heap.get? x = some (excO C t0)) (hroom : A.depth < recursionLimit)
    (hq : ∀ h' tk dx, InitEnd s.heap h' x C dx t0 v → R (.ok (.ret .none)) { s with heap := h', toks := tk }) :
    codeAny (model prog w) A (.call (.ref fI) ⟨[.ref x, v], []⟩) R s := by
  obtain ⟨p1, p2, q1, q2, q3, q4, fd, F⟩ := T.fn
  obtain ⟨oc, od, dV, kV, doc, pm, an, cdv, ct, osl, rfl, ho, hcd, hdv, _⟩ := F.ex
  have e0 : dV = .none := by
    rcases hdv with ⟨_, e⟩ | ⟨e, _⟩
    · exact e
    · exact absurd rfl e
  subst e0
  refine Att.call_fn (binds := [("self", .ref x), ("name", v)]) X hlim ho hcd hroom (BindsTo.of_eq (by first | rfl | with_unfolding_all rfl)) (by first | rfl | decide | with_unfolding_all rfl) (fun s₁ IC => ?_) rfl rfl rfl
  obtain ⟨h₁, tk₁, rfl⟩ := IC.toInCall.same
  have k : ∀ b o, s.heap.get? b = some o → h₁.get? b = some o := IC.toInCall.keep
  have hn := IC.toInCall.ns
  have X₁ : K.In h₁ := X.keeps k
  have hx₁ := k _ _ hx
  show wpAny _ _ (execs _ _) _ _ _
  refine wpAny_execs_cons (plainObj_wpAny_Assign_Attribute ?_)
  refine ldC (v := v) hn (by first | rfl | with_unfolding_all rfl | kernel_rfl) (ldC (v := .ref x) hn (by first | rfl | with_unfolding_all rfl | kernel_rfl) ?_)
  refine set_plain X₁ (ox := excO C t0) (od := none) ⟨hx₁, rfl, rfl, trivial⟩ T.sa ?_
  refine PySem.NX.osaB SF X₁ hx₁ T.ov T.tk T.hdC (fun h₃ tk₃ dx k₃ dn dne hx₃ hn₃ => ?_)
  show wpAny _ _ (execs _ _) _ _ _
  have z : s.heap.objs.size < h₁.objs.size := hn.lt
  exact wpAny_execs_nil (hq h₃ tk₃ dx ⟨fun b o hb e => k₃ b o hb (k b o e), hx₃, Nat.le_of_lt (Nat.lt_of_lt_of_le z dn), dne, hn₃⟩)
end
end Xf_name
end PySem
namespace L2
open PySem PySem.Spec PyProof.Rows
section
variable {X : Cx} {C fI : Addr} {x0 q0 : Str} {B newId initId : String} {bmB : List Value}
end
end L2
namespace My
open PySem PySem.Spec PyProof.Rows L2
end My

namespace My
open PySem PySem.Spec PyProof.Rows L2
/-! ### try: suite / finally: suite; the first suite only falls through or raises -/
section
variable {X : Cx} {body : List Stmt} {f₀ : Stmt} {fs : List Stmt} {pos : Pos} {tb : WX → TS} {tf tfs : TS} {Wout : WX}
end
end My

/-! ### the block of the guide's own-error skeleton, for any class over any built-in base whose __init__ stores the field balance -/
namespace PySem
namespace Xf_balance
open PySem.W PySem.Calls PyProof.Rows PySem.HandSPX
def iA (p1 p2 : Pos) : Arguments := { posonlyargs := [], args := [{ arg := "self", annotation := none, pos := p1 }, { arg := "balance", annotation := none, pos := p2 }], vararg := none, kwonlyargs := [], kw_defaults := [], kwarg := none, defaults := [] }
def iB (q1 q2 q3 q4 : Pos) : List Stmt := [.Assign [.Attribute (.Name "self" q1) "balance" q2] (.Name "balance" q3) q4]
def iS : Scope := { kind := .function, names := [(PySem.Str.ofString "self", .local), (PySem.Str.ofString "balance", .local)], isGenerator := false, isCoroutine := false, more := [] }
/-- what the written part says of the class x at C and of its __init__ at fI -/
structure Txt (K : Frag) (mg : Str → Option Value) (x q : Str) (C fI : Addr) (newId : String) (bmB : List Value) : Prop where
  gC : mg x = some (.ref C)
  mkr : excInitIn K C bmB newId = true
  ov : excOver K C bmB = true
  tk : takerIn K C "balance" = some none
  sa : findIn K (.ref C) "__setattr__" = some (some (.builtin "object.__setattr__"))
  ga : findIn K (.ref C) "__getattribute__" = some (some (.builtin "BaseException.__getattribute__"))
  gg : findIn K (.ref C) "__getattr__" = some none
  noN : findIn K (.ref C) "balance" = some none
  iC : findIn K (.ref C) "__init__" = some (some (.ref fI))
  tC : typeIn K (.ref fI) = some (.type "function")
  kC : keepIn K (.ref C) = true
  exC : subIn K (.ref C) (.type "BaseException") = some true
  tyC : typeIn K (.ref C) = some (.type "type")
  hdC : hasDictIn K C = true
  te : exmOne K (.ref C) (.ref C) = some true
  fn : ∃ (p1 p2 q1 q2 q3 q4 : Pos) (fd : FuncData), L2.FunD K "__init__" q (iA p1 p2) (iB q1 q2 q3 q4) iS [] [] fI fd
theorem one_size (v : Value) : [v].length ≤ sizeLine := by
  rw [sizeLine_eq]
  exact (by decide : 1 ≤ 16777216)
theorem ldC {M : Model} {s : Shared} {name : Str} {scope : Scope} {L a : Addr} {cd : Value} {m : Str → Option Value} {x : Str} {pos : Pos} {v : Value} {Q : Value → Shared → Prop} {A : Around} {E : Value → Shared → Prop} (hn : s.heap.Ns L m) (hv : m x = some v) (h : Q v s)
    (hk : scope.kind = .function := by rfl) (hl : (envOfC name scope L a cd).kindOf x = some .local := by rfl) (hd : (x == ("__debug__" : Str)) = false := by decide) :
    wpAny M A (eval (.Name x pos) (envOfC name scope L a cd)) Q E s := wpAny_Name (wpAny_loadName_local hk hl hn hv h) hd
/-- what __init__ leaves of a fresh error at x -/
structure InitEnd (h h' : Heap) (x C dx t1 : Addr) (v : Value) : Prop where
  keep : ∀ b o, b ≠ x → h.get? b = some o → h'.get? b = some o
  obj : h'.get? x = some { cls := .ref C, dict := some dx, data := .fields #[.ref t1, .none, .none, .none, .bool false, .none] }
  dbig : h.objs.size ≤ dx
  dne : dx ≠ x
  ns : h'.Ns1 dx (fun y => if y = "balance" then some v else none)
section
variable {prog : Program} {w : World} {A : Around} {E : Value → Shared → Prop} {R : Result → Shared → Prop} {s : Shared} {K : Frag} {mg : Str → Option Value} {C fI : Addr} {x0 q0 : Str} {B newId initId : String} {bmB : List Value}
theorem init_end (SF : StoreFacts B bmB "object.__setattr__" "object") (T : Txt K mg x0 q0 C fI newId bmB) {x t0 : Addr} {v : Value} (X : K.In s.heap) (hlim : s.heap.NoLimit) (hx : s.heap.get? x = some (excO C t0)) (hroom : A.depth < recursionLimit)
    (hq : ∀ h' tk dx, InitEnd s.heap h' x C dx t0 v → R (.ok (.ret .none)) { s with heap := h', toks := tk }) :
    codeAny (model prog w) A (.call (.ref fI) ⟨[.ref x, v], []⟩) R s := by
  obtain ⟨p1, p2, q1, q2, q3, q4, fd, F⟩ := T.fn
  obtain ⟨oc, od, dV, kV, doc, pm, an, cdv, ct, osl, rfl, ho, hcd, hdv, _⟩ := F.ex
  have e0 : dV = .none := by
    rcases hdv with ⟨_, e⟩ | ⟨e, _⟩
    · exact e
    · exact absurd rfl e
  subst e0
  refine Att.call_fn (binds := [("self", .ref x), ("balance", v)]) X hlim ho hcd hroom (BindsTo.of_eq (by first | rfl | with_unfolding_all rfl)) (by first | rfl | decide | with_unfolding_all rfl) (fun s₁ IC => ?_) rfl rfl rfl
  obtain ⟨h₁, tk₁, rfl⟩ := IC.toInCall.same
  have k : ∀ b o, s.heap.get? b = some o → h₁.get? b = some o := IC.toInCall.keep
  have hn := IC.toInCall.ns
  have X₁ : K.In h₁ := X.keeps k
  have hx₁ := k _ _ hx
  show wpAny _ _ (execs _ _) _ _ _
  refine wpAny_execs_cons (plainObj_wpAny_Assign_Attribute ?_)
  refine ldC (v := v) hn (by first | rfl | with_unfolding_all rfl | kernel_rfl) (ldC (v := .ref x) hn (by first | rfl | with_unfolding_all rfl | kernel_rfl) ?_)
  refine set_plain X₁ (ox := excO C t0) (od := none) ⟨hx₁, rfl, rfl, trivial⟩ T.sa ?_
  refine PySem.NX.osaB SF X₁ hx₁ T.ov T.tk T.hdC (fun h₃ tk₃ dx k₃ dn dne hx₃ hn₃ => ?_)
  show wpAny _ _ (execs _ _) _ _ _
  have z : s.heap.objs.size < h₁.objs.size := hn.lt
  exact wpAny_execs_nil (hq h₃ tk₃ dx ⟨fun b o hb e => k₃ b o hb (k b o e), hx₃, Nat.le_of_lt (Nat.lt_of_lt_of_le z dn), dne, hn₃⟩)
end
end Xf_balance
end PySem
namespace L2
open PySem PySem.Spec PyProof.Rows
theorem relO_balance {v : V} {v' : Value} (r : RelV v v') (f : Str) : RelO (List.lookup f [(("balance" : Str), v)]) (if f = "balance" then some v' else none) := by
  by_cases hw : f = "balance"
  · subst hw
    rw [if_pos rfl]
    have q : List.lookup ("balance" : Str) [(("balance" : Str), v)] = some v := by simp [List.lookup]
    rw [q]
    exact r
  · rw [if_neg hw]
    have qw : (f == ("balance" : Str)) = false := by simpa using hw
    have q2 : List.lookup f [(("balance" : Str), v)] = none := by simp [List.lookup, qw]
    rw [q2]
    trivial
section
variable {X : Cx} {C fI : Addr} {x0 q0 : Str} {B newId initId : String} {bmB : List Value}
/-- x(e) -/
def tMk_balance (C : Addr) (ta : TA) : L2.St → Hp → XK → Prop := fun σ H Q => ta σ H fun vs H1 => ∃ v, vs = [v] ∧ ∀ d, H1 d = none → Q (.ref C) (some d) (upd H1 d (.xd [(("balance" : Str), v)]))
/-- raise x(e) -/
def tRaise_balance (C : Addr) (W : WX) (ta : TA) : TS := fun _ σ H => tMk_balance C ta σ H fun cls d H' => W cls d σ H'
end
end L2
namespace My
open PySem PySem.Spec PyProof.Rows L2
theorem excB_balance {K : PySem.W.Frag} {mg : Str → Option Value} {x q : Str} {newId : String} {bmB : List Value} (glo : mg x = some (.ref (He.ga K x))) (c : excB K x "balance" newId bmB = true)
    (fn : ∃ (p1 p2 q1 q2 q3 q4 : Pos) (fd : FuncData), FunD K "__init__" q (PySem.Xf_balance.iA p1 p2) (PySem.Xf_balance.iB q1 q2 q3 q4) PySem.Xf_balance.iS [] [] (He.ma K (He.ga K x) "__init__") fd) :
    PySem.Xf_balance.Txt K mg x q (He.ga K x) (He.ma K (He.ga K x) "__init__") newId bmB := by
  unfold excB at c
  simp only [Bool.and_eq_true, decide_eq_true_eq] at c
  obtain ⟨c1, c2, c3, c4, c5, c6, c7, c8, c9, c10, c11, c12, c13, c14⟩ := c
  exact ⟨glo, c1, c2, c3, He.eqO_ok c4, He.eqO_ok c5, He.eqO_ok c6, He.eqO_ok c7, He.eqO_ok c8, c9, c10, c11, c12, c13, c14, fn⟩
end My

namespace My
open PySem PySem.Spec PyProof.Rows L2
/-! ### an error as a value: its class and its dict are known -/
def ErV (cls : Value) (d : Option Addr) (a : Addr) : HO := .ext fun h => ∃ (oe : Obj) (vs : Array Value), h.get? a = some oe ∧ Zc cls d oe ∧ oe.data = .fields vs
/-- its dict stands -/
def DictE (H : Hp) (d : Option Addr) : Prop := d = none ∨ ∃ dd fs, d = some dd ∧ H dd = some (.xd fs)
/-- which class lies under which: the errors among themselves, and their bases -/
def kitTab (K : PySem.W.Frag) (vs ls : List Str) : Bool :=
  (vs ++ ls).all (fun c => (vs ++ ls).all fun d => decide (PySem.W.kitOne K (.ref (He.ga K c)) (.ref (He.ga K d)) = some (decide (c = d)))) &&
  (vs.all (fun c => decide (PySem.W.kitOne K (.ref (He.ga K c)) (.ref (He.ga K "RingError")) = some true) && (decide (PySem.W.kitOne K (.ref (He.ga K c)) (.type "ValueError") = some true) && decide (PySem.W.kitOne K (.ref (He.ga K c)) (.type "LookupError") = some false))) &&
  ls.all fun c => decide (PySem.W.kitOne K (.ref (He.ga K c)) (.ref (He.ga K "RingError")) = some false) && (decide (PySem.W.kitOne K (.ref (He.ga K c)) (.type "ValueError") = some false) && decide (PySem.W.kitOne K (.ref (He.ga K c)) (.type "LookupError") = some true)))
section
variable {K : PySem.W.Frag} {vs ls : List Str} {c d : Str}
theorem kitTab.one (h : kitTab K vs ls = true) (hc : c ∈ vs ++ ls) (hd : d ∈ vs ++ ls) : PySem.W.kitOne K (.ref (He.ga K c)) (.ref (He.ga K d)) = some (decide (c = d)) := by
  unfold kitTab at h
  rw [Bool.and_eq_true] at h
  exact of_decide_eq_true (List.all_eq_true.mp (List.all_eq_true.mp h.1 c hc) d hd)
theorem kitTab.val (h : kitTab K vs ls = true) (hc : c ∈ vs) : PySem.W.kitOne K (.ref (He.ga K c)) (.ref (He.ga K "RingError")) = some true ∧ PySem.W.kitOne K (.ref (He.ga K c)) (.type "ValueError") = some true ∧ PySem.W.kitOne K (.ref (He.ga K c)) (.type "LookupError") = some false := by
  unfold kitTab at h
  rw [Bool.and_eq_true, Bool.and_eq_true] at h
  have z := List.all_eq_true.mp h.2.1 c hc
  rw [Bool.and_eq_true, Bool.and_eq_true, decide_eq_true_iff, decide_eq_true_iff, decide_eq_true_iff] at z
  exact z
theorem kitTab.look (h : kitTab K vs ls = true) (hc : c ∈ ls) : PySem.W.kitOne K (.ref (He.ga K c)) (.ref (He.ga K "RingError")) = some false ∧ PySem.W.kitOne K (.ref (He.ga K c)) (.type "ValueError") = some false ∧ PySem.W.kitOne K (.ref (He.ga K c)) (.type "LookupError") = some true := by
  unfold kitTab at h
  rw [Bool.and_eq_true, Bool.and_eq_true] at h
  have z := List.all_eq_true.mp h.2.2 c hc
  rw [Bool.and_eq_true, Bool.and_eq_true, decide_eq_true_iff, decide_eq_true_iff, decide_eq_true_iff] at z
  exact z
end
/-! ### new lists lie beyond the system's modules -/
section
variable {X : Cx}
end
/-! ### errors in lists -/
def ErP (K : PySem.W.Frag) (H : Hp) (v : V) (c : Str) : Prop := ∃ (a : Addr) (d : Option Addr), v = .ref a ∧ H a = some (ErV (.ref (He.ga K c)) d a) ∧ DictE H d
theorem DictE.same {H H' : Hp} {d : Option Addr} (s : Same H H') (h : DictE H d) : DictE H' d := by
  rcases h with h | ⟨dd, fs, h1, h2⟩
  · exact .inl h
  · exact .inr ⟨dd, fs, h1, s _ _ h2⟩
theorem ErP.same {K : PySem.W.Frag} {H H' : Hp} {v : V} {c : Str} (s : Same H H') (h : ErP K H v c) : ErP K H' v c := by
  obtain ⟨a, d, e, h1, h2⟩ := h
  exact ⟨a, d, e, s _ _ h1, h2.same s⟩
end My

namespace My
open PySem PySem.Spec PyProof.Rows L2
/-! ### static methods, called on an instance -/
structure SInst (K : PySem.W.Frag) (C : Addr) (m : Str) (p g : Addr) : Prop where
  pg : PySem.W.plainGet K C Str.empty = true
  ic : PySem.W.isClsIn K C = true
  at_ : PySem.W.findIn K (.ref C) m = some (some (.ref p))
  ty : PySem.W.typeIn K (.ref p) = some (.type "staticmethod")
  get : PySem.W.specialIn K (.ref p) "__get__" = some (some (.builtin "staticmethod.__get__"))
  tk : PySem.W.takesIn K (.ref p) = some false
  cp : PySem.W.copiedNames.contains m = false
  rc : ∃ rest, PySem.W.recIn K p "staticmethod" = some (.ref g :: rest)
  kp : PySem.W.keepIn K (.ref g) = true
theorem SInst.get' {K : PySem.W.Frag} {C : Addr} {m : Str} {p g : Addr} (k : SInst K C m p g) : PySem.W.plainGet K C m = true := k.pg
theorem smi_ok {K : PySem.W.Frag} {x m : Str} (h : smiB K x m = true) : SInst K (He.ga K x) m (prA K (He.ga K x) m) (smA K (He.ga K x) m) := by
  obtain ⟨h1, h⟩ := He.ba h
  obtain ⟨h2, h⟩ := He.ba h
  obtain ⟨h3, h⟩ := He.ba h
  obtain ⟨h4, h⟩ := He.ba h
  obtain ⟨h5, h⟩ := He.ba h
  obtain ⟨h6, h⟩ := He.ba h
  obtain ⟨h7, h⟩ := He.ba h
  obtain ⟨h8, h9⟩ := He.ba h
  refine ⟨h1, h2, He.eqO_ok h3, of_decide_eq_true h4, of_decide_eq_true h5, of_decide_eq_true h6, by rw [Bool.not_eq_true'] at h7; exact h7, ?_, h9⟩
  unfold smA
  split at h8
  · rename_i a b e
    exact ⟨_, by rw [e]⟩
  · cases h8
section
variable {X : Cx} {CX : CXT} {k : Nat} {C p g : Addr} {ps : List Str} {sp : Sp} {E : XK} {o e : Expr} {es : List Expr} {m : Str} {pos apos : Pos} {ta : TE} {t : TA}
def tSMeth (C : Addr) (m : Str) (sp : Sp) (E : XK) (ta : TE) (t : TA) : TE := fun σ H Q => ta σ H fun x H1 => ∃ a dx fs, x = .ref a ∧ H1 a = some (.ins C dx fs) ∧ fs.lookup m = none ∧ t σ H1 fun ws H2 => sp ws H2 Q E
theorem calSM {pl : Sem Bool} (O : OkA X.prog X.w X.K X.mg X.base CX k g ps sp) (hr : Room k X.A) (hx : Passes CX X E) (c : SInst X.K C m p g) (he : PE X o ta) (ha : PA X (e :: es) t)
    (hst : starEach (e :: es) X.env = (false, eval e X.env) :: starEach es X.env := by rfl) (hpl : (backTo pos (starEach es X.env)).any (·.1) = false := by rfl)
    (ht : eval (.Call (.Attribute o m apos) (e :: es) [] pos) X.env = (do
      let ov ← eval o X.env
      standAt apos.atName
      let (f, first) ← holding [ov] (getMethod ov m pl)
      callWith pos f first (backTo pos (starEach (e :: es) X.env)) (backToKw pos (keywordEach [] X.env))) := by rfl) :
    PE X (.Call (.Attribute o m apos) (e :: es) [] pos) (tSMeth C m sp E ta t) := by
  obtain ⟨fd, F, b⟩ := O
  refine ⟨fun pins s σ H Q I h => ?_⟩
  refine PySem.W.methodCall_KW (pl := pl) (thn (he.run pins s σ H _ I h) fun u s1 ⟨x, H1, I1, rx, a, dx, fs, ex, ea, l, q⟩ => ?_) ht
  subst ex
  obtain rfl : u = Value.ref a := rx
  obtain ⟨mA, O, rr, _, _, _⟩ := ins_get I1.hok ea
  have hn : mA m = none := RelO.none_of (by rw [← l]; exact rr m)
  obtain ⟨od, J, hl⟩ := O.look
  obtain ⟨rest, hp⟩ := c.rc
  refine PySem.W.method_usual (r := some (.ref p)) I1.kIn J (PySem.W.plainGet_of c.get').1 (PySem.W.plainGet_of c.get').2 c.at_ ?_ ?_
  · show ((PySem.W.typeIn X.K (.ref p)).any fun t => t != .type "function" && t != .type "method_descriptor" && t != .type "wrapper_descriptor") = true
    rw [c.ty]
    decide +kernel
  refine PySem.W.get_bind I1.kIn J (PySem.W.plainGet_of c.get').1 (ClX.find_cm c.ic c.at_ c.get c.tk c.cp (by rw [hl m, hn])) (PySem.W.plainGet_of c.get').2 ?_
  refine wpAny_call (PySem.W.sm_get (s := { s1 with toks := s1.toks + 1 }) I1.kIn hp (PySem.W.handed_on rfl ?_))
  have I2 := I1.tok (s1.toks + 1)
  refine PySem.W.callWith_K (h₀ := X.base) I2.ok.mod.kin c.kp (thn (ha.run pos pins _ σ H1 _ I2 q) fun us s2 ⟨vs, H2, I3, rv, q2⟩ => ?_) hst hpl
  refine ⟨I3.kIn, ?_⟩
  exact run_fn (ds := []) (dvs := []) F hr b .nil hx I3 rv (by rw [List.append_nil]; exact q2)
end
/-! ### a class's own constant, read by the class's name: a tuple of texts -/
theorem crd_ok {K : PySem.W.Frag} {x : Str} (h : crdB K x = true) : ClX.CRead K (He.ga K x) (.type "type") := by
  obtain ⟨h1, h2⟩ := He.ba h
  exact ⟨h1, of_decide_eq_true h2⟩
theorem tupA_ok {K : PySem.W.Frag} {a : Addr} {ys : List Str} (h : tupA K a ys = true) (H : Hp) : SqT K H a (ys.map V.str) := by
  unfold tupA at h
  split at h
  · rename_i o ho
    rw [Bool.and_eq_true, decide_eq_true_iff] at h
    obtain ⟨h1, h2⟩ := h
    split at h2
    · rename_i its n hd
      rw [Bool.and_eq_true, decide_eq_true_iff] at h2
      exact .inr ⟨o, its, n, ho, h1, hd, sz (by omega), eqSs_ok h2.2⟩
    · cases h2
  · cases h
theorem cvt_ok {K : PySem.W.Frag} {x f : Str} {ys : List Str} (h : cvtB K x f ys = true) : ∃ a : Addr, ClX.CVal K (He.ga K x) (.type "type") f (.ref a) (.ref a) ∧ ∀ H : Hp, SqT K H a (ys.map V.str) := by
  unfold cvtB at h
  split at h
  · rename_i a e
    exact ⟨a, ⟨e, rfl⟩, fun H => tupA_ok h H⟩
  · cases h
end My

/-! ### raising with the context known to be None (L2N): for errors that are caught and answered by another error -/
namespace PySem
namespace Xf_value
open PySem.W PySem.Calls PyProof.Rows PySem.HandSPX
/-- a made error, its record in full -/
structure OwnMadeN (h h' : Heap) (e C d : Addr) (v : Value) : Prop where
  keep : ∀ b o, h.get? b = some o → h'.get? b = some o
  new : h.objs.size ≤ e
  obj : ∃ t : Addr, h'.get? e = some { cls := .ref C, dict := some d, data := .fields #[.ref t, .none, .none, .none, .bool false, .none] }
  dbig : h.objs.size ≤ d
  dne : d ≠ e
  ns : h'.Ns1 d (fun y => if y = "value" then some v else none)
section
variable {prog : Program} {w : World} {A : Around} {E : Value → Shared → Prop} {R : Result → Shared → Prop} {s : Shared} {K : Frag} {mg : Str → Option Value} {C fI : Addr} {x0 q0 : Str} {B newId initId : String} {bmB : List Value}
theorem madeN (FB : ExcBaseFacts B newId initId bmB) (SF : StoreFacts B bmB "object.__setattr__" "object") (T : Txt K mg x0 q0 C fI newId bmB) {v : Value} (X : K.In s.heap) (hlim : s.heap.NoLimit) (hroom : A.depth + 1 < recursionLimit)
    (hq : ∀ h' tk e d, OwnMadeN s.heap h' e C d v → R (.ok (.ret (.ref e))) { s with heap := h', toks := tk }) :
    codeAny (model prog w) A (.call (.ref C) ⟨[v], []⟩) R s := by
  obtain ⟨nm, N, q, bs, bm, hdct, sn, sub, ab, col, dd, k0, k1, k2, k3, k5, hC, hbm⟩ := excInit_of X T.mkr
  obtain ⟨hp, g, dr, tk, os⟩ := s
  have k : ∀ b o, hp.get? b = some o → ((hp.push (kdv_tup [v])).push (excO C hp.objs.size)).get? b = some o := fun b o e => Heap.get?_push_of_some _ (Heap.get?_push_of_some _ e)
  have hget : ((hp.push (kdv_tup [v])).push (excO C hp.objs.size)).get? (hp.objs.size + 1) = some (excO C hp.objs.size) := by heap_get
  refine call_own FB hbm hC (looks_findIn X T.iC) (fun self => bind_fn X self T.tC) (one_size v) ?_
  refine init_end (s := ⟨(hp.push (kdv_tup [v])).push (excO C hp.objs.size), g, dr, tk, os⟩) SF T (X.keeps k) (hlim.keeps k) hget ?_ fun h' tk' dx ⟨k', hx, dn, dne, hns⟩ => ?_
  · show A.depth + 1 < recursionLimit
    exact hroom
  · have old : ∀ b o, hp.get? b = some o → h'.get? b = some o := fun b o e => k' b o (Nat.ne_of_lt (Nat.lt_succ_of_lt (Heap.lt_size e))) (k b o e)
    have z : hp.objs.size + 1 + 1 ≤ dx := by
      first
        | (simpa only [Heap.size_push] using dn)
        | exact dn
        | (have q := dn; rw [Heap.size_push, Heap.size_push] at q; exact q)
    exact ⟨rfl, hq h' tk' (hp.objs.size + 1) dx ⟨old, Nat.le_succ _, ⟨_, hx⟩, Nat.le_trans (Nat.le_trans (Nat.le_succ _) (Nat.le_succ _)) z, dne, hns⟩⟩
end
end Xf_value
end PySem
namespace My
open PySem PySem.Spec PyProof.Rows L2
section
variable {X : Cx} {C fI : Addr} {x0 q0 : Str} {B newId initId : String} {bmB : List Value}
end
end My
namespace PySem
namespace Xf_limit
open PySem.W PySem.Calls PyProof.Rows PySem.HandSPX
/-- a made error, its record in full -/
structure OwnMadeN (h h' : Heap) (e C d : Addr) (v : Value) : Prop where
  keep : ∀ b o, h.get? b = some o → h'.get? b = some o
  new : h.objs.size ≤ e
  obj : ∃ t : Addr, h'.get? e = some { cls := .ref C, dict := some d, data := .fields #[.ref t, .none, .none, .none, .bool false, .none] }
  dbig : h.objs.size ≤ d
  dne : d ≠ e
  ns : h'.Ns1 d (fun y => if y = "limit" then some v else none)
section
variable {prog : Program} {w : World} {A : Around} {E : Value → Shared → Prop} {R : Result → Shared → Prop} {s : Shared} {K : Frag} {mg : Str → Option Value} {C fI : Addr} {x0 q0 : Str} {B newId initId : String} {bmB : List Value}
theorem madeN (FB : ExcBaseFacts B newId initId bmB) (SF : StoreFacts B bmB "object.__setattr__" "object") (T : Txt K mg x0 q0 C fI newId bmB) {v : Value} (X : K.In s.heap) (hlim : s.heap.NoLimit) (hroom : A.depth + 1 < recursionLimit)
    (hq : ∀ h' tk e d, OwnMadeN s.heap h' e C d v → R (.ok (.ret (.ref e))) { s with heap := h', toks := tk }) :
    codeAny (model prog w) A (.call (.ref C) ⟨[v], []⟩) R s := by
  obtain ⟨nm, N, q, bs, bm, hdct, sn, sub, ab, col, dd, k0, k1, k2, k3, k5, hC, hbm⟩ := excInit_of X T.mkr
  obtain ⟨hp, g, dr, tk, os⟩ := s
  have k : ∀ b o, hp.get? b = some o → ((hp.push (kdv_tup [v])).push (excO C hp.objs.size)).get? b = some o := fun b o e => Heap.get?_push_of_some _ (Heap.get?_push_of_some _ e)
  have hget : ((hp.push (kdv_tup [v])).push (excO C hp.objs.size)).get? (hp.objs.size + 1) = some (excO C hp.objs.size) := by heap_get
  refine call_own FB hbm hC (looks_findIn X T.iC) (fun self => bind_fn X self T.tC) (one_size v) ?_
  refine init_end (s := ⟨(hp.push (kdv_tup [v])).push (excO C hp.objs.size), g, dr, tk, os⟩) SF T (X.keeps k) (hlim.keeps k) hget ?_ fun h' tk' dx ⟨k', hx, dn, dne, hns⟩ => ?_
  · show A.depth + 1 < recursionLimit
    exact hroom
  · have old : ∀ b o, hp.get? b = some o → h'.get? b = some o := fun b o e => k' b o (Nat.ne_of_lt (Nat.lt_succ_of_lt (Heap.lt_size e))) (k b o e)
    have z : hp.objs.size + 1 + 1 ≤ dx := by
      first
        | (simpa only [Heap.size_push] using dn)
        | exact dn
        | (have q := dn; rw [Heap.size_push, Heap.size_push] at q; exact q)
    exact ⟨rfl, hq h' tk' (hp.objs.size + 1) dx ⟨old, Nat.le_succ _, ⟨_, hx⟩, Nat.le_trans (Nat.le_trans (Nat.le_succ _) (Nat.le_succ _)) z, dne, hns⟩⟩
end
end Xf_limit
end PySem
namespace My
open PySem PySem.Spec PyProof.Rows L2
section
variable {X : Cx} {C fI : Addr} {x0 q0 : Str} {B newId initId : String} {bmB : List Value}
end
end My
namespace PySem
namespace Xf_index
open PySem.W PySem.Calls PyProof.Rows PySem.HandSPX
/-- a made error, its record in full -/
structure OwnMadeN (h h' : Heap) (e C d : Addr) (v : Value) : Prop where
  keep : ∀ b o, h.get? b = some o → h'.get? b = some o
  new : h.objs.size ≤ e
  obj : ∃ t : Addr, h'.get? e = some { cls := .ref C, dict := some d, data := .fields #[.ref t, .none, .none, .none, .bool false, .none] }
  dbig : h.objs.size ≤ d
  dne : d ≠ e
  ns : h'.Ns1 d (fun y => if y = "index" then some v else none)
section
variable {prog : Program} {w : World} {A : Around} {E : Value → Shared → Prop} {R : Result → Shared → Prop} {s : Shared} {K : Frag} {mg : Str → Option Value} {C fI : Addr} {x0 q0 : Str} {B newId initId : String} {bmB : List Value}
theorem madeN (FB : ExcBaseFacts B newId initId bmB) (SF : StoreFacts B bmB "object.__setattr__" "object") (T : Txt K mg x0 q0 C fI newId bmB) {v : Value} (X : K.In s.heap) (hlim : s.heap.NoLimit) (hroom : A.depth + 1 < recursionLimit)
    (hq : ∀ h' tk e d, OwnMadeN s.heap h' e C d v → R (.ok (.ret (.ref e))) { s with heap := h', toks := tk }) :
    codeAny (model prog w) A (.call (.ref C) ⟨[v], []⟩) R s := by
  obtain ⟨nm, N, q, bs, bm, hdct, sn, sub, ab, col, dd, k0, k1, k2, k3, k5, hC, hbm⟩ := excInit_of X T.mkr
  obtain ⟨hp, g, dr, tk, os⟩ := s
  have k : ∀ b o, hp.get? b = some o → ((hp.push (kdv_tup [v])).push (excO C hp.objs.size)).get? b = some o := fun b o e => Heap.get?_push_of_some _ (Heap.get?_push_of_some _ e)
  have hget : ((hp.push (kdv_tup [v])).push (excO C hp.objs.size)).get? (hp.objs.size + 1) = some (excO C hp.objs.size) := by heap_get
  refine call_own FB hbm hC (looks_findIn X T.iC) (fun self => bind_fn X self T.tC) (one_size v) ?_
  refine init_end (s := ⟨(hp.push (kdv_tup [v])).push (excO C hp.objs.size), g, dr, tk, os⟩) SF T (X.keeps k) (hlim.keeps k) hget ?_ fun h' tk' dx ⟨k', hx, dn, dne, hns⟩ => ?_
  · show A.depth + 1 < recursionLimit
    exact hroom
  · have old : ∀ b o, hp.get? b = some o → h'.get? b = some o := fun b o e => k' b o (Nat.ne_of_lt (Nat.lt_succ_of_lt (Heap.lt_size e))) (k b o e)
    have z : hp.objs.size + 1 + 1 ≤ dx := by
      first
        | (simpa only [Heap.size_push] using dn)
        | exact dn
        | (have q := dn; rw [Heap.size_push, Heap.size_push] at q; exact q)
    exact ⟨rfl, hq h' tk' (hp.objs.size + 1) dx ⟨old, Nat.le_succ _, ⟨_, hx⟩, Nat.le_trans (Nat.le_trans (Nat.le_succ _) (Nat.le_succ _)) z, dne, hns⟩⟩
end
end Xf_index
end PySem
namespace My
open PySem PySem.Spec PyProof.Rows L2
section
variable {X : Cx} {C fI : Addr} {x0 q0 : Str} {B newId initId : String} {bmB : List Value}
end
end My
namespace My
open PySem PySem.Spec PyProof.Rows L2
section
variable {X : Cx} {C : Addr} {bmB : List Value} {B newId initId : String}
end
/-- what L2N tells is more than what L2 tells -/
theorem cxN {P : Program} {w : World} {outer : List Env} {H : Hp} {s : Shared} {E : XK} {u : Value} {s' : Shared} (h : L2N.CX P w outer H s E u s') : L2.CX P w outer H s E u s' := by
  obtain ⟨a, B, H', cls, d, e, fl, r⟩ := h
  exact ⟨a, B, H', cls, d, e, L2H.flyingZ_imp (fun o z => z.zc) fl, r⟩
theorem fnN {P : Program} {w : World} {K : PySem.W.Frag} {mg : Str → Option Value} {base : Heap} {k : Nat} {f : Addr} {fd : FuncData} {ps : List Str} {sp : Sp} (F : FnOk P w K mg base (L2N.CX P w) k f fd ps sp) : FnOk P w K mg base (L2.CX P w) k f fd ps sp := by
  refine ⟨F.len, fun A outer s H args us vs Q E hr e0 hb r h => codeAny_mono (F.run A outer s H args us vs Q E hr e0 hb r h) fun res s' q => ?_⟩
  cases res with
  | error e => exact cxN q
  | ok fl => cases fl <;> exact q
theorem Ok.n {P : Program} {w : World} {K : PySem.W.Frag} {mg : Str → Option Value} {base : Heap} {k : Nat} {x : Str} {ps : List Str} {sp : Sp} (O : Ok P w K mg base (L2N.CX P w) k x ps sp) : Ok P w K mg base (L2.CX P w) k x ps sp := by
  obtain ⟨fd, F, b, kp, m⟩ := O
  exact ⟨fd, fnN F, b, kp, m⟩
theorem OkA.n {P : Program} {w : World} {K : PySem.W.Frag} {mg : Str → Option Value} {base : Heap} {k : Nat} {f : Addr} {ps : List Str} {sp : Sp} (O : OkA P w K mg base (L2N.CX P w) k f ps sp) : OkA P w K mg base (L2.CX P w) k f ps sp := by
  obtain ⟨fd, F, b⟩ := O
  exact ⟨fd, fnN F, b⟩
/-! ### try / except (x, y) without a name, whose suite raises; all that the body raises is named -/
section
variable {X : Cx} {body : List Stmt} {pos : Pos} {tb : WX → TS} {Wout : WX} {x1 x2 : Str} {c1 c2 : Value} {ts : Addr → Value → Option Addr → TS} {b1 : Stmt} {bs : List Stmt} {p1 p2 p3 p4 : Pos} {kk : Nat}
end
end My

namespace My
open PySem PySem.Spec PyProof.Rows L2
/-! ### a target that is an attribute -/
/-! ### o.m(e, .., k = v, ..), the def having keyword-only parameters with defaults -/
section
variable {X : Cx} {CX : CXT} {k n : Nat} {f C : Addr} {fd : FuncData} {ps ks : List Str} {sp : Sp} {E : L2.St → XK} {o e : Expr} {es : List Expr} {kws : List Keyword} {m : Str} {pos apos : Pos} {ta : TE} {t tk : TA} {g : List Value → List Value → List Value} {gV : List V → List V → List V}
end
end My

namespace My
open PySem PySem.Spec PyProof.Rows L2
/-! ### raising and unpacking while an error is handled whose context is None or an error without a context -/
def WarmAt (A : Around) (h : Heap) : Prop :=
  ∃ (x : Addr) (o : Obj) (vs : Array Value), A.handled = some (.ref x) ∧ h.get? x = some o ∧ o.data = .fields vs ∧
    (vs[2]? = some .none ∨ ∃ (y : Addr) (oy : Obj) (ws : Array Value), vs[2]? = some (.ref y) ∧ y ≠ x ∧ h.get? y = some oy ∧ oy.data = .fields ws ∧ ws[2]? = some .none)
theorem WarmAt.keeps {A : Around} {h h' : Heap} (W : WarmAt A h) (k : ∀ b o, h.get? b = some o → h'.get? b = some o) : WarmAt A h' := by
  obtain ⟨x, o, vs, e1, e2, e3, c⟩ := W
  refine ⟨x, o, vs, e1, k _ _ e2, e3, ?_⟩
  rcases c with c | ⟨y, oy, ws, c1, c2, c3, c4, c5⟩
  · exact .inl c
  · exact .inr ⟨y, oy, ws, c1, c2, k _ _ c3, c4, c5⟩
section
variable {prog : Program} {w : World} {A : Around} {E : Value → Shared → Prop} {s : Shared}
end
/-! ### errors in flight, by what is told of their object (the ground and what is tracked may be named) -/
abbrev ZF := Heap → Hp → Value → Option Addr → Obj → Prop
def XEz (Z : ZF) (X : Cx) (W : WX) (u : Value) (z : Shared) : Prop :=
  ∃ (e : Addr) (G : Heap) (s1 : Shared) (pp : List (Addr × Obj)) (τ : L2.St) (H : Hp) (c : Value) (d : Option Addr), u = .ref e ∧ Inv X pp τ H s1 ∧
    (∀ b o, s1.heap.get? b = some o → b ∉ frs X.stack → G.get? b = some o) ∧ s1.heap.UpToSlots z.heap ∧ Sky G X.stack e (Z G H c d) X.env.locals z.heap ∧ H e = none ∧ z.os = s1.os ∧ AllBare z.gens ∧ W c d τ H
def TakesZ (Z : ZF) (X : Cx) (W : WX) : Prop := ∀ u z, XEz Z X W u z → X.xe u z
def CXz (Z : ZF) (P : Program) (w : World) (outer : List Env) (H : Hp) (s : Shared) (E : XK) (u : Value) (z : Shared) : Prop :=
  ∃ (e : Addr) (G : Heap) (H1 : Hp) (c : Value) (d : Option Addr), u = .ref e ∧ HandSPX.FlyingZ G outer e (Z G H1 c d) z.heap ∧ HOk P w H1 G ∧ UB (frs outer) H H1 s.heap G z.heap ∧ H1 e = none ∧ z.os = s.os ∧ AllBare z.gens ∧ E c d H1
theorem CXz.imp {Z Z' : ZF} {P : Program} {w : World} {outer : List Env} {H : Hp} {s z : Shared} {E : XK} {u : Value} (i : ∀ G H c d o, Z G H c d o → Z' G H c d o) (h : CXz Z P w outer H s E u z) : CXz Z' P w outer H s E u z := by
  obtain ⟨e, G, H1, c, d, q, fl, r⟩ := h
  exact ⟨e, G, H1, c, d, q, L2H.flyingZ_imp (fun o x => i _ _ _ _ _ x) fl, r⟩
theorem sky_imp {G : Heap} {l : List Env} {e : Addr} {Z Z' : Obj → Prop} {L : Addr} {h : Heap} (i : ∀ o, Z o → Z' o) (x : Sky G l e Z L h) : Sky G l e Z' L h := by
  rcases x with ⟨h1, h2, h3, oe, vs, h4, h5, h6⟩ | fl | ⟨h1, h2, h3, oe, vs, T, oT, ts, h4, h5, h6⟩
  · exact .inl ⟨h1, h2, h3, oe, vs, h4, i _ h5, h6⟩
  · exact .inr (.inl (L2H.flyingZ_imp i fl))
  · exact .inr (.inr ⟨h1, h2, h3, oe, vs, T, oT, ts, h4, i _ h5, h6⟩)
theorem TakesZ.less {Z Z' : ZF} {X : Cx} {W : WX} (t : TakesZ Z' X W) (i : ∀ G H c d o, Z G H c d o → Z' G H c d o) : TakesZ Z X W := fun u z x => by
  obtain ⟨e, G, s1, pp, τ, H, c, d, q, I, nb, up, sky, r⟩ := x
  exact t u z ⟨e, G, s1, pp, τ, H, c, d, q, I, nb, up, sky_imp (i _ _ _ _) sky, r⟩
section
variable {Z : ZF} {X : Cx} {pins : List (Addr × Obj)} {σ : L2.St} {H : Hp} {s : Shared} {W : WX} {E : XK}
end
/-! ### the kind: its context is None, or an error of the ground that has none -/
def CtxK (G : Heap) (H : Hp) (o : Obj) : Prop := ∀ vs : Array Value, o.data = .fields vs → vs[2]? = some .none ∨
  ∃ (y : Addr) (oy : Obj) (ws : Array Value), vs[2]? = some (.ref y) ∧ G.get? y = some oy ∧ oy.data = .fields ws ∧ ws[2]? = some .none ∧ H y = none
def Zk : ZF := fun G H c d o => o.cls = c ∧ o.dict = d ∧ CtxK G H o
theorem Zk.of_n {G : Heap} {H : Hp} {c : Value} {d : Option Addr} {o : Obj} (h : L2N.Zn c d o) : Zk G H c d o := ⟨h.1, h.2.1, fun vs e => .inl (h.2.2 vs e)⟩
abbrev TakesK := TakesZ Zk
theorem TakesK.n {X : Cx} {W : WX} (t : TakesK X W) : L2N.Takes X W := TakesZ.less (Z := fun _ _ c d => L2N.Zn c d) t fun _ _ _ _ _ h => Zk.of_n h
/-! ### try / except (x, y) without a name, what the suite lets out being of any kind -/
section
variable {X : Cx} {body : List Stmt} {pos : Pos} {tb : WX → TS} {Wout : WX} {x1 x2 : Str} {c1 c2 : Value} {ts : Addr → Value → Option Addr → TS} {b1 : Stmt} {bs : List Stmt} {p1 p2 p3 p4 : Pos} {kk : Nat}
end
/-! ### a new error in the air; raise .. from None in a suite -/
/-! ### a finally suite behind such an error; there a tuple is unpacked -/
section
variable {X : Cx} {body : List Stmt} {f0 : Stmt} {fs : List Stmt} {pos : Pos} {tb : WX → TS} {tf tfs : TS} {Wout : WX}
end
/-! ### rules that name the frame of the system by an equation (for the inner blocks of try) -/
section
variable {X : Cx} {K : PySem.W.Frag}
theorem pe_fldK {e : Expr} {f : Str} {pos : Pos} {ta : TE} (hK : X.K = K) (he : PE X e ta) (hb : attributeBase e f X.env (eval e X.env) = eval e X.env) : PE X (.Attribute e f pos) (tFld K ta f) := by
  subst hK
  exact pe_fld he hb
theorem pg_tupI {es : List Expr} {k n : Nat} {pos : Pos} {t : TGs} (hK : X.K = K) (hc : X.calm = true) (h : PGs X es t) (hn : (assignEach es X.env).length = n := by rfl) (hst : (assignEach es X.env).findIdx? (·.1) = none := by rfl) : PG X (.Tuple es k pos) (gTup K n t) := by
  subst hK
  exact pg_tup hc h hn hst
theorem pi_enumTK {e : Expr} {ta : TA} {p pos tpos : Pos} {elts : List Expr} {kk : Nat} (hK : X.K = K) (hg : Gl X "enumerate") (hm : X.mg "enumerate" = none) (ha : PA X [e] ta) (hs : starEach [e] X.env = [(false, eval e X.env)] := by rfl) :
    PI X (.Tuple elts kk tpos) (.Call (.Name "enumerate" p) [e] [] pos) (iEnumT K ta) := by
  subst hK
  exact pi_enumT hg hm ha hs
end
end My

namespace My
open PySem PySem.Spec PyProof.Rows L2
/-! ### the head with the table of the interpreter's own statics -/
end My

/-! A sleeping generator that a run does not wake keeps its state. -/
namespace GenP
open PySem
open Sem (wp)

def stuckK : Resume → Sem PySem.Fin := fun _ => .unsupported ""
/-- the same, but that it cannot be woken -/
def stk : GenState → GenState
  | .suspended _ l c p fs cl => .suspended stuckK l c p fs cl
  | x => x
def Susp : GenState → Prop
  | .suspended .. => True
  | _ => False
def NoG : GenState → Prop
  | .suspended _ _ _ _ fs _ => splitAtGen fs = none
  | _ => True
/-- the sleeping ones of D stand stuck in the table T; no other sleeping one has a generator's frame -/
structure Good (D : Nat → Option GenState) (T : Array GenState) : Prop where
  at_ : ∀ (i : Nat) (x : GenState), D i = some x → T[i]? = some (stk x) ∧ Susp x
  no : ∀ (i : Nat) (y : GenState), D i = none → T[i]? = some y → NoG y
variable {D : Nat → Option GenState} {T : Array GenState}
theorem Good.lt {i : Nat} {x : GenState} (h : Good D T) (hi : D i = some x) : i < T.size := (Array.getElem?_eq_some_iff.mp (h.at_ i x hi).1).1
theorem Good.set {i : Nat} {x : GenState} (h : Good D T) (hi : D i = none) (hx : NoG x) : Good D (T.setIfInBounds i x) := by
  refine ⟨fun j y e => ⟨?_, (h.at_ j y e).2⟩, fun j y hj e => ?_⟩
  · have z : i ≠ j := fun z => by subst z; rw [hi] at e; cases e
    rw [Array.getElem?_setIfInBounds_ne z]
    exact (h.at_ j y e).1
  · by_cases z : i = j
    · subst z
      rw [Array.getElem?_setIfInBounds] at e
      simp only [if_true] at e
      split at e
      · cases e; exact hx
      · cases e
    · rw [Array.getElem?_setIfInBounds_ne z] at e
      exact h.no j y hj e
theorem Good.push {c : Code} (h : Good D T) : Good D (T.push (.fresh c)) := by
  refine ⟨fun j y e => ⟨?_, (h.at_ j y e).2⟩, fun j y hj e => ?_⟩
  · rw [Array.getElem?_push_lt (h.lt e)]
    have := (h.at_ j y e).1
    rw [Array.getElem?_eq_getElem (h.lt e)] at this
    exact this
  · rw [Array.getElem?_push] at e
    split at e
    · cases e; trivial
    · exact h.no j y hj e
end GenP

/-! Generators that any consumer may wake: segments by what their end is, sleeping states, yield from. -/
namespace GenP
open PySem PySem.Spec PyProof.Rows L2 GenW
open Sem (wp)

def SegP (M : Model) (A : Around) (P : End → Shared → Prop) (c : Code) (t : Sem PySem.Fin) (fs : List Frame) (s : Shared) : Prop :=
  ∀ Γ p, Γ.code = c → Γ.Woken A → ∃ e s', Runs M Γ p t fs s e s' ∧ P e s'
section
variable {M : Model} {A : Around} {P P' : End → Shared → Prop} {c : Code} {fs : List Frame} {s : Shared}
theorem SegP.mono {t : Sem PySem.Fin} (h : SegP M A P c t fs s) (hp : ∀ e s', P e s' → P' e s') : SegP M A P' c t fs s := fun Γ p h1 h2 => by
  obtain ⟨e, s', a, b⟩ := h Γ p h1 h2
  exact ⟨e, s', a, hp _ _ b⟩
theorem segp_wrap {α : Type} {m : Sem α} {K : α → Sem PySem.Fin} {J : Value → Sem PySem.Fin} {gd : Bool → Bool} {lv : List Value → List Value}
    (h : wpAny M (A.over c fs) m (fun a z => SegP M A P c (K a) fs z) (fun x z => SegP M A P c (J x) fs z) s) : SegP M A P c (m.wrap K J gd lv) fs s := fun Γ p hc hΓ => by
  subst hc
  exact runs_wrap_of_wp K J gd lv m (h (Γ.over fs) p (hΓ.over fs)) (fun a q z y => y Γ q rfl hΓ) fun x q z y => y Γ q rfl hΓ
theorem segp_at {p' : Pos} {k : Unit → Sem PySem.Fin} (h : SegP M A P c (k ()) fs s) : SegP M A P c (.at p' k) fs s :=
  segp_wrap (m := standAt p') (K := k) (J := .raise) (gd := id) (lv := id) (wpAny_standAt h)
theorem segp_point {l : List Value} {k : Unit → Sem PySem.Fin} (h : SegP M A P c (k ()) fs s) : SegP M A P c (.point l k) fs s :=
  segp_wrap (m := point) (K := k) (J := .raise) (gd := id) (lv := fun _ => l) (wpAny_point h)
theorem segp_call {c' : Code} {h : Option Value} {g : Bool} {l : List Value} {k : Result → Sem PySem.Fin} (hc : ∀ p, SegP M A P c' (M.den c') (.ret k h g l c p [] :: fs) s) : SegP M A P c (.call c' h g l k) fs s := fun Γ p e hΓ => by
  subst e
  obtain ⟨e, z, hr, he⟩ := hc p (Γ.goto c') p rfl (hΓ.goto c')
  exact ⟨e, z, runs_call_seg hr, he⟩
theorem segp_leaf {k : Result → Sem PySem.Fin} {h : Option Value} {g : Bool} {l kp : List Value} {c₁ : Code} {p₁ : Pos} (r : Result) (hk : SegP M A P c₁ (k r) fs s) : SegP M A P c (leafOf r) (.ret k h g l c₁ p₁ kp :: fs) s := fun Γ p e hΓ => by
  subst e
  obtain ⟨e, z, hr, he⟩ := hk (Γ.goto c₁) p₁ rfl (hΓ.goto c₁)
  exact ⟨e, z, Runs.pop r hr, he⟩
theorem segp_again {c' : Code} (hq : c'.quiet = true) (hc : SegP M A P c' (M.den c') fs s) : SegP M A P c (.pure (.again c')) fs s := fun Γ p e hΓ => by
  subst e
  obtain ⟨e, z, hr, he⟩ := hc (Γ.goto c') p rfl (hΓ.goto c')
  exact ⟨e, z, Runs.head (c₁ := c') (fun _ _ y => .again hq y) hr, he⟩
theorem segp_end (r : Result) (h : P (.ret r) s) : SegP M A P c (leafOf r) [] s := fun Γ p e _ => by
  subst e
  exact ⟨.ret r, s, Runs.leaf r, h⟩
theorem segp_yield {v : Value} {g : Bool} {l : List Value} {k : Resume → Sem PySem.Fin} (hfs : splitAtGen fs = none) (h : ∀ p, P (.susp v g l k c p fs) s) : SegP M A P c (.yield v g l k) fs s := fun Γ p e _ => by
  subst e
  exact ⟨_, s, Runs.yield' fs hfs, h p⟩
theorem segp_bindw {α β : Type} {m : Sem α} {f : α → Sem β} {K : β → Sem PySem.Fin} {J : Value → Sem PySem.Fin} {gd : Bool → Bool} {lv : List Value → List Value}
    (h : wpAny M (A.over c fs) m (fun a z => SegP M A P c ((f a).wrap K J gd lv) fs z) (fun x z => SegP M A P c (J x) fs z) s) : SegP M A P c ((m >>= f).wrap K J gd lv) fs s := by
  rw [Sem.bind_eq_wrap' m f, Sem.wrap_wrap]
  exact segp_wrap h
end
theorem segp_func {prog : Program} {w : World} {A : Around} {P : End → Shared → Prop} {fs : List Frame} {s : Shared} {env : Env} {body : List Stmt}
    (h : SegP (model prog w) A P (.func body env) ((execs body env).wrap (fun f => .pure (.done (.ret (match f with | .ret v => v | _ => .none)))) (fun e => (leaving env e).wrap (fun _ => .raise e) .raise id id) id id) fs s) :
    SegP (model prog w) A P (.func body env) ((model prog w).den (.func body env)) fs s := by
  show SegP _ A P _ (.point [] fun _ => ((execs body env).onRaise (leaving env)) >>= _) fs s
  refine segp_point ?_
  rw [Sem.onRaise_eq_wrap, Sem.bind_eq_wrap', Sem.wrap_wrap, Sem.wrap_congr (execs body env) _ _ (K' := fun f => .pure (.done (.ret (match f with | .ret v => v | _ => .none))))
    (H' := fun e => (leaving env e).wrap (fun _ => .raise e) .raise id id) (fun f => by cases f <;> rfl) (fun e => by rw [Sem.bind_eq_wrap, Sem.wrap_wrap]; rfl)]
  exact h

/-! ### waking -/
def GoP (M : Model) (A : Around) (P : End → Shared → Prop) (gs : GenState) (s : Shared) : Prop :=
  match gs with
  | .fresh c => SegP M A P c (M.den c) [] s
  | .suspended k _ c _ fs _ => SegP M A P c (k (.send .none)) fs s
  | _ => False
theorem wpAny_resumeP {M : Model} {A : Around} {P : End → Shared → Prop} {E : Value → Shared → Prop} {s : Shared} {g : Nat} {gs : GenState} {l : List Value} {α : Type} {k : GenResult → Sem α} {Q : α → Shared → Prop} (hg : s.gens[g]? = some gs)
    (hgo : GoP M A P gs (s.setGen g .running)) (hq : ∀ e z, P e z → e.quiet = true) (h : ∀ e z, P e z → wpAny M A (k e.result) Q E (z.setGen g e.genState)) : wpAny M A (.resume g (.send .none) l k) Q E s := fun Γ p hΓ => by
  rw [Sem.wp_resume]
  cases gs with
  | fresh c =>
    obtain ⟨e, z, hr, he⟩ := hgo (Γ.wake c p) p rfl (hΓ.wake c p)
    exact ⟨_, _, by unfold Wakes; rw [hg]; exact ⟨e, z, hr, hq e z he, rfl, rfl⟩, h e z he Γ p hΓ⟩
  | suspended k₀ l₀ c₀ p₀ fs₀ cl =>
    obtain ⟨e, z, hr, he⟩ := hgo (Γ.wake c₀ p) p₀ rfl (hΓ.wake c₀ p)
    exact ⟨_, _, by unfold Wakes; rw [hg]; exact ⟨e, z, hr, hq e z he, rfl, rfl⟩, h e z he Γ p hΓ⟩
  | running => exact hgo.elim
  | finished => exact hgo.elim
/-- the end of a generator -/
def Ended (e : End) : Prop := e = .ret (.ok (.ret .none)) ∨ e = .ret (.ok .next)
/-- next(g) -/
theorem next_genP {P : Program} {w : World} {A : Around} {E : Value → Shared → Prop} {s : Shared} {a : Addr} {g : Nat} {gs : GenState} {R : End → Shared → Prop} {Q : Option Value → Shared → Prop} (hh : A.handled = none) (hl : s.heap.NoLimit) (hroom : A.depth < recursionLimit)
    (hg : s.heap.IsGen a g) (hgs : s.gens[g]? = some gs) (hgo : GoP (model P w) A.in1 R gs (s.setGen g .running))
    (hR : ∀ e z, R e z → (∃ v, e.result = .yielded v ∧ e.quiet = true ∧ Q (some v) (z.setGen g e.genState)) ∨ (Ended e ∧ ∀ h', (∀ b o, z.heap.get? b = some o → h'.get? b = some o) → Q none { z.setGen g .finished with heap := h' })) :
    wpAny (model P w) A (pyNext (.ref a)) Q E s := by
  unfold pyNext
  refine wpAny_bind (wpAny_attempt (wpAny_callSpecial?_slot (name := Str.ofString "__next__") hg.typeIs slot_gen_next (wpAny_call_entry slot_gen_next hg.typeIs entry_gen_next ?_ (args_gen_next _))))
  show wpAny _ A.in1 (Builtin.Generator.genWake (.ref a) (.send .none)) _ _ s
  unfold Builtin.Generator.genWake
  refine wpAny_bind (wpAny_holding (wpAny_genNumber hg (wpAny_bind (wpAny_genState hgs ?_))))
  cases gs with
  | running => exact hgo.elim
  | finished => exact hgo.elim
  | _ =>
    refine wpAny_bind (wpAny_roomToWake hl hroom ?_)
    show wpAny _ A.in1 (.resume g (.send .none) [] _) _ _ s
    refine wpAny_resumeP hgs hgo (fun e z hx => ?_) (fun e z hx => ?_)
    · rcases hR e z hx with ⟨_, _, y, _⟩ | ⟨y | y, _⟩
      · exact y
      · rw [y]; rfl
      · rw [y]; rfl
    · rcases hR e z hx with ⟨v, y, _, q⟩ | ⟨y, q⟩
      · rw [y]
        exact wpAny_pure ⟨v, rfl, wpAny_pure q⟩
      · have e1 : e.result = .returned .none := by rcases y with y | y <;> rw [y] <;> rfl
        have e2 : e.genState = .finished := by rcases y with y | y <;> rw [y] <;> rfl
        rw [e1, e2]
        show wpAny _ A.in1 (newExc (.type "StopIteration") [] >>= _) _ _ _
        refine wpAny_bind ?_
        simp only [newExc, newTuple]
        refine wpAny_bind (wpAny_newObj_type ?_ (by size_fits))
        refine wpAny_bind (m := firstArgMember _ _) (wpAny_of_eq (a := Value.none) (by first | rfl | (simp only [firstArgMember]; rfl)) ?_)
        refine wpAny_newObj_type ?_ (by size_fits)
        simp only [raiseNew]
        refine wpAny_bind (wpAny_bind (wpAny_handled ?_))
        first | rw [show A.in1.handled = none from hh] | rw [hh]
        refine wpAny_throw ?_
        refine wpAny_bind (wpAny_isInstance (T := "StopIteration") (b := true) ⟨_, Heap.get?_push_size _ rfl, rfl⟩ isSubtype_stop ?_)
        exact wpAny_pure (q _ fun b o hb => Heap.get?_push_of_some _ (Heap.get?_push_of_some _ hb))

/-! ### asleep -/
structure Slp (gs : GenState) : Prop where
  sus : Susp gs
  no : NoG gs
  bare : gs.bare = true
end GenP

/-! What a generator's call gives, for a consumer of any kind; a for loop over it. -/
namespace GenP
open PySem PySem.Spec PyProof.Rows L2 GenW
open Sem (wp)

/-- no object comes back -/
structure Dead (h h' : Heap) : Prop where
  le : h.objs.size ≤ h'.objs.size
  dead : ∀ b, b < h.objs.size → h.get? b = none → h'.get? b = none
theorem Dead.refl {h : Heap} : Dead h h := ⟨Nat.le_refl _, fun _ _ e => e⟩
theorem Dead.trans {h h1 h2 : Heap} (a : Dead h h1) (b : Dead h1 h2) : Dead h h2 := ⟨Nat.le_trans a.le b.le, fun c hc e => b.dead c (Nat.lt_of_lt_of_le hc a.le) (a.dead c hc e)⟩
theorem Dead.push {h h2 : Heap} {o : Obj} (b : Dead (h.push o) h2) : Dead h h2 :=
  Dead.trans ⟨by rw [Heap.size_push]; exact Nat.le_succ _, fun c hc e => by rw [Heap.get?_push_ne _ _ _ (Nat.ne_of_lt hc)]; exact e⟩ b
theorem Dead.upd {h h2 : Heap} {a : Addr} {f : Obj → Obj} (ha : (h.get? a).isSome) (b : Dead (h.update a f) h2) : Dead h h2 :=
  Dead.trans ⟨Nat.le_of_eq (Heap.size_update ..).symm, fun c hc e => by
    have n : a ≠ c := fun z => by rw [z, e] at ha; cases ha
    rw [Heap.get?_update_other _ _ n]; exact e⟩ b
theorem runs_dead {M : Model} {Γ : PySem.Ctx} {p : Pos} {t : Sem PySem.Fin} {fs : List Frame} {s s' : Shared} {e : End} (h : Runs M Γ p t fs s e s') : Dead s.heap s'.heap := by
  induction h with
  | done => exact .refl
  | raise => exact .refl
  | yield => exact .refl
  | update ho _ ih => exact .upd ho ih
  | alloc _ ih => exact .push ih
  | call _ _ i1 i2 => exact i1.trans i2
  | resumeFresh _ _ _ _ i1 i2 => exact Dead.trans i1 i2
  | resumeSuspended _ _ _ _ i1 i2 => exact Dead.trans i1 i2
  | segRet _ _ i1 i2 => exact i1.trans i2
  | segGen _ _ i1 i2 => exact i1.trans i2
  | segSuspGen _ _ _ _ i1 i2 => exact i1.trans i2
  | segSuspOut _ _ ih => exact ih
  | callSusp _ ih => exact ih
  | _ => assumption
theorem codeAny_dead {M : Model} {A : Around} {c : Code} {R : Result → Shared → Prop} {s : Shared} (h : codeAny M A c (fun r s' => Dead s.heap s'.heap → R r s') s) : codeAny M A c R s := fun Γ p h1 h2 => by
  obtain ⟨r, s', hr, q⟩ := h Γ p h1 h2
  exact ⟨r, s', hr, q (runs_dead hr)⟩

theorem inv_gens {X : Cx} {pins : List (Addr × Obj)} {σ : L2.St} {H : Hp} {s : Shared} {G : Array GenState} (I : Inv X pins σ H s) (h : AllBare G) : Inv X pins σ H { s with gens := G } :=
  I.call' (ch := []) rfl (Un.kept fun _ _ e => e) I.hok h fun b hb => absurd hb (by simp)
abbrev TQ := Nat → (Hp → Prop) → (Nat → Hp → V → Hp → Prop) → Hp → Prop
section
variable {X : Cx} {k : Nat}
end
end GenP

/-! A generator def whose body is one «yield from» of a list. -/
namespace GenP
open PySem PySem.Spec PyProof.Rows L2 GenW
open Sem (wp)

/-! ### the list's iterator -/
section
variable {P : Program} {w : World} {A : Around} {E : Value → Shared → Prop} {s : Shared}
end
/-! ### the def -/
abbrev SpQ := List V → Hp → TQ → Prop
def noX : XK := fun _ _ _ => False
/-! ### the call -/
section
variable {X : Cx} {k : Nat} {f : Addr} {fd : FuncData} {ps : List Str} {sp : SpQ} {x : Str} {p pos : Pos}
end
end GenP

/-! A list comprehension over a generator. -/
namespace GenP
open PySem PySem.Spec PyProof.Rows L2 GenW
open Sem (wp)

section
variable {X : Cx} {k : Nat}
end
end GenP

/-! list(g); a generator def of the module. -/
namespace GenP
open PySem PySem.Spec PyProof.Rows L2 GenW
open Sem (wp)

section
variable {X : Cx} {k : Nat}
end
end GenP
namespace GenP
open PySem PySem.Spec PyProof.Rows L2 GenW My
end GenP

/-! An Inv of a generator's frame at each waking: the entry is the waking state, cut down to what is older than the frame. -/
namespace GenP
open PySem PySem.Spec PyProof.Rows L2 GenW

def cutH (n : Nat) (h : Heap) : Heap := ⟨h.objs.extract 0 n, h.life⟩
theorem cut_get {n b : Nat} {h : Heap} : (cutH n h).get? b = if b < n then h.get? b else none := by
  unfold cutH Heap.get?
  by_cases c : b < n
  · rw [if_pos c]
    have e : (h.objs.extract 0 n)[b]? = h.objs[b]? := by
      rw [Array.getElem?_extract]
      simp only [Nat.zero_add, Nat.sub_zero]
      by_cases d : b < h.objs.size
      · rw [if_pos (by omega)]
      · rw [if_neg (by omega), Array.getElem?_eq_none (Nat.le_of_not_lt d)]
    show (match (h.objs.extract 0 n)[b]? with | some ⟨_, _, .freed, _⟩ => none | o => o) = _
    rw [e]
    rfl
  · rw [if_neg c]
    have e : (h.objs.extract 0 n)[b]? = none := by
      rw [Array.getElem?_extract, if_neg (by omega)]
    show (match (h.objs.extract 0 n)[b]? with | some ⟨_, _, .freed, _⟩ => none | o => o) = _
    rw [e]
theorem cut_lt {n b : Nat} {h : Heap} (c : b < n) : (cutH n h).get? b = h.get? b := by rw [cut_get, if_pos c]
theorem cut_some {n b : Nat} {h : Heap} {o : Obj} (e : (cutH n h).get? b = some o) : b < n ∧ h.get? b = some o := by
  rw [cut_get] at e
  by_cases c : b < n
  · rw [if_pos c] at e; exact ⟨c, e⟩
  · rw [if_neg c] at e; cases e
theorem cut_size {n : Nat} {h : Heap} (c : n ≤ h.objs.size) : (cutH n h).objs.size = n := by
  show (h.objs.extract 0 n).size = n
  rw [Array.size_extract]
  omega
theorem cut_frames {n : Nat} {h base : Heap} : ∀ {l : List Env}, (∀ b ∈ frs l, b < n) → h.FunFrames base l → (cutH n h).FunFrames base l
  | [], _, _ => trivial
  | env :: l, hb, ⟨hk, ⟨L, o, hf, hn, ho, hd⟩, hr⟩ => by
    have hL : L < n := hb L (by unfold frs; rw [List.filterMap_cons, hf]; exact List.mem_cons_self)
    refine ⟨hk, ⟨L, o, hf, hn, by rw [cut_lt hL]; exact ho, hd⟩, cut_frames (fun b hm => hb b ?_) hr⟩
    unfold frs at hm ⊢
    rw [List.filterMap_cons, hf]
    exact List.mem_cons_of_mem _ hm
theorem objOk_there {P : Program} {w : World} {H : Hp} {h : Heap} {a : Addr} {o : HO} (x : ObjOk P w H h a o) : ∃ ob, h.get? a = some ob := by
  cases o with
  | lst xs => obtain ⟨_, _, _, _, e⟩ := x; exact ⟨_, e⟩
  | tup xs => obtain ⟨_, _, _, p⟩ := x; obtain ⟨ob, e, _⟩ := p; exact ⟨ob, e⟩
  | dK kvs => obtain ⟨_, _, _, _, o, _, _, e, _⟩ := x; exact ⟨o, e⟩
  | dT kvs => obtain ⟨_, _, _, _, o, _, _, e, _⟩ := x; exact ⟨o, e⟩
  | set S n => obtain ⟨o, _, _, _, e, _⟩ := x; exact ⟨o, e⟩
  | ins C dx fs => obtain ⟨_, _, _, e, _⟩ := x; exact ⟨_, e⟩
  | own y => exact x
  | xd fs => obtain ⟨_, ⟨_, _, _, e, _⟩, _⟩ := x; exact ⟨_, e⟩
  | rng lo hi => obtain ⟨_, _, _, e⟩ := x; exact ⟨_, e⟩
  | frz ob u => obtain ⟨e, _⟩ := x; exact ⟨_, e⟩
  | tbl ps => exact ⟨_, show h.get? a = some _ from x⟩
  | met f y => exact ⟨_, show h.get? a = some _ from x⟩
  | ext φ => obtain ⟨_, e, _⟩ := x; exact e

/-- the generator's context at a waking from s, with the heap H -/
abbrev fX (R : Cx) (s : Shared) (H : Hp) : Cx := { R with s_0 := { s with heap := cutH R.env.locals s.heap }, H_0 := H, pn := [], ex := [], xe := fun _ _ => False }
def isCell (o : Obj) : Bool := match o.data with
  | .cell _ => true
  | _ => false
theorem isCell_no {o : Obj} (h : isCell o = false) : ∀ v, o.data ≠ .cell v := fun v e => by
  unfold isCell at h
  rw [e] at h
  cases h
/-- all that is younger than the frame, untracked, none of Is, no cell -/
def pinsAll (n : Nat) (Is : List Addr) (h : Heap) (H : Hp) : List (Addr × Obj) := (List.range h.objs.size).filterMap fun b => match h.get? b with
  | some o => if n ≤ b ∧ b ∉ Is ∧ (H b).isNone = true ∧ isCell o = false then some (b, o) else none
  | none => none
theorem mem_pinsAll {n : Nat} {Is : List Addr} {h : Heap} {H : Hp} {p : Addr × Obj} : p ∈ pinsAll n Is h H ↔ h.get? p.1 = some p.2 ∧ n ≤ p.1 ∧ p.1 ∉ Is ∧ H p.1 = none ∧ isCell p.2 = false := by
  unfold pinsAll
  rw [List.mem_filterMap]
  constructor
  · rintro ⟨b, _, e⟩
    cases q : h.get? b with
    | none => rw [q] at e; cases e
    | some o =>
      rw [q] at e
      dsimp only at e
      by_cases c : n ≤ b ∧ b ∉ Is ∧ (H b).isNone = true ∧ isCell o = false
      · rw [if_pos c] at e
        cases e
        exact ⟨q, c.1, c.2.1, Option.isNone_iff_eq_none.mp c.2.2.1, c.2.2.2⟩
      · rw [if_neg c] at e; cases e
  · rintro ⟨e, h1, h2, h3, h4⟩
    refine ⟨p.1, List.mem_range.mpr (Heap.lt_size e), ?_⟩
    rw [e]
    dsimp only
    rw [if_pos ⟨h1, h2, by rw [h3]; rfl, h4⟩]
/-- the cells that are younger -/
def cellsAt (n : Nat) (h : Heap) : List Addr := (List.range h.objs.size).filter fun b => match h.get? b with
  | some o => decide (n ≤ b) && isCell o
  | none => false
theorem mem_cellsAt {n : Nat} {h : Heap} {b : Addr} {o : Obj} (e : h.get? b = some o) : b ∈ cellsAt n h ↔ n ≤ b ∧ isCell o = true := by
  unfold cellsAt
  rw [List.mem_filter, e]
  dsimp only
  rw [Bool.and_eq_true, decide_eq_true_iff]
  exact ⟨fun h => h.2, fun h => ⟨List.mem_range.mpr (Heap.lt_size e), h⟩⟩
theorem of_cellsAt {n : Nat} {h : Heap} {b : Addr} (hb : b ∈ cellsAt n h) : n ≤ b ∧ ∃ o, h.get? b = some o ∧ isCell o = true := by
  unfold cellsAt at hb
  rw [List.mem_filter] at hb
  obtain ⟨_, q⟩ := hb
  cases e : h.get? b with
  | none => rw [e] at q; cases q
  | some o =>
    rw [e] at q
    dsimp only at q
    rw [Bool.and_eq_true, decide_eq_true_iff] at q
    exact ⟨q.1, o, rfl, q.2⟩
section
variable {R : Cx} {σ : L2.St} {H H' : Hp} {s z : Shared} {Is : List Addr}
theorem ok_fs_lt (ok : R.Ok) : ∀ b ∈ R.fs, b < R.env.locals := fun b hb => by
  obtain ⟨_, o, e, _⟩ := ok.funs.mem hb
  exact Nat.lt_of_lt_of_le (Heap.lt_size e) ok.above
/-- woken -/
theorem wake_inv (ok : R.Ok) (hc : R.env.cells = []) (hk : ∀ x, R.env.kindOf x ≠ some .cell ∧ R.env.kindOf x ≠ some .free) {A' : Around} (e0 : Env0 R.prog R.w R.K R.mg R.base A' R.outer s H) (hl : R.env.locals ∈ Is) (hI : ∀ b ∈ Is, H b = none)
    (loc : ∃ m, s.heap.Ns R.env.locals m ∧ ∀ (i : Nat) (x : Str) (v : V), R.N[i]? = some x → σ[i]? = some (some v) → Vis R.env.scope x → ∃ u, RelV v u ∧ Look R.env s.heap m x u) (len : σ.length = R.N.length) :
    Inv (fX R s H) (pinsAll R.env.locals Is s.heap H) σ H s := by
  have hsz : R.env.locals < s.heap.objs.size := by obtain ⟨m, hn, _⟩ := loc; exact hn.lt
  have csz : (cutH R.env.locals s.heap).objs.size = R.env.locals := cut_size (Nat.le_of_lt hsz)
  have noA : ∀ b : Addr, b ∉ ([] : List Addr) := fun b h => absurd h (by simp)
  have lk : ∀ x c, R.env.cells.lookup x = some c → False := fun x c h => by rw [hc] at h; cases h
  refine ⟨⟨ok.mod, ok.kind, ok.glob, ok.blt, Nat.le_of_eq csz, ok.inj, fun x h => ?_, fun x c _ h => (lk x c h).elim, ok.hd, ok.frames, ok.stk, fun b h => (noA b h).elim, fun b o e => ?_, ?_, fun b _ _ => noA b, fun b h => (noA b h).elim, cut_frames (ok_fs_lt (R := R) ok) e0.funs, e0.frf⟩,
    rfl, e0.bare, Un.kept fun b o e => (cut_some e).2, loc, fun x c h => (lk x c h).elim, hI _ hl, fun x c h => (lk x c h).elim, fun p hp => ?_, e0.hok, len⟩
  · rcases h with h | h
    · exact absurd h (hk x).1
    · exact absurd h (hk x).2
  · obtain ⟨q1, q2⟩ := e0.bs b o e
    have lt : b < R.env.locals := Nat.lt_of_lt_of_le (Heap.lt_size e) (Nat.le_trans ok.bsz ok.above)
    exact ⟨(cut_lt lt).trans q1, q2⟩
  · show R.base.objs.size ≤ (cutH R.env.locals s.heap).objs.size
    rw [csz]
    exact Nat.le_trans ok.bsz ok.above
  · obtain ⟨h1, h2, h3, h4, h5⟩ := mem_pinsAll.mp (show p ∈ pinsAll R.env.locals Is s.heap H from hp)
    exact ⟨h1, h4, fun q => h3 (by rw [q]; exact hl), fun q => Nat.lt_irrefl _ (Nat.lt_of_lt_of_le (ok_fs_lt ok _ q) h2), isCell_no h5⟩
/-- what a consumer may know behind it -/
theorem wake_un (ok : R.Ok) (I : Inv (fX R s H) (pinsAll R.env.locals Is s.heap H) σ H' z) (hs : ∀ b, H b ≠ none → H' b ≠ none) : Un R.fs (Is ++ cellsAt R.env.locals s.heap) H H' s.heap z.heap := by
  have pin : ∀ b o, s.heap.get? b = some o → R.env.locals ≤ b → H b = none → b ∉ Is ++ cellsAt R.env.locals s.heap → z.heap.get? b = some o ∧ H' b = none := fun b o e hb hn hx => by
    have hx1 : b ∉ Is := fun q => hx (List.mem_append_left _ q)
    have hx2 : isCell o = false := by
      cases q : isCell o with
      | false => rfl
      | true => exact absurd (List.mem_append_right _ ((mem_cellsAt e).mpr ⟨hb, q⟩)) hx
    have q := I.pin (b, o) (mem_pinsAll.mpr ⟨e, hb, hx1, hn, hx2⟩)
    exact ⟨q.1, q.2.1⟩
  have old : ∀ b o, s.heap.get? b = some o → b < R.env.locals → (cutH R.env.locals s.heap).get? b = some o := fun b o e c => (cut_lt c).trans e
  refine ⟨fun b o e hn hf hx => ?_, fun b o e hn hf hx => ?_, fun b o e hn hx => ?_, fun b o e hx => ?_, I.base.tups, I.base.frzs, I.base.tbls⟩
  · by_cases c : b < R.env.locals
    · exact I.base.keep b o (old b o e c) hn hf (by simp)
    · exact (pin b o e (Nat.le_of_not_lt c) hn hx).1
  · by_cases c : b < R.env.locals
    · exact I.base.slot b o (old b o e c) hn hf (by simp)
    · exact ⟨o.slots, (pin b o e (Nat.le_of_not_lt c) hn hx).1⟩
  · by_cases c : b < R.env.locals
    · exact I.base.free b o (old b o e c) hn (by simp)
    · exact (pin b o e (Nat.le_of_not_lt c) hn hx).2
  · by_cases c : b < R.env.locals
    · exact I.base.there b o (old b o e c) (by simp)
    · cases hn : H b with
      | none => exact ⟨o, (pin b o e (Nat.le_of_not_lt c) hn hx).1⟩
      | some u =>
        cases q : H' b with
        | none => exact absurd q (hs b (by rw [hn]; exact fun z => by cases z))
        | some u' => exact objOk_there (I.hok b u' q)
end
end GenP

/-! Segments of a for loop and of a yield. -/
namespace GenP
open PySem PySem.Spec PyProof.Rows L2 GenW
open Sem (wp)
section
variable {M : Model} {A : Around} {P : End → Shared → Prop} {c : Code} {fs : List Frame} {s : Shared} {env : Env} {K : Flow → Sem PySem.Fin} {J : Value → Sem PySem.Fin} {gd : Bool → Bool} {lv : List Value → List Value}
/-- yield e: asleep, and what follows at the next waking -/
theorem segp_yieldS {e : Expr} {yp pos : Pos} (hfs : splitAtGen fs = none) (hgd : gd false = false) (hfg : fs.any Frame.guarded = false)
    (h : wpAny M (A.over c fs) (eval e env) (fun v z => ∀ en : End, en.result = .yielded v → en.quiet = true → Slp en.genState → (∀ (z2 : Shared) (P' : End → Shared → Prop), SegP M A P' c (K .next) fs z2 → GoP M A P' en.genState z2) → P en z) (fun x z => SegP M A P c (J x) fs z) s)
    (hco : env.scope.isCoroutine = false) (hi : interactive env = false) : SegP M A P c ((exec (.Expr (.Yield (some e) yp) pos) env).wrap K J gd lv) fs s := by
  rw [exec_Expr env _ pos hi rfl]
  show SegP M A P c (.at pos fun _ => ((eval e env >>= fun v => (standAt yp >>= fun _ => yieldOut env v)) >>= fun x => dropValue (.Yield (some e) yp) pos x).wrap K J gd lv) fs s
  have hy : ∀ v, yieldOut env v = yieldValue v := fun v => by simp only [yieldOut, hco, Bool.false_eq_true, if_false]
  simp only [hy]
  refine segp_at ?_
  rw [Sem.bind_eq_wrap', Sem.bind_eq_wrap', Sem.wrap_wrap, Sem.wrap_wrap]
  refine segp_wrap (wpAny_mono h (fun v z q => ?_) fun _ _ q => q)
  refine segp_at (segp_yield hfs fun p => ?_)
  refine q _ rfl ?_ ⟨trivial, hfs, ?_⟩ fun z2 P' q2 => ?_
  · show (!(gd false || fs.any Frame.guarded)) = true
    rw [hgd, hfg]; rfl
  · show (!(gd false || fs.any Frame.guarded)) = true
    rw [hgd, hfg]; rfl
  · exact q2
end
section
variable {prog : Program} {w : World} {A : Around} {P : End → Shared → Prop} {fs : List Frame} {s : Shared} {env : Env} {target : Expr} {it : Value} {body : List Stmt}
def bodyK (target : Expr) (it : Value) (body : List Stmt) (env : Env) : Flow → Sem PySem.Fin := fun f => match f with
  | .next | .cont => .pure (.again (.forLoop target it body [] env))
  | .brk => .pure (.done .next)
  | .ret v => .pure (.done (.ret v))
/-- a turn of a for loop -/
theorem segp_forLoop (h : wpAny (model prog w) (A.over (.forLoop target it body [] env) fs) (pyNext it) (fun r s₁ => match r with
      | none => SegP (model prog w) A P (.forLoop target it body [] env) (.pure (.again (.block [] env))) fs s₁
      | some v => wpAny (model prog w) (A.over (.forLoop target it body [] env) fs) (letOwnedTupleGo target it v) (fun _ s₂ => wpAny (model prog w) (A.over (.forLoop target it body [] env) fs) (assign target env v) (fun _ s₃ =>
          ∀ Jn : Value → Sem PySem.Fin, SegP (model prog w) A P (.forLoop target it body [] env) ((execs body env).wrap (bodyK target it body env) Jn id id) fs s₃) (fun _ _ => False) s₂) (fun _ _ => False) s₁) (fun _ _ => False) s) :
    SegP (model prog w) A P (.forLoop target it body [] env) ((model prog w).den (.forLoop target it body [] env)) fs s := by
  show SegP _ A P _ ((forTurn target it body [] env).onRaise (fun x => do noteFrame x env; theTreesLotGoes x)) fs s
  unfold forTurn
  rw [Sem.onRaise_eq_wrap]
  refine segp_bindw (wpAny_standAt ?_)
  refine segp_bindw (wpAny_onRaise (wpAny_mono h (fun r s₁ h₁ => ?_) fun _ _ q => q.elim))
  cases r with
  | none => exact h₁
  | some v =>
    refine segp_bindw (wpAny_mono h₁ (fun _ s₂ h₂ => ?_) fun _ _ q => q.elim)
    refine segp_bindw (wpAny_mono h₂ (fun _ s₃ h₃ => ?_) fun _ _ q => q.elim)
    rw [Sem.bind_eq_wrap', Sem.wrap_wrap]
    rw [Sem.wrap_congr (execs body env) _ _ (K' := bodyK target it body env) (H' := fun e => (Sem.raise e : Sem PySem.Fin).wrap Sem.pure (fun e => ((do noteFrame e env; theTreesLotGoes e : Sem Unit).bind fun _ => .raise e)) id id) (fun f => by cases f <;> rfl) (fun e => rfl)]
    exact h₃ _
/-- the loop's end -/
theorem segp_block0 (h : SegP (model prog w) A P (.block [] env) (.pure (.done .next)) fs s) : SegP (model prog w) A P (.forLoop target it body [] env) (.pure (.again (.block [] env))) fs s :=
  segp_again rfl h
end
end GenP

/-! A generator whose body is a for loop that yields once a turn. -/
namespace GenP
open PySem PySem.Spec PyProof.Rows L2 GenW
open Sem (wp)
/-- from one waking to its end, as a consumer may know it -/
structure Step3 (P : Program) (w : World) (outer : List Env) (La : Nat) (Is : List Addr) (s : Shared) (H H' : Hp) (z : Shared) : Prop where
  os : z.os = s.os
  bare : AllBare z.gens
  hok : HOk P w H' z.heap
  un : Un (frs outer) (Is ++ cellsAt La s.heap) H H' s.heap z.heap
def Sleep3 (P : Program) (w : World) (K : PySem.W.Frag) (mg : Str → Option Value) (base : Heap) (A : Around) (outer : List Env) (La : Nat) (Is : List Addr) (T : Nat → Heap → Prop) (Gd : Nat → Hp → Prop) (Yd : Nat → Hp → V → Hp → Prop) : Nat → Nat → GenState → Prop
  | 0, j => fun gs => Slp gs ∧ ∀ (s : Shared) (H : Hp) (A' : Around), Env0 P w K mg base A' outer s H → T j s.heap → Gd j H → (∀ b ∈ Is, H b = none) → GoP (model P w) A (fun e z => Ended e ∧ Step3 P w outer La Is s H H z) gs s
  | r + 1, j => fun gs => Slp gs ∧ ∀ (s : Shared) (H : Hp) (A' : Around), Env0 P w K mg base A' outer s H → T j s.heap → Gd j H → (∀ b ∈ Is, H b = none) →
      GoP (model P w) A (fun e z => e.quiet = true ∧ ∃ v x H', e.result = .yielded v ∧ RelV x v ∧ Yd j H x H' ∧ Step3 P w outer La Is s H H' z ∧ T (j + 1) z.heap ∧ (∀ b ∈ Is, H' b = none) ∧ Sleep3 P w K mg base A outer La Is T Gd Yd r (j + 1) e.genState) gs s
def Next3 (P : Program) (w : World) (K : PySem.W.Frag) (mg : Str → Option Value) (base : Heap) (A : Around) (outer : List Env) (La : Nat) (Is : List Addr) (T : Nat → Heap → Prop) (Gd : Nat → Hp → Prop) (Yd : Nat → Hp → V → Hp → Prop) (r j : Nat) (s : Shared) (H : Hp) : End → Shared → Prop :=
  match r with
  | 0 => fun e z => Ended e ∧ Step3 P w outer La Is s H H z
  | r + 1 => fun e z => e.quiet = true ∧ ∃ v x H', e.result = .yielded v ∧ RelV x v ∧ Yd j H x H' ∧ Step3 P w outer La Is s H H' z ∧ T (j + 1) z.heap ∧ (∀ b ∈ Is, H' b = none) ∧ Sleep3 P w K mg base A outer La Is T Gd Yd r (j + 1) e.genState
theorem sleep3_iff {P : Program} {w : World} {K : PySem.W.Frag} {mg : Str → Option Value} {base : Heap} {A : Around} {outer : List Env} {La : Nat} {Is : List Addr} {T : Nat → Heap → Prop} {Gd : Nat → Hp → Prop} {Yd : Nat → Hp → V → Hp → Prop} {r j : Nat} {gs : GenState} :
    Sleep3 P w K mg base A outer La Is T Gd Yd r j gs ↔ Slp gs ∧ ∀ (s : Shared) (H : Hp) (A' : Around), Env0 P w K mg base A' outer s H → T j s.heap → Gd j H → (∀ b ∈ Is, H b = none) → GoP (model P w) A (Next3 P w K mg base A outer La Is T Gd Yd r j s H) gs s := by
  cases r <;> exact Iff.rfl
section
variable {R : Cx}
/-- the frame stands: its namespace, the walk's objects -/
def FrT (R : Cx) (tn : Nat → Heap → Prop) : Nat → Heap → Prop := fun j h => tn j h ∧ ∃ m, h.Ns R.env.locals m
theorem sp_forW {A : Around} {fs : List Frame} {tgt e : Expr} {yp pos : Pos} {it : Addr} {fp : List Addr} {tn : Nat → Heap → Prop} {J : It} {g : TG} {te : TE} {n : Nat} {Gd : Nat → Hp → Prop} {Yd : Nat → Hp → V → Hp → Prop}
    (ok : R.Ok) (hcm : R.calm = true) (hc : R.env.cells = []) (hk : ∀ x, R.env.kindOf x ≠ some .cell ∧ R.env.kindOf x ≠ some .free) (hco : R.env.scope.isCoroutine = false) (hi : interactive R.env = false)
    (hov : A.over (.forLoop tgt (.ref it) [.Expr (.Yield (some e) yp) pos] [] R.env) fs = R.A) (hsp : splitAtGen fs = none) (hgd : fs.any Frame.guarded = false)
    (Tu : Turn R.prog R.w R.K tgt J fp it tn) (hfp : ∀ b ∈ fp, R.env.locals < b) (hg : ∀ (s : Shared) (H : Hp), PG (fX R s H) tgt g) (he : ∀ (s : Shared) (H : Hp), PE (fX R s H) e te)
    (hstep : ∀ j H, j < n → Gd j H → J.go j H ∧ ∀ x1 H1, J.yld j H x1 H1 → g x1 (List.replicate R.N.length none) H1 fun σ2 H2 => te σ2 H2 fun x H' => Yd j H x H' ∧ ∀ b, H b ≠ none → H' b ≠ none) (hstop : ∀ H, Gd n H → J.stop n H)
    (fin : ∀ (Q : End → Shared → Prop) (z : Shared), Q (.ret (.ok (.ret .none))) z → SegP (model R.prog R.w) A Q (.block [] R.env) (.pure (.done .next)) fs z) :
    ∀ (r j : Nat) (s : Shared) (H : Hp) (A' : Around) (Q : End → Shared → Prop), j + r = n → Env0 R.prog R.w R.K R.mg R.base A' R.outer s H → FrT R tn j s.heap → Gd j H → (∀ b ∈ R.env.locals :: fp, H b = none) →
      (∀ e z, Next3 R.prog R.w R.K R.mg R.base A R.outer R.env.locals (R.env.locals :: fp) (FrT R tn) Gd Yd r j s H e z → Q e z) →
      SegP (model R.prog R.w) A Q (.forLoop tgt (.ref it) [.Expr (.Yield (some e) yp) pos] [] R.env) ((model R.prog R.w).den (.forLoop tgt (.ref it) [.Expr (.Yield (some e) yp) pos] [] R.env)) fs s := by
  have wk : ∀ (j : Nat) (s : Shared) (H : Hp) (A' : Around), Env0 R.prog R.w R.K R.mg R.base A' R.outer s H → FrT R tn j s.heap → (∀ b ∈ R.env.locals :: fp, H b = none) →
      Inv (fX R s H) (pinsAll R.env.locals (R.env.locals :: fp) s.heap H) (List.replicate R.N.length none) H s ∧ ∀ b ∈ fp, ∀ H2 : Hp, H2 b = none → FpOk (fX R s H) (pinsAll R.env.locals (R.env.locals :: fp) s.heap H) H2 b := fun j s H A' e0 t nI => by
    obtain ⟨tj, m, hm⟩ := t
    refine ⟨wake_inv ok hc hk e0 List.mem_cons_self nI ⟨m, hm, fun i x v _ h _ => ?_⟩ (List.length_replicate), fun b hb H2 h2 => ⟨h2, Nat.ne_of_gt (hfp b hb), fun q => Nat.lt_irrefl _ (Nat.lt_trans (ok_fs_lt ok b q) (hfp b hb)), .inr ?_, fun x c h => ?_, fun p hp q => ?_⟩⟩
    · rw [List.getElem?_replicate] at h
      split at h <;> cases h
    · show (cutH R.env.locals s.heap).objs.size ≤ b
      rw [cut_size (Nat.le_of_lt hm.lt)]
      exact Nat.le_of_lt (hfp b hb)
    · rw [show (fX R s H).env.cells = R.env.cells from rfl, hc] at h; cases h
    · obtain ⟨_, _, h3, _⟩ := mem_pinsAll.mp (show p ∈ pinsAll R.env.locals (R.env.locals :: fp) s.heap H from hp)
      exact h3 (by rw [q]; exact List.mem_cons_of_mem _ hb)
  intro r
  induction r with
  | zero =>
    intro j s H A' Q hj e0 t gd nI hQ
    obtain rfl : j = n := by omega
    obtain ⟨I, fpo⟩ := wk j s H A' e0 t nI
    refine segp_forLoop ?_
    rw [hov]
    refine wpAny_mono (Tu.done (fX R s H) rfl rfl rfl hcm j _ s _ H (fun _ _ => False) I (fun b hb => fpo b hb H (nI b (List.mem_cons_of_mem _ hb))) t.1 (hstop H gd)) (fun o z q => ?_) fun _ _ q => q
    obtain ⟨rfl, I2⟩ := q
    exact segp_block0 (fin Q z (hQ _ _ ⟨.inl rfl, I2.os, I2.bare, I2.hok, wake_un ok I2 fun _ h => h⟩))
  | succ r ih =>
    intro j s H A' Q hj e0 t gd nI hQ
    obtain ⟨I, fpo⟩ := wk j s H A' e0 t nI
    obtain ⟨go, stp⟩ := hstep j H (by omega) gd
    refine segp_forLoop ?_
    rw [hov]
    refine wpAny_mono (Tu.item (fX R s H) rfl rfl rfl hcm j _ s _ H (fun _ _ => False) I (fun b hb => fpo b hb H (nI b (List.mem_cons_of_mem _ hb))) t.1 go) (fun o z q => ?_) fun _ _ q => q
    obtain ⟨u, rfl, q⟩ := q
    refine wpAny_mono q (fun _ z2 q2 => ?_) fun _ _ q => q
    obtain ⟨x1, H1, I1, r1, y1, t1, n1⟩ := q2
    have I1' := I1.pinned (fun b hb => fpo b hb H1 (n1 b hb)) (Tu.obj _ _ t1)
    refine wpAny_mono ((hg s H).run _ z2 _ H1 x1 u _ I1' r1 (stp x1 H1 y1)) (fun _ z3 q3 => ?_) fun _ _ q => q
    obtain ⟨σ2, H2, I2, q3⟩ := q3
    intro Jn
    rw [execs_cons_wrap]
    refine segp_yieldS hsp rfl hgd ?_ hco hi
    rw [hov]
    refine wpAny_mono ((he s H).run _ z3 σ2 H2 _ I2 q3) (fun v z4 q4 => ?_) fun _ _ q => q.elim
    obtain ⟨x, H4, I4, r4, yd, hs4⟩ := q4
    intro en h1 h2 h3 h4
    have nfp : ∀ b ∈ fp, H4 b = none := fun b hb => by
      obtain ⟨o, eo, _⟩ := Tu.obj _ _ t1 b hb
      exact (I4.pin (b, o) (List.mem_append_right _ (List.mem_append_right _ (mem_pinsAt hb eo)))).2.1
    have t4 : FrT R tn (j + 1) z4.heap := ⟨Tu.keep _ _ _ t1 fun b hb o eo => (I4.pin (b, o) (List.mem_append_right _ (List.mem_append_right _ (mem_pinsAt hb eo)))).1, let ⟨m, hm, _⟩ := I4.loc; ⟨m, hm⟩⟩
    have I4' := I4.unpinned
    refine hQ en z4 ⟨h2, v, x, H4, h1, r4, yd, ⟨I4'.os, I4'.bare, I4'.hok, wake_un ok I4' hs4⟩, t4, fun b hb => ?_, sleep3_iff.mpr ⟨h3, fun s5 H5 A5 e5 t5 g5 n5 => h4 s5 _ ?_⟩⟩
    · rcases List.mem_cons.mp hb with q | q
      · rw [q]; exact I4'.free
      · exact nfp b q
    · exact segp_again rfl (ih (j + 1) s5 H5 A5 _ (by omega) e5 t5 g5 n5 fun _ _ q => q)
end
end GenP

/-! What a call of such a generator gives; the def's promise. -/
namespace GenP
open PySem PySem.Spec PyProof.Rows L2 GenW My
open Sem (wp)
structure Src3 (Is : List Addr) (T : Nat → Heap → Prop) : Prop where
  keep : ∀ (j : Nat) (h h' : Heap), T j h → (∀ b ∈ Is, ∀ o, h.get? b = some o → h'.get? b = some o) → T j h'
  obj : ∀ (j : Nat) (h : Heap), T j h → ∀ b ∈ Is, ∃ o, h.get? b = some o ∧ ∀ v, o.data ≠ .cell v
theorem src_for {R : Cx} {P : Program} {w : World} {K : PySem.W.Frag} {tg : Expr} {J : It} {fp : List Addr} {it : Addr} {tn : Nat → Heap → Prop} (Tu : Turn P w K tg J fp it tn) : Src3 (R.env.locals :: fp) (FrT R tn) := by
  refine ⟨fun j h h' t hk => ⟨Tu.keep j h h' t.1 fun b hb => hk b (List.mem_cons_of_mem _ hb), ?_⟩, fun j h t b hb => ?_⟩
  · obtain ⟨m, o, es, ep, ho, r⟩ := t.2
    exact ⟨m, o, es, ep, hk _ List.mem_cons_self o ho, r⟩
  · rcases List.mem_cons.mp hb with q | q
    · obtain ⟨m, o, es, ep, ho, hd, _⟩ := t.2
      rw [q]
      exact ⟨o, ho, fun v z => by rw [hd] at z; cases z⟩
    · exact Tu.obj j h t.1 b q
abbrev TQ3 := Hp → Nat → (Nat → Hp → Prop) → (Nat → Hp → V → Hp → Prop) → Hp → Prop
def Begun3 (P : Program) (w : World) (K : PySem.W.Frag) (mg : Str → Option Value) (base : Heap) (outer : List Env) (lo La : Nat) (Hc : Hp) (s : Shared) (H : Hp) (a : Addr) (go : Obj) (A : Around) (Q : TQ3) : End → Shared → Prop := fun e z =>
  ∃ (Is : List Addr) (T : Nat → Heap → Prop) (n : Nat) (Gd : Nat → Hp → Prop) (Yd : Nat → Hp → V → Hp → Prop) (H' : Hp) (sM : Shared), Step3 P w outer La [La] s H H' sM ∧ Same H H' ∧
    (∀ b ∈ Is, H' b = none ∧ lo ≤ b ∧ b ≠ a ∧ (b = La ∨ ∀ o, s.heap.get? b = some o → isCell o = false → H b ≠ none)) ∧ H' a = none ∧ sM.heap.get? a = some go ∧ (∃ o, s.heap.get? La = some o ∧ isCell o = false) ∧ T 0 sM.heap ∧ Src3 Is T ∧ Gd 0 H' ∧ n ≤ sizeLine ∧ Q Hc n Gd Yd H' ∧
    Next3 P w K mg base A outer La Is T Gd Yd n 0 sM H' e z
def GMk3 (P : Program) (w : World) (K : PySem.W.Frag) (mg : Str → Option Value) (base : Heap) (k : Nat) (outer : List Env) (H : Hp) (s : Shared) (Q : TQ3) (u : Value) (s' : Shared) : Prop :=
  ∃ (a : Addr) (g : Nat) (c : Code) (go : Obj) (La : Nat), u = .ref a ∧ s.heap.objs.size ≤ a ∧ s'.heap.get? a = some go ∧ (∀ h : Heap, h.get? a = some go → h.IsGen a g) ∧ (∀ v, go.data ≠ .cell v) ∧ s'.gens[g]? = some (.fresh c) ∧ s'.os = s.os ∧ AllBare s'.gens ∧ (∀ b o, s.heap.get? b = some o → s'.heap.get? b = some o) ∧ Dead s.heap s'.heap ∧ s.heap.objs.size ≤ La ∧ La < s'.heap.objs.size ∧
    ∀ (A A' : Around) (s2 : Shared) (H2 : Hp), Room k A → A.frames = some outer → Env0 P w K mg base A' outer s2 H2 → (∀ b o, s'.heap.get? b = some o → s2.heap.get? b = some o) → Same H H2 → (∀ b, s.heap.objs.size ≤ b → b < s'.heap.objs.size → H2 b = none) → s2.os = s.os →
      SegP (model P w) A (Begun3 P w K mg base outer s.heap.objs.size La H s2 H2 a go A Q) c ((model P w).den c) [] s2
abbrev TGq3 := L2.St → Hp → TQ3 → Prop
structure PGq3 (X : Cx) (k : Nat) (e : Expr) (tg : TGq3) : Prop where
  run : ∀ (pins : List (Addr × Obj)) (s : Shared) (σ : L2.St) (H : Hp) (Q : TQ3), Inv X pins σ H s → tg σ H Q → wpAny (model X.prog X.w) X.A (eval e X.env) (fun u s' => ∃ H1 sc, Inv X pins σ H1 sc ∧ GMk3 X.prog X.w X.K X.mg X.base k X.stack H1 sc Q u s') X.xe s
abbrev SpQ3 := List V → Hp → TQ3 → Prop
structure GFnQ3 (P : Program) (w : World) (K : PySem.W.Frag) (mg : Str → Option Value) (base : Heap) (k : Nat) (f : Addr) (fd : FuncData) (ps : List Str) (sp : SpQ3) : Prop where
  len : ∀ vs H Q, sp vs H Q → vs.length = ps.length
  run : ∀ (A : Around) (outer : List Env) (s : Shared) (H : Hp) (args : Args) (us : List Value) (vs : List V) (Q : TQ3), Room k A → Env0 P w K mg base A outer s H → BindsTo s fd args (ps.zip us) → Vals vs us → sp vs H Q →
    codeAny (model P w) A (.call (.ref f) args) (fun r s' => match r with | .ok (.ret u) => GMk3 P w K mg base k outer H s Q u s' | _ => False) s
theorem cells_none {qual : Str} {scope : Scope} {a f : Addr} {cd : Value} (h : ∀ y ∈ scope.names, y.2 ≠ .cell ∧ y.2 ≠ .free) : (envOfC qual scope a f cd).cells = [] := by
  have go : ∀ (l : List (Str × NameKind)) (n : Nat), (∀ y ∈ l, y.2 ≠ .cell ∧ y.2 ≠ .free) → cellsFrom n l [] = [] := fun l => by
    induction l with
    | nil => intro n _; rfl
    | cons y l ih =>
      intro n hl
      obtain ⟨x, kd⟩ := y
      have e := hl (x, kd) List.mem_cons_self
      cases kd with
      | cell => exact absurd rfl e.1
      | _ => exact ih n fun z hz => hl z (List.mem_cons_of_mem _ hz)
  exact go scope.names _ h
/-- the body is «for .. in iter: yield e» -/
theorem gfnq_for {P : Program} {w : World} {K : PySem.W.Frag} {mg : Str → Option Value} {base : Heap} {k : Nat} {f : Addr} {name qual : Str} {params : Arguments} {tgt iter e : Expr} {yp pos fpos : Pos} {scope : Scope} {dV kV doc pm cdv ct oc : Value} {an od : Option Addr} {osl : Array (Option Value)} {N ps : List Str} {sp : SpQ3} {body : List Stmt}
    (hbd : body = [.For tgt iter [.Expr (.Yield (some e) yp) pos] [] fpos])
    (lk : K.lookup f = some ⟨oc, od, .func (PySem.W.fnOf name qual params body scope dV kV doc pm an cdv ct), osl⟩) (hcd : PySem.W.codeIn K cdv qual = true) (S : GScope N ps scope) (hi : ∀ a : Addr, interactive (envOfC qual scope a f cdv) = false) (hloc : ∀ y ∈ scope.names, y.2 ≠ .cell ∧ y.2 ≠ .free) (hfold : ∀ (a : Addr) x, foldedSetIterable iter (envOfC qual scope a f cdv) x = pure x) (len : ∀ vs H Q, sp vs H Q → vs.length = ps.length)
    (hbody : ∀ (A : Around) (outer : List Env) (s : Shared) (H H2 : Hp) (vs : List V) (Q : TQ3), Room k (A.deeper (envOfC qual scope s.heap.objs.size f cdv)) → sp vs H Q → Same H H2 →
      ∃ wi g te, (∀ (z : Shared) (H3 : Hp), PI (fX (gcxOf P w K mg base N qual scope f cdv A outer s H noX []) z H3) tgt iter wi) ∧ (∀ (z : Shared) (H3 : Hp), PG (fX (gcxOf P w K mg base N qual scope f cdv A outer s H noX []) z H3) tgt g) ∧ (∀ (z : Shared) (H3 : Hp), PE (fX (gcxOf P w K mg base N qual scope f cdv A outer s H noX []) z H3) e te) ∧
        wi (start N vs) H2 fun J H1 => Same H2 H1 ∧ ∃ n Gd Yd, n ≤ sizeLine ∧ (∀ j H2, j < n → Gd j H2 → J.go j H2 ∧ ∀ x1 H3, J.yld j H2 x1 H3 → g x1 (List.replicate N.length none) H3 fun σ2 H4 => te σ2 H4 fun x H5 => Yd j H2 x H5 ∧ ∀ b, H2 b ≠ none → H5 b ≠ none) ∧ (∀ H2, Gd n H2 → J.stop n H2) ∧ Gd 0 H1 ∧ Q H n Gd Yd H1) :
    GFnQ3 P w K mg base (k + 1) f (PySem.W.fnOf name qual params body scope dV kV doc pm an cdv ct) ps sp := by
  subst hbd
  refine ⟨len, fun A outer s H args us vs Q hr e0 hb r hsp => ?_⟩
  have hl := len _ _ _ hsp
  have KX : K.In s.heap := e0.mod.kin.keeps fun b o q => (e0.bs b o q).1
  have lim : s.heap.NoLimit := e0.mod.nolimit.keeps fun b o q => (e0.bs b o q).1
  have hkind : ∀ y ∈ ps.zip us, scope.names.lookup y.1 = some .local ∨ (scope.names.lookup y.1 = some .cell ∧ ((cellsFrom (s.heap.objs.size + 1) scope.names []).lookup y.1).isSome = true) := fun ⟨n, v⟩ hy =>
    (S.par n (List.of_mem_zip hy).1).elim .inl fun q => .inr ⟨q, PySem.W.cellsFrom_some _ _ _ (.inl q)⟩
  refine codeAny_dead (R := fun r s' => match r with | .ok (.ret u) => GMk3 P w K mg base (k + 1) outer H s Q u s' | _ => False) ?_
  refine codeAny_mono (R := fun r s' => match r with | .ok (.ret u) => Dead s.heap s'.heap → GMk3 P w K mg base (k + 1) outer H s Q u s' | _ => False) ?_ (fun r s' q d => by cases r with | error e => exact q | ok f => cases f <;> first | exact q d | exact q)
  refine codeAny_call_generator hr.depth (KX _ _ lk) rfl S.co S.gen rfl (PySem.W.codeRec_of KX hcd) (hb _ _ _ _ ?_)
  refine wpAny_newFunctionEnv_cells S.kind hkind fun env he s1 x => ?_
  subst he
  have lim1 : s1.heap.NoLimit := lim.keeps x.toInCall.keep
  refine ⟨lim1, ?_⟩
  obtain ⟨h1, tk, es1, hk1⟩ := x.done
  have os1 : s1.os = s.os := by rw [es1]
  have gen1 : s1.gens = s.gens := by rw [es1]
  have lt1 : s.heap.objs.size < s1.heap.objs.size := x.toInCall.ns.lt
  have kp1 : ∀ b o, s.heap.get? b = some o → s1.heap.get? b = some o := x.toInCall.keep
  have main : ∀ (go : Obj) (nm qn : Value) (tk2 : Nat), go.cls = .type "generator" → go.data = .fields #[.int s1.gens.size 0, nm, qn] → go.slots = #[] → (∀ h : Heap, (h.push go).get? h.objs.size = some go) →
      Dead s.heap (s1.heap.push go) → GMk3 P w K mg base (k + 1) outer H s Q (.ref s1.heap.objs.size) { s1 with gens := s1.gens.push (.fresh (.func [.For tgt iter [.Expr (.Yield (some e) yp) pos] [] fpos] (envOfC qual scope s.heap.objs.size f cdv))), toks := tk2, heap := s1.heap.push go } := by
    intro go nm qn tk2 hgc hgd0 hgs hgp hdead
    have hgd : ∀ v, go.data ≠ .cell v := fun v q => by rw [hgd0] at q; cases q
    refine ⟨s1.heap.objs.size, s1.gens.size, _, go, s.heap.objs.size, rfl, Nat.le_of_lt lt1, hgp _, fun h q => ⟨go, nm, qn, q, hgc, hgd0, hgs⟩, hgd, Array.getElem?_push_size .., os1, ?_, fun b o q => Heap.get?_push_of_some _ (kp1 b o q), hdead, Nat.le_refl _, Nat.lt_of_lt_of_le lt1 (by show _ ≤ (s1.heap.push go).objs.size; rw [Heap.size_push]; exact Nat.le_succ _), ?_⟩
    · exact AllBare.push (by rw [gen1]; exact e0.bare) rfl
    intro Aw A' s2 H2 hrw hfr e2 hk2 hsm hnn hos
    have e0w : Env0 P w K mg base Aw outer s H := ⟨hfr, e0.mod, e0.bs, e0.bsz, e0.funs, e0.frf, e0.hok, e0.bare⟩
    obtain ⟨wi, g, te, hPI, hPG, hPE, hq⟩ := hbody Aw outer s H H2 vs Q (hrw.deeper _) hsp hsm
    have I1 : Inv (gcxOf P w K mg base N qual scope f cdv Aw outer s H noX []) [] (start N vs) H s1 := inv_startG S hrw.hd e0w hl r x
    have kp2 : ∀ b o, s1.heap.get? b = some o → s2.heap.get? b = some o := fun b o q => hk2 b o (Heap.get?_push_of_some _ q)
    have I2 : Inv (gcxOf P w K mg base N qual scope f cdv Aw outer s H noX []) [] (start N vs) H s2 := I1.call' (ch := []) (hos.trans os1.symm) (Un.kept kp2) (I1.hok.kept kp2) e2.bare fun b z => absurd z (by simp)
    have pz : (s1.heap.push go).objs.size = s1.heap.objs.size + 1 := Heap.size_push ..
    have nL : H2 s.heap.objs.size = none := hnn _ (Nat.le_refl _) (by show _ < (s1.heap.push go).objs.size; rw [pz]; exact Nat.lt_succ_of_lt lt1)
    have na : H2 s1.heap.objs.size = none := hnn _ (Nat.le_of_lt lt1) (by show _ < (s1.heap.push go).objs.size; rw [pz]; exact Nat.lt_succ_self _)
    have hga : s2.heap.get? s1.heap.objs.size = some go := hk2 _ _ (hgp _)
    have kk : ∀ x, (envOfC qual scope s.heap.objs.size f cdv).kindOf x ≠ some .cell ∧ (envOfC qual scope s.heap.objs.size f cdv).kindOf x ≠ some .free := fun x => by
      exact ⟨fun q => (hloc _ (PySem.mem_of_lookup q)).1 rfl, fun q => (hloc _ (PySem.mem_of_lookup q)).2 rfl⟩
    have I3 : Inv (fX (gcxOf P w K mg base N qual scope f cdv Aw outer s H noX []) s2 H2) (pinsAll s.heap.objs.size [s.heap.objs.size] s2.heap H2) (start N vs) H2 s2 :=
      wake_inv (R := gcxOf P w K mg base N qual scope f cdv Aw outer s H noX []) I2.ok (cells_none hloc) kk e2 List.mem_cons_self (fun b hb => by rw [List.mem_singleton.mp hb]; exact nL) I2.loc I2.len
    have hLo : ∃ o, s2.heap.get? s.heap.objs.size = some o ∧ isCell o = false := by
      obtain ⟨m, ⟨o, es, ep, ho, hd, _⟩, _⟩ := I2.loc
      exact ⟨o, ho, by unfold isCell; rw [hd]⟩
    have cgo : isCell go = false := by unfold isCell; rw [hgd0]
    have apin : (s1.heap.objs.size, go) ∈ pinsAll s.heap.objs.size [s.heap.objs.size] s2.heap H2 := mem_pinsAll.mpr ⟨hga, Nat.le_of_lt lt1, fun q => Nat.lt_irrefl _ (by have e := List.mem_singleton.mp q; have e : s1.heap.objs.size = s.heap.objs.size := e; rw [e] at lt1; exact lt1), na, cgo⟩
    refine segp_func ?_
    rw [execs_cons_wrap, exec_For]
    refine segp_bindw (wpAny_standAt ?_)
    refine segp_bindw ?_
    rw [over_func]
    refine wpAny_mono ((hPI s2 H2).run _ s2 (start N vs) H2 _ I3 hq) (fun v s3 hv => ?_) fun x z hx => hx.elim
    refine segp_bindw (wpAny_of_eq (hfold _ v) ?_)
    refine segp_bindw (wpAny_standAt ?_)
    refine segp_bindw (wpAny_holding ?_)
    rw [over_func]
    refine wpAny_mono hv (fun itv s4 h4 => ?_) fun x z hx => hx.elim
    obtain ⟨it, fp, tn, J, H1, rfl, I4, Tu, t0, ffp, hs4, n, Gd, Yd, hn, hstep, hstop, gd0, hQ⟩ := h4
    refine segp_call fun p => ?_
    have hL2 : s.heap.objs.size < s2.heap.objs.size := by obtain ⟨o, ho, _⟩ := hLo; exact Heap.lt_size ho
    have hfp : ∀ b ∈ fp, s.heap.objs.size < b := fun b hb => by
      have q := ffp b hb
      rcases q.2.2.2.1 with z | z
      · exact absurd (show b ∈ ([] : List Addr) from z) (by simp)
      · have z : (cutH s.heap.objs.size s2.heap).objs.size ≤ b := z
        rw [cut_size (Nat.le_of_lt hL2)] at z
        exact Nat.lt_of_le_of_ne z fun e => q.2.1 e.symm
    have e04 : Env0 P w K mg base Aw outer s4 H1 := ⟨hfr, e0.mod, I4.bs, Nat.le_trans I4.ok.bsz I4.sz, I4.stack.2.2, fun b hb => I4.stkFree b (by
      show b ∈ frs (envOfC qual scope s.heap.objs.size f cdv :: outer)
      unfold frs at hb ⊢
      rw [List.filterMap_cons]
      exact List.mem_cons_of_mem _ hb), I4.hok, I4.bare⟩
    refine sp_forW (R := gcxOf P w K mg base N qual scope f cdv Aw outer s H noX []) (n := n) (Gd := Gd) (Yd := Yd) I2.ok rfl (cells_none hloc) kk S.co (hi _) ((over_loop rfl rfl).trans over_func) rfl rfl Tu hfp hPG hPE hstep hstop (fun Q' z q => segp_leaf (.ok .next) (segp_end (.ok (.ret .none)) q)) n 0 s4 H1 Aw _ (Nat.zero_add _) e04 ⟨t0, let ⟨m, hm, _⟩ := I4.loc; ⟨m, hm⟩⟩ gd0 (fun b hb => ?_) fun e1 z1 nx => ?_
    · rcases List.mem_cons.mp hb with q | q
      · rw [q]; exact I4.free
      · exact (ffp b q).1
    · have pa := I4.pin _ (List.mem_append_right _ apin)
      refine ⟨s.heap.objs.size :: fp, _, n, Gd, Yd, H1, s4, ⟨I4.os, I4.bare, I4.hok, wake_un (R := gcxOf P w K mg base N qual scope f cdv Aw outer s H noX []) I2.ok I4 (fun b hb q => by cases e : H2 b with | none => exact hb e | some o => rw [hs4 b o e] at q; cases q)⟩, hs4, fun b hb => ?_, pa.2.1, pa.1, hLo, ⟨t0, let ⟨m, hm, _⟩ := I4.loc; ⟨m, hm⟩⟩, src_for (R := gcxOf P w K mg base N qual scope f cdv Aw outer s H noX []) Tu, gd0, hn, hQ, nx⟩
      rcases List.mem_cons.mp hb with q | q
      · rw [q]; exact ⟨I4.free, Nat.le_refl _, Nat.ne_of_lt lt1, .inl rfl⟩
      · refine ⟨(ffp b q).1, Nat.le_of_lt (hfp b q), fun z => (ffp b q).2.2.2.2.2 _ (List.mem_append_right _ apin) z.symm, .inr fun o eo hcl hh => ?_⟩
        exact (ffp b q).2.2.2.2.2 (b, o) (List.mem_append_right _ (mem_pinsAll.mpr ⟨eo, Nat.le_of_lt (hfp b q), fun z => Nat.lt_irrefl _ (by have e := List.mem_singleton.mp z; have h := hfp b q; have e : b = s.heap.objs.size := e; rw [e] at h; exact h), hh, hcl⟩)) rfl
  exact main _ _ _ _ rfl rfl rfl fun h => Heap.get?_push_size _ rfl
end GenP

/-! list(g), of such a generator. -/
namespace GenP
open PySem PySem.Spec PyProof.Rows L2 GenW
open Sem (wp)

section
variable {X : Cx} {k : Nat}
/-- list(g), for what Q the value and the heap are wanted -/
def tListW (tg : TGq3) : TE := fun σ H Q => tg σ H fun _ n Gd Yd H1 => ∃ Pv : Nat → List V → Hp → Prop, Pv 0 [] H1 ∧ (∀ i out H, i ≤ n → Pv i out H → Gd i H) ∧
  (∀ i out x H H', i < n → Pv i out H → Yd i H x H' → Pv (i + 1) (out ++ [x]) H') ∧ ∀ out H, Pv n out H → ∀ p, H p = none → Q (.ref p) (upd H p (.lst out))
theorem pe_listW {e : Expr} {tg : TGq3} {nm : Str} {p pos : Pos} (hi : PGq3 X k e tg) (hr : Room (k + 3) X.A) (hg : Gl X nm) (hmg : X.mg nm = none) (hv : bootBuiltins nm = some (.type "list")) (hnm : nm ≠ "__name__" := by decide) (hdb : (nm == ("__debug__" : Str)) = false := by decide)
    (he : starEach [e] X.env = (false, eval e X.env) :: starEach [] X.env := by rfl) : PE X (.Call (.Name nm p) [e] [] pos) (tListW tg) := by
  refine ⟨fun pins s0 σ H Q I hq => ?_⟩
  refine wpAny_Call_Name_kw (ld_blt I hg hmg hv ?_ hnm hdb)
  refine PyProof.Rows.callWith_type1 ?_ he rfl
  rw [he]
  show wpAny _ _ (spliced ((false, eval e X.env) :: backTo pos (starEach [] X.env))) _ _ s0
  refine Calls.spliced_cons (thn (hi.run pins s0 σ H _ I hq) fun u s h1 => Calls.spliced_nil ?_)
  obtain ⟨H1, sc, Ic, a, gn, c, go, La0, rfl, ha, hgo, hgen, hcell, hfr, hos, hbare, hkp, hdead, hLa0, hLa1, wake⟩ := h1
  have Is1 : Inv X pins σ H1 s := Ic.call' (ch := []) hos (Un.kept hkp) (Ic.hok.kept hkp) hbare fun b hb => absurd hb (by simp)
  have hSa : s.heap.objs.size ≠ a := Nat.ne_of_gt (Heap.lt_size hgo)
  have szc : sc.heap.objs.size ≤ s.heap.objs.size := Nat.le_trans ha (Nat.le_of_lt (Heap.lt_size hgo))
  have hroom : X.A.in1.in1.depth < recursionLimit := by have := hr.dp; show X.A.depth < _; omega
  have hrA : Room k X.A.in1.in1.in1 := ⟨hr.hd, by have := hr.dp; show X.A.depth + 3 * k + 5 < _; omega, by have := hr.un; show X.A.units + 1 + 1 + 1 + 16 * k + 200 < _; omega⟩
  have hfrm : X.A.frames = some X.stack := Is1.ok.frames
  refine callType_codes (Q₁ := fun obj z => obj = .ref s.heap.objs.size ∧ z = { s with heap := s.heap.push { cls := .type "list", data := .seq #[] } }) F.called_list (F.typeCall_list_1 _) F.entry_list_init (code_list_new _ ⟨rfl, rfl⟩) fun obj z hz => ?_
  obtain ⟨rfl, rfl⟩ := hz
  have hS : (s.heap.push { cls := .type "list", data := .seq #[] }).get? s.heap.objs.size = some { cls := .type "list", data := .seq #[] } := Heap.get?_push_size _ rfl
  refine ⟨⟨_, hS, rfl⟩, F.args_list_init_2 _ _, ?_⟩
  show wpAny _ X.A.in1.in1 (do let old ← Builtin.List.listItems (.ref s.heap.objs.size); Builtin.List.listUpdate (.ref s.heap.objs.size) (fun _ => #[]); letGo old.toList.reverse; Builtin.List.listExtendWith (.ref s.heap.objs.size) (.ref a) .none) _ _ _
  refine wpAny_bind ?_
  unfold Builtin.List.listItems
  refine wpAny_bind (wpAny_seqItems hS rfl (wpAny_pure ?_))
  show wpAny _ X.A.in1.in1 (updateSeq s.heap.objs.size (fun _ => #[]) >>= fun _ => letGo (#[] : Array Value).toList.reverse >>= fun _ => Builtin.List.listExtendWith (.ref s.heap.objs.size) (.ref a) .none) _ _ _
  refine wpAny_bind (wpAny_updateSeq hS rfl ?_)
  have hS2 := Heap.get?_update_self (Obj.mapSeq (fun _ => (#[] : Array Value))) hS rfl
  refine wpAny_bind (wpAny_letGo ?_)
  unfold Builtin.List.listExtendWith
  have up : ∀ (h : Heap) (f : Obj → Obj), (∀ b o, s.heap.get? b = some o → h.get? b = some o) → ∀ b o, s.heap.get? b = some o → (h.update s.heap.objs.size f).get? b = some o := fun h f q b o e =>
    (Heap.get?_update_other _ _ (Ne.symm (Nat.ne_of_lt (Heap.lt_size e)))).trans (q b o e)
  have k1 : ∀ b o, s.heap.get? b = some o → (s.heap.push { cls := .type "list", data := .seq #[] }).get? b = some o := fun b o e => Heap.get?_push_of_some _ e
  have k2 := up _ (Obj.mapSeq (fun _ => (#[] : Array Value))) k1
  have gt : ∀ {h : Heap}, (∀ b o, s.heap.get? b = some o → h.get? b = some o) → h.IsGen a gn := fun {h} q => hgen h (q a go hgo)
  refine wpAny_bind (wpAny_typeOf (Heap.IsGen.typeIs (s := { s with heap := _ }) (gt k2)) ?_)
  have n1 : Builtin.List.listSameRef (.ref s.heap.objs.size) (.ref a) = false := by simp [Builtin.List.listSameRef, hSa]
  have n2 : (Value.type "generator" == Value.type "list") = false := by decide
  have n3 : (Value.type "generator" == Value.type "tuple") = false := by decide
  simp only [n1, n2, n3, Bool.or_false, Bool.false_eq_true, if_false]
  refine wpAny_bind (wpAny_pyIter_gen (s := { s with heap := _ }) (gt k2) ?_)
  refine wpAny_bind (wpAny_holding ?_)
  unfold Builtin.List.listLengthHint
  refine wpAny_bind (wpAny_specialOf (Heap.IsGen.typeIs (s := { s with heap := _ }) (gt k2)) F.gen_no_len ?_)
  show wpAny _ X.A.in1.in1 (specialOf (Value.ref a) (Str.ofString "__length_hint__") >>= _) _ _ _
  refine wpAny_bind (wpAny_specialOf (Heap.IsGen.typeIs (s := { s with heap := _ }) (gt k2)) F.gen_no_hint ?_)
  refine wpAny_pure ?_
  show wpAny _ X.A.in1.in1 (rule "list.extend.makes-room" >>= fun _ => Builtin.List.listTouch (.ref s.heap.objs.size) >>= fun _ => again (.builtin "list.extend.loop" ⟨[.ref s.heap.objs.size, .ref a, .none], []⟩)) _ _ _
  refine wpAny_bind (wpAny_rule ?_)
  refine wpAny_bind ?_
  show wpAny _ X.A.in1.in1 (updateSeq s.heap.objs.size (·.push .none) >>= fun _ => updateSeq s.heap.objs.size (·.pop)) _ _ _
  refine wpAny_bind (wpAny_updateSeq hS2 rfl ?_)
  have hS3 := Heap.get?_update_self (Obj.mapSeq (·.push Value.none)) hS2 rfl
  refine wpAny_updateSeq (hz := by seq_fits) hS3 rfl ?_
  have hS4 := Heap.get?_update_self (Obj.mapSeq (·.pop)) hS3 rfl
  have k4 := up _ (Obj.mapSeq (·.pop)) (up _ (Obj.mapSeq (·.push Value.none)) k2)
  refine wpAny_pure ⟨plainId_quiet F.plain_extend_loop _, ?_⟩
  -- the new list, behind all this
  generalize hSd : s.heap.objs.size = S at hS4 k4 hSa ⊢
  generalize hh4 : (((((s.heap.push { cls := .type "list", data := .seq #[] }).update S (Obj.mapSeq (fun _ => (#[] : Array Value)))).update S (Obj.mapSeq (·.push Value.none))).update S (Obj.mapSeq (·.pop)))) = h4 at hS4 k4 ⊢
  obtain ⟨c4, hS4⟩ : ∃ c4, h4.get? S = some (lstObj #[] c4) := ⟨_, hS4⟩
  have I4 : Inv X pins σ H1 { s with heap := h4 } := Is1.kept (t' := s.toks) k4
  have fS : ∀ {H' : Hp}, H' S = none → FpOk X pins H' S := fun h' => Is1.fpOk (Nat.le_of_eq hSd) h'
  have fin : ∀ (z : Shared) (H' : Hp) (out : List V) (acc : Array Value) (cc : Nat), Inv X pins σ H' z → H' S = none → z.heap.get? S = some (lstObj acc cc) → Vals out acc.toList → out.length ≤ sizeLine → Q (.ref S) (upd H' S (.lst out)) →
      EP X pins σ Q (.ref S) z := fun z H' out acc cc Iz nS eS rv hl q => by
    have f := fS nS
    refine ⟨.ref S, upd H' S (.lst out), Iz.call' (ch := [S]) rfl ⟨fun b o e _ _ _ => e, fun b o e _ _ _ => ⟨o.slots, e⟩, fun b o e n hb => ?_, fun b o e _ => ⟨o, e⟩, fun b xs e => ?_, fun b o u e => ?_, fun b ps e => ⟨#[], ?_⟩⟩ (fun b u e => ?_) Iz.bare fun b hb => ?_, rfl, q⟩
    · rw [upd_ne (fun z => hb (by simp [z]))]; exact n
    · rw [upd_ne (ne_of_none e nS)]; exact e
    · rw [upd_ne (ne_of_none e nS)]; exact e
    · rw [upd_ne (ne_of_none e nS), e]; simp
    · by_cases hb : b = S
      · subst hb
        rw [upd_same] at e; cases e
        exact ⟨hl, acc.toList, cc, rv, by rw [eS]⟩
      · rw [upd_ne hb] at e
        exact (Iz.hok b u e).stay (fun _ _ _ z => z) (fun d z => by rw [upd_ne (ne_of_none z nS)]; exact z) fun d xs z => by rw [upd_ne (ne_of_none z nS)]; exact z
    · obtain rfl : b = S := by simpa using hb
      exact ⟨f.2.2.2.1, f.2.1, f.2.2.2.2.1, f.2.2.2.2.2⟩
  generalize hR : (wants (fun r s₂ => r = Value.none ∧ EP X pins σ Q (Value.ref S) s₂) X.xe : Result → Shared → Prop) = R
  have okR : ∀ z, EP X pins σ Q (.ref S) z → R (.ok (.ret .none)) z := fun z q => by rw [← hR]; exact ⟨rfl, q⟩
  have step : ∀ (La : Nat) (Is : List Addr) (T : Nat → Heap → Prop) (N : Nat) (Gd : Nat → Hp → Prop) (Yd : Nat → Hp → V → Hp → Prop) (Pv : Nat → List V → Hp → Prop), Src3 Is T → sc.heap.objs.size ≤ La → N ≤ sizeLine → (∀ i out H, i ≤ N → Pv i out H → Gd i H) →
      (∀ i out x H H', i < N → Pv i out H → Yd i H x H' → Pv (i + 1) (out ++ [x]) H') → (∀ out H, Pv N out H → ∀ p, H p = none → Q (.ref p) (upd H p (.lst out))) → (∀ b ∈ Is, b ≠ a ∧ b ≠ S ∧ ∀ H', H' b = none → FpOk X pins H' b) →
      ∀ (r j : Nat) (out : List V) (acc : Array Value) (cc : Nat) (H' : Hp) (sM : Shared), j + r = N → out.length = j → Vals out acc.toList → Inv X pins σ H' sM → (∀ b ∈ Is, H' b = none) → H' a = none → sM.heap.get? a = some go → H' S = none → sM.heap.get? S = some (lstObj acc cc) → T j sM.heap → Pv j out H' →
      ∀ (e : End) (z : Shared), Next3 X.prog X.w X.K X.mg X.base X.A.in1.in1.in1 X.stack La Is T Gd Yd r j sM H' e z →
        (∃ v r', r = r' + 1 ∧ e.result = .yielded v ∧ e.quiet = true ∧ ∃ x H2, RelV x v ∧ Inv X pins σ H2 (z.setGen gn e.genState) ∧ (∀ b ∈ Is, H2 b = none) ∧ H2 a = none ∧ z.heap.get? a = some go ∧ H2 S = none ∧ z.heap.get? S = some (lstObj acc cc) ∧ T (j + 1) z.heap ∧ Pv (j + 1) (out ++ [x]) H2 ∧ Sleep3 X.prog X.w X.K X.mg X.base X.A.in1.in1.in1 X.stack La Is T Gd Yd r' (j + 1) e.genState) ∨
        (Ended e ∧ ∀ h', (∀ b o, z.heap.get? b = some o → h'.get? b = some o) → EP X pins σ Q (.ref S) { z.setGen gn .finished with heap := h' }) := by
    intro La Is T N Gd Yd Pv src hLa hN hGd hst hen fIs r j out acc cc H' sM hj hlen rv IM nIs na oa nS oS tj pv e z nx
    have ch : ∀ b ∈ Is ++ cellsAt La sM.heap, (b ∈ X.ex ∨ X.s_0.heap.objs.size ≤ b) ∧ b ≠ X.env.locals ∧ (∀ x c, X.env.cells.lookup x = some c → c ≠ b) ∧ ∀ p ∈ X.pn ++ pins, p.1 ≠ b := fun b hb => by
      have f : FpOk X pins (fun _ => none) b := by
        rcases List.mem_append.mp hb with hb | hb
        · exact (fIs b hb).2.2 _ rfl
        · exact Ic.fpOk (Nat.le_trans hLa (of_cellsAt hb).1) rfl
      exact ⟨f.2.2.2.1, f.2.1, f.2.2.2.2.1, f.2.2.2.2.2⟩
    have nst : ∀ b, FpOk X pins (fun _ => none) b → b ∉ frs X.stack := fun b f q => by
      rcases List.mem_cons.mp (IM.stkSub b q) with y1 | y1
      · exact f.2.1 y1
      · exact f.2.2.1 y1
    have nch : ∀ b o, sM.heap.get? b = some o → b ∉ Is → isCell o = false → b ∉ Is ++ cellsAt La sM.heap := fun b o eo h1 h2 q => by
      rcases List.mem_append.mp q with q | q
      · exact h1 q
      · rw [((mem_cellsAt eo).mp q).2] at h2; cases h2
    have ca : isCell go = false := by
      cases q : isCell go with
      | false => rfl
      | true =>
        unfold isCell at q
        split at q
        · rename_i v e; exact absurd e (hcell v)
        · cases q
    have na' := nch a go oa (fun q => (fIs a q).1 rfl) ca
    have nS' := nch S _ oS (fun q => (fIs S q).2.1 rfl) rfl
    have sa := nst a (Ic.fpOk ha rfl)
    have sS := nst S (fS (H' := fun _ => none) rfl)
    cases r with
    | zero =>
      obtain ⟨he, st⟩ := nx
      obtain rfl : j = N := by omega
      refine .inr ⟨he, fun h' hk' => ?_⟩
      have Iz : Inv X pins σ H' z := IM.call' (ch := Is ++ cellsAt La sM.heap) st.os st.un st.hok st.bare ch
      have I2 : Inv X pins σ H' { z with heap := h', toks := z.toks } := Iz.kept (t' := z.toks) hk'
      have I3 := inv_gens (G := z.gens.setIfInBounds gn .finished) I2 (allBare_setGen (s := z) st.bare rfl)
      exact fin _ H' out acc cc I3 nS (hk' _ _ (st.un.keep _ _ oS nS sS nS')) rv (by omega) (hen _ _ pv S nS)
    | succ r =>
      obtain ⟨hq, v, x, H2, hv, rx, yd, st, tj1, nI2, sl⟩ := nx
      have hslp := (sleep3_iff.mp sl).1
      have Iz : Inv X pins σ H2 z := IM.call' (ch := Is ++ cellsAt La sM.heap) st.os st.un st.hok st.bare ch
      exact .inl ⟨v, r, rfl, hv, hq, x, H2, rx, inv_gens Iz (allBare_setGen (s := z) st.bare hslp.bare), nI2, st.un.free _ _ oa na na', st.un.keep _ _ oa na sa na', st.un.free _ _ oS nS nS', st.un.keep _ _ oS nS sS nS', tj1, hst j out x H' H2 (by omega) pv yd, sl⟩
  have push : ∀ (La : Nat) (Is : List Addr) (T : Nat → Heap → Prop) (N : Nat) (Gd : Nat → Hp → Prop) (Yd : Nat → Hp → V → Hp → Prop) (j : Nat) (out : List V) (acc : Array Value) (cc : Nat) (H2 : Hp) (z : Shared) (gs : GenState) (x : V) (v : Value), Src3 Is T → sc.heap.objs.size ≤ La → (∀ b ∈ Is, b ≠ a ∧ b ≠ S ∧ ∀ H', H' b = none → FpOk X pins H' b) → N ≤ sizeLine →
      out.length < N → Vals out acc.toList → RelV x v → Inv X pins σ H2 z → (∀ b ∈ Is, H2 b = none) → z.heap.get? a = some go → H2 S = none → z.heap.get? S = some (lstObj acc cc) → T j z.heap → z.gens[gn]? = some gs →
      (∀ (acc2 : Array Value) (c2 : Nat) (z2 : Shared), Vals (out ++ [x]) acc2.toList → Inv X pins σ H2 z2 → z2.heap.get? a = some go → z2.heap.get? S = some (lstObj acc2 c2) → T j z2.heap → z2.gens[gn]? = some gs → codeAny (model X.prog X.w) X.A.in1 (.builtin "list.extend.loop" ⟨[.ref S, .ref a, .none], []⟩) R z2) →
      wpAny (model X.prog X.w) X.A.in1.in1 (updateSeq S (·.push v) >>= fun _ => again (.builtin "list.extend.loop" ⟨[.ref S, .ref a, .none], []⟩)) (fun f s' => match f with
            | .done g => R (.ok g) s'
            | .again c' => c'.quiet = true ∧ codeAny (model X.prog X.w) X.A.in1 c' R s') (fun e s' => R (.error e) s') z := by
    intro La Is T N Gd Yd j out acc cc H2 z gs x v src hLa fIs hN hlt rv rx Iz nIs oa nS oS tj hgs go
    have hsz : acc.size = out.length := by
      have e1 := rv.length
      have e2 : acc.toList.length = acc.size := by simp
      omega
    refine wpAny_bind ?_
    refine wpAny_updateSeq oS rfl (wpAny_pure ⟨plainId_quiet F.plain_extend_loop _, ?_⟩) (by omega) (by show (acc.push v).size ≤ sizeLine + 1; rw [Array.size_push]; omega)
    have kp : ∀ b o, b ≠ S → z.heap.get? b = some o → (z.heap.update S (Obj.mapSeq (·.push v))).get? b = some o := fun b o hb e => (Heap.get?_update_other _ _ (Ne.symm hb)).trans e
    have I2 : Inv X pins σ H2 { z with heap := z.heap.update S (Obj.mapSeq (·.push v)), toks := z.toks } := Iz.turnedL (ch := [S]) (fun b o hb e => kp b o (fun q => hb (by simp [q])) e) fun b hb => by
      obtain rfl : b = S := by simpa using hb
      exact fS nS
    refine go (acc.push v) _ { z with heap := z.heap.update S (Obj.mapSeq (·.push v)) } ?_ I2 (kp _ _ (Ne.symm hSa) oa) (Heap.get?_update_self _ oS rfl) (src.keep j z.heap _ tj (fun b hb o e => kp b o (fIs b hb).2.1 e)) hgs
    rw [Array.toList_push]
    exact rv.append (.cons rx .nil)
  have loopOk : ∀ (La : Nat) (Is : List Addr) (T : Nat → Heap → Prop) (N : Nat) (Gd : Nat → Hp → Prop) (Yd : Nat → Hp → V → Hp → Prop) (Pv : Nat → List V → Hp → Prop), Src3 Is T → sc.heap.objs.size ≤ La → N ≤ sizeLine → (∀ i out H, i ≤ N → Pv i out H → Gd i H) →
      (∀ i out x H H', i < N → Pv i out H → Yd i H x H' → Pv (i + 1) (out ++ [x]) H') → (∀ out H, Pv N out H → ∀ p, H p = none → Q (.ref p) (upd H p (.lst out))) → (∀ b ∈ Is, b ≠ a ∧ b ≠ S ∧ ∀ H', H' b = none → FpOk X pins H' b) →
      ∀ (r j : Nat) (out : List V) (acc : Array Value) (cc : Nat) (H' : Hp) (z : Shared) (gs : GenState), j + r = N → out.length = j → Vals out acc.toList → Inv X pins σ H' z → (∀ b ∈ Is, H' b = none) → H' a = none → z.heap.get? a = some go → H' S = none → z.heap.get? S = some (lstObj acc cc) → T j z.heap → Pv j out H' →
        z.gens[gn]? = some gs → Sleep3 X.prog X.w X.K X.mg X.base X.A.in1.in1.in1 X.stack La Is T Gd Yd r j gs → codeAny (model X.prog X.w) X.A.in1 (.builtin "list.extend.loop" ⟨[.ref S, .ref a, .none], []⟩) R z := by
    intro La Is T N Gd Yd Pv src hLa hN hGd hst hen fIs r
    induction r with
    | zero =>
      intro j out acc cc H' z gs hj hlen rv Iz nIs na oa nS oS tj pv hgs sl
      have hlt : gn < z.gens.size := (Array.getElem?_eq_some_iff.mp hgs).1
      refine codeAny_builtin F.entry_extend_loop ?_
      rw [Around.under_plainId F.plain_extend_loop _]
      show wpAny _ X.A.in1.in1 (pyNext (.ref a) >>= _) _ _ z
      refine wpAny_bind (next_genP (A := X.A.in1.in1) hr.hd Iz.nolimit hroom (hgen _ oa) hgs ((sleep3_iff.mp sl).2 (z.setGen gn .running) H' X.A (inv_gens Iz (allBare_setGen Iz.bare rfl) : Inv X pins σ H' (z.setGen gn .running)).env0 tj (hGd j out H' (by omega) pv) nIs) fun e z1 nx => ?_)
      rcases step La Is T N Gd Yd Pv src hLa hN hGd hst hen fIs 0 j out acc cc H' (z.setGen gn .running) hj hlen rv (inv_gens Iz (allBare_setGen Iz.bare rfl)) nIs na oa nS oS tj pv e z1 nx with ⟨v, r', h0, _⟩ | ⟨h1, h2⟩
      · cases h0
      · exact .inr ⟨h1, fun h' hk => wpAny_pure (okR _ (h2 h' hk))⟩
    | succ r ih =>
      intro j out acc cc H' z gs hj hlen rv Iz nIs na oa nS oS tj pv hgs sl
      have hlt : gn < z.gens.size := (Array.getElem?_eq_some_iff.mp hgs).1
      refine codeAny_builtin F.entry_extend_loop ?_
      rw [Around.under_plainId F.plain_extend_loop _]
      show wpAny _ X.A.in1.in1 (pyNext (.ref a) >>= _) _ _ z
      refine wpAny_bind (wpAny_gsz (n := gn + 1) hlt (next_genP (A := X.A.in1.in1) hr.hd Iz.nolimit hroom (hgen _ oa) hgs ((sleep3_iff.mp sl).2 (z.setGen gn .running) H' X.A (inv_gens Iz (allBare_setGen Iz.bare rfl) : Inv X pins σ H' (z.setGen gn .running)).env0 tj (hGd j out H' (by omega) pv) nIs) fun e z1 nx => ?_))
      rcases step La Is T N Gd Yd Pv src hLa hN hGd hst hen fIs (r + 1) j out acc cc H' (z.setGen gn .running) hj hlen rv (inv_gens Iz (allBare_setGen Iz.bare rfl)) nIs na oa nS oS tj pv e z1 nx with ⟨v, r', h0, hv, hq, x, H2, rx, I2, nIs2, na2, oa2, nS2, oS2, tj2, pv2, sl2⟩ | ⟨h1, h2⟩
      · obtain rfl : r = r' := by omega
        refine .inl ⟨v, hv, hq, fun hsz => ?_⟩
        rw [setGen_size] at hsz
        exact push La Is T N Gd Yd (j + 1) out acc cc H2 (z1.setGen gn e.genState) _ x v src hLa fIs hN (by omega) rv rx I2 nIs2 oa2 nS2 oS2 tj2 (setGen_at hsz) fun acc2 c2 z2 q1 q2 q3 q4 q5 q6 =>
          ih (j + 1) (out ++ [x]) acc2 c2 H2 z2 _ (by omega) (by rw [List.length_append, hlen]; rfl) q1 q2 nIs2 na2 q3 nS2 q4 q5 pv2 q6 sl2
      · exact .inr ⟨h1, fun h' hk _ => wpAny_pure (okR _ (h2 h' hk))⟩
  -- the first waking
  refine codeAny_builtin F.entry_extend_loop ?_
  rw [Around.under_plainId F.plain_extend_loop _]
  show wpAny _ X.A.in1.in1 (pyNext (.ref a) >>= _) _ _ _
  have hlt : gn < s.gens.size := (Array.getElem?_eq_some_iff.mp hfr).1
  have frame : ∀ z : Shared, z.heap = h4 → z.gens = s.gens → z.os = s.os → wpAny (model X.prog X.w) X.A.in1.in1 (pyNext (.ref a)) (fun o z' => wpAny (model X.prog X.w) X.A.in1.in1 (match o with
        | some x => updateSeq S (·.push x) >>= fun _ => again (.builtin "list.extend.loop" ⟨[.ref S, .ref a, .none], []⟩)
        | none => ret .none) (fun f s' => match f with
            | .done g => R (.ok g) s'
            | .again c' => c'.quiet = true ∧ codeAny (model X.prog X.w) X.A.in1 c' R s') (fun e s' => R (.error e) s') z') (fun e s' => R (.error e) s') z := fun z e1 e2 e3 => by
    have Iz : Inv X pins σ H1 z := Is1.call' (ch := []) e3 (by rw [e1]; exact Un.kept k4) (by rw [e1]; exact Is1.hok.kept k4) (by rw [e2]; exact hbare) fun b hb => absurd hb (by simp)
    have Iz0 : Inv X pins σ H1 (z.setGen gn .running) := inv_gens Iz (allBare_setGen Iz.bare rfl)
    have nS1 : H1 S = none := Is1.hok.fresh (Nat.le_of_eq hSd)
    have oS1 : (z.setGen gn .running).heap.get? S = some (lstObj #[] c4) := by show z.heap.get? S = _; rw [e1]; exact hS4
    refine wpAny_gsz (n := gn + 1) (by rw [e2]; exact hlt) (next_genP (A := X.A.in1.in1) (gs := .fresh c) hr.hd Iz.nolimit hroom (hgen _ (by rw [e1]; exact k4 _ _ hgo)) (by rw [e2]; exact hfr) (wake X.A.in1.in1.in1 X.A (z.setGen gn .running) H1 hrA hfrm Iz0.env0 (fun b o q => by show z.heap.get? b = _; rw [e1]; exact k4 b o q) (Same.refl H1) (fun b hb _ => Ic.hok.fresh hb) (e3.trans hos)) fun e z1 hb => ?_)
    obtain ⟨Is, T, n, Gd, Yd, H', sM, st0, _, hIs, na, oa, hLo, t0, src, gd, hN, ⟨Pv, p0, hGd, hst, hen⟩, nx⟩ := hb
    have SL : S ≠ La0 := fun q => by rw [← hSd] at q; rw [← q] at hLa1; exact Nat.lt_irrefl _ hLa1
    have hch : ∀ b ∈ [La0] ++ cellsAt La0 (z.setGen gn .running).heap, FpOk X pins (fun _ => none) b := fun b hb => by
      rcases List.mem_append.mp hb with q | q
      · rw [List.mem_singleton.mp q]; exact Ic.fpOk hLa0 rfl
      · exact Ic.fpOk (Nat.le_trans hLa0 (of_cellsAt q).1) rfl
    have IM : Inv X pins σ H' sM := Iz0.call' (ch := [La0] ++ cellsAt La0 (z.setGen gn .running).heap) st0.os st0.un st0.hok st0.bare fun b hb => ⟨(hch b hb).2.2.2.1, (hch b hb).2.1, (hch b hb).2.2.2.2.1, (hch b hb).2.2.2.2.2⟩
    have Sch : S ∉ [La0] ++ cellsAt La0 (z.setGen gn .running).heap := fun q => by
      rcases List.mem_append.mp q with q | q
      · exact SL (List.mem_singleton.mp q)
      · have := ((mem_cellsAt oS1).mp q).2
        cases this
    have Sst : S ∉ frs X.stack := fun q => by
      have f := fS (H' := fun _ => none) rfl
      rcases List.mem_cons.mp (Iz0.stkSub S q) with y1 | y1
      · exact f.2.1 y1
      · exact f.2.2.1 y1
    have pS2 : H' S = none := st0.un.free S _ oS1 nS1 Sch
    have pS1 : sM.heap.get? S = some (lstObj #[] c4) := st0.un.keep S _ oS1 nS1 Sst Sch
    have hLa := hLa0
    let La := La0
    have fIs : ∀ b ∈ Is, b ≠ a ∧ b ≠ S ∧ ∀ H', H' b = none → FpOk X pins H' b := fun b hb => ⟨(hIs b hb).2.2.1, fun q => by
      rcases (hIs b hb).2.2.2 with y | y
      · exact SL (q.symm.trans y)
      · exact y _ (by rw [q]; exact oS1) rfl (by rw [q]; exact nS1), fun H2 h2 => Ic.fpOk (hIs b hb).2.1 h2⟩
    rcases step La Is T n Gd Yd Pv src hLa hN hGd hst hen fIs n 0 [] #[] c4 H' sM (Nat.zero_add _) rfl .nil IM (fun b hb => (hIs b hb).1) na oa pS2 pS1 t0 p0 e z1 nx with ⟨v, r', h0, hv, hq, x, H2, rx, I2, nIs2, na2, oa2, nS2, oS2, tj2, pv2, sl2⟩ | ⟨h1, h2⟩
    · subst h0
      refine .inl ⟨v, hv, hq, fun hsz => ?_⟩
      rw [setGen_size] at hsz
      exact push La Is T (r' + 1) Gd Yd 1 [] #[] c4 H2 (z1.setGen gn e.genState) _ x v src hLa fIs hN (Nat.succ_pos _) .nil rx I2 nIs2 oa2 nS2 oS2 tj2 (setGen_at hsz) fun acc2 c2 z2 q1 q2 q3 q4 q5 q6 =>
        loopOk La Is T (r' + 1) Gd Yd Pv src hLa hN hGd hst hen fIs r' 1 ([] ++ [x]) acc2 c2 H2 z2 _ (by omega) rfl q1 q2 nIs2 na2 q3 nS2 q4 q5 pv2 q6 sl2
    · exact .inr ⟨h1, fun h' hk _ => wpAny_pure (okR _ (h2 h' hk))⟩
  refine wpAny_bind (wpAny_mono (frame _ rfl rfl rfl) (fun o z q => ?_) fun _ _ q => q)
  cases o with
  | none => exact q
  | some x => exact q
end
end GenP

/-! A list comprehension over such a generator. -/
namespace GenP
open PySem PySem.Spec PyProof.Rows L2 GenW
open Sem (wp)

section
variable {X : Cx} {k : Nat}
end
end GenP
namespace GenP
open PySem PySem.Spec PyProof.Rows L2 GenW
section
variable {X : Cx} {k : Nat}
end
end GenP

/-! A method that is such a generator; its call; name = [.. for .. in g]. -/
namespace GenP
open PySem PySem.Spec PyProof.Rows L2 GenW My
open Sem (wp)
/-- the generator def at the address keeps the promise -/
def OkQA (P : Program) (w : World) (K : PySem.W.Frag) (mg : Str → Option Value) (base : Heap) (k : Nat) (f : Addr) (ps : List Str) (sp : SpQ3) : Prop :=
  ∃ fd : FuncData, GFnQ3 P w K mg base k f fd ps sp ∧ Binds K fd ps []
/-- the body: «for .. in iter: yield e», in every waking's context -/
structure PFy (R : Cx) (body : List Stmt) (wi : TI) (g : TG) (te : TE) : Prop where
  ex : ∃ tgt iter e yp pos fpos, body = [.For tgt iter [.Expr (.Yield (some e) yp) pos] [] fpos] ∧ (∀ (z : Shared) (H : Hp), PI (fX R z H) tgt iter wi) ∧ (∀ (z : Shared) (H : Hp), PG (fX R z H) tgt g) ∧ ∀ (z : Shared) (H : Hp), PE (fX R z H) e te
theorem pfy {R : Cx} {tgt iter e : Expr} {yp pos fpos : Pos} {wi : TI} {g : TG} {te : TE} (h1 : ∀ (z : Shared) (H : Hp), PI (fX R z H) tgt iter wi) (h2 : ∀ (z : Shared) (H : Hp), PG (fX R z H) tgt g) (h3 : ∀ (z : Shared) (H : Hp), PE (fX R z H) e te) :
    PFy R [.For tgt iter [.Expr (.Yield (some e) yp) pos] [] fpos] wi g te := ⟨⟨tgt, iter, e, yp, pos, fpos, rfl, h1, h2, h3⟩⟩
theorem okQA_of {P : Program} {w : World} {K : PySem.W.Frag} {mg : Str → Option Value} {base : Heap} {k : Nat} {x qual : Str} {params : Arguments} {body : List Stmt} {scope : Scope} {N ps : List Str} {sp : SpQ3} {f : Addr}
    (F : ∃ fd, FunD K x qual params body scope [] [] f fd) (S : GScope N ps scope)
    (hbd : ∃ tgt iter e yp pos fpos, body = [.For tgt iter [.Expr (.Yield (some e) yp) pos] [] fpos] ∧ ∀ (a : Addr) (cdv : Value) x, foldedSetIterable iter (envOfC qual scope a f cdv) x = pure x)
    (hi : ∀ (a : Addr) (cdv : Value), interactive (envOfC qual scope a f cdv) = false) (hloc : ∀ y ∈ scope.names, y.2 ≠ .cell ∧ y.2 ≠ .free)
    (hb : ∀ (kV doc pm : Value) (an : Option Addr) (cdv ct : Value) (us : List Value), us.length = ps.length → bindArgs (PySem.W.fnOf x qual params body scope .none kV doc pm an cdv ct) ⟨us, []⟩ = pure (ps.zip us))
    (len : ∀ vs H Q, sp vs H Q → vs.length = ps.length)
    (hbody : ∀ (cdv : Value) (A : Around) (outer : List Env) (s : Shared) (H H2 : Hp) (vs : List V) (Q : TQ3), Room k (A.deeper (envOfC qual scope s.heap.objs.size f cdv)) → sp vs H Q → Same H H2 →
      ∃ wi g te, PFy (gcxOf P w K mg base N qual scope f cdv A outer s H noX []) body wi g te ∧ wi (start N vs) H2 fun J H1 => Same H2 H1 ∧ ∃ n Gd Yd, n ≤ sizeLine ∧ (∀ j H2, j < n → Gd j H2 → J.go j H2 ∧ ∀ x1 H3, J.yld j H2 x1 H3 → g x1 (List.replicate N.length none) H3 fun σ2 H4 => te σ2 H4 fun x H5 => Yd j H2 x H5 ∧ ∀ b, H2 b ≠ none → H5 b ≠ none) ∧ (∀ H2, Gd n H2 → J.stop n H2) ∧ Gd 0 H1 ∧ Q H n Gd Yd H1) :
    OkQA P w K mg base (k + 1) f ps sp := by
  obtain ⟨fd, F⟩ := F
  obtain ⟨tgt, iter, e, yp, pos, fpos, rfl, hfold⟩ := hbd
  obtain ⟨oc, od, dV, kV, doc, pm, an, cdv, ct, osl, rfl, lk, hcd, hd, hk⟩ := id F.ex
  refine ⟨_, gfnq_for rfl lk hcd S (fun a => hi a cdv) hloc (fun a x => hfold a cdv x) len fun A outer s H H2 vs Q hr h hs => ?_, F.bindsN hb⟩
  obtain ⟨wi, g, te, ⟨tgt', iter', e', yp', pos', fpos', eb, h1, h2, h3⟩, h4⟩ := hbody cdv A outer s H H2 vs Q hr h hs
  injection eb with eb _
  injection eb with eb1 eb2 eb3 _ _
  injection eb3 with eb3 _
  injection eb3 with eb3 _
  injection eb3 with eb3 _
  injection eb3 with eb3
  subst eb1 eb2 eb3
  exact ⟨wi, g, te, h1, h2, h3, h4⟩
section
variable {X : Cx} {k : Nat} {f C : Addr} {fd : FuncData} {ps : List Str} {sp : SpQ3} {m : Str} {pos apos : Pos} {o : Expr} {ta : TE}
def tMethQ (C : Addr) (m : Str) (sp : SpQ3) (ta : TE) : TGq3 := fun σ H Q => ta σ H fun x H1 => ∃ a dx fs, x = .ref a ∧ H1 a = some (.ins C dx fs) ∧ fs.lookup m = none ∧ sp [x] H1 Q
/-- o.m() of a generator method -/
theorem calMQ0 {pl : Sem Bool} (O : OkQA X.prog X.w X.K X.mg X.base k f ps sp) (hr : Room k X.A) (c : Cls X.K C) (hm : Meth X.K C m f) (he : PE X o ta)
    (ht : eval (.Call (.Attribute o m apos) [] [] pos) X.env = (do
      let ov ← eval o X.env
      standAt apos.atName
      let (f, first) ← holding [ov] (getMethod ov m pl)
      callWith pos f first (backTo pos (starEach [] X.env)) (backToKw pos (keywordEach [] X.env))) := by rfl) :
    PGq3 X k (.Call (.Attribute o m apos) [] [] pos) (tMethQ C m sp ta) := by
  obtain ⟨fd, F, b⟩ := O
  refine ⟨fun pins s σ H Q I h => ?_⟩
  refine PySem.W.methodCall_KW (pl := pl) (thn (he.run pins s σ H _ I h) fun u s1 ⟨x, H1, I1, rx, a, dx, fs, ex, ea, l, q⟩ => ?_) ht
  subst ex
  obtain rfl : u = Value.ref a := rx
  refine getmeth_ok I1 ea c hm l ?_
  refine PySem.W.callWith_K0 (first := [.ref a]) I1.kIn hm.kp ?_
  have hl2 : ([Value.ref a] : List Value).length = ps.length := F.len _ _ _ q
  refine wpAny_call (codeAny_mono (F.run X.A X.stack s1 H1 ⟨[.ref a], []⟩ [.ref a] [.ref a] Q hr I1.env0 (by have := b s1 [.ref a] I1.kIn (by rw [List.length_append, List.length_nil]; exact hl2); rw [List.append_nil] at this; exact this) (.cons rfl .nil) q) fun rr s' hq => ?_)
  cases rr with
  | error e => exact False.elim hq
  | ok fl =>
    cases fl with
    | ret u => exact ⟨H1, s1, I1, hq⟩
    | next => exact False.elim hq
    | brk => exact False.elim hq
    | cont => exact False.elim hq
end
end GenP

/-! == of two instances by their class's own __eq__, where it is true. -/
namespace My
open PySem PySem.Spec PyProof.Rows L2
end My
namespace My
open PySem PySem.Spec PyProof.Rows L2
structure IsiC (K : PySem.W.Frag) (C : Addr) : Prop where
  f : PySem.W.findIn K (.ref C) "__class__" = some (some (.builtin "object.__class__"))
  g : PySem.W.specialIn K (.builtin "object.__class__") "__get__" = some (some (.builtin "getset_descriptor.__get__"))
  t : PySem.W.takesIn K (.builtin "object.__class__") = some true
  m : PySem.W.mroIn K C (.type "object") = some true
theorem isiB_ok {K : PySem.W.Frag} {x : Str} (h : isiB K x = true) : IsiC K (He.ga K x) := by
  unfold isiB at h
  simp only [Bool.and_eq_true, decide_eq_true_eq] at h
  exact ⟨h.1, h.2.1, h.2.2.1, h.2.2.2⟩
theorem IsiC.ty {K : PySem.W.Frag} {H : Hp} {a C dx : Addr} {fs : List (Str × V)} (i : IsiC K C) (c : Cls K C) (h : H a = some (.ins C dx fs)) : TyX K H (.ref a) (.ref C) := .base (.ins h c i.f i.g i.t i.m)
end My
namespace My
open PySem PySem.Spec PyProof.Rows L2
end My
namespace My
open PySem PySem.Spec PyProof.Rows L2
end My
namespace My
open PySem PySem.Spec PyProof.Rows L2
/-! ### the text of data keeps to signs that are code points -/
end My
namespace My
open PySem PySem.Spec PyProof.Rows L2
end My

/-! A generator whose body ends in a while loop with a yield in one branch of an if. -/
namespace GenP
open PySem PySem.Spec PyProof.Rows L2 GenW
open Sem (wp)
section
variable {prog : Program} {w : World} {A : Around} {P : End → Shared → Prop} {fs : List Frame} {s : Shared} {env : Env} {test : Expr} {body : List Stmt}
end
section
variable {R : Cx}
def only (N : List Str) (i : Nat) (a : Addr) : L2.St := (List.replicate N.length (none : Option V)).set i (some (.ref a))
end
end GenP

/-! What a call of such a generator gives. -/
namespace GenP
open PySem PySem.Spec PyProof.Rows L2 GenW My
open Sem (wp)
end GenP

/-! for .. in g(..) over such a generator, with break; the def's promise; its call. -/
namespace GenP
open PySem PySem.Spec PyProof.Rows L2 GenW My
open Sem (wp)
section
variable {X : Cx} {k : Nat}
end
section
variable {X : Cx} {k : Nat} {ps : List Str} {sp : SpQ3} {x : Str} {p pos : Pos}
end
end GenP

/-! Rules whose relation names the context's K, with K apart. -/
namespace My
open PySem PySem.Spec PyProof.Rows L2
section
variable {X : Cx} {K : PySem.W.Frag}
end
end My

/-! super().m(..) in a method of an own class: judgements at the method's own code, and the promise of such a method. -/
namespace SupX
open PySem PySem.Spec PyProof.Rows L2 My
theorem wpAt_of {α : Type} {M : Model} {A : Around} {c : Code} {t : Sem α} {Q : α → Shared → Prop} {E : Value → Shared → Prop} {s : Shared} (h : wpAny M A t Q E s) : PySem.wpAt M A c t Q E s := fun Γ p _ h2 => h Γ p h2
theorem thnA {α : Type} {M : Model} {A : Around} {c : Code} {t : Sem α} {Q Q' : α → Shared → Prop} {E : Value → Shared → Prop} {s : Shared} (h : PySem.wpAt M A c t Q E s) (hQ : ∀ a s, Q a s → Q' a s) : PySem.wpAt M A c t Q' E s := PySem.wpAt_mono h hQ fun _ _ x => x
/-- the frame of a method whose text names super, written in the class D -/
structure SuX (X : Cx) (D : Addr) : Prop where
  fn : ∃ f oc od fd osl ar, X.env.func = some f ∧ X.K.lookup f = some ⟨oc, od, .func fd, osl⟩ ∧ (fd.params.posonlyargs ++ fd.params.args).head? = some ar ∧ ar.arg = "self"
  code : ∃ c ccl cdd vs ccs file tf, X.env.code = .ref c ∧ X.K.lookup c = some ⟨ccl, cdd, .fields vs, ccs⟩ ∧ vs[2]? = some (.str file tf) ∧ (X.prog.main.file == file) = true
  cell : ∃ cc cl cld csl, X.env.cells.lookup ("__class__" : Str) = some cc ∧ X.K.lookup cc = some ⟨cl, cld, .cell (some (.ref D)), csl⟩
  cls : ∃ cd, PySem.W.clsIn X.K D = some cd
  main : (X.prog.main.scope.names.lookup ("super" : Str)).isSome = false
  free : X.mg "super" = none
  sup : X.env.scope.names.lookup ("super" : Str) = some NameKind.globalImplicit
  cln : X.env.scope.names.lookup ("__class__" : Str) = some NameKind.free
  slf : X.N[0]? = some ("self" : Str)
  slk : X.env.scope.names.lookup ("self" : Str) = some NameKind.local
/-- the def f2 is m as super finds it for an instance of C, from D on -/
structure SuM (K : PySem.W.Frag) (C D : Addr) (m : Str) (f2 : Addr) : Prop where
  any : PySem.W.nsIn K cStatics "thirdparty.any" = some none
  at_ : PySem.W.ks_superIn K C D m = some (some (.ref f2))
  ty : PySem.W.typeIn K (.ref f2) = some (.type "function")
  mro : PySem.W.mroIn K C (.ref D) = some true
  fn : PySem.W.fnIn K f2 = true
section
variable {X : Cx} {pins : List (Addr × Obj)} {σ : L2.St} {H : Hp} {s : Shared} {C D x dx f2 : Addr} {fs : List (Str × V)} {m : Str}
/-- super() -/
theorem sup_base {body : List Stmt} {p0 p1 : Pos} {whole : Sem Value} {Q : Value → Shared → Prop} {E : Value → Shared → Prop}
    (S : SuX X D) (M : SuM X.K C D m f2) (I : Inv X pins σ H s) (hσ : σ[0]? = some (some (.ref x))) (hx : H x = some (.ins C dx fs)) (hat : (m == ("__class__" : Str)) = false)
    (q : ∀ (h' : Heap), h'.get? s.heap.objs.size = some (PySem.W.ks_superObj D x C) → (∀ b o, s.heap.get? b = some o → h'.get? b = some o) → Q (.ref s.heap.objs.size) { s with heap := h' }) :
    PySem.wpAt (model X.prog X.w) X.A (.func body X.env) (attributeBase (.Call (.Name "super" p0) [] [] p1) m X.env whole) Q E s := by
  obtain ⟨f, oc, od, fd, osl, ar, hfu, hf, har, hself⟩ := S.fn
  obtain ⟨c, ccl, cdd, vs, ccs, file, tf, hco, hc, hv, hfile⟩ := S.code
  obtain ⟨cc, cl, cld, csl, hcl, hcell⟩ := S.cell
  obtain ⟨cd, hcd⟩ := S.cls
  have KI : X.K.In s.heap := I.kIn
  obtain ⟨mL, hm, hl⟩ := I.loc
  obtain ⟨u, hu, hL⟩ := hl 0 "self" (.ref x) S.slf hσ (.inl S.slk)
  obtain rfl : u = Value.ref x := hu
  have hms : mL "self" = some (.ref x) := by
    rcases hL with ⟨_, q⟩ | ⟨q, _⟩
    · exact q
    · exfalso
      have e : X.env.kindOf "self" = some .local := S.slk
      rcases q with q | q <;> exact absurd (e.symm.trans q) (by decide)
  have hgl : s.heap.Ns mainGlobals X.mg := by
    obtain ⟨o, es, ep, h1, h2, h3, h4⟩ := I.ok.mod.glob
    exact ⟨o, es, ep, (I.bs _ _ h1).1, h2, h3, h4⟩
  obtain ⟨mb, hbl, hbb⟩ := I.ok.mod.blt
  have hbl' : s.heap.Ns builtinsNs mb := by
    obtain ⟨o, es, ep, h1, h2, h3, h4⟩ := hbl
    exact ⟨o, es, ep, (I.bs _ _ h1).1, h2, h3, h4⟩
  have hmb : mb "super" = some (.type "super") := by rw [hbb _ (by decide)]; rfl
  obtain ⟨mA, O, _, _, _, _⟩ := ins_get I.hok hx
  obtain ⟨odx, J, _⟩ := O.look
  have hD : ∃ oD, s.heap.get? D = some oD ∧ oD.data = .cls cd := by
    unfold PySem.W.clsIn at hcd
    split at hcd
    · rename_i e
      cases hcd
      exact ⟨_, KI _ _ e, rfl⟩
    · cases hcd
  obtain ⟨oD, eD, dD⟩ := hD
  refine ks_wpAt_super_base (E := E) S.sup S.cln hat hfu (KI _ _ hf) rfl har hco (KI _ _ hc) rfl hv hfile S.main ?_
  refine PySem.W.ks_loadName_global I.ok.kind S.sup (Calls.loadGlobal_builtin (by rw [I.ok.glob]; exact hgl) S.free (by rw [I.ok.blt]; exact hbl') hmb ⟨rfl, ?_⟩)
  refine wpAny_loadName_free (c := cc) (v := .ref D) I.ok.kind S.cln hcl ⟨_, KI _ _ hcell, rfl⟩ ?_
  rw [hself]
  refine wpAny_loadName_local (m := mL) I.ok.kind S.slk hm hms ?_
  refine ks_wpAny_isType_cls eD dD ⟨rfl, ?_⟩
  refine ks_wpAny_call_super (C := C) eD dD J.at_ J.cls (fun c e => ?_) (PySem.W.looks_mroIn KI M.mro) fun h' g1 g2 => q h' g1 g2
  have := J.no
  unfold PySem.W.notCls at this
  rw [e] at this
  exact Bool.noConfusion this
/-- super().m -/
theorem sup_meth {pl : Sem Bool} {Q : Value × List Value → Shared → Prop} {E : Value → Shared → Prop} {h' : Heap} (M : SuM X.K C D m f2) (I : Inv X pins σ H s) (hx : H x = some (.ins C dx fs)) (hat : (m == ("__class__" : Str)) = false)
    (hso : h'.get? s.heap.objs.size = some (PySem.W.ks_superObj D x C)) (kp : ∀ b o, s.heap.get? b = some o → h'.get? b = some o)
    (q : ∀ (b : Addr) (s1 : Shared), Inv X ((b, PySem.W.methodObj (.ref f2) (.ref x)) :: pins) σ H s1 → Q (.ref b, []) s1) :
    wpAny (model X.prog X.w) X.A (getMethod (.ref s.heap.objs.size) m pl) Q E { s with heap := h' } := by
  have KI : X.K.In h' := fun b o e => kp _ _ (I.kIn b o e)
  obtain ⟨mA, O, _, _, _, _⟩ := ins_get I.hok hx
  obtain ⟨odx, J, _⟩ := O.look
  have hm := M.at_
  cases hc : PySem.W.clsIn X.K C with
  | none => unfold PySem.W.ks_superIn at hm; rw [hc] at hm; cases hm
  | some cd =>
    unfold PySem.W.ks_superIn at hm
    rw [hc] at hm
    obtain ⟨of, hof, hofc⟩ : ∃ of, h'.get? f2 = some of ∧ of.cls = .type "function" := by
      have ht' : (X.K.lookup f2).map (·.cls) = some (.type "function") := M.ty
      cases z : X.K.lookup f2 with
      | none => rw [z] at ht'; cases ht'
      | some of => rw [z] at ht'; exact ⟨of, KI _ _ z, Option.some.inj ht'⟩
    have hle : s.heap.objs.size ≤ h'.objs.size := Nat.le_of_lt (Heap.lt_size hso)
    refine ks_wpAny_getMethod_super hso (PySem.W.looks_opaque KI M.any) (l₀ := cd.mro) ?_ rfl KI hm hof hofc (PySem.W.ks_ne I.kIn J hc) hat ?_
    · exact fun A Q E s k q => wpAny_bind ((PySem.W.looks_clsIn KI hc) A _ E s k (wpAny_pure q))
    · have I1 : Inv X pins σ H { s with heap := h'.push (PySem.W.methodObj (.ref f2) (.ref x)), toks := s.toks + 1 } := I.kept fun b o e => Heap.get?_push_of_some _ (kp b o e)
      refine q h'.objs.size _ (I1.pins_of fun p hp => ?_)
      rcases List.mem_cons.mp hp with rfl | hp
      · exact ⟨Heap.get?_push_at rfl rfl, I.hok.fresh hle, Nat.ne_of_gt (Nat.lt_of_lt_of_le I.lt hle), I.nofs hle, fun v z => nomatch z⟩
      · exact I1.pin p (List.mem_append_right _ hp)
end
/-! ### at the code: arguments and calls -/
section
variable {M : Model} {A : Around} {c : Code} {E : Value → Shared → Prop} {s : Shared}
theorem at_args {f : Value} {x : Sem Value} {rest : List (Bool × Sem Value)} {Q : Args → Shared → Prop}
    (h : PySem.wpAt M A c (spliced ((false, x) :: rest)) (fun vs s' => Q ⟨vs, []⟩ s') E s) : PySem.wpAt M A c (evalArgs f true ((false, x) :: rest) []) Q E s := by
  unfold evalArgs
  show PySem.wpAt M A c (spliced ((false, x) :: rest) >>= _) Q E s
  refine PySem.wpAt_bind (thnA h fun vs s' h' => wpAt_of ?_)
  refine wpAny_holding ?_
  exact wpAny_bind (wpAny_pure (wpAny_bind (wpAny_pure (wpAny_pure h'))))
theorem at_callWith {pos : Pos} {f : Value} {first : List Value} {P : Heap → Prop} {x : Sem Value} {rest : List (Bool × Sem Value)} {Q : Value → Shared → Prop} (hplain : rest.any (·.1) = false)
    (hk : ∀ h, P h → ∃ k, (k = Keeper.frame ∨ k = Keeper.machine ∨ k = Keeper.boundFrame) ∧ PySem.W.Looks M h (keeperOf f) k)
    (h : PySem.wpAt M A c (spliced ((false, x) :: rest)) (fun vs s₁ => P s₁.heap ∧ wpAny M A (call f (first ++ vs)) Q E s₁) E s) : PySem.wpAt M A c (callWith pos f first ((false, x) :: rest) []) Q E s := by
  unfold callWith
  refine PySem.wpAt_bind (ks_wpAt_holding (at_args (thnA h fun vs s₁ h₁ => wpAt_of (wpAny_bind (wpAny_standAt ?_)))))
  obtain ⟨k, hk', L⟩ := hk _ h₁.1
  have hp : ((((false, x) :: rest).any fun y => y.1) || (([] : List (Option Str × Sem Value)).any fun y => y.1.isNone)) = false := by
    show ((false || rest.any (·.1)) || false) = false
    rw [hplain] <;> rfl
  simp only [hp]
  refine wpAny_bind (L.here ?_)
  have tail : ∀ {t : Sem Value}, wpAny M A t Q E s₁ → wpAny M A (t >>= fun r => holding [r] point >>= fun _ => pure r) Q E s₁ :=
    fun ht => wpAny_bind (thn ht fun r s₂ hr => wpAny_bind (wpAny_holding (wpAny_point (wpAny_pure hr))))
  have marked (mk : Value) : wpAny M A (callMarked mk f (first ++ vs) []) Q E s₁ := by
    unfold callMarked
    exact Calls.wpAny_keep h₁.2
  rcases hk' with rfl | rfl | rfl <;> dsimp only <;> first | exact tail h₁.2 | (split <;> first | exact tail h₁.2 | exact tail (marked _))
end
/-! ### judgements at the code -/
structure PEs (X : Cx) (body : List Stmt) (e : Expr) (t : TE) : Prop where
  run : ∀ (pins : List (Addr × Obj)) (s : Shared) (σ : L2.St) (H : Hp) (Q : VK), Inv X pins σ H s → t σ H Q → PySem.wpAt (model X.prog X.w) X.A (.func body X.env) (eval e X.env) (EP X pins σ Q) X.xe s
structure PAs (X : Cx) (body : List Stmt) (es : List Expr) (t : TA) : Prop where
  run : ∀ (pos : Pos) (pins : List (Addr × Obj)) (s : Shared) (σ : L2.St) (H : Hp) (Q : List V → Hp → Prop), Inv X pins σ H s → t σ H Q → PySem.wpAt (model X.prog X.w) X.A (.func body X.env) (spliced (backTo pos (starEach es X.env))) (AP X pins σ Q) X.xe s
structure PSa (X : Cx) (body : List Stmt) (st : Stmt) (t : TS) : Prop where
  run : ∀ (pins : List (Addr × Obj)) (s : Shared) (σ : L2.St) (H : Hp) (D : Ends), Inv X pins σ H s → t D σ H → PySem.wpAt (model X.prog X.w) X.A (.func body X.env) (exec st X.env) (SP X pins D) X.xe s
structure PSas (X : Cx) (body : List Stmt) (st : List Stmt) (t : TS) : Prop where
  run : ∀ (pins : List (Addr × Obj)) (s : Shared) (σ : L2.St) (H : Hp) (D : Ends), Inv X pins σ H s → t D σ H → PySem.wpAt (model X.prog X.w) X.A (.func body X.env) (execs st X.env) (SP X pins D) X.xe s
/-- super().m(e, ..): self is the slot 0 -/
def tSup (X : Cx) (CX : CXT) (k : Nat) (D : Addr) (m : Str) (E : XK) (t : TA) : TE := fun σ H Q => ∃ (C x dx : Addr) (fs : List (Str × V)) (f2 : Addr) (ps : List Str) (sp : Sp), σ[0]? = some (some (.ref x)) ∧ H x = some (.ins C dx fs) ∧ SuM X.K C D m f2 ∧
  OkA X.prog X.w X.K X.mg X.base CX k f2 ps sp ∧ t σ H fun vs H1 => sp (.ref x :: vs) H1 Q E
section
variable {X : Cx} {CX : CXT} {k : Nat} {D : Addr} {ps : List Str} {E : XK} {m : Str} {p0 p1 pos apos : Pos} {e o : Expr} {es : List Expr} {t : TA} {te ta : TE} {body : List Stmt} {st : Stmt} {rest : List Stmt} {ts tr : TS}
theorem PEs.of (h : PE X e te) : PEs X body e te := ⟨fun pins s σ H Q I q => wpAt_of (h.run pins s σ H Q I q)⟩
theorem PAs.of (h : PA X es t) : PAs X body es t := ⟨fun pos pins s σ H Q I q => wpAt_of (h.run pos pins s σ H Q I q)⟩
theorem PSa.of (h : PS X st ts) : PSa X body st ts := ⟨fun pins s σ H Q I q => wpAt_of (h.run pins s σ H Q I q)⟩
theorem PSas.of (h : PSs X rest ts) : PSas X body rest ts := ⟨fun pins s σ H Q I q => wpAt_of (h.run pins s σ H Q I q)⟩
/-- the bound def is called -/
theorem run_bound {pins : List (Addr × Obj)} {σ : L2.St} {H : Hp} {s : Shared} {Q : VK} {b x f2 : Addr} {sp : Sp} {us : List Value} {vs : List V} (O : OkA X.prog X.w X.K X.mg X.base CX k f2 ps sp) (hr : Room k X.A) (hx : Passes CX X E)
    (I : Inv X ((b, PySem.W.methodObj (.ref f2) (.ref x)) :: pins) σ H s) (r : Vals vs us) (h : sp (.ref x :: vs) H Q E) : wpAny (model X.prog X.w) X.A (call (.ref b) us) (EP X pins σ Q) X.xe s := by
  obtain ⟨fd, F, hb⟩ := O
  have r2 : Vals (V.ref x :: vs) (Value.ref x :: us) := .cons rfl r
  have hl : ((Value.ref x :: us) ++ ([] : List Value)).length = ps.length := by
    rw [List.append_nil, ← r2.length]
    exact F.len _ _ _ _ h
  have hp := I.pin (b, PySem.W.methodObj (.ref f2) (.ref x)) (List.mem_append_right _ List.mem_cons_self)
  have bb := hb s (Value.ref x :: us) I.kIn hl
  rw [List.append_nil] at bb
  refine wpAny_call (ks_codeAny_call_bound hp.1 (codeAny_mono (F.run X.A X.stack s H ⟨Value.ref x :: us, []⟩ (Value.ref x :: us) _ Q E hr I.env0 bb r2 h) fun r s' hq => ?_))
  have I0 : Inv X pins σ H s := I.pins_of fun p hp => I.pin p (List.mem_append_right _ (List.mem_cons_of_mem _ hp))
  cases r with
  | error e => exact hx pins σ H s e s' I0 hq
  | ok fl =>
    cases fl with
    | ret u => exact I0.after hq
    | next => exact False.elim hq
    | brk => exact False.elim hq
    | cont => exact False.elim hq
theorem pes_sup {pl : Sem Bool} (S : SuX X D) (hr : Room k X.A) (hx : Passes CX X E) (ha : PAs X body (e :: es) t) (hat : (m == ("__class__" : Str)) = false := by decide)
    (hst : starEach (e :: es) X.env = (false, eval e X.env) :: starEach es X.env := by rfl) (hpl : (backTo pos (starEach es X.env)).any (·.1) = false := by rfl)
    (he : eval (.Call (.Attribute (.Call (.Name "super" p0) [] [] p1) m apos) (e :: es) [] pos) X.env = (do
      let ov ← attributeBase (.Call (.Name "super" p0) [] [] p1) m X.env (eval (.Call (.Name "super" p0) [] [] p1) X.env)
      standAt apos.atName
      let (f, first) ← holding [ov] (getMethod ov m pl)
      callWith pos f first (backTo pos (starEach (e :: es) X.env)) []) := by rfl) :
    PEs X body (.Call (.Attribute (.Call (.Name "super" p0) [] [] p1) m apos) (e :: es) [] pos) (tSup X CX k D m E t) := by
  refine ⟨fun pins s σ H Q I h => ?_⟩
  obtain ⟨C, x, dx, fs, f2, ps, sp, hσ, hx0, M, O, h⟩ := h
  rw [he]
  refine PySem.wpAt_bind (sup_base S M I hσ hx0 hat fun h' hso kp => ?_)
  refine PySem.wpAt_bind (wpAt_of (wpAny_standAt ?_))
  refine PySem.wpAt_bind (wpAt_of (wpAny_holding (sup_meth M I hx0 hat hso kp fun b s1 I1 => ?_)))
  show PySem.wpAt _ _ _ (callWith pos (.ref b) [] (backTo pos (starEach (e :: es) X.env)) []) _ _ _
  have hq := ha.run pos _ s1 σ H _ I1 h
  rw [hst] at hq ⊢
  refine at_callWith (P := PySem.W.MethP X.K b f2 (.ref x)) hpl (PySem.W.keeps_M M.fn) (thnA hq fun us s2 ⟨vs, H2, I2, r, q2⟩ => ?_)
  exact ⟨⟨(I2.pin _ (List.mem_append_right _ List.mem_cons_self)).1, I2.kIn⟩, run_bound (us := us) O hr hx I2 r q2⟩
/-! ### statements -/
theorem psa_expr (h : PEs X body e te) (hs : swapsWith e none pos.line X.env = pure false := by rfl) : PSa X body (.Expr e pos) (tDrop te) := by
  refine ⟨fun pins s σ H D I q => ?_⟩
  exact ks_wpAt_Expr_any (thnA (h.run pins s σ H _ I q) fun v s1 ⟨x, H1, I1, r1, q1⟩ => ⟨σ, H1, I1, q1⟩) I.quiet hs
theorem psas_cons (h1 : PSa X body st ts) (h2 : PSas X body rest tr) : PSas X body (st :: rest) (tSeq ts tr) := by
  refine ⟨fun pins s σ H D I h => ?_⟩
  refine ks_wpAt_execs_cons (thnA (h1.run pins s σ H { D with nx := tr D } I h) fun f s1 q => ?_)
  cases f with
  | next =>
    obtain ⟨σ', H', I', q⟩ := q
    exact h2.run pins s1 σ' H' D I' q
  | ret v => exact q
  | brk => exact q
  | cont => exact q
end
end SupX

/-! The promise of a method whose text names super. -/
namespace SupX
open PySem PySem.Spec PyProof.Rows L2 My NdefX
/-- what is known of a def whose text names super: it stands in the class D, cc is its cell -/
structure SuF (K : PySem.W.Frag) (P : Program) (mg : Str → Option Value) (f : Addr) (F : NF) (D cc : Addr) (fd : FuncData) : Prop where
  fn : ∃ oc od dV kV doc pm an ct osl, K.lookup f = some ⟨oc, od, .func fd, osl⟩ ∧ fd = PySem.W.fnX F.name F.qual F.params F.body F.scope F.cl dV kV doc pm an (.ref F.c) ct
  code : PySem.W.codeIn K (.ref F.c) F.qual = true
  file : ∃ ccl cdd vs ccs file tf, K.lookup F.c = some ⟨ccl, cdd, .fields vs, ccs⟩ ∧ vs[2]? = some (.str file tf) ∧ (P.main.file == file) = true
  cl : F.cl = [(("__class__" : Str), cc)]
  cell : ∃ cl cld csl, K.lookup cc = some ⟨cl, cld, .cell (some (.ref D)), csl⟩
  cls : ∃ cd, PySem.W.clsIn K D = some cd
  main : (P.main.scope.names.lookup ("super" : Str)).isSome = false
  free : mg "super" = none
  sup : F.scope.names.lookup ("super" : Str) = some NameKind.globalImplicit
  cln : F.scope.names.lookup ("__class__" : Str) = some NameKind.free
  slf : ∃ ar, (F.params.posonlyargs ++ F.params.args).head? = some ar ∧ ar.arg = "self"
  slk : F.scope.names.lookup ("self" : Str) = some NameKind.local
section
variable {CX : CXT} {P : Program} {w : World} {K : PySem.W.Frag} {mg : Str → Option Value} {base : Heap} {N ps : List Str} {F : NF} {f D cc : Addr} {fd : FuncData} {k : Nat} {sp : Sp}
theorem SuF.x {A : Around} {outer : List Env} {s : Shared} {H : Hp} {E : XK} (S : SuF K P mg f F D cc fd) (hN : N[0]? = some ("self" : Str)) : SuX (ncx CX P w K mg base N F f A outer s H E) D := by
  obtain ⟨oc, od, dV, kV, doc, pm, an, ct, osl, hf, hd⟩ := S.fn
  obtain ⟨ar, har, hs⟩ := S.slf
  obtain ⟨ccl, cdd, vs, ccs, file, tf, h1, h2, h3⟩ := S.file
  obtain ⟨cl, cld, csl, hc⟩ := S.cell
  subst hd
  exact ⟨⟨f, oc, od, _, osl, ar, rfl, hf, har, hs⟩, ⟨F.c, ccl, cdd, vs, ccs, file, tf, rfl, h1, h2, h3⟩, ⟨cc, cl, cld, csl, by show F.cl.lookup _ = _; rw [S.cl]; rfl, hc⟩, S.cls, S.main, S.free, S.sup, S.cln, hN, S.slk⟩
theorem SuF.cells {s : Shared} {H : Hp} (S : SuF K P mg f F D cc fd) (kin : K.In base) (bs : ∀ b o, base.get? b = some o → s.heap.get? b = some o ∧ H b = none) : CellsAt F.cl ["__class__"] [some (.ref D)] s.heap H := by
  obtain ⟨cl, cld, csl, hc⟩ := S.cell
  have hb := bs _ _ (kin _ _ hc)
  have one : ∀ y c, F.cl.lookup y = some c → y = ("__class__" : Str) ∧ c = cc := fun y c e => by
    rw [S.cl] at e
    cases z : (y == ("__class__" : Str)) with
    | false =>
      rw [List.lookup_cons, z] at e
      cases e
    | true =>
      rw [List.lookup_cons, z] at e
      exact ⟨eq_of_beq z, (Option.some.inj e).symm⟩
  refine ⟨rfl, fun y c e => ?_, fun x y c e1 e2 => (one x c e1).1.trans (one y c e2).1.symm, fun i y e => ?_⟩
  · obtain ⟨_, rfl⟩ := one y c e
    exact ⟨hb.2, _, _, hb.1, rfl⟩
  · cases i with
    | zero =>
      obtain rfl : "__class__" = y := Option.some.inj e
      refine ⟨cc, by rw [S.cl]; rfl, fun v ev => ?_⟩
      obtain rfl : V.ref D = v := Option.some.inj (Option.some.inj ev)
      exact ⟨.ref D, rfl, _, hb.1, rfl⟩
    | succ i => cases i <;> cases e
theorem fnS_of (S : SuF K P mg f F D cc fd) (Sc : NScope N ps ["__class__"] F.scope) (len : ∀ vs H Q E, sp vs H Q E → vs.length = ps.length)
    (hbody : ∀ (A : Around) (outer : List Env) (s : Shared) (H : Hp) (vs : List V) (Q : VK) (E : XK), Room k (A.deeper (envF F f s.heap.objs.size)) → sp vs H Q E →
      ∃ t, PSas (ncx CX P w K mg base N F f A outer s H E) F.body F.body t ∧ t { nx := fun _ H' => Q .non H', rt := Q } (startF N vs [some (.ref D)]) H) :
    FnOk P w K mg base CX (k + 1) f fd ps sp := by
  refine ⟨len, fun A outer s H args us vs Q E hr e0 hbind r hsp => ?_⟩
  have hl := len _ _ _ _ hsp
  have kpb : ∀ b o, base.get? b = some o → s.heap.get? b = some o := fun b o e => (e0.bs b o e).1
  have lim : s.heap.NoLimit := e0.mod.nolimit.keeps kpb
  have KI : K.In s.heap := e0.mod.kin.keeps kpb
  have C := S.cells (s := s) (H := H) e0.mod.kin e0.bs
  obtain ⟨oc, od, dV, kV, doc, pm, an, ct, osl, hf, hd⟩ := S.fn
  subst hd
  refine ks_codeAny_call_defAt (body := F.body) hr.depth (KI _ _ hf) rfl lim (PySem.W.codeRec_of KI S.code) rfl hbind Sc.nocell (fun ⟨n, _⟩ hy => Sc.par n (List.of_mem_zip hy).1) (fun h₁ hns kp => ?_) Sc.co Sc.gen Sc.kind
  obtain ⟨t, ht, hq⟩ := hbody A outer s H vs Q E (hr.deeper _) hsp
  have I : Inv (ncx CX P w K mg base N F f A outer s H E) [] (startF N vs [some (.ref D)]) H { s with heap := h₁, toks := s.toks + (ps.zip us).length } := inv_startN Sc hr.hd e0 hl r C hns kp
  refine PySem.wpAt_mono (ht.run [] _ _ H _ I hq) (fun fl s' hs => ?_) fun e s' hs => hs
  have fin : ∀ {σ' : L2.St} {H' : Hp} {v : V} {u : Value}, Inv (ncx CX P w K mg base N F f A outer s H E) [] σ' H' s' → L2.RelV v u → Q v H' → CE outer P w H s Q u s' :=
    fun {σ' H' v u} J rv q => ⟨v, H', J.os, J.bare, J.base, J.hok, rv, q⟩
  cases fl with
  | ret u =>
    obtain ⟨v, σ', H', J, rv, q⟩ := hs
    exact fin J rv q
  | next =>
    obtain ⟨σ', H', J, q⟩ := hs
    exact fin (v := V.non) (u := Value.none) J rfl q
  | brk =>
    obtain ⟨_, _, _, q⟩ := hs
    exact False.elim q
  | cont =>
    obtain ⟨_, _, _, q⟩ := hs
    exact False.elim q
theorem okS_of (S : SuF K P mg f F D cc fd) (Sc : NScope N ps ["__class__"] F.scope) (hb : Binds K fd ps []) (len : ∀ vs H Q E, sp vs H Q E → vs.length = ps.length)
    (hbody : ∀ (A : Around) (outer : List Env) (s : Shared) (H : Hp) (vs : List V) (Q : VK) (E : XK), Room k (A.deeper (envF F f s.heap.objs.size)) → sp vs H Q E →
      ∃ t, PSas (ncx CX P w K mg base N F f A outer s H E) F.body F.body t ∧ t { nx := fun _ H' => Q .non H', rt := Q } (startF N vs [some (.ref D)]) H) :
    OkA P w K mg base CX (k + 1) f ps sp := ⟨fd, fnS_of S Sc len hbody, hb⟩
end
end SupX

/-! The head of a law whose classes have methods that name super: what is read off the heap behind the top. -/
namespace SupX
open PySem PySem.Spec PyProof.Rows L2 My NdefX
/-- what the text of such a def tells by itself -/
def suS (d : He.DefD) : Bool := decide (d.scope.names.lookup ("super" : Str) = some NameKind.globalImplicit) && (decide (d.scope.names.lookup ("__class__" : Str) = some NameKind.free) && (decide (d.scope.names.lookup ("self" : Str) = some NameKind.local) &&
  (match (d.params.posonlyargs ++ d.params.args).head? with
  | some ar => ar.arg == ("self" : Str)
  | _ => false)))
/-- the program's main part -/
structure Mn (P : Program) (fl : Str) : Prop where
  file : P.main.file = fl
  sup : (P.main.scope.names.lookup ("super" : Str)).isSome = false
theorem suF_of {K : PySem.W.Frag} {P : Program} {mg : Str → Option Value} {fl : Str} {d : He.DefD} (e : suW K (He.fAd K d.at_) = suV d) (c : suB fl K d = true) (z : suS d = true) (M : Mn P fl) (free : mg "super" = none) :
    ∃ (cc c : Addr) (kV doc pm : Value) (an : Option Addr) (ct : Value), SuF K P mg (He.fAd K d.at_) ⟨d.name, d.qual, d.params, d.body, d.scope, [(("__class__" : Str), cc)], c⟩ (He.ga K d.at_.1) cc
      (PySem.W.fnX d.name d.qual d.params d.body d.scope [(("__class__" : Str), cc)] .none kV doc pm an (.ref c) ct) ∧ KwdV K kV (d.kws K) := by
  obtain ⟨c1, c2⟩ := He.ba c
  unfold suS at z
  obtain ⟨z1, z⟩ := He.ba z
  obtain ⟨z2, z⟩ := He.ba z
  obtain ⟨z3, z4⟩ := He.ba z
  unfold suW at e
  cases q : K.lookup (He.fAd K d.at_) with
  | none =>
    rw [q] at c2
    cases c2
  | some o =>
    obtain ⟨oc, od, dt, osl⟩ := o
    rw [q] at c2 e
    cases dt with
    | func fd =>
      obtain ⟨n1, n2, n3, n4, n5, n6, n7, n8, n9, n10, n11, n12, n13, n14, n15⟩ := fd
      have e2 : (some (n1, n2, n3, n4, n5, n6, n7.map (·.1), n15) : SuW) = some (d.name, d.qual, d.params, .stmts d.body, d.scope, mainGlobals, [("__class__" : Str)], builtinsNs) := e
      simp only [Option.some.injEq, Prod.mk.injEq] at e2
      obtain ⟨h1, h2, h3, h4, h5, h6, h7, h8⟩ := e2
      subst h1 h2 h3 h4 h5 h6 h8
      have c3 : (noneB n8 && (PySem.W.codeIn K n13 d.qual && (fileB fl K n13 && (cellB K n7 (He.ga K d.at_.1) && He.kwdB K n9 (d.kws K))))) = true := c2
      obtain ⟨k1, k2⟩ := He.ba c3
      obtain ⟨k3, k4⟩ := He.ba k2
      obtain ⟨k5, k6⟩ := He.ba k4
      obtain ⟨k7, k8⟩ := He.ba k6
      cases n8 with
      | none =>
        obtain ⟨cc, rfl⟩ : ∃ cc, n7 = [(("__class__" : Str), cc)] := by
          cases n7 with
          | nil => exact absurd (congrArg List.length h7) (by decide)
          | cons p t =>
            cases t with
            | cons p2 t => exact absurd (congrArg List.length h7) (by simp)
            | nil =>
              obtain ⟨y, cc⟩ := p
              have h8 := List.head_eq_of_cons_eq h7
              exact ⟨cc, by rw [← h8]⟩
        cases n13 with
        | ref cd =>
          refine ⟨cc, cd, n9, n10, n11, n12, n14, ⟨⟨oc, od, .none, n9, n10, n11, n12, n14, osl, q, rfl⟩, k3, ?_, rfl, ?_, Option.isSome_iff_exists.mp c1, M.sup, free, of_decide_eq_true z1, of_decide_eq_true z2, ?_, of_decide_eq_true z3⟩, He.kwdB_ok k8⟩
          · unfold fileB at k5
            dsimp only at k5
            split at k5
            · rename_i ccl cdd vs ccs e1
              split at k5
              · rename_i file tf e3
                exact ⟨ccl, cdd, vs, ccs, file, tf, e1, e3, by rw [M.file]; exact k5⟩
              · cases k5
            · cases k5
          · unfold cellB at k7
            dsimp only at k7
            split at k7
            · rename_i cl cld D' csl e1
              obtain rfl := eq_of_beq k7
              exact ⟨cl, cld, csl, e1⟩
            · cases k7
          · split at z4
            · rename_i ar e1
              exact ⟨ar, e1, eq_of_beq z4⟩
            · cases z4
        | _ => cases k3
      | _ => cases k1
    | _ => cases c2
/-- the def's function, the cell and the code object where they are -/
abbrev mkF (d : He.DefD) (cc c : Addr) : NF := ⟨d.name, d.qual, d.params, d.body, d.scope, [(("__class__" : Str), cc)], c⟩
theorem OkA_mono {P : Program} {w : World} {K : PySem.W.Frag} {mg : Str → Option Value} {base : Heap} {CX : CXT} {j k : Nat} {f : Addr} {ps : List Str} {sp : Sp} (o : OkA P w K mg base CX j f ps sp) (h : j ≤ k) : OkA P w K mg base CX k f ps sp := by
  obtain ⟨fd, F, b⟩ := o
  exact ⟨fd, F.mono h, b⟩
/-- THE RULE for a method that names super -/
theorem okS {CX : CXT} {P : Program} {w : World} {K : PySem.W.Frag} {mg : Str → Option Value} {base : Heap} {N ps : List Str} {fl : Str} {d : He.DefD} {k : Nat} {sp : Sp} (e : suW K (He.fAd K d.at_) = suV d) (c : suB fl K d = true) (z : suS d = true) (M : Mn P fl) (free : mg "super" = none)
    (Sc : NScope N ps ["__class__"] d.scope) (hN : N[0]? = some ("self" : Str))
    (hb : ∀ (cc : Addr) (kV doc pm : Value) (an : Option Addr) (cdv ct : Value) (us : List Value), us.length = ps.length → bindArgs (PySem.W.fnX d.name d.qual d.params d.body d.scope [(("__class__" : Str), cc)] .none kV doc pm an cdv ct) ⟨us, []⟩ = pure (ps.zip us))
    (len : ∀ vs H Q E, sp vs H Q E → vs.length = ps.length)
    (hbody : ∀ (cc c : Addr) (A : Around) (outer : List Env) (s : Shared) (H : Hp) (vs : List V) (Q : VK) (E : XK), Room k (A.deeper (envF (mkF d cc c) (He.fAd K d.at_) s.heap.objs.size)) → SuX (ncx CX P w K mg base N (mkF d cc c) (He.fAd K d.at_) A outer s H E) (He.ga K d.at_.1) → sp vs H Q E →
      ∃ t, PSas (ncx CX P w K mg base N (mkF d cc c) (He.fAd K d.at_) A outer s H E) d.body d.body t ∧ t { nx := fun _ H' => Q .non H', rt := Q } (startF N vs [some (.ref (He.ga K d.at_.1))]) H) :
    OkA P w K mg base CX (k + 1) (He.fAd K d.at_) ps sp := by
  obtain ⟨cc, c, kV, doc, pm, an, ct, S, _⟩ := suF_of e c z M free
  exact okS_of S Sc (.all (hb cc kV doc pm an (.ref c) ct)) len fun A outer s H vs Q E hr hsp => hbody cc c A outer s H vs Q E hr (S.x hN) hsp
/-! ### the hook -/
abbrev NScope' (N ps : List Str) (sc : Scope) : Prop := NScope N ps [("__class__" : Str)] sc
theorem ss_at {K : PySem.W.Frag} {ss : List He.DefD} (h : ss.map (fun d => suW K (He.fAd K d.at_)) = ss.map suV) (i : Nat) {d : He.DefD} (e : ss[i]? = some d := by rfl) : suW K (He.fAd K d.at_) = suV d := by
  have e2 : (ss.map fun d => suW K (He.fAd K d.at_))[i]? = (ss.map suV)[i]? := by rw [h]
  rw [List.getElem?_map, List.getElem?_map, e] at e2
  exact Option.some.inj e2
theorem suM_of {K : PySem.W.Frag} {C D m : Str} {f : Addr} (h : smB K C D m f = true) : SuM K (He.ga K C) (He.ga K D) m f := by
  obtain ⟨h1, h⟩ := He.ba h
  obtain ⟨h2, h⟩ := He.ba h
  obtain ⟨h3, h⟩ := He.ba h
  obtain ⟨h4, h5⟩ := He.ba h
  exact ⟨of_decide_eq_true h1, He.eqO_ok h2, of_decide_eq_true h3, of_decide_eq_true h4, h5⟩
end SupX

/-! The four classes of reels: what they share (Fm), a reel of any of them (RL). -/
namespace SupX
open PySem PySem.Spec PyProof.Rows L2 My
theorem sam_p {K : PySem.W.Frag} {C : Str} {ms ps : List Str} (h : samB K C ms ps = true) {p : Str} (hp : p ∈ ps) : prA K (He.ga K C) p = prA K (He.ga K "Reel") p := of_decide_eq_true (List.all_eq_true.mp (He.ba h).2 p hp)
theorem sam_g {K : PySem.W.Frag} {C : Str} {ms ps : List Str} (h : samB K C ms ps = true) {p : Str} (hp : p ∈ ps) : gtA K (He.ga K C) p = gtA K (He.ga K "Reel") p := by
  unfold gtA
  rw [sam_p h hp]
theorem samE_at {K : PySem.W.Frag} {C : Str} {L : List (Str × Str)} (h : samE K C L = true) {m D : Str} (hm : (m, D) ∈ L) : He.ma K (He.ga K C) m = He.ma K (He.ga K D) m := of_decide_eq_true (List.all_eq_true.mp h (m, D) hm)
theorem meth_to {K : PySem.W.Frag} {C : Str} {L : List (Str × Str)} (h : samE K C L = true) {m D : Str} (hm : (m, D) ∈ L) (M : Meth K (He.ga K C) m (He.ma K (He.ga K C) m)) : Meth K (He.ga K C) m (He.ma K (He.ga K D) m) := by
  rw [← samE_at h hm]
  exact M
theorem prop_to {K : PySem.W.Frag} {C : Str} {ps : List Str} (h : samB K C [] ps = true) {p : Str} (hp : p ∈ ps) (M : PropOf K (He.ga K C) p (prA K (He.ga K C) p) (gtA K (He.ga K C) p)) : PropOf K (He.ga K C) p (prA K (He.ga K "Reel") p) (gtA K (He.ga K "Reel") p) := by
  rw [← sam_p h hp, ← sam_g h hp]
  exact M
theorem sameP_at {K : PySem.W.Frag} {C : Str} {L : List (Str × Str)} (h : sameP K C L = true) {m D : Str} (hm : (m, D) ∈ L) : prA K (He.ga K C) m = prA K (He.ga K D) m := of_decide_eq_true (List.all_eq_true.mp h (m, D) hm)
theorem prop_from {K : PySem.W.Frag} {C D : Addr} {p : Str} (h : prA K C p = prA K D p) (M : PropOf K C p (prA K C p) (gtA K C p)) : PropOf K C p (prA K D p) (gtA K D p) := by
  have e : gtA K C p = gtA K D p := by
    unfold gtA
    rw [h]
  rw [← h, ← e]
  exact M
theorem pset_from {K : PySem.W.Frag} {C D : Addr} {p : Str} (h : prA K C p = prA K D p) (M : PropSet K C p (prA K C p) (stA K C p)) : PropSet K C p (prA K D p) (stA K D p) := by
  have e : stA K C p = stA K D p := by
    unfold stA
    rw [h]
  rw [← h, ← e]
  exact M
/-- the name of the class: b is it ready, l is it logged -/
def clsN (b l : Bool) : Str := if l = true then (if b = true then "LoggedReadyReel" else "LoggedReel") else if b = true then "ReadyReel" else "Reel"
/-- a class of reels: b is it ready, l is it logged -/
structure Fm (K : PySem.W.Frag) (b l : Bool) (C : Addr) : Prop where
  c : Cls K C
  n_rings : NoAttr K C "rings"
  n_done : NoAttr K C "done"
  n_starts : NoAttr K C "starts"
  n_chosen : NoAttr K C "chosen"
  n_busy : NoAttr K C "busy"
  n_calls : l = true → NoAttr K C "calls"
  k_MOST_EDITS : ∃ u, Con K C "MOST_EDITS" (.int 60) u
  m_check_idle : Meth K C "check_idle" (He.ma K (He.ga K "Reel") "check_idle")
  m_settle : Meth K C "settle" (He.ma K (He.ga K "Reel") "settle")
  m_do_edit : Meth K C "do_edit" (He.ma K (He.ga K "Reel") "do_edit")
  m_edits : Meth K C "edits" (He.ma K (He.ga K "Reel") "edits")
  m_len : Meth K C "__len__" (He.ma K (He.ga K "Reel") "__len__")
  m_str : Meth K C "__str__" (He.ma K (He.ga K "Reel") "__str__")
  m_check_result : Meth K C "check_result" (He.ma K (He.ga K (if b = true then "ReadyReel" else "Reel")) "check_result")
  m_put : Meth K C "put" (He.ma K (He.ga K (if l = true then "LoggedReel" else "Reel")) "put")
  m_insert : Meth K C "insert" (He.ma K (He.ga K (if l = true then "LoggedReel" else "Reel")) "insert")
  m_remove : Meth K C "remove" (He.ma K (He.ga K (if l = true then "LoggedReel" else "Reel")) "remove")
  m_undo : Meth K C "undo" (He.ma K (He.ga K (if l = true then "LoggedReel" else "Reel")) "undo")
  i_ready : b = true → SuM K C (He.ga K "ReadyReel") "__init__" (He.ma K (He.ga K "Reel") "__init__")
  i_logged : l = true → SuM K C (He.ga K "LoggedReel") "__init__" (He.ma K (He.ga K (if b = true then "ReadyReel" else "Reel")) "__init__")
  i_both : b = true → l = true → SuM K C (He.ga K "LoggedReadyReel") "__init__" (He.ma K (He.ga K "LoggedReel") "__init__")
  s_put : l = true → SuM K C (He.ga K "LoggedReel") "put" (He.ma K (He.ga K "Reel") "put")
  s_insert : l = true → SuM K C (He.ga K "LoggedReel") "insert" (He.ma K (He.ga K "Reel") "insert")
  s_remove : l = true → SuM K C (He.ga K "LoggedReel") "remove" (He.ma K (He.ga K "Reel") "remove")
  s_undo : l = true → SuM K C (He.ga K "LoggedReel") "undo" (He.ma K (He.ga K "Reel") "undo")
  m_noted : l = true → Meth K C "noted" (He.ma K (He.ga K "LoggedReel") "noted")
  p_ring : PropOf K C "ring" (prA K (He.ga K "Reel") "ring") (gtA K (He.ga K "Reel") "ring")
  p_version : PropOf K C "version" (prA K (He.ga K "Reel") "version") (gtA K (He.ga K "Reel") "version")
  p_beginnings : PropOf K C "beginnings" (prA K (He.ga K "Reel") "beginnings") (gtA K (He.ga K "Reel") "beginnings")
  p_start : PropOf K C "start" (prA K (He.ga K "Reel") "start") (gtA K (He.ga K "Reel") "start")
  st_start : PropSet K C "start" (prA K (He.ga K "Reel") "start") (stA K (He.ga K "Reel") "start")
  p_log : l = true → PropOf K C "log" (prA K (He.ga K "LoggedReel") "log") (gtA K (He.ga K "LoggedReel") "log")
  m_eq : Meth K C "__eq__" (He.ma K (He.ga K "Reel") "__eq__")
  isC : IsiC K C
  mkC : Mk K C (He.ma K (He.ga K (clsN b l)) "__init__")
/-- with walk -/
structure FmW (K : PySem.W.Frag) (b l : Bool) (C : Addr) : Prop where
  m_walk : Meth K C "walk" (He.ma K (He.ga K "Reel") "walk")
/-- of which classes it is -/
structure FmK (K : PySem.W.Frag) (b l : Bool) (C : Addr) : Prop where
  kR : PySem.W.kitOne K (.ref C) (.ref (He.ga K "Reel")) = some true
  kB : PySem.W.kitOne K (.ref C) (.ref (He.ga K "ReadyReel")) = some b
  kL : PySem.W.kitOne K (.ref C) (.ref (He.ga K "LoggedReel")) = some l
/-- the fields behind the five: none, or the rows of the log -/
def ExL (K : PySem.W.Frag) (H : Hp) : Option (List PyData) → List (Str × V) → Prop
  | none, ex => ex = []
  | some L, ex => ∃ v, ex = [(("calls" : Str), v)] ∧ Dt K H v (.tuple L)
theorem ExL.none {K : PySem.W.Frag} {H : Hp} {lg : Option (List PyData)} {ex : List (Str × V)} {m : Str} (h : ExL K H lg ex) (hm : (m == ("calls" : Str)) = false) : ex.lookup m = none := by
  cases lg with
  | none =>
    have h : ex = [] := h
    rw [h]
    rfl
  | some L =>
    obtain ⟨v, rfl, _⟩ := h
    rw [List.lookup_cons, hm]
    rfl
theorem ExL.len {K : PySem.W.Frag} {H : Hp} {lg : Option (List PyData)} {ex : List (Str × V)} (h : ExL K H lg ex) : ex.length ≤ 1 := by
  cases lg with
  | none =>
    have h : ex = [] := h
    rw [h]
    decide
  | some L =>
    obtain ⟨v, rfl, _⟩ := h
    exact Nat.le_refl _
theorem ExL.lt {K : PySem.W.Frag} {H : Hp} {lg : Option (List PyData)} {ex : List (Str × V)} {a b c d e : Str × V} (h : ExL K H lg ex) : (a :: b :: c :: d :: e :: ex).length < 1000 := by
  have := h.len
  show ex.length + 5 < 1000
  omega
theorem ExL.kt {K : PySem.W.Frag} {H H' : Hp} {lg : Option (List PyData)} {ex : List (Str × V)} (h : ExL K H lg ex) (k : KT H H') : ExL K H' lg ex := by
  cases lg with
  | none => exact h
  | some L =>
    obtain ⟨v, e, d⟩ := h
    exact ⟨v, e, d.kt k⟩
/-- the reel of the class C at a; lg: the rows of its log, where it has one -/
def RL (K : PySem.W.Frag) (H : Hp) (a C : Addr) (lg : Option (List PyData)) (r : RS) : Prop := ∃ (dx : Addr) (vr vd vs : V) (ex : List (Str × V)), H a = some (.ins C dx (("rings", vr) :: ("done", vd) :: ("starts", vs) :: ("chosen", optV r.ch) :: ("busy", .bl r.b) :: ex)) ∧
  Dt K H vr (.tuple (r.rs.map rgD)) ∧ Dt K H vd (.tuple r.es) ∧ Dt K H vs (rgD r.ss) ∧ ExL K H lg ex
theorem RL.kt {K : PySem.W.Frag} {H H' : Hp} {a C : Addr} {lg : Option (List PyData)} {r : RS} (h : RL K H a C lg r) (k : KT H H') (e : ∀ C dx fs, H a = some (.ins C dx fs) → H' a = some (.ins C dx fs)) : RL K H' a C lg r := by
  obtain ⟨dx, vr, vd, vs, ex, h1, h2, h3, h4, h5⟩ := h
  exact ⟨dx, vr, vd, vs, ex, e _ _ _ h1, h2.kt k, h3.kt k, h4.kt k, h5.kt k⟩
theorem RL.same {K : PySem.W.Frag} {H H' : Hp} {a C : Addr} {lg : Option (List PyData)} {r : RS} (h : RL K H a C lg r) (k : Same H H') : RL K H' a C lg r := h.kt k.kt fun _ _ _ => k _ _
theorem RL.ro {K : PySem.W.Frag} {H : Hp} {a C : Addr} {r : RS} : RL K H a C none r ↔ RO K H a C r := by
  constructor
  · rintro ⟨dx, vr, vd, vs, ex, h1, h2, h3, h4, rfl⟩
    exact ⟨dx, vr, vd, vs, h1, h2, h3, h4⟩
  · rintro ⟨dx, vr, vd, vs, h1, h2, h3, h4⟩
    exact ⟨dx, vr, vd, vs, [], h1, h2, h3, h4, rfl⟩
/-- the balance of a row -/
abbrev balL (ns : List Int) : Int := bal ns
def RzL (K : PySem.W.Frag) (H : Hp) (x C : Addr) (lg : Option (List PyData)) (z : Rz) (Q : VK) (E : XK) : Prop := match z with
  | .bad c f => ∀ H' d, Same H H' → FldAt H' d f → E (.ref (He.ga K c)) d H'
  | .ok r => ∀ H', KX x H H' → RL K H' x C lg r → Q (.int (r.es.length : Int)) H'
theorem RzL.same {K : PySem.W.Frag} {H H1 : Hp} {x C : Addr} {lg : Option (List PyData)} {z : Rz} {Q : VK} {E : XK} (h : RzL K H x C lg z Q E) (s : Same H H1) : RzL K H1 x C lg z Q E := by
  cases z with
  | bad c f => exact fun H' d s' hf => h H' d (s.trans s') hf
  | ok r => exact fun H' k hR => h H' ((s.kx x).trans k) hR
end SupX

/-! Errors with the field balance whose context is known; what an edit, a batch, a call do to a reel of any of the four classes. -/
namespace PySem
namespace Xf_balance
open PySem.W PySem.Calls PyProof.Rows PySem.HandSPX
/-- a made error, its record in full -/
structure OwnMadeN (h h' : Heap) (e C d : Addr) (v : Value) : Prop where
  keep : ∀ b o, h.get? b = some o → h'.get? b = some o
  new : h.objs.size ≤ e
  obj : ∃ t : Addr, h'.get? e = some { cls := .ref C, dict := some d, data := .fields #[.ref t, .none, .none, .none, .bool false, .none] }
  dbig : h.objs.size ≤ d
  dne : d ≠ e
  ns : h'.Ns1 d (fun y => if y = "balance" then some v else none)
section
variable {prog : Program} {w : World} {A : Around} {E : Value → Shared → Prop} {R : Result → Shared → Prop} {s : Shared} {K : Frag} {mg : Str → Option Value} {C fI : Addr} {x0 q0 : Str} {B newId initId : String} {bmB : List Value}
theorem madeN (FB : ExcBaseFacts B newId initId bmB) (SF : StoreFacts B bmB "object.__setattr__" "object") (T : Txt K mg x0 q0 C fI newId bmB) {v : Value} (X : K.In s.heap) (hlim : s.heap.NoLimit) (hroom : A.depth + 1 < recursionLimit)
    (hq : ∀ h' tk e d, OwnMadeN s.heap h' e C d v → R (.ok (.ret (.ref e))) { s with heap := h', toks := tk }) :
    codeAny (model prog w) A (.call (.ref C) ⟨[v], []⟩) R s := by
  obtain ⟨nm, N, q, bs, bm, hdct, sn, sub, ab, col, dd, k0, k1, k2, k3, k5, hC, hbm⟩ := excInit_of X T.mkr
  obtain ⟨hp, g, dr, tk, os⟩ := s
  have k : ∀ b o, hp.get? b = some o → ((hp.push (kdv_tup [v])).push (excO C hp.objs.size)).get? b = some o := fun b o e => Heap.get?_push_of_some _ (Heap.get?_push_of_some _ e)
  have hget : ((hp.push (kdv_tup [v])).push (excO C hp.objs.size)).get? (hp.objs.size + 1) = some (excO C hp.objs.size) := by heap_get
  refine call_own FB hbm hC (looks_findIn X T.iC) (fun self => bind_fn X self T.tC) (one_size v) ?_
  refine init_end (s := ⟨(hp.push (kdv_tup [v])).push (excO C hp.objs.size), g, dr, tk, os⟩) SF T (X.keeps k) (hlim.keeps k) hget ?_ fun h' tk' dx ⟨k', hx, dn, dne, hns⟩ => ?_
  · show A.depth + 1 < recursionLimit
    exact hroom
  · have old : ∀ b o, hp.get? b = some o → h'.get? b = some o := fun b o e => k' b o (Nat.ne_of_lt (Nat.lt_succ_of_lt (Heap.lt_size e))) (k b o e)
    have z : hp.objs.size + 1 + 1 ≤ dx := by
      first
        | (simpa only [Heap.size_push] using dn)
        | exact dn
        | (have q := dn; rw [Heap.size_push, Heap.size_push] at q; exact q)
    exact ⟨rfl, hq h' tk' (hp.objs.size + 1) dx ⟨old, Nat.le_succ _, ⟨_, hx⟩, Nat.le_trans (Nat.le_trans (Nat.le_succ _) (Nat.le_succ _)) z, dne, hns⟩⟩
end
end Xf_balance
end PySem
namespace My
open PySem PySem.Spec PyProof.Rows L2
section
variable {X : Cx} {C fI : Addr} {x0 q0 : Str} {B newId initId : String} {bmB : List Value}
/-- x(e), its context None, its record of six fields -/
theorem pmk5_balance {a : Expr} {ta : TA} {p pos : Pos} (FB : ExcBaseFacts B newId initId bmB) (SF : StoreFacts B bmB "object.__setattr__" "object") (T : PySem.Xf_balance.Txt X.K X.mg x0 q0 C fI newId bmB) (hr : X.A.depth + 1 < recursionLimit) (ha : PA X [a] ta) (hg : Gl X x0 := by rfl) (hdb : (x0 == ("__debug__" : Str)) = false := by decide)
    (he : starEach (a :: []) X.env = (false, eval a X.env) :: starEach [] X.env := by rfl) (hpl : (backTo pos (starEach [] X.env)).any (·.1) = false := by rfl) :
    L2H.PMk5 X (.Call (.Name x0 p) [a] [] pos) (tMk_balance C ta) := by
  intro pins s σ H Q I h
  refine wpAny_Call_Name_kw (ld_glob I hg T.gC ?_ hdb)
  refine PySem.W.callWith_K (h₀ := X.base) I.ok.mod.kin T.kC (thn (ha.run pos pins s σ H _ I h) fun us s1 hh => ?_) he hpl
  obtain ⟨vs, H1, I1, r1, v, ev, q1⟩ := hh
  subst ev
  refine ⟨I1.kIn, ?_⟩
  cases r1 with
  | cons rv rn =>
    rename_i v' us'
    cases rn
    show wpAny _ _ (call (.ref C) [v']) _ _ _
    have hlim := I1.nolimit
    obtain ⟨hp, g, dr, tk, os⟩ := s1
    refine wpAny_call (PySem.Xf_balance.madeN FB SF T I1.kIn hlim hr fun h' tk' e d M => ?_)
    show L2N.MkP X pins σ Q (.ref e) ⟨h', g, dr, tk', os⟩ ∧ L2H.Six (.ref e) ⟨h', g, dr, tk', os⟩
    obtain ⟨t0, hoe⟩ := M.obj
    have hns := M.ns
    obtain ⟨G', g1, g2⟩ := restrict h' fun b => decide (b ≠ e)
    have gk : ∀ b, b ≠ e → G'.get? b = h'.get? b := fun b hb => g1 b (decide_eq_true hb)
    have ge : G'.get? e = none := g2 e (by simp)
    have old : ∀ b o, hp.get? b = some o → G'.get? b = some o := fun b o q => (gk b (Nat.ne_of_lt (Nat.lt_of_lt_of_le (Heap.lt_size q) M.new))).trans (M.keep b o q)
    have ob : ObjOk X.prog X.w (upd H1 d (.xd [(("balance" : Str), v)])) G' d (.xd [(("balance" : Str), v)]) :=
      ⟨_, hns.at (fun o q => (gk d M.dne).trans q), fun f => relO_balance rv f⟩
    have J : Inv X pins σ (upd H1 d (.xd [(("balance" : Str), v)])) ⟨G', g, dr, tk', os⟩ := I1.laid (t' := tk') old M.dbig ob
    refine ⟨⟨e, _, _, ⟨G', g, dr, tk', os⟩, _, .ref C, some d, rfl, J, fun b o q => ?_, ge, hoe, ⟨rfl, rfl, fun vs hv => ?_⟩, rfl, rfl, ?_, rfl, I1.bare, raises_own T.exC T.tyC, q1 d (I1.hok.fresh M.dbig)⟩, fun a oe vs ea hg2 hd2 => ?_⟩
    · by_cases hb : b = e
      · have q' : G'.get? b = some o := q
        rw [hb, ge] at q'; cases q'
      · exact (gk b hb).symm.trans q
    · cases hv
      rfl
    · rw [upd_ne (Ne.symm M.dne)]
      exact I1.hok.fresh M.new
    · cases ea
      have hg3 : h'.get? e = some oe := hg2
      rw [hoe] at hg3
      cases hg3
      cases hd2
      show (4 : Nat) < 6
      decide
theorem ps_raiseN_balance {a : Expr} {ta : TA} {W : WX} {p pos pos2 : Pos} {k : Nat} (hc : X.calm = true) (FB : ExcBaseFacts B newId initId bmB) (SF : StoreFacts B bmB "object.__setattr__" "object") (T : PySem.Xf_balance.Txt X.K X.mg x0 q0 C fI newId bmB) (hr : Room k X.A) (tk : L2N.Takes X W) (ha : PA X [a] ta) (hg : Gl X x0 := by rfl) (hdb : (x0 == ("__debug__" : Str)) = false := by decide)
    (he : starEach (a :: []) X.env = (false, eval a X.env) :: starEach [] X.env := by rfl) (hpl : (backTo pos (starEach [] X.env)).any (·.1) = false := by rfl) :
    PS X (.Raise (some (.Call (.Name x0 p) [a] [] pos)) none pos2) (tRaise_balance C W ta) := L2N.ps_raise hc tk (pmk5_balance FB SF T (by have := hr.dp; omega) ha hg hdb he hpl).pmk
end
end My
namespace SupX
open PySem PySem.Spec PyProof.Rows L2 My
end SupX

/-! super().m(e, .., k = v); methods that name super and have keyword-only parameters with defaults. -/
namespace SupX
open PySem PySem.Spec PyProof.Rows L2 My NdefX
section
variable {X : Cx} {CX : CXT} {k n : Nat} {D : Addr} {ps ks : List Str} {E : XK} {m : Str} {p0 p1 pos apos : Pos} {e o : Expr} {es : List Expr} {kws : List Keyword} {t tk : TA} {body : List Stmt}
end
end SupX

/-! What the laws say of an edit, with and without the condition on the balance. -/
namespace My
open PySem PySem.Spec PyProof.Rows L2
def kindN (b l : Bool) : Int := (if b = true then 1 else 0) + if l = true then 2 else 0
def lg0 (l : Bool) : Option (List PyData) := if l = true then some [] else none
def newR (ns : List Int) : RS := ⟨[ns], [], ofN (bgn ns), none, false⟩
theorem lg0_some (l : Bool) : (lg0 l).isSome = l := by
  cases l <;> rfl
end My
namespace SupX
open PySem PySem.Spec PyProof.Rows L2 My
/-- the class is chosen behind the derivation -/
theorem pe_ex {X : Cx} {ι : Type} {e : Expr} {t : ι → TE} (h : ∀ i, PE X e (t i)) : PE X e (fun σ H Q => ∃ i, t i σ H Q) := ⟨fun pins s σ H Q I hq => by
  obtain ⟨i, hq⟩ := hq
  exact (h i).run pins s σ H Q I hq⟩
end SupX

/-! == of instances of two own classes whose __eq__ is one and the same def. -/
namespace SupX
open PySem PySem.Spec PySem.W PyProof.Rows L2 My
section
variable {prog : Program} {w : World} {A : Around} {E : Value → Shared → Prop} {s : Shared} {K : Frag} {x y C D L f : Addr} {h₀ : Heap} {m : Str → Option Value} {ox oy : Obj} {od oe : Option Obj}
end
end SupX

/-! != of instances of own classes with an own __eq__ and object's __ne__. -/
namespace SupX
open PySem PySem.Spec PySem.W PyProof.Rows L2 My
section
variable {prog : Program} {w : World} {A : Around} {E : Value → Shared → Prop} {s : Shared} {K : Frag} {x y C D L f : Addr} {h₀ : Heap} {m : Str → Option Value} {ox oy : Obj} {od oe : Option Obj}
end
end SupX

/-! == and != of an instance of an own class and a value of a built-in type, in both orders. -/
namespace SupX
open PySem PySem.Spec PySem.W PyProof.Rows L2 My
open PySem.AutoSeq1 (wpAny_loadPart')
section
variable {h : Heap}
end
/-- a value of a built-in type -/
inductive Bv (K : Frag) (H : Hp) : V → String → Prop
  | non : Bv K H .non "NoneType"
  | bl (b : Bool) : Bv K H (.bl b) "bool"
  | int (i : Int) : Bv K H (.int i) "int"
  | str (x : Str) : Bv K H (.str x) "str"
  | lst {a : Addr} {xs : List V} : SqL K H a xs → Bv K H (.ref a) "list"
  | tup {a : Addr} {xs : List V} : SqT K H a xs → Bv K H (.ref a) "tuple"
  | dic {a : Addr} {kvs : List (Key × V)} : H a = some (.dK kvs) → Bv K H (.ref a) "dict"
theorem bv_dq {K : Frag} {H : Hp} {b : Bool} {v : V} {d : PyData} (h : Dq b K H v d) : ∃ T, Bv K H v T := by
  cases h with
  | non => exact ⟨_, .non⟩
  | bl x => exact ⟨_, .bl x⟩
  | int i => exact ⟨_, .int i⟩
  | str x => exact ⟨_, .str x⟩
  | lst h _ _ => exact ⟨_, .lst h⟩
  | tup h _ => exact ⟨_, .tup h⟩
  | dic _ h => exact ⟨_, .dic h⟩
section
variable {X : Cx} {pins : List (Addr × Obj)} {σ : L2.St} {H : Hp} {s : Shared} {A : Around} {E : Value → Shared → Prop} {v : V} {u : Value} {T : String}
end
section
variable {X : Cx} {CX : CXT} {k : Nat} {f : Addr} {ps : List Str} {sp : Sp} {E : XK}
end
end SupX

/-! list(enumerate(l)) of a list -/
namespace EnL
open PySem PySem.Calls PySem.Spec PyProof.Rows L2
section
variable {prog : Program} {w : World} {A : Around} {E : Value → Shared → Prop} {s : Shared} {e it l S : Addr} {items : Array Value} {i : Nat}
end
section
variable {prog : Program} {w : World} {A : Around} {s : Shared} {R : Result → Shared → Prop} {items : Array Value}
end
section
variable {prog : Program} {w : World} {A : Around} {E : Value → Shared → Prop} {s : Shared} {I it l : Addr} {items : Array Value}
end
section
variable {X : Cx} {pins : List (Addr × Obj)} {σ : L2.St} {H : Hp} {s : Shared} {h' : Heap}
end
end EnL

/-! class methods and static methods, called by the class's name; constants of a class, read by its name or through an instance -/
namespace My
open PySem PySem.Spec PyProof.Rows L2
/-- C.m is a static method -/
structure CStat (K : PySem.W.Frag) (C : Addr) (m : Str) (p g : Addr) : Prop where
  at_ : PySem.W.findCls K (.ref C) (.type "type") m = some (.get (.builtin "staticmethod.__get__") (.ref p) .none (.ref C))
  rc : ∃ rest, PySem.W.recIn K p "staticmethod" = some (.ref g :: rest)
  kp : PySem.W.keepIn K (.ref g) = true
theorem findB_ok {K : PySem.W.Frag} {x m : Str} {gid : String} (h : findB K x m gid = true) : PySem.W.findCls K (.ref (He.ga K x)) (.type "type") m = some (.get (.builtin gid) (.ref (prA K (He.ga K x) m)) .none (.ref (He.ga K x))) := by
  unfold findB at h
  split at h
  · rename_i b p c e
    obtain ⟨h1, h⟩ := He.ba h
    obtain ⟨h2, h3⟩ := He.ba h
    rw [e, of_decide_eq_true h1, of_decide_eq_true h2, of_decide_eq_true h3]
  · cases h
theorem cme_ok {K : PySem.W.Frag} {x m : Str} (h : cmeB K x m = true) : ClX.CMet K (He.ga K x) (.type "type") m (prA K (He.ga K x) m) (cmA K (He.ga K x) m) := by
  obtain ⟨h1, h⟩ := He.ba h
  obtain ⟨h2, h3⟩ := He.ba h
  refine ⟨findB_ok h1, ?_, h3⟩
  unfold cmA
  split at h2
  · rename_i a b e
    exact ⟨_, by rw [e]⟩
  · cases h2
theorem csm_ok {K : PySem.W.Frag} {x m : Str} (h : csmB K x m = true) : CStat K (He.ga K x) m (prA K (He.ga K x) m) (smA K (He.ga K x) m) := by
  obtain ⟨h1, h⟩ := He.ba h
  obtain ⟨h2, h3⟩ := He.ba h
  refine ⟨findB_ok h1, ?_, h3⟩
  unfold smA
  split at h2
  · rename_i a b e
    exact ⟨_, by rw [e]⟩
  · cases h2
theorem cmet_from {K : PySem.W.Frag} {C D : Addr} {p : Str} (h : prA K C p = prA K D p) (M : ClX.CMet K C (.type "type") p (prA K C p) (cmA K C p)) : ClX.CMet K C (.type "type") p (prA K D p) (cmA K D p) := by
  have e : cmA K C p = cmA K D p := by
    unfold cmA
    rw [h]
  rw [← h, ← e]
  exact M
theorem cstat_from {K : PySem.W.Frag} {C D : Addr} {p : Str} (h : prA K C p = prA K D p) (M : CStat K C p (prA K C p) (smA K C p)) : CStat K C p (prA K D p) (smA K D p) := by
  have e : smA K C p = smA K D p := by
    unfold smA
    rw [h]
  rw [← h, ← e]
  exact M
section
variable {X : Cx} {CX : CXT} {k : Nat} {C p g : Addr} {ps : List Str} {sp : Sp} {E : XK} {o e : Expr} {es : List Expr} {m : Str} {pos apos : Pos} {ta : TE} {t : TA}
/-- C.m(e, ..), m a class method -/
theorem calCM {pl : Sem Bool} (O : OkA X.prog X.w X.K X.mg X.base CX k g ps sp) (hr : Room k X.A) (hx : Passes CX X E) (r : ClX.CRead X.K C (.type "type")) (c : ClX.CMet X.K C (.type "type") m p g) (he : PE X o ta) (ha : PA X (e :: es) t)
    (hst : starEach (e :: es) X.env = (false, eval e X.env) :: starEach es X.env := by rfl) (hpl : (backTo pos (starEach es X.env)).any (·.1) = false := by rfl)
    (ht : eval (.Call (.Attribute o m apos) (e :: es) [] pos) X.env = (do
      let ov ← eval o X.env
      standAt apos.atName
      let (f, first) ← holding [ov] (getMethod ov m pl)
      callWith pos f first (backTo pos (starEach (e :: es) X.env)) (backToKw pos (keywordEach [] X.env))) := by rfl) :
    PE X (.Call (.Attribute o m apos) (e :: es) [] pos) (ClX.tCMeth C (fun vs H Q E => sp (vs ++ []) H Q E) E ta t) :=
  ClX.pe_cmeth he r c (okA_raw O) hr hx ha hst hpl ht
def tCStat (C : Addr) (sp : Sp) (E : XK) (ta : TE) (t : TA) : TE := fun σ H Q => ta σ H fun x H1 => x = .ref C ∧ t σ H1 fun ws H2 => sp ws H2 Q E
/-- C.m(e, ..), m a static method -/
theorem calCS {pl : Sem Bool} (O : OkA X.prog X.w X.K X.mg X.base CX k g ps sp) (hr : Room k X.A) (hx : Passes CX X E) (r : ClX.CRead X.K C (.type "type")) (c : CStat X.K C m p g) (he : PE X o ta) (ha : PA X (e :: es) t)
    (hst : starEach (e :: es) X.env = (false, eval e X.env) :: starEach es X.env := by rfl) (hpl : (backTo pos (starEach es X.env)).any (·.1) = false := by rfl)
    (ht : eval (.Call (.Attribute o m apos) (e :: es) [] pos) X.env = (do
      let ov ← eval o X.env
      standAt apos.atName
      let (f, first) ← holding [ov] (getMethod ov m pl)
      callWith pos f first (backTo pos (starEach (e :: es) X.env)) (backToKw pos (keywordEach [] X.env))) := by rfl) :
    PE X (.Call (.Attribute o m apos) (e :: es) [] pos) (tCStat C sp E ta t) := by
  obtain ⟨fd, F, b⟩ := O
  refine ⟨fun pins s σ H Q I h => ?_⟩
  refine PySem.W.methodCall_KW (pl := pl) (thn (he.run pins s σ H _ I h) fun u s1 ⟨x, H1, I1, rx, ex, q⟩ => ?_) ht
  subst ex
  obtain rfl : u = Value.ref C := rx
  obtain ⟨rest, hp⟩ := c.rc
  refine PySem.W.method_cls I1.kIn r.ga ?_
  refine PySem.W.cls_bind I1.kIn r.rd c.at_ ?_
  refine wpAny_call (PySem.W.sm_get (s := { s1 with toks := s1.toks + 1 }) I1.kIn hp (PySem.W.handed_on rfl ?_))
  have I2 := I1.tok (s1.toks + 1)
  refine PySem.W.callWith_K (h₀ := X.base) I2.ok.mod.kin c.kp (thn (ha.run pos pins _ σ H1 _ I2 q) fun us s2 ⟨vs, H2, I3, rv, q2⟩ => ?_) hst hpl
  refine ⟨I3.kIn, ?_⟩
  exact run_fn (ds := []) (dvs := []) F hr b .nil hx I3 rv (by rw [List.append_nil]; exact q2)
end
/-! ### constants -/
theorem cvn_ok {K : PySem.W.Frag} {x f : Str} {i : Int} (h : cvnB K x f i = true) : ∃ u, ClX.CVal K (He.ga K x) (.type "type") f (.int i) u := by
  unfold cvnB at h
  split at h
  · rename_i j t e
    rw [of_decide_eq_true h] at e
    exact ⟨_, e, ⟨t, rfl⟩⟩
  · cases h
theorem kwt_ok {K : PySem.W.Frag} {x f : Str} {ys : List Str} (h : kwtB K x f ys = true) : ∃ a : Addr, Con K (He.ga K x) f (.ref a) (.ref a) ∧ ∀ H : Hp, SqT K H a (ys.map V.str) := by
  obtain ⟨h1, h2⟩ := He.ba h
  split at h1
  · rename_i a e
    obtain ⟨h3, h4⟩ := He.ba h1
    exact ⟨a, ⟨e, rfl, of_decide_eq_true h4, by rw [Bool.not_eq_true'] at h2; exact h2⟩, fun H => tupA_ok h3 H⟩
  · cases h1
end My

/-! in and not in of a value of a built-in type and a list or tuple of texts -/
namespace SupX
open PySem PySem.Spec PySem.W PyProof.Rows L2 My
open PySem.AutoSeq1 (wpAny_loadPart')
open PySem.SeqAt
theorem sub_dict_str : isSubtype (.type "dict") (.type "str") = pure false := by rw [isSubtype_type]; kernel_rfl
theorem sub_str_dict : isSubtype (.type "str") (.type "dict") = pure false := by rw [isSubtype_type]; kernel_rfl
theorem str_dec_dict (b : Str) (u : Tok) (l : Addr) (o : Obj) (hc : o.cls = .type "dict") {es : Array DictEntry} {ep : Nat} (hd : o.data = .dict es ep) :
    Meets (Builtin.«str.__eq__» ⟨[.str b u, .ref l], []⟩) (fun _ R s => s.heap.get? l = some o ∧ R (.ok (.ret .notImplemented)) s) :=
  .of_wp fun prog w A R s h => by obtain ⟨cls, dd, data, sl⟩ := o; simp only at hc hd; subst hc hd; obtain ⟨hp, g, d, tk, os⟩ := s; obtain ⟨hl, h⟩ := h; have f1 := sub_dict_str; wp_walk using wpAny_loadPart' hl, wpAny_load hl; exact ⟨_, rfl, h⟩
theorem dict_dec_str (b : Str) (u : Tok) (l : Addr) (o : Obj) (hc : o.cls = .type "dict") {es : Array DictEntry} {ep : Nat} (hd : o.data = .dict es ep) :
    Meets (Builtin.«dict.__eq__» ⟨[.ref l, .str b u], []⟩) (fun _ R s => s.heap.get? l = some o ∧ R (.ok (.ret .notImplemented)) s) :=
  .of_wp fun prog w A R s h => by obtain ⟨cls, dd, data, sl⟩ := o; simp only at hc hd; subst hc hd; obtain ⟨hp, g, d, tk, os⟩ := s; obtain ⟨hl, h⟩ := h; have f1 := sub_str_dict; wp_walk using wpAny_loadPart' hl, wpAny_load hl; exact ⟨_, rfl, h⟩
section
variable {A : Around} {s : Shared}
theorem RcAt_str_dict {l : Addr} {o : Obj} (b : Str) (u : Tok) (ho : s.heap.get? l = some o) (hc : o.cls = .type "dict") {es : Array DictEntry} {ep : Nat} (hd : o.data = .dict es ep) (hu : A.units < cLine) : RcAt A s (.str b u) (.ref l) false := fun prog w E Q h => by
  exact rc_eq_decline_or (k := false) (typeIs_str s b u) ⟨_, ho, hc⟩ (by decide) sub_dict_str F.slot_str_eq F.slot_dict_eq_refl
    (fun _ hq => call_meets F.slot_str_eq (typeIs_str s b u) F.entry_str_eq (F.args_str_eq_2 _ _) (str_dec_dict b u l o hc hd) ⟨ho, hq⟩)
    (fun _ hq => call_meets F.slot_dict_eq_refl ⟨_, ho, hc⟩ F.entry_dict_eq (F.args_dict_eq_2 _ _) (dict_dec_str b u l o hc hd) ⟨ho, hq⟩)
    (fun _ hq => wpAny_of_eq (rfl : isSame (.str b u) (.ref l) = pure false) hq) (.inr hu) h
theorem EqAt_str_dict {l : Addr} {o : Obj} (b : Str) (u : Tok) (ho : s.heap.get? l = some o) (hc : o.cls = .type "dict") {es : Array DictEntry} {ep : Nat} (hd : o.data = .dict es ep) (hu : A.units < cLine) : EqAt A s (.str b u) (.ref l) false := fun prog w E Q h => by
  unfold eqBool
  refine wpAny_holding ?_
  refine wpAny_ite_split (fun hab => absurd (eq_of_beq hab) nofun) (fun _ => ?_)
  exact wpAny_bind (RcAt_str_dict b u ho hc hd hu prog w E _ (wpAny_truthy_bool h))
end
/-- x in a list or tuple of texts -/
def rInB (K : Frag) (neg : Bool) : R2 := fun x y H Q => ∃ (p : Addr) (ws : List Str) (T : String), y = .ref p ∧ (SqL K H p (ws.map V.str) ∨ SqT K H p (ws.map V.str)) ∧ Bv K H x T ∧ Q (.bl (if neg then !inV x (ws.map V.str) else inV x (ws.map V.str))) H
theorem flat_texts (ws : List Str) : (ws.map V.str).all flatV = true := by
  rw [List.all_eq_true]
  intro y hy
  obtain ⟨z, _, rfl⟩ := List.mem_map.mp hy
  rfl
section
variable {X : Cx} {pins : List (Addr × Obj)} {σ : L2.St} {H : Hp} {s : Shared} {v : Value} {x : V} {T : String}
theorem eqAt_bv {A : Around} (I : Inv X pins σ H s) (hv : Bv X.K H x T) (rx : RelV x v) (hu : A.units < cLine) {ws : List Str} {us : List Value} (r : Vals (ws.map V.str) us) : ∀ u ∈ us, EqAt A s u v (eqU x u) := by
  have flat : flatV x = true → ∀ u ∈ us, EqAt A s u v (eqU x u) := fun f => mem_eqAt rx f r (flat_texts ws)
  have texts_of : ∀ {ws : List Str} {us : List Value}, Vals (ws.map V.str) us → ∀ u ∈ us, ∃ b t, u = .str b t := by
    intro ws
    induction ws with
    | nil => intro us r u hu; cases r; cases hu
    | cons w ws ih =>
      intro us r u hu
      cases r with
      | cons a b =>
        rcases List.mem_cons.mp hu with z | z
        · obtain ⟨t, e⟩ := a
          exact ⟨_, t, z.trans e⟩
        · exact ih b u z
  cases hv with
  | non => exact flat rfl
  | bl b => exact flat rfl
  | int i => exact flat rfl
  | str z => exact flat rfl
  | lst h =>
    cases (show v = Value.ref _ from rx)
    obtain ⟨its, _, p, _⟩ := I.list h
    intro u hu'
    obtain ⟨b, t, rfl⟩ := texts_of r u hu'
    exact EqAt.str_list b t p.isList hu
  | tup h =>
    cases (show v = Value.ref _ from rx)
    obtain ⟨its, _, p, _⟩ := I.tuple h
    intro u hu'
    obtain ⟨b, t, rfl⟩ := texts_of r u hu'
    exact EqAt.str_tuple b t p hu
  | dic ea =>
    cases (show v = Value.ref _ from rx)
    obtain ⟨_, _, vs, _, p⟩ := (show ObjOk X.prog X.w H s.heap _ (.dK _) from I.hok _ _ ea)
    obtain ⟨o, es, ep, h1, h2, h3, _⟩ := p
    intro u hu'
    obtain ⟨b, t, rfl⟩ := texts_of r u hu'
    exact EqAt_str_dict b t h1 h2.1 h3 hu
theorem op_inB {neg : Bool} (hu : X.A.in1.units < cLine) : OpR X (compareOp (if neg then .NotIn else .In)) (rInB X.K neg) := by
  intro pins s σ H x y v u Q I rx ry h
  obtain ⟨p, ws, T, rfl, hq, hb, q⟩ := h
  cases ry
  have key : ∀ {its : List Value}, Vals (ws.map V.str) its → (its.toArray.any (eqU x)) = inV x (ws.map V.str) := fun {its} r => by
    rw [show its.toArray.any (eqU x) = its.any (eqU x) by simp, any_eqU r (flat_texts ws)]
    rfl
  cases neg with
  | true =>
    rcases hq with hq | hq
    · obtain ⟨its, r, pl, hz⟩ := I.list hq
      refine SeqAt.notIn_listAt (eqU x) pl.isList (fun w hw => eqAt_bv I hb rx hu r w (by simpa using hw)) ⟨.bl _, H, I, rfl, ?_⟩
      rw [key r]
      exact q
    · obtain ⟨its, r, pl, hz⟩ := I.tuple hq
      refine SeqAt.notIn_tupleAt (eqU x) pl (fun w hw => eqAt_bv I hb rx hu r w (by simpa using hw)) ⟨.bl _, H, I, rfl, ?_⟩
      rw [key r]
      exact q
  | false =>
    rcases hq with hq | hq
    · obtain ⟨its, r, pl, hz⟩ := I.list hq
      refine SeqAt.in_listAt (eqU x) pl.isList (fun w hw => eqAt_bv I hb rx hu r w (by simpa using hw)) ⟨.bl _, H, I, rfl, ?_⟩
      rw [key r]
      exact q
    · obtain ⟨its, r, pl, hz⟩ := I.tuple hq
      refine SeqAt.in_tupleAt (eqU x) pl (fun w hw => eqAt_bv I hb rx hu r w (by simpa using hw)) ⟨.bl _, H, I, rfl, ?_⟩
      rw [key r]
      exact q
theorem op_notInB (hu : X.A.in1.units < cLine) : OpR X (compareOp .NotIn) (rInB X.K true) := op_inB (neg := true) hu
end
end SupX


namespace K62
open PySem PySem.Spec PyProof.Rows My
open L2 hiding TupI
theorem sc_is_plain_integer : FnScope N_is_plain_integer ["value"] (defScope s_is_plain_integer) := ⟨rfl, rfl, rfl, by decide +kernel, rfl, by decide +kernel, by decide +kernel⟩
theorem sc_is_index : FnScope N_is_index ["value", "many"] (defScope s_is_index) := ⟨rfl, rfl, rfl, by decide +kernel, rfl, by decide +kernel, by decide +kernel⟩
theorem sc_is_arity : FnScope N_is_arity ["value"] (defScope s_is_arity) := ⟨rfl, rfl, rfl, by decide +kernel, rfl, by decide +kernel, by decide +kernel⟩
theorem sc_ring_error : FnScope N_ring_error ["value"] (defScope s_ring_error) := ⟨rfl, rfl, rfl, by decide +kernel, rfl, by decide +kernel, by decide +kernel⟩
theorem sc_check_place : FnScope N_check_place ["ring", "place"] (defScope s_check_place) := ⟨rfl, rfl, rfl, by decide +kernel, rfl, by decide +kernel, by decide +kernel⟩
theorem sc_balance : FnScope N_balance ["row"] (defScope s_balance) := ⟨rfl, rfl, rfl, by decide +kernel, rfl, by decide +kernel, by decide +kernel⟩
theorem sc_turned : FnScope N_turned ["ring", "place"] (defScope s_turned) := ⟨rfl, rfl, rfl, by decide +kernel, rfl, by decide +kernel, by decide +kernel⟩
theorem sc_heights : FnScope N_heights ["ring", "place"] (defScope s_heights) := ⟨rfl, rfl, rfl, by decide +kernel, rfl, by decide +kernel, by decide +kernel⟩
theorem sc_need : FnScope N_need ["ring", "place"] (defScope s_need) := ⟨rfl, rfl, rfl, by decide +kernel, rfl, by decide +kernel, by decide +kernel⟩
theorem sc_is_beginning : FnScope N_is_beginning ["ring", "place"] (defScope s_is_beginning) := ⟨rfl, rfl, rfl, by decide +kernel, rfl, by decide +kernel, by decide +kernel⟩
theorem sc_beginnings : FnScope N_beginnings ["ring"] (defScope s_beginnings) := ⟨rfl, rfl, rfl, by decide +kernel, rfl, by decide +kernel, by decide +kernel⟩
theorem sc_parse_ring : FnScope N_parse_ring ["text"] (defScope s_parse_ring) := ⟨rfl, rfl, rfl, by decide +kernel, rfl, by decide +kernel, by decide +kernel⟩
theorem sc_Reel_init : FnScope N_Reel_init ["self", "ring"] (defScope s_Reel_init) := ⟨rfl, rfl, rfl, by decide +kernel, rfl, by decide +kernel, by decide +kernel⟩
theorem sc_Reel_read : FnScope N_Reel_read ["cls", "text"] (defScope s_Reel_read) := ⟨rfl, rfl, rfl, by decide +kernel, rfl, by decide +kernel, by decide +kernel⟩
theorem sc_Reel_is_edit : FnScope N_Reel_is_edit ["value"] (defScope s_Reel_is_edit) := ⟨rfl, rfl, rfl, by decide +kernel, rfl, by decide +kernel, by decide +kernel⟩
theorem sc_Reel_ring : FnScope N_Reel_ring ["self"] (defScope s_Reel_ring) := ⟨rfl, rfl, rfl, by decide +kernel, rfl, by decide +kernel, by decide +kernel⟩
theorem sc_Reel_version : FnScope N_Reel_version ["self"] (defScope s_Reel_version) := ⟨rfl, rfl, rfl, by decide +kernel, rfl, by decide +kernel, by decide +kernel⟩
theorem sc_Reel_beginnings : FnScope N_Reel_beginnings ["self"] (defScope s_Reel_beginnings) := ⟨rfl, rfl, rfl, by decide +kernel, rfl, by decide +kernel, by decide +kernel⟩
theorem sc_Reel_start : FnScope N_Reel_start ["self"] (defScope s_Reel_start) := ⟨rfl, rfl, rfl, by decide +kernel, rfl, by decide +kernel, by decide +kernel⟩
theorem sc_Reel_check_result : FnScope N_Reel_check_result ["self", "ring"] (defScope s_Reel_check_result) := ⟨rfl, rfl, rfl, by decide +kernel, rfl, by decide +kernel, by decide +kernel⟩
theorem sc_Reel_edits : FnScope N_Reel_edits ["self"] (defScope s_Reel_edits) := ⟨rfl, rfl, rfl, by decide +kernel, rfl, by decide +kernel, by decide +kernel⟩
theorem sc_Reel_walk : GScope N_Reel_walk ["self"] (defScope s_Reel_walk) := ⟨rfl, rfl, rfl, by decide +kernel, rfl, by decide +kernel, by decide +kernel⟩
theorem sc_ReadyReel_init : SupX.NScope' N_ReadyReel_init ["self", "ring"] (defScope s_ReadyReel_init) := NdefX.nscope_by (by decide +kernel)
theorem sc_ReadyReel_check_result : FnScope N_ReadyReel_check_result ["self", "ring"] (defScope s_ReadyReel_check_result) := ⟨rfl, rfl, rfl, by decide +kernel, rfl, by decide +kernel, by decide +kernel⟩
theorem sc_LoggedReel_init : SupX.NScope' N_LoggedReel_init ["self", "ring"] (defScope s_LoggedReel_init) := NdefX.nscope_by (by decide +kernel)
theorem sc_LoggedReadyReel_init : SupX.NScope' N_LoggedReadyReel_init ["self", "ring"] (defScope s_LoggedReadyReel_init) := NdefX.nscope_by (by decide +kernel)
theorem sc__law_stream : FnScope N__law_stream ["_law_script"] (defScope s__law_stream) := ⟨rfl, rfl, rfl, by decide +kernel, rfl, by decide +kernel, by decide +kernel⟩
theorem sc__law_draw : FnScope N__law_draw ["_law_stream_here", "_law_many"] (defScope s__law_draw) := ⟨rfl, rfl, rfl, by decide +kernel, rfl, by decide +kernel, by decide +kernel⟩
theorem sc__law_pick : FnScope N__law_pick ["_law_stream_here", "_law_items"] (defScope s__law_pick) := ⟨rfl, rfl, rfl, by decide +kernel, rfl, by decide +kernel, by decide +kernel⟩
theorem sc__law_whole : FnScope N__law_whole ["_law_value", "_law_low", "_law_high"] (defScope s__law_whole) := ⟨rfl, rfl, rfl, by decide +kernel, rfl, by decide +kernel, by decide +kernel⟩
theorem sc__law_ring : FnScope N__law_ring ["_law_stream_here", "_law_most"] (defScope s__law_ring) := ⟨rfl, rfl, rfl, by decide +kernel, rfl, by decide +kernel, by decide +kernel⟩
theorem sc__law_odd : FnScope N__law_odd ["_law_stream_here"] (defScope s__law_odd) := ⟨rfl, rfl, rfl, by decide +kernel, rfl, by decide +kernel, by decide +kernel⟩
theorem sc__law_missing : FnScope N__law_missing ["_law_row"] (defScope s__law_missing) := ⟨rfl, rfl, rfl, by decide +kernel, rfl, by decide +kernel, by decide +kernel⟩
theorem sc__law_from : FnScope N__law_from ["_law_ring_here", "_law_place"] (defScope s__law_from) := ⟨rfl, rfl, rfl, by decide +kernel, rfl, by decide +kernel, by decide +kernel⟩
theorem sc__law_begins : FnScope N__law_begins ["_law_ring_here"] (defScope s__law_begins) := ⟨rfl, rfl, rfl, by decide +kernel, rfl, by decide +kernel, by decide +kernel⟩
theorem sc__law_name : FnScope N__law_name ["_law_error"] (defScope s__law_name) := ⟨rfl, rfl, rfl, by decide +kernel, rfl, by decide +kernel, by decide +kernel⟩
theorem sc__law_field : FnScope N__law_field ["_law_error"] (defScope s__law_field) := ⟨rfl, rfl, rfl, by decide +kernel, rfl, by decide +kernel, by decide +kernel⟩
theorem sc__law_made : FnScope N__law_made ["_law_kind", "_law_ring_here"] (defScope s__law_made) := ⟨rfl, rfl, rfl, by decide +kernel, rfl, by decide +kernel, by decide +kernel⟩
theorem sc__law_reason : FnScope N__law_reason ["_law_value"] (defScope s__law_reason) := ⟨rfl, rfl, rfl, by decide +kernel, rfl, by decide +kernel, by decide +kernel⟩
theorem sc__law_read : FnScope N__law_read ["_law_kind", "_law_text"] (defScope s__law_read) := ⟨rfl, rfl, rfl, by decide +kernel, rfl, by decide +kernel, by decide +kernel⟩
theorem sc__law_found : FnScope N__law_found ["_law_kind", "_law_value", "_law_is_text"] (defScope s__law_found) := ⟨rfl, rfl, rfl, by decide +kernel, rfl, by decide +kernel, by decide +kernel⟩
theorem sc__law_due : FnScope N__law_due ["_law_kind", "_law_ring_here"] (defScope s__law_due) := ⟨rfl, rfl, rfl, by decide +kernel, rfl, by decide +kernel, by decide +kernel⟩
theorem sc__law_parsed : FnScope N__law_parsed ["_law_text"] (defScope s__law_parsed) := ⟨rfl, rfl, rfl, by decide +kernel, rfl, by decide +kernel, by decide +kernel⟩
theorem sc__law_is_edit : FnScope N__law_is_edit ["_law_value"] (defScope s__law_is_edit) := ⟨rfl, rfl, rfl, by decide +kernel, rfl, by decide +kernel, by decide +kernel⟩
theorem sc_law : FnScope N_law ["_law_script"] (defScope s_law) := ⟨rfl, rfl, rfl, by decide +kernel, rfl, by decide +kernel, by decide +kernel⟩
theorem hMn : SupX.Mn P mf := ⟨rfl, by decide +kernel⟩
theorem z_ReadyReel_init : SupX.suS d_ReadyReel_init = true := by decide +kernel
theorem z_LoggedReel_init : SupX.suS d_LoggedReel_init = true := by decide +kernel
theorem z_LoggedReadyReel_init : SupX.suS d_LoggedReadyReel_init = true := by decide +kernel
structure Tx (K : PySem.W.Frag) (mg : Str → Option Value) : Prop where
  at_ : ∃ h : Heap, K.In h ∧ h.Ns mainGlobals mg
  c : He.SaysD fa fn K
  ex2 : (exq K && gB K gs) = true
  gv : gs.map (fun q => fnA K (gAt K q)) = gs.map fun q => q.2.2.val
  sv : ss.map (fun d => SupX.suW K (He.fAd K d.at_)) = ss.map SupX.suV
theorem Tx.ex {K : PySem.W.Frag} {mg : Str → Option Value} (T : Tx K mg) : exq K = true := (He.ba T.ex2).1
section
variable {K : PySem.W.Frag} {mg : Str → Option Value}
theorem Tx.F_Reel_init (T : Tx K mg) : ∃ fd, FunD K "__init__" "Reel.__init__" (defArgs s_Reel_init) (defBody s_Reel_init) (defScope s_Reel_init) [] [] (He.ma K (He.ga K "Reel") "__init__") fd := T.c.def_ 31 (d := d_Reel_init) rfl
theorem Tx.F_Reel_check_result (T : Tx K mg) : ∃ fd, FunD K "check_result" "Reel.check_result" (defArgs s_Reel_check_result) (defBody s_Reel_check_result) (defScope s_Reel_check_result) [] [] (He.ma K (He.ga K "Reel") "check_result") fd := T.c.def_ 33 (d := d_Reel_check_result) rfl
theorem Tx.F_Reel_edits (T : Tx K mg) : ∃ fd, FunD K "edits" "Reel.edits" (defArgs s_Reel_edits) (defBody s_Reel_edits) (defScope s_Reel_edits) [] [] (He.ma K (He.ga K "Reel") "edits") fd := T.c.def_ 40 (d := d_Reel_edits) rfl
theorem Tx.F_Reel_walk (T : Tx K mg) : ∃ fd, FunD K "walk" "Reel.walk" (defArgs s_Reel_walk) (defBody s_Reel_walk) (defScope s_Reel_walk) [] [] (He.ma K (He.ga K "Reel") "walk") fd := T.c.def_ 41 (d := d_Reel_walk) rfl
theorem Tx.F_ReadyReel_check_result (T : Tx K mg) : ∃ fd, FunD K "check_result" "ReadyReel.check_result" (defArgs s_ReadyReel_check_result) (defBody s_ReadyReel_check_result) (defScope s_ReadyReel_check_result) [] [] (He.ma K (He.ga K "ReadyReel") "check_result") fd := T.c.def_ 45 (d := d_ReadyReel_check_result) rfl
theorem Tx.F_Reel_read (T : Tx K mg) : ∃ fd, FunD K "read" "Reel.read" (defArgs s_Reel_read) (defBody s_Reel_read) (defScope s_Reel_read) [] [] (cmA K (He.ga K "Reel") "read") fd := getter_ok (He.ba T.ex2).2 T.gv 0
theorem Tx.F_Reel_is_edit (T : Tx K mg) : ∃ fd, FunD K "is_edit" "Reel.is_edit" (defArgs s_Reel_is_edit) (defBody s_Reel_is_edit) (defScope s_Reel_is_edit) [] [] (smA K (He.ga K "Reel") "is_edit") fd := getter_ok (He.ba T.ex2).2 T.gv 1
theorem Tx.F_Reel_ring (T : Tx K mg) : ∃ fd, FunD K "ring" "Reel.ring" (defArgs s_Reel_ring) (defBody s_Reel_ring) (defScope s_Reel_ring) [] [] (gtA K (He.ga K "Reel") "ring") fd := getter_ok (He.ba T.ex2).2 T.gv 2
theorem Tx.F_Reel_version (T : Tx K mg) : ∃ fd, FunD K "version" "Reel.version" (defArgs s_Reel_version) (defBody s_Reel_version) (defScope s_Reel_version) [] [] (gtA K (He.ga K "Reel") "version") fd := getter_ok (He.ba T.ex2).2 T.gv 3
theorem Tx.F_Reel_beginnings (T : Tx K mg) : ∃ fd, FunD K "beginnings" "Reel.beginnings" (defArgs s_Reel_beginnings) (defBody s_Reel_beginnings) (defScope s_Reel_beginnings) [] [] (gtA K (He.ga K "Reel") "beginnings") fd := getter_ok (He.ba T.ex2).2 T.gv 4
theorem Tx.F_Reel_start (T : Tx K mg) : ∃ fd, FunD K "start" "Reel.start" (defArgs s_Reel_start) (defBody s_Reel_start) (defScope s_Reel_start) [] [] (gtA K (He.ga K "Reel") "start") fd := getter_ok (He.ba T.ex2).2 T.gv 5
theorem Tx.F_is_plain_integer (T : Tx K mg) : ∃ fd, FunD K "is_plain_integer" "is_plain_integer" (defArgs s_is_plain_integer) (defBody s_is_plain_integer) (defScope s_is_plain_integer) [] [] (He.ga K "is_plain_integer") fd := T.c.def_ 11 (d := d_is_plain_integer) rfl
theorem Tx.F_is_index (T : Tx K mg) : ∃ fd, FunD K "is_index" "is_index" (defArgs s_is_index) (defBody s_is_index) (defScope s_is_index) [] [] (He.ga K "is_index") fd := T.c.def_ 12 (d := d_is_index) rfl
theorem Tx.F_is_arity (T : Tx K mg) : ∃ fd, FunD K "is_arity" "is_arity" (defArgs s_is_arity) (defBody s_is_arity) (defScope s_is_arity) [] [] (He.ga K "is_arity") fd := T.c.def_ 13 (d := d_is_arity) rfl
theorem Tx.F_ring_error (T : Tx K mg) : ∃ fd, FunD K "ring_error" "ring_error" (defArgs s_ring_error) (defBody s_ring_error) (defScope s_ring_error) [] [] (He.ga K "ring_error") fd := T.c.def_ 14 (d := d_ring_error) rfl
theorem Tx.F_check_place (T : Tx K mg) : ∃ fd, FunD K "check_place" "check_place" (defArgs s_check_place) (defBody s_check_place) (defScope s_check_place) [] [] (He.ga K "check_place") fd := T.c.def_ 15 (d := d_check_place) rfl
theorem Tx.F_balance (T : Tx K mg) : ∃ fd, FunD K "balance" "balance" (defArgs s_balance) (defBody s_balance) (defScope s_balance) [] [] (He.ga K "balance") fd := T.c.def_ 16 (d := d_balance) rfl
theorem Tx.F_turned (T : Tx K mg) : ∃ fd, FunD K "turned" "turned" (defArgs s_turned) (defBody s_turned) (defScope s_turned) [] [] (He.ga K "turned") fd := T.c.def_ 17 (d := d_turned) rfl
theorem Tx.F_heights (T : Tx K mg) : ∃ fd, FunD K "heights" "heights" (defArgs s_heights) (defBody s_heights) (defScope s_heights) [] [] (He.ga K "heights") fd := T.c.def_ 18 (d := d_heights) rfl
theorem Tx.F_need (T : Tx K mg) : ∃ fd, FunD K "need" "need" (defArgs s_need) (defBody s_need) (defScope s_need) [] [] (He.ga K "need") fd := T.c.def_ 19 (d := d_need) rfl
theorem Tx.F_is_beginning (T : Tx K mg) : ∃ fd, FunD K "is_beginning" "is_beginning" (defArgs s_is_beginning) (defBody s_is_beginning) (defScope s_is_beginning) [] [] (He.ga K "is_beginning") fd := T.c.def_ 20 (d := d_is_beginning) rfl
theorem Tx.F_beginnings (T : Tx K mg) : ∃ fd, FunD K "beginnings" "beginnings" (defArgs s_beginnings) (defBody s_beginnings) (defScope s_beginnings) [] [] (He.ga K "beginnings") fd := T.c.def_ 21 (d := d_beginnings) rfl
theorem Tx.F_parse_ring (T : Tx K mg) : ∃ fd, FunD K "parse_ring" "parse_ring" (defArgs s_parse_ring) (defBody s_parse_ring) (defScope s_parse_ring) [] [] (He.ga K "parse_ring") fd := T.c.def_ 30 (d := d_parse_ring) rfl
theorem Tx.F__law_stream (T : Tx K mg) : ∃ fd, FunD K "_law_stream" "_law_stream" (defArgs s__law_stream) (defBody s__law_stream) (defScope s__law_stream) [] [] (He.ga K "_law_stream") fd := T.c.def_ 47 (d := d__law_stream) rfl
theorem Tx.F__law_draw (T : Tx K mg) : ∃ fd, FunD K "_law_draw" "_law_draw" (defArgs s__law_draw) (defBody s__law_draw) (defScope s__law_draw) [] [] (He.ga K "_law_draw") fd := T.c.def_ 48 (d := d__law_draw) rfl
theorem Tx.F__law_pick (T : Tx K mg) : ∃ fd, FunD K "_law_pick" "_law_pick" (defArgs s__law_pick) (defBody s__law_pick) (defScope s__law_pick) [] [] (He.ga K "_law_pick") fd := T.c.def_ 49 (d := d__law_pick) rfl
theorem Tx.F__law_whole (T : Tx K mg) : ∃ fd, FunD K "_law_whole" "_law_whole" (defArgs s__law_whole) (defBody s__law_whole) (defScope s__law_whole) [] [] (He.ga K "_law_whole") fd := T.c.def_ 50 (d := d__law_whole) rfl
theorem Tx.F__law_ring (T : Tx K mg) : ∃ fd, FunD K "_law_ring" "_law_ring" (defArgs s__law_ring) (defBody s__law_ring) (defScope s__law_ring) [] [] (He.ga K "_law_ring") fd := T.c.def_ 51 (d := d__law_ring) rfl
theorem Tx.F__law_odd (T : Tx K mg) : ∃ fd, FunD K "_law_odd" "_law_odd" (defArgs s__law_odd) (defBody s__law_odd) (defScope s__law_odd) [] [] (He.ga K "_law_odd") fd := T.c.def_ 52 (d := d__law_odd) rfl
theorem Tx.F__law_missing (T : Tx K mg) : ∃ fd, FunD K "_law_missing" "_law_missing" (defArgs s__law_missing) (defBody s__law_missing) (defScope s__law_missing) [] [] (He.ga K "_law_missing") fd := T.c.def_ 53 (d := d__law_missing) rfl
theorem Tx.F__law_from (T : Tx K mg) : ∃ fd, FunD K "_law_from" "_law_from" (defArgs s__law_from) (defBody s__law_from) (defScope s__law_from) [] [] (He.ga K "_law_from") fd := T.c.def_ 54 (d := d__law_from) rfl
theorem Tx.F__law_begins (T : Tx K mg) : ∃ fd, FunD K "_law_begins" "_law_begins" (defArgs s__law_begins) (defBody s__law_begins) (defScope s__law_begins) [] [] (He.ga K "_law_begins") fd := T.c.def_ 55 (d := d__law_begins) rfl
theorem Tx.F__law_name (T : Tx K mg) : ∃ fd, FunD K "_law_name" "_law_name" (defArgs s__law_name) (defBody s__law_name) (defScope s__law_name) [] [] (He.ga K "_law_name") fd := T.c.def_ 56 (d := d__law_name) rfl
theorem Tx.F__law_field (T : Tx K mg) : ∃ fd, FunD K "_law_field" "_law_field" (defArgs s__law_field) (defBody s__law_field) (defScope s__law_field) [] [] (He.ga K "_law_field") fd := T.c.def_ 57 (d := d__law_field) rfl
theorem Tx.F__law_made (T : Tx K mg) : ∃ fd, FunD K "_law_made" "_law_made" (defArgs s__law_made) (defBody s__law_made) (defScope s__law_made) [] [] (He.ga K "_law_made") fd := T.c.def_ 58 (d := d__law_made) rfl
theorem Tx.F__law_reason (T : Tx K mg) : ∃ fd, FunD K "_law_reason" "_law_reason" (defArgs s__law_reason) (defBody s__law_reason) (defScope s__law_reason) [] [] (He.ga K "_law_reason") fd := T.c.def_ 59 (d := d__law_reason) rfl
theorem Tx.F__law_read (T : Tx K mg) : ∃ fd, FunD K "_law_read" "_law_read" (defArgs s__law_read) (defBody s__law_read) (defScope s__law_read) [] [] (He.ga K "_law_read") fd := T.c.def_ 60 (d := d__law_read) rfl
theorem Tx.F__law_found (T : Tx K mg) : ∃ fd, FunD K "_law_found" "_law_found" (defArgs s__law_found) (defBody s__law_found) (defScope s__law_found) [] [] (He.ga K "_law_found") fd := T.c.def_ 61 (d := d__law_found) rfl
theorem Tx.F__law_due (T : Tx K mg) : ∃ fd, FunD K "_law_due" "_law_due" (defArgs s__law_due) (defBody s__law_due) (defScope s__law_due) [] [] (He.ga K "_law_due") fd := T.c.def_ 62 (d := d__law_due) rfl
theorem Tx.F__law_parsed (T : Tx K mg) : ∃ fd, FunD K "_law_parsed" "_law_parsed" (defArgs s__law_parsed) (defBody s__law_parsed) (defScope s__law_parsed) [] [] (He.ga K "_law_parsed") fd := T.c.def_ 63 (d := d__law_parsed) rfl
theorem Tx.F__law_is_edit (T : Tx K mg) : ∃ fd, FunD K "_law_is_edit" "_law_is_edit" (defArgs s__law_is_edit) (defBody s__law_is_edit) (defScope s__law_is_edit) [] [] (He.ga K "_law_is_edit") fd := T.c.def_ 64 (d := d__law_is_edit) rfl
theorem Tx.F_law (T : Tx K mg) : ∃ fd, FunD K "law" "law" (defArgs s_law) (defBody s_law) (defScope s_law) [] [] (He.ga K "law") fd := T.c.def_ 65 (d := d_law) rfl
theorem Tx.S_ReadyReel_init (T : Tx K mg) : SupX.suW K (He.fAd K d_ReadyReel_init.at_) = SupX.suV d_ReadyReel_init := SupX.ss_at T.sv 0
theorem Tx.S_LoggedReel_init (T : Tx K mg) : SupX.suW K (He.fAd K d_LoggedReel_init.at_) = SupX.suV d_LoggedReel_init := SupX.ss_at T.sv 1
theorem Tx.S_LoggedReadyReel_init (T : Tx K mg) : SupX.suW K (He.fAd K d_LoggedReadyReel_init.at_) = SupX.suV d_LoggedReadyReel_init := SupX.ss_at T.sv 6
theorem Tx.g_is_plain_integer (T : Tx K mg) : mg "is_plain_integer" = some (.ref (He.ga K "is_plain_integer")) := by
  obtain ⟨h, X, G⟩ := T.at_
  exact He.glo_ok X G (T.c.fact 1 (f := .glo "is_plain_integer") rfl)
theorem Tx.g_is_index (T : Tx K mg) : mg "is_index" = some (.ref (He.ga K "is_index")) := by
  obtain ⟨h, X, G⟩ := T.at_
  exact He.glo_ok X G (T.c.fact 2 (f := .glo "is_index") rfl)
theorem Tx.g_is_arity (T : Tx K mg) : mg "is_arity" = some (.ref (He.ga K "is_arity")) := by
  obtain ⟨h, X, G⟩ := T.at_
  exact He.glo_ok X G (T.c.fact 3 (f := .glo "is_arity") rfl)
theorem Tx.g_ring_error (T : Tx K mg) : mg "ring_error" = some (.ref (He.ga K "ring_error")) := by
  obtain ⟨h, X, G⟩ := T.at_
  exact He.glo_ok X G (T.c.fact 4 (f := .glo "ring_error") rfl)
theorem Tx.g_check_place (T : Tx K mg) : mg "check_place" = some (.ref (He.ga K "check_place")) := by
  obtain ⟨h, X, G⟩ := T.at_
  exact He.glo_ok X G (T.c.fact 5 (f := .glo "check_place") rfl)
theorem Tx.g_balance (T : Tx K mg) : mg "balance" = some (.ref (He.ga K "balance")) := by
  obtain ⟨h, X, G⟩ := T.at_
  exact He.glo_ok X G (T.c.fact 6 (f := .glo "balance") rfl)
theorem Tx.g_turned (T : Tx K mg) : mg "turned" = some (.ref (He.ga K "turned")) := by
  obtain ⟨h, X, G⟩ := T.at_
  exact He.glo_ok X G (T.c.fact 7 (f := .glo "turned") rfl)
theorem Tx.g_heights (T : Tx K mg) : mg "heights" = some (.ref (He.ga K "heights")) := by
  obtain ⟨h, X, G⟩ := T.at_
  exact He.glo_ok X G (T.c.fact 8 (f := .glo "heights") rfl)
theorem Tx.g_need (T : Tx K mg) : mg "need" = some (.ref (He.ga K "need")) := by
  obtain ⟨h, X, G⟩ := T.at_
  exact He.glo_ok X G (T.c.fact 9 (f := .glo "need") rfl)
theorem Tx.g_is_beginning (T : Tx K mg) : mg "is_beginning" = some (.ref (He.ga K "is_beginning")) := by
  obtain ⟨h, X, G⟩ := T.at_
  exact He.glo_ok X G (T.c.fact 10 (f := .glo "is_beginning") rfl)
theorem Tx.g_beginnings (T : Tx K mg) : mg "beginnings" = some (.ref (He.ga K "beginnings")) := by
  obtain ⟨h, X, G⟩ := T.at_
  exact He.glo_ok X G (T.c.fact 11 (f := .glo "beginnings") rfl)
theorem Tx.g_parse_ring (T : Tx K mg) : mg "parse_ring" = some (.ref (He.ga K "parse_ring")) := by
  obtain ⟨h, X, G⟩ := T.at_
  exact He.glo_ok X G (T.c.fact 20 (f := .glo "parse_ring") rfl)
theorem Tx.g__law_stream (T : Tx K mg) : mg "_law_stream" = some (.ref (He.ga K "_law_stream")) := by
  obtain ⟨h, X, G⟩ := T.at_
  exact He.glo_ok X G (T.c.fact 21 (f := .glo "_law_stream") rfl)
theorem Tx.g__law_draw (T : Tx K mg) : mg "_law_draw" = some (.ref (He.ga K "_law_draw")) := by
  obtain ⟨h, X, G⟩ := T.at_
  exact He.glo_ok X G (T.c.fact 22 (f := .glo "_law_draw") rfl)
theorem Tx.g__law_pick (T : Tx K mg) : mg "_law_pick" = some (.ref (He.ga K "_law_pick")) := by
  obtain ⟨h, X, G⟩ := T.at_
  exact He.glo_ok X G (T.c.fact 23 (f := .glo "_law_pick") rfl)
theorem Tx.g__law_whole (T : Tx K mg) : mg "_law_whole" = some (.ref (He.ga K "_law_whole")) := by
  obtain ⟨h, X, G⟩ := T.at_
  exact He.glo_ok X G (T.c.fact 24 (f := .glo "_law_whole") rfl)
theorem Tx.g__law_ring (T : Tx K mg) : mg "_law_ring" = some (.ref (He.ga K "_law_ring")) := by
  obtain ⟨h, X, G⟩ := T.at_
  exact He.glo_ok X G (T.c.fact 25 (f := .glo "_law_ring") rfl)
theorem Tx.g__law_odd (T : Tx K mg) : mg "_law_odd" = some (.ref (He.ga K "_law_odd")) := by
  obtain ⟨h, X, G⟩ := T.at_
  exact He.glo_ok X G (T.c.fact 26 (f := .glo "_law_odd") rfl)
theorem Tx.g__law_missing (T : Tx K mg) : mg "_law_missing" = some (.ref (He.ga K "_law_missing")) := by
  obtain ⟨h, X, G⟩ := T.at_
  exact He.glo_ok X G (T.c.fact 27 (f := .glo "_law_missing") rfl)
theorem Tx.g__law_from (T : Tx K mg) : mg "_law_from" = some (.ref (He.ga K "_law_from")) := by
  obtain ⟨h, X, G⟩ := T.at_
  exact He.glo_ok X G (T.c.fact 28 (f := .glo "_law_from") rfl)
theorem Tx.g__law_begins (T : Tx K mg) : mg "_law_begins" = some (.ref (He.ga K "_law_begins")) := by
  obtain ⟨h, X, G⟩ := T.at_
  exact He.glo_ok X G (T.c.fact 29 (f := .glo "_law_begins") rfl)
theorem Tx.g__law_name (T : Tx K mg) : mg "_law_name" = some (.ref (He.ga K "_law_name")) := by
  obtain ⟨h, X, G⟩ := T.at_
  exact He.glo_ok X G (T.c.fact 30 (f := .glo "_law_name") rfl)
theorem Tx.g__law_field (T : Tx K mg) : mg "_law_field" = some (.ref (He.ga K "_law_field")) := by
  obtain ⟨h, X, G⟩ := T.at_
  exact He.glo_ok X G (T.c.fact 31 (f := .glo "_law_field") rfl)
theorem Tx.g__law_made (T : Tx K mg) : mg "_law_made" = some (.ref (He.ga K "_law_made")) := by
  obtain ⟨h, X, G⟩ := T.at_
  exact He.glo_ok X G (T.c.fact 32 (f := .glo "_law_made") rfl)
theorem Tx.g__law_reason (T : Tx K mg) : mg "_law_reason" = some (.ref (He.ga K "_law_reason")) := by
  obtain ⟨h, X, G⟩ := T.at_
  exact He.glo_ok X G (T.c.fact 33 (f := .glo "_law_reason") rfl)
theorem Tx.g__law_read (T : Tx K mg) : mg "_law_read" = some (.ref (He.ga K "_law_read")) := by
  obtain ⟨h, X, G⟩ := T.at_
  exact He.glo_ok X G (T.c.fact 34 (f := .glo "_law_read") rfl)
theorem Tx.g__law_found (T : Tx K mg) : mg "_law_found" = some (.ref (He.ga K "_law_found")) := by
  obtain ⟨h, X, G⟩ := T.at_
  exact He.glo_ok X G (T.c.fact 35 (f := .glo "_law_found") rfl)
theorem Tx.g__law_due (T : Tx K mg) : mg "_law_due" = some (.ref (He.ga K "_law_due")) := by
  obtain ⟨h, X, G⟩ := T.at_
  exact He.glo_ok X G (T.c.fact 36 (f := .glo "_law_due") rfl)
theorem Tx.g__law_parsed (T : Tx K mg) : mg "_law_parsed" = some (.ref (He.ga K "_law_parsed")) := by
  obtain ⟨h, X, G⟩ := T.at_
  exact He.glo_ok X G (T.c.fact 37 (f := .glo "_law_parsed") rfl)
theorem Tx.g__law_is_edit (T : Tx K mg) : mg "_law_is_edit" = some (.ref (He.ga K "_law_is_edit")) := by
  obtain ⟨h, X, G⟩ := T.at_
  exact He.glo_ok X G (T.c.fact 38 (f := .glo "_law_is_edit") rfl)
theorem Tx.g_law (T : Tx K mg) : mg "law" = some (.ref (He.ga K "law")) := by
  obtain ⟨h, X, G⟩ := T.at_
  exact He.glo_ok X G (T.c.fact 39 (f := .glo "law") rfl)
theorem Tx.g_RingError (T : Tx K mg) : mg "RingError" = some (.ref (He.ga K "RingError")) := by
  obtain ⟨h, X, G⟩ := T.at_
  exact He.glo_ok X G (T.c.fact 40 (f := .glo "RingError") rfl)
theorem Tx.g_NoBeginning (T : Tx K mg) : mg "NoBeginning" = some (.ref (He.ga K "NoBeginning")) := by
  obtain ⟨h, X, G⟩ := T.at_
  exact He.glo_ok X G (T.c.fact 41 (f := .glo "NoBeginning") rfl)
theorem Tx.g_NoArity (T : Tx K mg) : mg "NoArity" = some (.ref (He.ga K "NoArity")) := by
  obtain ⟨h, X, G⟩ := T.at_
  exact He.glo_ok X G (T.c.fact 42 (f := .glo "NoArity") rfl)
theorem Tx.g_TooLong (T : Tx K mg) : mg "TooLong" = some (.ref (He.ga K "TooLong")) := by
  obtain ⟨h, X, G⟩ := T.at_
  exact He.glo_ok X G (T.c.fact 43 (f := .glo "TooLong") rfl)
theorem Tx.g_LastToken (T : Tx K mg) : mg "LastToken" = some (.ref (He.ga K "LastToken")) := by
  obtain ⟨h, X, G⟩ := T.at_
  exact He.glo_ok X G (T.c.fact 44 (f := .glo "LastToken") rfl)
theorem Tx.g_BadRing (T : Tx K mg) : mg "BadRing" = some (.ref (He.ga K "BadRing")) := by
  obtain ⟨h, X, G⟩ := T.at_
  exact He.glo_ok X G (T.c.fact 45 (f := .glo "BadRing") rfl)
theorem Tx.g_NoBalance (T : Tx K mg) : mg "NoBalance" = some (.ref (He.ga K "NoBalance")) := by
  obtain ⟨h, X, G⟩ := T.at_
  exact He.glo_ok X G (T.c.fact 46 (f := .glo "NoBalance") rfl)
theorem Tx.g_TooManyEdits (T : Tx K mg) : mg "TooManyEdits" = some (.ref (He.ga K "TooManyEdits")) := by
  obtain ⟨h, X, G⟩ := T.at_
  exact He.glo_ok X G (T.c.fact 47 (f := .glo "TooManyEdits") rfl)
theorem Tx.g_NothingToUndo (T : Tx K mg) : mg "NothingToUndo" = some (.ref (He.ga K "NothingToUndo")) := by
  obtain ⟨h, X, G⟩ := T.at_
  exact He.glo_ok X G (T.c.fact 48 (f := .glo "NothingToUndo") rfl)
theorem Tx.g_BadEdits (T : Tx K mg) : mg "BadEdits" = some (.ref (He.ga K "BadEdits")) := by
  obtain ⟨h, X, G⟩ := T.at_
  exact He.glo_ok X G (T.c.fact 49 (f := .glo "BadEdits") rfl)
theorem Tx.g_BadEdit (T : Tx K mg) : mg "BadEdit" = some (.ref (He.ga K "BadEdit")) := by
  obtain ⟨h, X, G⟩ := T.at_
  exact He.glo_ok X G (T.c.fact 50 (f := .glo "BadEdit") rfl)
theorem Tx.g_Rejected (T : Tx K mg) : mg "Rejected" = some (.ref (He.ga K "Rejected")) := by
  obtain ⟨h, X, G⟩ := T.at_
  exact He.glo_ok X G (T.c.fact 51 (f := .glo "Rejected") rfl)
theorem Tx.g_Busy (T : Tx K mg) : mg "Busy" = some (.ref (He.ga K "Busy")) := by
  obtain ⟨h, X, G⟩ := T.at_
  exact He.glo_ok X G (T.c.fact 52 (f := .glo "Busy") rfl)
theorem Tx.g_BadText (T : Tx K mg) : mg "BadText" = some (.ref (He.ga K "BadText")) := by
  obtain ⟨h, X, G⟩ := T.at_
  exact He.glo_ok X G (T.c.fact 53 (f := .glo "BadText") rfl)
theorem Tx.g_NoPlace (T : Tx K mg) : mg "NoPlace" = some (.ref (He.ga K "NoPlace")) := by
  obtain ⟨h, X, G⟩ := T.at_
  exact He.glo_ok X G (T.c.fact 54 (f := .glo "NoPlace") rfl)
theorem Tx.g_NoVersion (T : Tx K mg) : mg "NoVersion" = some (.ref (He.ga K "NoVersion")) := by
  obtain ⟨h, X, G⟩ := T.at_
  exact He.glo_ok X G (T.c.fact 55 (f := .glo "NoVersion") rfl)
theorem Tx.g_Reel (T : Tx K mg) : mg "Reel" = some (.ref (He.ga K "Reel")) := by
  obtain ⟨h, X, G⟩ := T.at_
  exact He.glo_ok X G (T.c.fact 56 (f := .glo "Reel") rfl)
theorem Tx.g_ReadyReel (T : Tx K mg) : mg "ReadyReel" = some (.ref (He.ga K "ReadyReel")) := by
  obtain ⟨h, X, G⟩ := T.at_
  exact He.glo_ok X G (T.c.fact 57 (f := .glo "ReadyReel") rfl)
theorem Tx.g_LoggedReel (T : Tx K mg) : mg "LoggedReel" = some (.ref (He.ga K "LoggedReel")) := by
  obtain ⟨h, X, G⟩ := T.at_
  exact He.glo_ok X G (T.c.fact 58 (f := .glo "LoggedReel") rfl)
theorem Tx.g_LoggedReadyReel (T : Tx K mg) : mg "LoggedReadyReel" = some (.ref (He.ga K "LoggedReadyReel")) := by
  obtain ⟨h, X, G⟩ := T.at_
  exact He.glo_ok X G (T.c.fact 59 (f := .glo "LoggedReadyReel") rfl)
theorem Tx.f_len (T : Tx K mg) : mg "len" = none := by
  obtain ⟨h, X, G⟩ := T.at_
  exact He.free_ok X G (T.c.fact 60 (f := .free "len") rfl)
theorem Tx.f_sum (T : Tx K mg) : mg "sum" = none := by
  obtain ⟨h, X, G⟩ := T.at_
  exact He.free_ok X G (T.c.fact 61 (f := .free "sum") rfl)
theorem Tx.f_min (T : Tx K mg) : mg "min" = none := by
  obtain ⟨h, X, G⟩ := T.at_
  exact He.free_ok X G (T.c.fact 62 (f := .free "min") rfl)
theorem Tx.f_max (T : Tx K mg) : mg "max" = none := by
  obtain ⟨h, X, G⟩ := T.at_
  exact He.free_ok X G (T.c.fact 63 (f := .free "max") rfl)
theorem Tx.f_abs (T : Tx K mg) : mg "abs" = none := by
  obtain ⟨h, X, G⟩ := T.at_
  exact He.free_ok X G (T.c.fact 64 (f := .free "abs") rfl)
theorem Tx.f_repr (T : Tx K mg) : mg "repr" = none := by
  obtain ⟨h, X, G⟩ := T.at_
  exact He.free_ok X G (T.c.fact 65 (f := .free "repr") rfl)
theorem Tx.f_range (T : Tx K mg) : mg "range" = none := by
  obtain ⟨h, X, G⟩ := T.at_
  exact He.free_ok X G (T.c.fact 66 (f := .free "range") rfl)
theorem Tx.f_tuple (T : Tx K mg) : mg "tuple" = none := by
  obtain ⟨h, X, G⟩ := T.at_
  exact He.free_ok X G (T.c.fact 67 (f := .free "tuple") rfl)
theorem Tx.f_list (T : Tx K mg) : mg "list" = none := by
  obtain ⟨h, X, G⟩ := T.at_
  exact He.free_ok X G (T.c.fact 68 (f := .free "list") rfl)
theorem Tx.f_int (T : Tx K mg) : mg "int" = none := by
  obtain ⟨h, X, G⟩ := T.at_
  exact He.free_ok X G (T.c.fact 69 (f := .free "int") rfl)
theorem Tx.f_bool (T : Tx K mg) : mg "bool" = none := by
  obtain ⟨h, X, G⟩ := T.at_
  exact He.free_ok X G (T.c.fact 70 (f := .free "bool") rfl)
theorem Tx.f_isinstance (T : Tx K mg) : mg "isinstance" = none := by
  obtain ⟨h, X, G⟩ := T.at_
  exact He.free_ok X G (T.c.fact 71 (f := .free "isinstance") rfl)
theorem Tx.f_enumerate (T : Tx K mg) : mg "enumerate" = none := by
  obtain ⟨h, X, G⟩ := T.at_
  exact He.free_ok X G (T.c.fact 72 (f := .free "enumerate") rfl)
theorem Tx.f_str (T : Tx K mg) : mg "str" = none := by
  obtain ⟨h, X, G⟩ := T.at_
  exact He.free_ok X G (T.c.fact 73 (f := .free "str") rfl)
theorem Tx.f_super (T : Tx K mg) : mg "super" = none := by
  obtain ⟨h, X, G⟩ := T.at_
  exact He.free_ok X G (T.c.fact 74 (f := .free "super") rfl)
theorem Tx.f_ValueError (T : Tx K mg) : mg "ValueError" = none := by
  obtain ⟨h, X, G⟩ := T.at_
  exact He.free_ok X G (T.c.fact 75 (f := .free "ValueError") rfl)
theorem Tx.f_LookupError (T : Tx K mg) : mg "LookupError" = none := by
  obtain ⟨h, X, G⟩ := T.at_
  exact He.free_ok X G (T.c.fact 76 (f := .free "LookupError") rfl)
theorem Tx.g_MAX_ARITY (T : Tx K mg) : ∃ t, mg "MAX_ARITY" = some (.int 5 t) := by
  obtain ⟨h, X, G⟩ := T.at_
  exact He.int_ok X G (T.c.fact 77 (f := .int "MAX_ARITY" 5) rfl)
theorem Tx.g_MAX_TOKENS (T : Tx K mg) : ∃ t, mg "MAX_TOKENS" = some (.int 24 t) := by
  obtain ⟨h, X, G⟩ := T.at_
  exact He.int_ok X G (T.c.fact 78 (f := .int "MAX_TOKENS" 24) rfl)
theorem Tx.g_beginnings_beginnings (T : Tx K mg) : mg "beginnings_beginnings" = some (.ref (He.ga K "beginnings_beginnings")) := by
  obtain ⟨h, X, G⟩ := T.at_
  exact He.glo_ok X G (T.c.fact 79 (f := .glo "beginnings_beginnings") rfl)
theorem Tx.c_Reel (T : Tx K mg) : Cls K (He.ga K "Reel") := He.cls_ok (T.c.fact 80 (f := .cls "Reel") rfl)
theorem Tx.mk_Reel (T : Tx K mg) : Mk K (He.ga K "Reel") (He.ma K (He.ga K "Reel") "__init__") := He.mkr_ok (T.c.fact 81 (f := .mkr "Reel") rfl)
theorem Tx.n_Reel_rings (T : Tx K mg) : NoAttr K (He.ga K "Reel") "rings" := He.noat_ok (T.c.fact 82 (f := .noat "Reel" "rings") rfl)
theorem Tx.n_Reel_done (T : Tx K mg) : NoAttr K (He.ga K "Reel") "done" := He.noat_ok (T.c.fact 83 (f := .noat "Reel" "done") rfl)
theorem Tx.n_Reel_starts (T : Tx K mg) : NoAttr K (He.ga K "Reel") "starts" := He.noat_ok (T.c.fact 84 (f := .noat "Reel" "starts") rfl)
theorem Tx.n_Reel_chosen (T : Tx K mg) : NoAttr K (He.ga K "Reel") "chosen" := He.noat_ok (T.c.fact 85 (f := .noat "Reel" "chosen") rfl)
theorem Tx.n_Reel_busy (T : Tx K mg) : NoAttr K (He.ga K "Reel") "busy" := He.noat_ok (T.c.fact 86 (f := .noat "Reel" "busy") rfl)
theorem Tx.m_Reel_check_idle (T : Tx K mg) : Meth K (He.ga K "Reel") "check_idle" (He.ma K (He.ga K "Reel") "check_idle") := He.meth_ok (T.c.fact 88 (f := .meth "Reel" "check_idle") rfl)
theorem Tx.m_Reel_check_result (T : Tx K mg) : Meth K (He.ga K "Reel") "check_result" (He.ma K (He.ga K "Reel") "check_result") := He.meth_ok (T.c.fact 89 (f := .meth "Reel" "check_result") rfl)
theorem Tx.m_Reel_settle (T : Tx K mg) : Meth K (He.ga K "Reel") "settle" (He.ma K (He.ga K "Reel") "settle") := He.meth_ok (T.c.fact 90 (f := .meth "Reel" "settle") rfl)
theorem Tx.m_Reel_do_edit (T : Tx K mg) : Meth K (He.ga K "Reel") "do_edit" (He.ma K (He.ga K "Reel") "do_edit") := He.meth_ok (T.c.fact 91 (f := .meth "Reel" "do_edit") rfl)
theorem Tx.m_Reel_put (T : Tx K mg) : Meth K (He.ga K "Reel") "put" (He.ma K (He.ga K "Reel") "put") := He.meth_ok (T.c.fact 92 (f := .meth "Reel" "put") rfl)
theorem Tx.m_Reel_insert (T : Tx K mg) : Meth K (He.ga K "Reel") "insert" (He.ma K (He.ga K "Reel") "insert") := He.meth_ok (T.c.fact 93 (f := .meth "Reel" "insert") rfl)
theorem Tx.m_Reel_remove (T : Tx K mg) : Meth K (He.ga K "Reel") "remove" (He.ma K (He.ga K "Reel") "remove") := He.meth_ok (T.c.fact 94 (f := .meth "Reel" "remove") rfl)
theorem Tx.m_Reel_undo (T : Tx K mg) : Meth K (He.ga K "Reel") "undo" (He.ma K (He.ga K "Reel") "undo") := He.meth_ok (T.c.fact 95 (f := .meth "Reel" "undo") rfl)
theorem Tx.m_Reel_edits (T : Tx K mg) : Meth K (He.ga K "Reel") "edits" (He.ma K (He.ga K "Reel") "edits") := He.meth_ok (T.c.fact 96 (f := .meth "Reel" "edits") rfl)
theorem Tx.m_Reel_walk (T : Tx K mg) : Meth K (He.ga K "Reel") "walk" (He.ma K (He.ga K "Reel") "walk") := He.meth_ok (T.c.fact 97 (f := .meth "Reel" "walk") rfl)
theorem Tx.m_Reel___len__ (T : Tx K mg) : Meth K (He.ga K "Reel") "__len__" (He.ma K (He.ga K "Reel") "__len__") := He.meth_ok (T.c.fact 98 (f := .meth "Reel" "__len__") rfl)
theorem Tx.m_Reel___str__ (T : Tx K mg) : Meth K (He.ga K "Reel") "__str__" (He.ma K (He.ga K "Reel") "__str__") := He.meth_ok (T.c.fact 99 (f := .meth "Reel" "__str__") rfl)
theorem Tx.m_Reel___eq__ (T : Tx K mg) : Meth K (He.ga K "Reel") "__eq__" (He.ma K (He.ga K "Reel") "__eq__") := He.meth_ok (T.c.fact 100 (f := .meth "Reel" "__eq__") rfl)
theorem Tx.c_ReadyReel (T : Tx K mg) : Cls K (He.ga K "ReadyReel") := He.cls_ok (T.c.fact 101 (f := .cls "ReadyReel") rfl)
theorem Tx.mk_ReadyReel (T : Tx K mg) : Mk K (He.ga K "ReadyReel") (He.ma K (He.ga K "ReadyReel") "__init__") := He.mkr_ok (T.c.fact 102 (f := .mkr "ReadyReel") rfl)
theorem Tx.n_ReadyReel_rings (T : Tx K mg) : NoAttr K (He.ga K "ReadyReel") "rings" := He.noat_ok (T.c.fact 103 (f := .noat "ReadyReel" "rings") rfl)
theorem Tx.n_ReadyReel_done (T : Tx K mg) : NoAttr K (He.ga K "ReadyReel") "done" := He.noat_ok (T.c.fact 104 (f := .noat "ReadyReel" "done") rfl)
theorem Tx.n_ReadyReel_starts (T : Tx K mg) : NoAttr K (He.ga K "ReadyReel") "starts" := He.noat_ok (T.c.fact 105 (f := .noat "ReadyReel" "starts") rfl)
theorem Tx.n_ReadyReel_chosen (T : Tx K mg) : NoAttr K (He.ga K "ReadyReel") "chosen" := He.noat_ok (T.c.fact 106 (f := .noat "ReadyReel" "chosen") rfl)
theorem Tx.n_ReadyReel_busy (T : Tx K mg) : NoAttr K (He.ga K "ReadyReel") "busy" := He.noat_ok (T.c.fact 107 (f := .noat "ReadyReel" "busy") rfl)
theorem Tx.m_ReadyReel_check_idle (T : Tx K mg) : Meth K (He.ga K "ReadyReel") "check_idle" (He.ma K (He.ga K "ReadyReel") "check_idle") := He.meth_ok (T.c.fact 109 (f := .meth "ReadyReel" "check_idle") rfl)
theorem Tx.m_ReadyReel_check_result (T : Tx K mg) : Meth K (He.ga K "ReadyReel") "check_result" (He.ma K (He.ga K "ReadyReel") "check_result") := He.meth_ok (T.c.fact 110 (f := .meth "ReadyReel" "check_result") rfl)
theorem Tx.m_ReadyReel_settle (T : Tx K mg) : Meth K (He.ga K "ReadyReel") "settle" (He.ma K (He.ga K "ReadyReel") "settle") := He.meth_ok (T.c.fact 111 (f := .meth "ReadyReel" "settle") rfl)
theorem Tx.m_ReadyReel_do_edit (T : Tx K mg) : Meth K (He.ga K "ReadyReel") "do_edit" (He.ma K (He.ga K "ReadyReel") "do_edit") := He.meth_ok (T.c.fact 112 (f := .meth "ReadyReel" "do_edit") rfl)
theorem Tx.m_ReadyReel_put (T : Tx K mg) : Meth K (He.ga K "ReadyReel") "put" (He.ma K (He.ga K "ReadyReel") "put") := He.meth_ok (T.c.fact 113 (f := .meth "ReadyReel" "put") rfl)
theorem Tx.m_ReadyReel_insert (T : Tx K mg) : Meth K (He.ga K "ReadyReel") "insert" (He.ma K (He.ga K "ReadyReel") "insert") := He.meth_ok (T.c.fact 114 (f := .meth "ReadyReel" "insert") rfl)
theorem Tx.m_ReadyReel_remove (T : Tx K mg) : Meth K (He.ga K "ReadyReel") "remove" (He.ma K (He.ga K "ReadyReel") "remove") := He.meth_ok (T.c.fact 115 (f := .meth "ReadyReel" "remove") rfl)
theorem Tx.m_ReadyReel_undo (T : Tx K mg) : Meth K (He.ga K "ReadyReel") "undo" (He.ma K (He.ga K "ReadyReel") "undo") := He.meth_ok (T.c.fact 116 (f := .meth "ReadyReel" "undo") rfl)
theorem Tx.m_ReadyReel_edits (T : Tx K mg) : Meth K (He.ga K "ReadyReel") "edits" (He.ma K (He.ga K "ReadyReel") "edits") := He.meth_ok (T.c.fact 117 (f := .meth "ReadyReel" "edits") rfl)
theorem Tx.m_ReadyReel_walk (T : Tx K mg) : Meth K (He.ga K "ReadyReel") "walk" (He.ma K (He.ga K "ReadyReel") "walk") := He.meth_ok (T.c.fact 118 (f := .meth "ReadyReel" "walk") rfl)
theorem Tx.m_ReadyReel___len__ (T : Tx K mg) : Meth K (He.ga K "ReadyReel") "__len__" (He.ma K (He.ga K "ReadyReel") "__len__") := He.meth_ok (T.c.fact 119 (f := .meth "ReadyReel" "__len__") rfl)
theorem Tx.m_ReadyReel___str__ (T : Tx K mg) : Meth K (He.ga K "ReadyReel") "__str__" (He.ma K (He.ga K "ReadyReel") "__str__") := He.meth_ok (T.c.fact 120 (f := .meth "ReadyReel" "__str__") rfl)
theorem Tx.m_ReadyReel___eq__ (T : Tx K mg) : Meth K (He.ga K "ReadyReel") "__eq__" (He.ma K (He.ga K "ReadyReel") "__eq__") := He.meth_ok (T.c.fact 121 (f := .meth "ReadyReel" "__eq__") rfl)
theorem Tx.c_LoggedReel (T : Tx K mg) : Cls K (He.ga K "LoggedReel") := He.cls_ok (T.c.fact 122 (f := .cls "LoggedReel") rfl)
theorem Tx.mk_LoggedReel (T : Tx K mg) : Mk K (He.ga K "LoggedReel") (He.ma K (He.ga K "LoggedReel") "__init__") := He.mkr_ok (T.c.fact 123 (f := .mkr "LoggedReel") rfl)
theorem Tx.n_LoggedReel_rings (T : Tx K mg) : NoAttr K (He.ga K "LoggedReel") "rings" := He.noat_ok (T.c.fact 124 (f := .noat "LoggedReel" "rings") rfl)
theorem Tx.n_LoggedReel_done (T : Tx K mg) : NoAttr K (He.ga K "LoggedReel") "done" := He.noat_ok (T.c.fact 125 (f := .noat "LoggedReel" "done") rfl)
theorem Tx.n_LoggedReel_starts (T : Tx K mg) : NoAttr K (He.ga K "LoggedReel") "starts" := He.noat_ok (T.c.fact 126 (f := .noat "LoggedReel" "starts") rfl)
theorem Tx.n_LoggedReel_chosen (T : Tx K mg) : NoAttr K (He.ga K "LoggedReel") "chosen" := He.noat_ok (T.c.fact 127 (f := .noat "LoggedReel" "chosen") rfl)
theorem Tx.n_LoggedReel_busy (T : Tx K mg) : NoAttr K (He.ga K "LoggedReel") "busy" := He.noat_ok (T.c.fact 128 (f := .noat "LoggedReel" "busy") rfl)
theorem Tx.n_LoggedReel_calls (T : Tx K mg) : NoAttr K (He.ga K "LoggedReel") "calls" := He.noat_ok (T.c.fact 129 (f := .noat "LoggedReel" "calls") rfl)
theorem Tx.m_LoggedReel_check_idle (T : Tx K mg) : Meth K (He.ga K "LoggedReel") "check_idle" (He.ma K (He.ga K "LoggedReel") "check_idle") := He.meth_ok (T.c.fact 131 (f := .meth "LoggedReel" "check_idle") rfl)
theorem Tx.m_LoggedReel_check_result (T : Tx K mg) : Meth K (He.ga K "LoggedReel") "check_result" (He.ma K (He.ga K "LoggedReel") "check_result") := He.meth_ok (T.c.fact 132 (f := .meth "LoggedReel" "check_result") rfl)
theorem Tx.m_LoggedReel_settle (T : Tx K mg) : Meth K (He.ga K "LoggedReel") "settle" (He.ma K (He.ga K "LoggedReel") "settle") := He.meth_ok (T.c.fact 133 (f := .meth "LoggedReel" "settle") rfl)
theorem Tx.m_LoggedReel_do_edit (T : Tx K mg) : Meth K (He.ga K "LoggedReel") "do_edit" (He.ma K (He.ga K "LoggedReel") "do_edit") := He.meth_ok (T.c.fact 134 (f := .meth "LoggedReel" "do_edit") rfl)
theorem Tx.m_LoggedReel_put (T : Tx K mg) : Meth K (He.ga K "LoggedReel") "put" (He.ma K (He.ga K "LoggedReel") "put") := He.meth_ok (T.c.fact 135 (f := .meth "LoggedReel" "put") rfl)
theorem Tx.m_LoggedReel_insert (T : Tx K mg) : Meth K (He.ga K "LoggedReel") "insert" (He.ma K (He.ga K "LoggedReel") "insert") := He.meth_ok (T.c.fact 136 (f := .meth "LoggedReel" "insert") rfl)
theorem Tx.m_LoggedReel_remove (T : Tx K mg) : Meth K (He.ga K "LoggedReel") "remove" (He.ma K (He.ga K "LoggedReel") "remove") := He.meth_ok (T.c.fact 137 (f := .meth "LoggedReel" "remove") rfl)
theorem Tx.m_LoggedReel_undo (T : Tx K mg) : Meth K (He.ga K "LoggedReel") "undo" (He.ma K (He.ga K "LoggedReel") "undo") := He.meth_ok (T.c.fact 138 (f := .meth "LoggedReel" "undo") rfl)
theorem Tx.m_LoggedReel_edits (T : Tx K mg) : Meth K (He.ga K "LoggedReel") "edits" (He.ma K (He.ga K "LoggedReel") "edits") := He.meth_ok (T.c.fact 139 (f := .meth "LoggedReel" "edits") rfl)
theorem Tx.m_LoggedReel_walk (T : Tx K mg) : Meth K (He.ga K "LoggedReel") "walk" (He.ma K (He.ga K "LoggedReel") "walk") := He.meth_ok (T.c.fact 140 (f := .meth "LoggedReel" "walk") rfl)
theorem Tx.m_LoggedReel___len__ (T : Tx K mg) : Meth K (He.ga K "LoggedReel") "__len__" (He.ma K (He.ga K "LoggedReel") "__len__") := He.meth_ok (T.c.fact 141 (f := .meth "LoggedReel" "__len__") rfl)
theorem Tx.m_LoggedReel___str__ (T : Tx K mg) : Meth K (He.ga K "LoggedReel") "__str__" (He.ma K (He.ga K "LoggedReel") "__str__") := He.meth_ok (T.c.fact 142 (f := .meth "LoggedReel" "__str__") rfl)
theorem Tx.m_LoggedReel___eq__ (T : Tx K mg) : Meth K (He.ga K "LoggedReel") "__eq__" (He.ma K (He.ga K "LoggedReel") "__eq__") := He.meth_ok (T.c.fact 143 (f := .meth "LoggedReel" "__eq__") rfl)
theorem Tx.m_LoggedReel_noted (T : Tx K mg) : Meth K (He.ga K "LoggedReel") "noted" (He.ma K (He.ga K "LoggedReel") "noted") := He.meth_ok (T.c.fact 144 (f := .meth "LoggedReel" "noted") rfl)
theorem Tx.c_LoggedReadyReel (T : Tx K mg) : Cls K (He.ga K "LoggedReadyReel") := He.cls_ok (T.c.fact 145 (f := .cls "LoggedReadyReel") rfl)
theorem Tx.mk_LoggedReadyReel (T : Tx K mg) : Mk K (He.ga K "LoggedReadyReel") (He.ma K (He.ga K "LoggedReadyReel") "__init__") := He.mkr_ok (T.c.fact 146 (f := .mkr "LoggedReadyReel") rfl)
theorem Tx.n_LoggedReadyReel_rings (T : Tx K mg) : NoAttr K (He.ga K "LoggedReadyReel") "rings" := He.noat_ok (T.c.fact 147 (f := .noat "LoggedReadyReel" "rings") rfl)
theorem Tx.n_LoggedReadyReel_done (T : Tx K mg) : NoAttr K (He.ga K "LoggedReadyReel") "done" := He.noat_ok (T.c.fact 148 (f := .noat "LoggedReadyReel" "done") rfl)
theorem Tx.n_LoggedReadyReel_starts (T : Tx K mg) : NoAttr K (He.ga K "LoggedReadyReel") "starts" := He.noat_ok (T.c.fact 149 (f := .noat "LoggedReadyReel" "starts") rfl)
theorem Tx.n_LoggedReadyReel_chosen (T : Tx K mg) : NoAttr K (He.ga K "LoggedReadyReel") "chosen" := He.noat_ok (T.c.fact 150 (f := .noat "LoggedReadyReel" "chosen") rfl)
theorem Tx.n_LoggedReadyReel_busy (T : Tx K mg) : NoAttr K (He.ga K "LoggedReadyReel") "busy" := He.noat_ok (T.c.fact 151 (f := .noat "LoggedReadyReel" "busy") rfl)
theorem Tx.n_LoggedReadyReel_calls (T : Tx K mg) : NoAttr K (He.ga K "LoggedReadyReel") "calls" := He.noat_ok (T.c.fact 152 (f := .noat "LoggedReadyReel" "calls") rfl)
theorem Tx.m_LoggedReadyReel_check_idle (T : Tx K mg) : Meth K (He.ga K "LoggedReadyReel") "check_idle" (He.ma K (He.ga K "LoggedReadyReel") "check_idle") := He.meth_ok (T.c.fact 154 (f := .meth "LoggedReadyReel" "check_idle") rfl)
theorem Tx.m_LoggedReadyReel_check_result (T : Tx K mg) : Meth K (He.ga K "LoggedReadyReel") "check_result" (He.ma K (He.ga K "LoggedReadyReel") "check_result") := He.meth_ok (T.c.fact 155 (f := .meth "LoggedReadyReel" "check_result") rfl)
theorem Tx.m_LoggedReadyReel_settle (T : Tx K mg) : Meth K (He.ga K "LoggedReadyReel") "settle" (He.ma K (He.ga K "LoggedReadyReel") "settle") := He.meth_ok (T.c.fact 156 (f := .meth "LoggedReadyReel" "settle") rfl)
theorem Tx.m_LoggedReadyReel_do_edit (T : Tx K mg) : Meth K (He.ga K "LoggedReadyReel") "do_edit" (He.ma K (He.ga K "LoggedReadyReel") "do_edit") := He.meth_ok (T.c.fact 157 (f := .meth "LoggedReadyReel" "do_edit") rfl)
theorem Tx.m_LoggedReadyReel_put (T : Tx K mg) : Meth K (He.ga K "LoggedReadyReel") "put" (He.ma K (He.ga K "LoggedReadyReel") "put") := He.meth_ok (T.c.fact 158 (f := .meth "LoggedReadyReel" "put") rfl)
theorem Tx.m_LoggedReadyReel_insert (T : Tx K mg) : Meth K (He.ga K "LoggedReadyReel") "insert" (He.ma K (He.ga K "LoggedReadyReel") "insert") := He.meth_ok (T.c.fact 159 (f := .meth "LoggedReadyReel" "insert") rfl)
theorem Tx.m_LoggedReadyReel_remove (T : Tx K mg) : Meth K (He.ga K "LoggedReadyReel") "remove" (He.ma K (He.ga K "LoggedReadyReel") "remove") := He.meth_ok (T.c.fact 160 (f := .meth "LoggedReadyReel" "remove") rfl)
theorem Tx.m_LoggedReadyReel_undo (T : Tx K mg) : Meth K (He.ga K "LoggedReadyReel") "undo" (He.ma K (He.ga K "LoggedReadyReel") "undo") := He.meth_ok (T.c.fact 161 (f := .meth "LoggedReadyReel" "undo") rfl)
theorem Tx.m_LoggedReadyReel_edits (T : Tx K mg) : Meth K (He.ga K "LoggedReadyReel") "edits" (He.ma K (He.ga K "LoggedReadyReel") "edits") := He.meth_ok (T.c.fact 162 (f := .meth "LoggedReadyReel" "edits") rfl)
theorem Tx.m_LoggedReadyReel_walk (T : Tx K mg) : Meth K (He.ga K "LoggedReadyReel") "walk" (He.ma K (He.ga K "LoggedReadyReel") "walk") := He.meth_ok (T.c.fact 163 (f := .meth "LoggedReadyReel" "walk") rfl)
theorem Tx.m_LoggedReadyReel___len__ (T : Tx K mg) : Meth K (He.ga K "LoggedReadyReel") "__len__" (He.ma K (He.ga K "LoggedReadyReel") "__len__") := He.meth_ok (T.c.fact 164 (f := .meth "LoggedReadyReel" "__len__") rfl)
theorem Tx.m_LoggedReadyReel___str__ (T : Tx K mg) : Meth K (He.ga K "LoggedReadyReel") "__str__" (He.ma K (He.ga K "LoggedReadyReel") "__str__") := He.meth_ok (T.c.fact 165 (f := .meth "LoggedReadyReel" "__str__") rfl)
theorem Tx.m_LoggedReadyReel___eq__ (T : Tx K mg) : Meth K (He.ga K "LoggedReadyReel") "__eq__" (He.ma K (He.ga K "LoggedReadyReel") "__eq__") := He.meth_ok (T.c.fact 166 (f := .meth "LoggedReadyReel" "__eq__") rfl)
theorem Tx.m_LoggedReadyReel_noted (T : Tx K mg) : Meth K (He.ga K "LoggedReadyReel") "noted" (He.ma K (He.ga K "LoggedReadyReel") "noted") := He.meth_ok (T.c.fact 167 (f := .meth "LoggedReadyReel" "noted") rfl)
theorem Tx.x_BadRing (T : Tx K mg) : PySem.Xf_error.Txt K mg "BadRing" "BadRing.__init__" (He.ga K "BadRing") (He.ma K (He.ga K "BadRing") "__init__") "ValueError.__new__" veB := by
  have c := T.ex
  unfold exq at c
  try simp only [Bool.and_eq_true, decide_eq_true_eq] at c
  obtain ⟨fd, F⟩ := T.c.def_ 4 (d := d_BadRing_init) rfl
  exact excB_error T.g_BadRing c.2.2.2.1 ⟨_, _, _, _, _, _, fd, F⟩
theorem Tx.x_NoBalance (T : Tx K mg) : PySem.Xf_balance.Txt K mg "NoBalance" "NoBalance.__init__" (He.ga K "NoBalance") (He.ma K (He.ga K "NoBalance") "__init__") "ValueError.__new__" veB := by
  have c := T.ex
  unfold exq at c
  try simp only [Bool.and_eq_true, decide_eq_true_eq] at c
  obtain ⟨fd, F⟩ := T.c.def_ 5 (d := d_NoBalance_init) rfl
  exact excB_balance T.g_NoBalance c.2.2.2.2.1 ⟨_, _, _, _, _, _, fd, F⟩
theorem Tx.x_BadText (T : Tx K mg) : PySem.Xf_index.Txt K mg "BadText" "BadText.__init__" (He.ga K "BadText") (He.ma K (He.ga K "BadText") "__init__") "ValueError.__new__" veB := by
  have c := T.ex
  unfold exq at c
  try simp only [Bool.and_eq_true, decide_eq_true_eq] at c
  obtain ⟨fd, F⟩ := T.c.def_ 8 (d := d_BadText_init) rfl
  exact excB_index T.g_BadText c.2.2.2.2.2.2.2.1 ⟨_, _, _, _, _, _, fd, F⟩
theorem Tx.al_beginnings_beginnings (T : Tx K mg) : He.ga K "beginnings_beginnings" = He.ga K "beginnings" := by
  have c := T.ex
  unfold exq at c
  try simp only [Bool.and_eq_true, decide_eq_true_eq] at c
  exact c.2.2.2.2.2.2.2.2.2.2.1
theorem Tx.p_Reel_ring (T : Tx K mg) : PropOf K (He.ga K "Reel") "ring" (prA K (He.ga K "Reel") "ring") (gtA K (He.ga K "Reel") "ring") := by
  have c := T.ex
  unfold exq at c
  try simp only [Bool.and_eq_true, decide_eq_true_eq] at c
  exact prop_ok c.2.2.2.2.2.2.2.2.2.2.2.1
theorem Tx.p_Reel_version (T : Tx K mg) : PropOf K (He.ga K "Reel") "version" (prA K (He.ga K "Reel") "version") (gtA K (He.ga K "Reel") "version") := by
  have c := T.ex
  unfold exq at c
  try simp only [Bool.and_eq_true, decide_eq_true_eq] at c
  exact prop_ok c.2.2.2.2.2.2.2.2.2.2.2.2.1
theorem Tx.p_Reel_beginnings (T : Tx K mg) : PropOf K (He.ga K "Reel") "beginnings" (prA K (He.ga K "Reel") "beginnings") (gtA K (He.ga K "Reel") "beginnings") := by
  have c := T.ex
  unfold exq at c
  try simp only [Bool.and_eq_true, decide_eq_true_eq] at c
  exact prop_ok c.2.2.2.2.2.2.2.2.2.2.2.2.2.1
theorem Tx.p_Reel_start (T : Tx K mg) : PropOf K (He.ga K "Reel") "start" (prA K (He.ga K "Reel") "start") (gtA K (He.ga K "Reel") "start") := by
  have c := T.ex
  unfold exq at c
  try simp only [Bool.and_eq_true, decide_eq_true_eq] at c
  exact prop_ok c.2.2.2.2.2.2.2.2.2.2.2.2.2.2.1
theorem Tx.st_Reel_start (T : Tx K mg) : PropSet K (He.ga K "Reel") "start" (prA K (He.ga K "Reel") "start") (stA K (He.ga K "Reel") "start") := by
  have c := T.ex
  unfold exq at c
  try simp only [Bool.and_eq_true, decide_eq_true_eq] at c
  exact set_ok c.2.2.2.2.2.2.2.2.2.2.2.2.2.2.2.1
theorem Tx.cm_Reel_read (T : Tx K mg) : ClX.CMet K (He.ga K "Reel") (.type "type") "read" (prA K (He.ga K "Reel") "read") (cmA K (He.ga K "Reel") "read") := by
  have c := T.ex
  unfold exq at c
  try simp only [Bool.and_eq_true, decide_eq_true_eq] at c
  exact cme_ok c.2.2.2.2.2.2.2.2.2.2.2.2.2.2.2.2.2.1
theorem Tx.cs_Reel_is_edit (T : Tx K mg) : CStat K (He.ga K "Reel") "is_edit" (prA K (He.ga K "Reel") "is_edit") (smA K (He.ga K "Reel") "is_edit") := by
  have c := T.ex
  unfold exq at c
  try simp only [Bool.and_eq_true, decide_eq_true_eq] at c
  exact csm_ok c.2.2.2.2.2.2.2.2.2.2.2.2.2.2.2.2.2.2.1
theorem Tx.cn_Reel_MOST_EDITS (T : Tx K mg) : ∃ u, ClX.CVal K (He.ga K "Reel") (.type "type") "MOST_EDITS" (.int 60) u := by
  have c := T.ex
  unfold exq at c
  try simp only [Bool.and_eq_true, decide_eq_true_eq] at c
  exact cvn_ok c.2.2.2.2.2.2.2.2.2.2.2.2.2.2.2.2.2.2.2.1
theorem Tx.kt_Reel_WORDS (T : Tx K mg) : ∃ a : Addr, Con K (He.ga K "Reel") "WORDS" (.ref a) (.ref a) ∧ ∀ H : Hp, SqT K H a ((["put", "insert", "remove"] : List Str).map V.str) := by
  have c := T.ex
  unfold exq at c
  try simp only [Bool.and_eq_true, decide_eq_true_eq] at c
  exact kwt_ok c.2.2.2.2.2.2.2.2.2.2.2.2.2.2.2.2.2.2.2.2.1
theorem Tx.si_Reel_is_edit (T : Tx K mg) : SInst K (He.ga K "Reel") "is_edit" (prA K (He.ga K "Reel") "is_edit") (smA K (He.ga K "Reel") "is_edit") := by
  have c := T.ex
  unfold exq at c
  try simp only [Bool.and_eq_true, decide_eq_true_eq] at c
  exact smi_ok c.2.2.2.2.2.2.2.2.2.2.2.2.2.2.2.2.2.2.2.2.2.1
theorem Tx.is_Reel (T : Tx K mg) : IsiC K (He.ga K "Reel") := by
  have c := T.ex
  unfold exq at c
  try simp only [Bool.and_eq_true, decide_eq_true_eq] at c
  exact isiB_ok c.2.2.2.2.2.2.2.2.2.2.2.2.2.2.2.2.2.2.2.2.2.2.1
theorem Tx.cr_Reel (T : Tx K mg) : ClX.CRead K (He.ga K "Reel") (.type "type") := by
  have c := T.ex
  unfold exq at c
  try simp only [Bool.and_eq_true, decide_eq_true_eq] at c
  exact crd_ok c.2.2.2.2.2.2.2.2.2.2.2.2.2.2.2.2.2.2.2.2.2.2.2.1
theorem Tx.k_Reel_MOST_EDITS (T : Tx K mg) : ∃ u, Con K (He.ga K "Reel") "MOST_EDITS" (.int 60) u := by
  have c := T.ex
  unfold exq at c
  try simp only [Bool.and_eq_true, decide_eq_true_eq] at c
  exact con_ok c.2.2.2.2.2.2.2.2.2.2.2.2.2.2.2.2.2.2.2.2.2.2.2.2.1
theorem Tx.cv_Reel_WORDS (T : Tx K mg) : ∃ a : Addr, ClX.CVal K (He.ga K "Reel") (.type "type") "WORDS" (.ref a) (.ref a) ∧ ∀ H : Hp, SqT K H a ((["put", "insert", "remove"] : List Str).map V.str) := by
  have c := T.ex
  unfold exq at c
  try simp only [Bool.and_eq_true, decide_eq_true_eq] at c
  exact cvt_ok c.2.2.2.2.2.2.2.2.2.2.2.2.2.2.2.2.2.2.2.2.2.2.2.2.2.1
theorem Tx.p_ReadyReel_ring (T : Tx K mg) : PropOf K (He.ga K "ReadyReel") "ring" (prA K (He.ga K "ReadyReel") "ring") (gtA K (He.ga K "ReadyReel") "ring") := by
  have c := T.ex
  unfold exq at c
  try simp only [Bool.and_eq_true, decide_eq_true_eq] at c
  exact prop_ok c.2.2.2.2.2.2.2.2.2.2.2.2.2.2.2.2.2.2.2.2.2.2.2.2.2.2.1
theorem Tx.p_ReadyReel_version (T : Tx K mg) : PropOf K (He.ga K "ReadyReel") "version" (prA K (He.ga K "ReadyReel") "version") (gtA K (He.ga K "ReadyReel") "version") := by
  have c := T.ex
  unfold exq at c
  try simp only [Bool.and_eq_true, decide_eq_true_eq] at c
  exact prop_ok c.2.2.2.2.2.2.2.2.2.2.2.2.2.2.2.2.2.2.2.2.2.2.2.2.2.2.2.1
theorem Tx.p_ReadyReel_beginnings (T : Tx K mg) : PropOf K (He.ga K "ReadyReel") "beginnings" (prA K (He.ga K "ReadyReel") "beginnings") (gtA K (He.ga K "ReadyReel") "beginnings") := by
  have c := T.ex
  unfold exq at c
  try simp only [Bool.and_eq_true, decide_eq_true_eq] at c
  exact prop_ok c.2.2.2.2.2.2.2.2.2.2.2.2.2.2.2.2.2.2.2.2.2.2.2.2.2.2.2.2.1
theorem Tx.p_ReadyReel_start (T : Tx K mg) : PropOf K (He.ga K "ReadyReel") "start" (prA K (He.ga K "ReadyReel") "start") (gtA K (He.ga K "ReadyReel") "start") := by
  have c := T.ex
  unfold exq at c
  try simp only [Bool.and_eq_true, decide_eq_true_eq] at c
  exact prop_ok c.2.2.2.2.2.2.2.2.2.2.2.2.2.2.2.2.2.2.2.2.2.2.2.2.2.2.2.2.2.1
theorem Tx.st_ReadyReel_start (T : Tx K mg) : PropSet K (He.ga K "ReadyReel") "start" (prA K (He.ga K "ReadyReel") "start") (stA K (He.ga K "ReadyReel") "start") := by
  have c := T.ex
  unfold exq at c
  try simp only [Bool.and_eq_true, decide_eq_true_eq] at c
  exact set_ok c.2.2.2.2.2.2.2.2.2.2.2.2.2.2.2.2.2.2.2.2.2.2.2.2.2.2.2.2.2.2.1
theorem Tx.cm_ReadyReel_read (T : Tx K mg) : ClX.CMet K (He.ga K "ReadyReel") (.type "type") "read" (prA K (He.ga K "ReadyReel") "read") (cmA K (He.ga K "ReadyReel") "read") := by
  have c := T.ex
  unfold exq at c
  try simp only [Bool.and_eq_true, decide_eq_true_eq] at c
  exact cme_ok c.2.2.2.2.2.2.2.2.2.2.2.2.2.2.2.2.2.2.2.2.2.2.2.2.2.2.2.2.2.2.2.2.1
theorem Tx.cn_ReadyReel_MOST_EDITS (T : Tx K mg) : ∃ u, ClX.CVal K (He.ga K "ReadyReel") (.type "type") "MOST_EDITS" (.int 60) u := by
  have c := T.ex
  unfold exq at c
  try simp only [Bool.and_eq_true, decide_eq_true_eq] at c
  exact cvn_ok c.2.2.2.2.2.2.2.2.2.2.2.2.2.2.2.2.2.2.2.2.2.2.2.2.2.2.2.2.2.2.2.2.2.2.1
theorem Tx.is_ReadyReel (T : Tx K mg) : IsiC K (He.ga K "ReadyReel") := by
  have c := T.ex
  unfold exq at c
  try simp only [Bool.and_eq_true, decide_eq_true_eq] at c
  exact isiB_ok c.2.2.2.2.2.2.2.2.2.2.2.2.2.2.2.2.2.2.2.2.2.2.2.2.2.2.2.2.2.2.2.2.2.2.2.2.2.1
theorem Tx.cr_ReadyReel (T : Tx K mg) : ClX.CRead K (He.ga K "ReadyReel") (.type "type") := by
  have c := T.ex
  unfold exq at c
  try simp only [Bool.and_eq_true, decide_eq_true_eq] at c
  exact crd_ok c.2.2.2.2.2.2.2.2.2.2.2.2.2.2.2.2.2.2.2.2.2.2.2.2.2.2.2.2.2.2.2.2.2.2.2.2.2.2.1
theorem Tx.k_ReadyReel_MOST_EDITS (T : Tx K mg) : ∃ u, Con K (He.ga K "ReadyReel") "MOST_EDITS" (.int 60) u := by
  have c := T.ex
  unfold exq at c
  try simp only [Bool.and_eq_true, decide_eq_true_eq] at c
  exact con_ok c.2.2.2.2.2.2.2.2.2.2.2.2.2.2.2.2.2.2.2.2.2.2.2.2.2.2.2.2.2.2.2.2.2.2.2.2.2.2.2.1
theorem Tx.p_LoggedReel_ring (T : Tx K mg) : PropOf K (He.ga K "LoggedReel") "ring" (prA K (He.ga K "LoggedReel") "ring") (gtA K (He.ga K "LoggedReel") "ring") := by
  have c := T.ex
  unfold exq at c
  try simp only [Bool.and_eq_true, decide_eq_true_eq] at c
  exact prop_ok c.2.2.2.2.2.2.2.2.2.2.2.2.2.2.2.2.2.2.2.2.2.2.2.2.2.2.2.2.2.2.2.2.2.2.2.2.2.2.2.2.2.1
theorem Tx.p_LoggedReel_version (T : Tx K mg) : PropOf K (He.ga K "LoggedReel") "version" (prA K (He.ga K "LoggedReel") "version") (gtA K (He.ga K "LoggedReel") "version") := by
  have c := T.ex
  unfold exq at c
  try simp only [Bool.and_eq_true, decide_eq_true_eq] at c
  exact prop_ok c.2.2.2.2.2.2.2.2.2.2.2.2.2.2.2.2.2.2.2.2.2.2.2.2.2.2.2.2.2.2.2.2.2.2.2.2.2.2.2.2.2.2.1
theorem Tx.p_LoggedReel_beginnings (T : Tx K mg) : PropOf K (He.ga K "LoggedReel") "beginnings" (prA K (He.ga K "LoggedReel") "beginnings") (gtA K (He.ga K "LoggedReel") "beginnings") := by
  have c := T.ex
  unfold exq at c
  try simp only [Bool.and_eq_true, decide_eq_true_eq] at c
  exact prop_ok c.2.2.2.2.2.2.2.2.2.2.2.2.2.2.2.2.2.2.2.2.2.2.2.2.2.2.2.2.2.2.2.2.2.2.2.2.2.2.2.2.2.2.2.1
theorem Tx.p_LoggedReel_start (T : Tx K mg) : PropOf K (He.ga K "LoggedReel") "start" (prA K (He.ga K "LoggedReel") "start") (gtA K (He.ga K "LoggedReel") "start") := by
  have c := T.ex
  unfold exq at c
  try simp only [Bool.and_eq_true, decide_eq_true_eq] at c
  exact prop_ok c.2.2.2.2.2.2.2.2.2.2.2.2.2.2.2.2.2.2.2.2.2.2.2.2.2.2.2.2.2.2.2.2.2.2.2.2.2.2.2.2.2.2.2.2.1
theorem Tx.p_LoggedReel_log (T : Tx K mg) : PropOf K (He.ga K "LoggedReel") "log" (prA K (He.ga K "LoggedReel") "log") (gtA K (He.ga K "LoggedReel") "log") := by
  have c := T.ex
  unfold exq at c
  try simp only [Bool.and_eq_true, decide_eq_true_eq] at c
  exact prop_ok c.2.2.2.2.2.2.2.2.2.2.2.2.2.2.2.2.2.2.2.2.2.2.2.2.2.2.2.2.2.2.2.2.2.2.2.2.2.2.2.2.2.2.2.2.2.1
theorem Tx.st_LoggedReel_start (T : Tx K mg) : PropSet K (He.ga K "LoggedReel") "start" (prA K (He.ga K "LoggedReel") "start") (stA K (He.ga K "LoggedReel") "start") := by
  have c := T.ex
  unfold exq at c
  try simp only [Bool.and_eq_true, decide_eq_true_eq] at c
  exact set_ok c.2.2.2.2.2.2.2.2.2.2.2.2.2.2.2.2.2.2.2.2.2.2.2.2.2.2.2.2.2.2.2.2.2.2.2.2.2.2.2.2.2.2.2.2.2.2.1
theorem Tx.cm_LoggedReel_read (T : Tx K mg) : ClX.CMet K (He.ga K "LoggedReel") (.type "type") "read" (prA K (He.ga K "LoggedReel") "read") (cmA K (He.ga K "LoggedReel") "read") := by
  have c := T.ex
  unfold exq at c
  try simp only [Bool.and_eq_true, decide_eq_true_eq] at c
  exact cme_ok c.2.2.2.2.2.2.2.2.2.2.2.2.2.2.2.2.2.2.2.2.2.2.2.2.2.2.2.2.2.2.2.2.2.2.2.2.2.2.2.2.2.2.2.2.2.2.2.2.1
theorem Tx.is_LoggedReel (T : Tx K mg) : IsiC K (He.ga K "LoggedReel") := by
  have c := T.ex
  unfold exq at c
  try simp only [Bool.and_eq_true, decide_eq_true_eq] at c
  exact isiB_ok c.2.2.2.2.2.2.2.2.2.2.2.2.2.2.2.2.2.2.2.2.2.2.2.2.2.2.2.2.2.2.2.2.2.2.2.2.2.2.2.2.2.2.2.2.2.2.2.2.2.2.2.2.2.1
theorem Tx.cr_LoggedReel (T : Tx K mg) : ClX.CRead K (He.ga K "LoggedReel") (.type "type") := by
  have c := T.ex
  unfold exq at c
  try simp only [Bool.and_eq_true, decide_eq_true_eq] at c
  exact crd_ok c.2.2.2.2.2.2.2.2.2.2.2.2.2.2.2.2.2.2.2.2.2.2.2.2.2.2.2.2.2.2.2.2.2.2.2.2.2.2.2.2.2.2.2.2.2.2.2.2.2.2.2.2.2.2.1
theorem Tx.k_LoggedReel_MOST_EDITS (T : Tx K mg) : ∃ u, Con K (He.ga K "LoggedReel") "MOST_EDITS" (.int 60) u := by
  have c := T.ex
  unfold exq at c
  try simp only [Bool.and_eq_true, decide_eq_true_eq] at c
  exact con_ok c.2.2.2.2.2.2.2.2.2.2.2.2.2.2.2.2.2.2.2.2.2.2.2.2.2.2.2.2.2.2.2.2.2.2.2.2.2.2.2.2.2.2.2.2.2.2.2.2.2.2.2.2.2.2.2.1
theorem Tx.p_LoggedReadyReel_ring (T : Tx K mg) : PropOf K (He.ga K "LoggedReadyReel") "ring" (prA K (He.ga K "LoggedReadyReel") "ring") (gtA K (He.ga K "LoggedReadyReel") "ring") := by
  have c := T.ex
  unfold exq at c
  try simp only [Bool.and_eq_true, decide_eq_true_eq] at c
  exact prop_ok c.2.2.2.2.2.2.2.2.2.2.2.2.2.2.2.2.2.2.2.2.2.2.2.2.2.2.2.2.2.2.2.2.2.2.2.2.2.2.2.2.2.2.2.2.2.2.2.2.2.2.2.2.2.2.2.2.2.1
theorem Tx.p_LoggedReadyReel_version (T : Tx K mg) : PropOf K (He.ga K "LoggedReadyReel") "version" (prA K (He.ga K "LoggedReadyReel") "version") (gtA K (He.ga K "LoggedReadyReel") "version") := by
  have c := T.ex
  unfold exq at c
  try simp only [Bool.and_eq_true, decide_eq_true_eq] at c
  exact prop_ok c.2.2.2.2.2.2.2.2.2.2.2.2.2.2.2.2.2.2.2.2.2.2.2.2.2.2.2.2.2.2.2.2.2.2.2.2.2.2.2.2.2.2.2.2.2.2.2.2.2.2.2.2.2.2.2.2.2.2.1
theorem Tx.p_LoggedReadyReel_beginnings (T : Tx K mg) : PropOf K (He.ga K "LoggedReadyReel") "beginnings" (prA K (He.ga K "LoggedReadyReel") "beginnings") (gtA K (He.ga K "LoggedReadyReel") "beginnings") := by
  have c := T.ex
  unfold exq at c
  try simp only [Bool.and_eq_true, decide_eq_true_eq] at c
  exact prop_ok c.2.2.2.2.2.2.2.2.2.2.2.2.2.2.2.2.2.2.2.2.2.2.2.2.2.2.2.2.2.2.2.2.2.2.2.2.2.2.2.2.2.2.2.2.2.2.2.2.2.2.2.2.2.2.2.2.2.2.2.1
theorem Tx.p_LoggedReadyReel_start (T : Tx K mg) : PropOf K (He.ga K "LoggedReadyReel") "start" (prA K (He.ga K "LoggedReadyReel") "start") (gtA K (He.ga K "LoggedReadyReel") "start") := by
  have c := T.ex
  unfold exq at c
  try simp only [Bool.and_eq_true, decide_eq_true_eq] at c
  exact prop_ok c.2.2.2.2.2.2.2.2.2.2.2.2.2.2.2.2.2.2.2.2.2.2.2.2.2.2.2.2.2.2.2.2.2.2.2.2.2.2.2.2.2.2.2.2.2.2.2.2.2.2.2.2.2.2.2.2.2.2.2.2.1
theorem Tx.p_LoggedReadyReel_log (T : Tx K mg) : PropOf K (He.ga K "LoggedReadyReel") "log" (prA K (He.ga K "LoggedReadyReel") "log") (gtA K (He.ga K "LoggedReadyReel") "log") := by
  have c := T.ex
  unfold exq at c
  try simp only [Bool.and_eq_true, decide_eq_true_eq] at c
  exact prop_ok c.2.2.2.2.2.2.2.2.2.2.2.2.2.2.2.2.2.2.2.2.2.2.2.2.2.2.2.2.2.2.2.2.2.2.2.2.2.2.2.2.2.2.2.2.2.2.2.2.2.2.2.2.2.2.2.2.2.2.2.2.2.1
theorem Tx.st_LoggedReadyReel_start (T : Tx K mg) : PropSet K (He.ga K "LoggedReadyReel") "start" (prA K (He.ga K "LoggedReadyReel") "start") (stA K (He.ga K "LoggedReadyReel") "start") := by
  have c := T.ex
  unfold exq at c
  try simp only [Bool.and_eq_true, decide_eq_true_eq] at c
  exact set_ok c.2.2.2.2.2.2.2.2.2.2.2.2.2.2.2.2.2.2.2.2.2.2.2.2.2.2.2.2.2.2.2.2.2.2.2.2.2.2.2.2.2.2.2.2.2.2.2.2.2.2.2.2.2.2.2.2.2.2.2.2.2.2.1
theorem Tx.cm_LoggedReadyReel_read (T : Tx K mg) : ClX.CMet K (He.ga K "LoggedReadyReel") (.type "type") "read" (prA K (He.ga K "LoggedReadyReel") "read") (cmA K (He.ga K "LoggedReadyReel") "read") := by
  have c := T.ex
  unfold exq at c
  try simp only [Bool.and_eq_true, decide_eq_true_eq] at c
  exact cme_ok c.2.2.2.2.2.2.2.2.2.2.2.2.2.2.2.2.2.2.2.2.2.2.2.2.2.2.2.2.2.2.2.2.2.2.2.2.2.2.2.2.2.2.2.2.2.2.2.2.2.2.2.2.2.2.2.2.2.2.2.2.2.2.2.2.1
theorem Tx.cs_LoggedReadyReel_is_edit (T : Tx K mg) : CStat K (He.ga K "LoggedReadyReel") "is_edit" (prA K (He.ga K "LoggedReadyReel") "is_edit") (smA K (He.ga K "LoggedReadyReel") "is_edit") := by
  have c := T.ex
  unfold exq at c
  try simp only [Bool.and_eq_true, decide_eq_true_eq] at c
  exact csm_ok c.2.2.2.2.2.2.2.2.2.2.2.2.2.2.2.2.2.2.2.2.2.2.2.2.2.2.2.2.2.2.2.2.2.2.2.2.2.2.2.2.2.2.2.2.2.2.2.2.2.2.2.2.2.2.2.2.2.2.2.2.2.2.2.2.2.1
theorem Tx.is_LoggedReadyReel (T : Tx K mg) : IsiC K (He.ga K "LoggedReadyReel") := by
  have c := T.ex
  unfold exq at c
  try simp only [Bool.and_eq_true, decide_eq_true_eq] at c
  exact isiB_ok c.2.2.2.2.2.2.2.2.2.2.2.2.2.2.2.2.2.2.2.2.2.2.2.2.2.2.2.2.2.2.2.2.2.2.2.2.2.2.2.2.2.2.2.2.2.2.2.2.2.2.2.2.2.2.2.2.2.2.2.2.2.2.2.2.2.2.2.2.2.1
theorem Tx.cr_LoggedReadyReel (T : Tx K mg) : ClX.CRead K (He.ga K "LoggedReadyReel") (.type "type") := by
  have c := T.ex
  unfold exq at c
  try simp only [Bool.and_eq_true, decide_eq_true_eq] at c
  exact crd_ok c.2.2.2.2.2.2.2.2.2.2.2.2.2.2.2.2.2.2.2.2.2.2.2.2.2.2.2.2.2.2.2.2.2.2.2.2.2.2.2.2.2.2.2.2.2.2.2.2.2.2.2.2.2.2.2.2.2.2.2.2.2.2.2.2.2.2.2.2.2.2.1
theorem Tx.k_LoggedReadyReel_MOST_EDITS (T : Tx K mg) : ∃ u, Con K (He.ga K "LoggedReadyReel") "MOST_EDITS" (.int 60) u := by
  have c := T.ex
  unfold exq at c
  try simp only [Bool.and_eq_true, decide_eq_true_eq] at c
  exact con_ok c.2.2.2.2.2.2.2.2.2.2.2.2.2.2.2.2.2.2.2.2.2.2.2.2.2.2.2.2.2.2.2.2.2.2.2.2.2.2.2.2.2.2.2.2.2.2.2.2.2.2.2.2.2.2.2.2.2.2.2.2.2.2.2.2.2.2.2.2.2.2.2.1
theorem Tx.ko_Reel_Reel (T : Tx K mg) : PySem.W.kitOne K (.ref (He.ga K "Reel")) (.ref (He.ga K "Reel")) = some true := by
  have c := T.ex
  unfold exq at c
  try simp only [Bool.and_eq_true, decide_eq_true_eq] at c
  exact c.2.2.2.2.2.2.2.2.2.2.2.2.2.2.2.2.2.2.2.2.2.2.2.2.2.2.2.2.2.2.2.2.2.2.2.2.2.2.2.2.2.2.2.2.2.2.2.2.2.2.2.2.2.2.2.2.2.2.2.2.2.2.2.2.2.2.2.2.2.2.2.2.2.1
theorem Tx.ko_Reel_ReadyReel (T : Tx K mg) : PySem.W.kitOne K (.ref (He.ga K "Reel")) (.ref (He.ga K "ReadyReel")) = some false := by
  have c := T.ex
  unfold exq at c
  try simp only [Bool.and_eq_true, decide_eq_true_eq] at c
  exact c.2.2.2.2.2.2.2.2.2.2.2.2.2.2.2.2.2.2.2.2.2.2.2.2.2.2.2.2.2.2.2.2.2.2.2.2.2.2.2.2.2.2.2.2.2.2.2.2.2.2.2.2.2.2.2.2.2.2.2.2.2.2.2.2.2.2.2.2.2.2.2.2.2.2.1
theorem Tx.ko_Reel_LoggedReel (T : Tx K mg) : PySem.W.kitOne K (.ref (He.ga K "Reel")) (.ref (He.ga K "LoggedReel")) = some false := by
  have c := T.ex
  unfold exq at c
  try simp only [Bool.and_eq_true, decide_eq_true_eq] at c
  exact c.2.2.2.2.2.2.2.2.2.2.2.2.2.2.2.2.2.2.2.2.2.2.2.2.2.2.2.2.2.2.2.2.2.2.2.2.2.2.2.2.2.2.2.2.2.2.2.2.2.2.2.2.2.2.2.2.2.2.2.2.2.2.2.2.2.2.2.2.2.2.2.2.2.2.2.1
theorem Tx.ko_ReadyReel_Reel (T : Tx K mg) : PySem.W.kitOne K (.ref (He.ga K "ReadyReel")) (.ref (He.ga K "Reel")) = some true := by
  have c := T.ex
  unfold exq at c
  try simp only [Bool.and_eq_true, decide_eq_true_eq] at c
  exact c.2.2.2.2.2.2.2.2.2.2.2.2.2.2.2.2.2.2.2.2.2.2.2.2.2.2.2.2.2.2.2.2.2.2.2.2.2.2.2.2.2.2.2.2.2.2.2.2.2.2.2.2.2.2.2.2.2.2.2.2.2.2.2.2.2.2.2.2.2.2.2.2.2.2.2.2.1
theorem Tx.ko_ReadyReel_ReadyReel (T : Tx K mg) : PySem.W.kitOne K (.ref (He.ga K "ReadyReel")) (.ref (He.ga K "ReadyReel")) = some true := by
  have c := T.ex
  unfold exq at c
  try simp only [Bool.and_eq_true, decide_eq_true_eq] at c
  exact c.2.2.2.2.2.2.2.2.2.2.2.2.2.2.2.2.2.2.2.2.2.2.2.2.2.2.2.2.2.2.2.2.2.2.2.2.2.2.2.2.2.2.2.2.2.2.2.2.2.2.2.2.2.2.2.2.2.2.2.2.2.2.2.2.2.2.2.2.2.2.2.2.2.2.2.2.2.1
theorem Tx.ko_ReadyReel_LoggedReel (T : Tx K mg) : PySem.W.kitOne K (.ref (He.ga K "ReadyReel")) (.ref (He.ga K "LoggedReel")) = some false := by
  have c := T.ex
  unfold exq at c
  try simp only [Bool.and_eq_true, decide_eq_true_eq] at c
  exact c.2.2.2.2.2.2.2.2.2.2.2.2.2.2.2.2.2.2.2.2.2.2.2.2.2.2.2.2.2.2.2.2.2.2.2.2.2.2.2.2.2.2.2.2.2.2.2.2.2.2.2.2.2.2.2.2.2.2.2.2.2.2.2.2.2.2.2.2.2.2.2.2.2.2.2.2.2.2.1
theorem Tx.ko_LoggedReel_Reel (T : Tx K mg) : PySem.W.kitOne K (.ref (He.ga K "LoggedReel")) (.ref (He.ga K "Reel")) = some true := by
  have c := T.ex
  unfold exq at c
  try simp only [Bool.and_eq_true, decide_eq_true_eq] at c
  exact c.2.2.2.2.2.2.2.2.2.2.2.2.2.2.2.2.2.2.2.2.2.2.2.2.2.2.2.2.2.2.2.2.2.2.2.2.2.2.2.2.2.2.2.2.2.2.2.2.2.2.2.2.2.2.2.2.2.2.2.2.2.2.2.2.2.2.2.2.2.2.2.2.2.2.2.2.2.2.2.1
theorem Tx.ko_LoggedReel_ReadyReel (T : Tx K mg) : PySem.W.kitOne K (.ref (He.ga K "LoggedReel")) (.ref (He.ga K "ReadyReel")) = some false := by
  have c := T.ex
  unfold exq at c
  try simp only [Bool.and_eq_true, decide_eq_true_eq] at c
  exact c.2.2.2.2.2.2.2.2.2.2.2.2.2.2.2.2.2.2.2.2.2.2.2.2.2.2.2.2.2.2.2.2.2.2.2.2.2.2.2.2.2.2.2.2.2.2.2.2.2.2.2.2.2.2.2.2.2.2.2.2.2.2.2.2.2.2.2.2.2.2.2.2.2.2.2.2.2.2.2.2.1
theorem Tx.ko_LoggedReel_LoggedReel (T : Tx K mg) : PySem.W.kitOne K (.ref (He.ga K "LoggedReel")) (.ref (He.ga K "LoggedReel")) = some true := by
  have c := T.ex
  unfold exq at c
  try simp only [Bool.and_eq_true, decide_eq_true_eq] at c
  exact c.2.2.2.2.2.2.2.2.2.2.2.2.2.2.2.2.2.2.2.2.2.2.2.2.2.2.2.2.2.2.2.2.2.2.2.2.2.2.2.2.2.2.2.2.2.2.2.2.2.2.2.2.2.2.2.2.2.2.2.2.2.2.2.2.2.2.2.2.2.2.2.2.2.2.2.2.2.2.2.2.2.1
theorem Tx.ko_LoggedReadyReel_Reel (T : Tx K mg) : PySem.W.kitOne K (.ref (He.ga K "LoggedReadyReel")) (.ref (He.ga K "Reel")) = some true := by
  have c := T.ex
  unfold exq at c
  try simp only [Bool.and_eq_true, decide_eq_true_eq] at c
  exact c.2.2.2.2.2.2.2.2.2.2.2.2.2.2.2.2.2.2.2.2.2.2.2.2.2.2.2.2.2.2.2.2.2.2.2.2.2.2.2.2.2.2.2.2.2.2.2.2.2.2.2.2.2.2.2.2.2.2.2.2.2.2.2.2.2.2.2.2.2.2.2.2.2.2.2.2.2.2.2.2.2.2.1
theorem Tx.ko_LoggedReadyReel_ReadyReel (T : Tx K mg) : PySem.W.kitOne K (.ref (He.ga K "LoggedReadyReel")) (.ref (He.ga K "ReadyReel")) = some true := by
  have c := T.ex
  unfold exq at c
  try simp only [Bool.and_eq_true, decide_eq_true_eq] at c
  exact c.2.2.2.2.2.2.2.2.2.2.2.2.2.2.2.2.2.2.2.2.2.2.2.2.2.2.2.2.2.2.2.2.2.2.2.2.2.2.2.2.2.2.2.2.2.2.2.2.2.2.2.2.2.2.2.2.2.2.2.2.2.2.2.2.2.2.2.2.2.2.2.2.2.2.2.2.2.2.2.2.2.2.2.1
theorem Tx.ko_LoggedReadyReel_LoggedReel (T : Tx K mg) : PySem.W.kitOne K (.ref (He.ga K "LoggedReadyReel")) (.ref (He.ga K "LoggedReel")) = some true := by
  have c := T.ex
  unfold exq at c
  try simp only [Bool.and_eq_true, decide_eq_true_eq] at c
  exact c.2.2.2.2.2.2.2.2.2.2.2.2.2.2.2.2.2.2.2.2.2.2.2.2.2.2.2.2.2.2.2.2.2.2.2.2.2.2.2.2.2.2.2.2.2.2.2.2.2.2.2.2.2.2.2.2.2.2.2.2.2.2.2.2.2.2.2.2.2.2.2.2.2.2.2.2.2.2.2.2.2.2.2.2.1
theorem Tx.sa_ReadyReel (T : Tx K mg) : SupX.samE K "ReadyReel" [("check_idle", "Reel"), ("settle", "Reel"), ("do_edit", "Reel"), ("put", "Reel"), ("insert", "Reel"), ("remove", "Reel"), ("undo", "Reel"), ("edits", "Reel"), ("walk", "Reel"), ("__len__", "Reel"), ("__str__", "Reel"), ("__eq__", "Reel")] = true := by
  have c := T.ex
  unfold exq at c
  try simp only [Bool.and_eq_true, decide_eq_true_eq] at c
  exact c.2.2.2.2.2.2.2.2.2.2.2.2.2.2.2.2.2.2.2.2.2.2.2.2.2.2.2.2.2.2.2.2.2.2.2.2.2.2.2.2.2.2.2.2.2.2.2.2.2.2.2.2.2.2.2.2.2.2.2.2.2.2.2.2.2.2.2.2.2.2.2.2.2.2.2.2.2.2.2.2.2.2.2.2.2.1
theorem Tx.sp_ReadyReel (T : Tx K mg) : SupX.samB K "ReadyReel" [] ["ring", "version", "beginnings", "start", "read", "is_edit"] = true := by
  have c := T.ex
  unfold exq at c
  try simp only [Bool.and_eq_true, decide_eq_true_eq] at c
  exact c.2.2.2.2.2.2.2.2.2.2.2.2.2.2.2.2.2.2.2.2.2.2.2.2.2.2.2.2.2.2.2.2.2.2.2.2.2.2.2.2.2.2.2.2.2.2.2.2.2.2.2.2.2.2.2.2.2.2.2.2.2.2.2.2.2.2.2.2.2.2.2.2.2.2.2.2.2.2.2.2.2.2.2.2.2.2.1
theorem Tx.sa_LoggedReel (T : Tx K mg) : SupX.samE K "LoggedReel" [("check_idle", "Reel"), ("check_result", "Reel"), ("settle", "Reel"), ("do_edit", "Reel"), ("edits", "Reel"), ("walk", "Reel"), ("__len__", "Reel"), ("__str__", "Reel"), ("__eq__", "Reel")] = true := by
  have c := T.ex
  unfold exq at c
  try simp only [Bool.and_eq_true, decide_eq_true_eq] at c
  exact c.2.2.2.2.2.2.2.2.2.2.2.2.2.2.2.2.2.2.2.2.2.2.2.2.2.2.2.2.2.2.2.2.2.2.2.2.2.2.2.2.2.2.2.2.2.2.2.2.2.2.2.2.2.2.2.2.2.2.2.2.2.2.2.2.2.2.2.2.2.2.2.2.2.2.2.2.2.2.2.2.2.2.2.2.2.2.2.1
theorem Tx.sp_LoggedReel (T : Tx K mg) : SupX.samB K "LoggedReel" [] ["ring", "version", "beginnings", "start", "read", "is_edit"] = true := by
  have c := T.ex
  unfold exq at c
  try simp only [Bool.and_eq_true, decide_eq_true_eq] at c
  exact c.2.2.2.2.2.2.2.2.2.2.2.2.2.2.2.2.2.2.2.2.2.2.2.2.2.2.2.2.2.2.2.2.2.2.2.2.2.2.2.2.2.2.2.2.2.2.2.2.2.2.2.2.2.2.2.2.2.2.2.2.2.2.2.2.2.2.2.2.2.2.2.2.2.2.2.2.2.2.2.2.2.2.2.2.2.2.2.2.1
theorem Tx.sa_LoggedReadyReel (T : Tx K mg) : SupX.samE K "LoggedReadyReel" [("check_idle", "Reel"), ("check_result", "ReadyReel"), ("settle", "Reel"), ("do_edit", "Reel"), ("put", "LoggedReel"), ("insert", "LoggedReel"), ("remove", "LoggedReel"), ("undo", "LoggedReel"), ("edits", "Reel"), ("walk", "Reel"), ("__len__", "Reel"), ("__str__", "Reel"), ("__eq__", "Reel"), ("noted", "LoggedReel")] = true := by
  have c := T.ex
  unfold exq at c
  try simp only [Bool.and_eq_true, decide_eq_true_eq] at c
  exact c.2.2.2.2.2.2.2.2.2.2.2.2.2.2.2.2.2.2.2.2.2.2.2.2.2.2.2.2.2.2.2.2.2.2.2.2.2.2.2.2.2.2.2.2.2.2.2.2.2.2.2.2.2.2.2.2.2.2.2.2.2.2.2.2.2.2.2.2.2.2.2.2.2.2.2.2.2.2.2.2.2.2.2.2.2.2.2.2.2.1
theorem Tx.sq_LoggedReadyReel (T : Tx K mg) : SupX.sameP K "LoggedReadyReel" [("log", "LoggedReel")] = true := by
  have c := T.ex
  unfold exq at c
  try simp only [Bool.and_eq_true, decide_eq_true_eq] at c
  exact c.2.2.2.2.2.2.2.2.2.2.2.2.2.2.2.2.2.2.2.2.2.2.2.2.2.2.2.2.2.2.2.2.2.2.2.2.2.2.2.2.2.2.2.2.2.2.2.2.2.2.2.2.2.2.2.2.2.2.2.2.2.2.2.2.2.2.2.2.2.2.2.2.2.2.2.2.2.2.2.2.2.2.2.2.2.2.2.2.2.2.1
theorem Tx.sp_LoggedReadyReel (T : Tx K mg) : SupX.samB K "LoggedReadyReel" [] ["ring", "version", "beginnings", "start", "read", "is_edit"] = true := by
  have c := T.ex
  unfold exq at c
  try simp only [Bool.and_eq_true, decide_eq_true_eq] at c
  exact c.2.2.2.2.2.2.2.2.2.2.2.2.2.2.2.2.2.2.2.2.2.2.2.2.2.2.2.2.2.2.2.2.2.2.2.2.2.2.2.2.2.2.2.2.2.2.2.2.2.2.2.2.2.2.2.2.2.2.2.2.2.2.2.2.2.2.2.2.2.2.2.2.2.2.2.2.2.2.2.2.2.2.2.2.2.2.2.2.2.2.2.1
theorem Tx.su_ReadyReel_init (T : Tx K mg) : SupX.suB mf K d_ReadyReel_init = true := by
  have c := T.ex
  unfold exq at c
  try simp only [Bool.and_eq_true, decide_eq_true_eq] at c
  exact c.2.2.2.2.2.2.2.2.2.2.2.2.2.2.2.2.2.2.2.2.2.2.2.2.2.2.2.2.2.2.2.2.2.2.2.2.2.2.2.2.2.2.2.2.2.2.2.2.2.2.2.2.2.2.2.2.2.2.2.2.2.2.2.2.2.2.2.2.2.2.2.2.2.2.2.2.2.2.2.2.2.2.2.2.2.2.2.2.2.2.2.2.1
theorem Tx.sm_ReadyReel_ReadyReel_init (T : Tx K mg) : SupX.SuM K (He.ga K "ReadyReel") (He.ga K "ReadyReel") "__init__" (He.ma K (He.ga K "Reel") "__init__") := by
  have c := T.ex
  unfold exq at c
  try simp only [Bool.and_eq_true, decide_eq_true_eq] at c
  exact SupX.suM_of c.2.2.2.2.2.2.2.2.2.2.2.2.2.2.2.2.2.2.2.2.2.2.2.2.2.2.2.2.2.2.2.2.2.2.2.2.2.2.2.2.2.2.2.2.2.2.2.2.2.2.2.2.2.2.2.2.2.2.2.2.2.2.2.2.2.2.2.2.2.2.2.2.2.2.2.2.2.2.2.2.2.2.2.2.2.2.2.2.2.2.2.2.2.1
theorem Tx.sm_LoggedReadyReel_ReadyReel_init (T : Tx K mg) : SupX.SuM K (He.ga K "LoggedReadyReel") (He.ga K "ReadyReel") "__init__" (He.ma K (He.ga K "Reel") "__init__") := by
  have c := T.ex
  unfold exq at c
  try simp only [Bool.and_eq_true, decide_eq_true_eq] at c
  exact SupX.suM_of c.2.2.2.2.2.2.2.2.2.2.2.2.2.2.2.2.2.2.2.2.2.2.2.2.2.2.2.2.2.2.2.2.2.2.2.2.2.2.2.2.2.2.2.2.2.2.2.2.2.2.2.2.2.2.2.2.2.2.2.2.2.2.2.2.2.2.2.2.2.2.2.2.2.2.2.2.2.2.2.2.2.2.2.2.2.2.2.2.2.2.2.2.2.2.1
theorem Tx.su_LoggedReel_init (T : Tx K mg) : SupX.suB mf K d_LoggedReel_init = true := by
  have c := T.ex
  unfold exq at c
  try simp only [Bool.and_eq_true, decide_eq_true_eq] at c
  exact c.2.2.2.2.2.2.2.2.2.2.2.2.2.2.2.2.2.2.2.2.2.2.2.2.2.2.2.2.2.2.2.2.2.2.2.2.2.2.2.2.2.2.2.2.2.2.2.2.2.2.2.2.2.2.2.2.2.2.2.2.2.2.2.2.2.2.2.2.2.2.2.2.2.2.2.2.2.2.2.2.2.2.2.2.2.2.2.2.2.2.2.2.2.2.2.1
theorem Tx.sm_LoggedReel_LoggedReel_init (T : Tx K mg) : SupX.SuM K (He.ga K "LoggedReel") (He.ga K "LoggedReel") "__init__" (He.ma K (He.ga K "Reel") "__init__") := by
  have c := T.ex
  unfold exq at c
  try simp only [Bool.and_eq_true, decide_eq_true_eq] at c
  exact SupX.suM_of c.2.2.2.2.2.2.2.2.2.2.2.2.2.2.2.2.2.2.2.2.2.2.2.2.2.2.2.2.2.2.2.2.2.2.2.2.2.2.2.2.2.2.2.2.2.2.2.2.2.2.2.2.2.2.2.2.2.2.2.2.2.2.2.2.2.2.2.2.2.2.2.2.2.2.2.2.2.2.2.2.2.2.2.2.2.2.2.2.2.2.2.2.2.2.2.2.1
theorem Tx.sm_LoggedReadyReel_LoggedReel_init (T : Tx K mg) : SupX.SuM K (He.ga K "LoggedReadyReel") (He.ga K "LoggedReel") "__init__" (He.ma K (He.ga K "ReadyReel") "__init__") := by
  have c := T.ex
  unfold exq at c
  try simp only [Bool.and_eq_true, decide_eq_true_eq] at c
  exact SupX.suM_of c.2.2.2.2.2.2.2.2.2.2.2.2.2.2.2.2.2.2.2.2.2.2.2.2.2.2.2.2.2.2.2.2.2.2.2.2.2.2.2.2.2.2.2.2.2.2.2.2.2.2.2.2.2.2.2.2.2.2.2.2.2.2.2.2.2.2.2.2.2.2.2.2.2.2.2.2.2.2.2.2.2.2.2.2.2.2.2.2.2.2.2.2.2.2.2.2.2.1
theorem Tx.sm_LoggedReel_LoggedReel_put (T : Tx K mg) : SupX.SuM K (He.ga K "LoggedReel") (He.ga K "LoggedReel") "put" (He.ma K (He.ga K "Reel") "put") := by
  have c := T.ex
  unfold exq at c
  try simp only [Bool.and_eq_true, decide_eq_true_eq] at c
  exact SupX.suM_of c.2.2.2.2.2.2.2.2.2.2.2.2.2.2.2.2.2.2.2.2.2.2.2.2.2.2.2.2.2.2.2.2.2.2.2.2.2.2.2.2.2.2.2.2.2.2.2.2.2.2.2.2.2.2.2.2.2.2.2.2.2.2.2.2.2.2.2.2.2.2.2.2.2.2.2.2.2.2.2.2.2.2.2.2.2.2.2.2.2.2.2.2.2.2.2.2.2.2.2.1
theorem Tx.sm_LoggedReadyReel_LoggedReel_put (T : Tx K mg) : SupX.SuM K (He.ga K "LoggedReadyReel") (He.ga K "LoggedReel") "put" (He.ma K (He.ga K "Reel") "put") := by
  have c := T.ex
  unfold exq at c
  try simp only [Bool.and_eq_true, decide_eq_true_eq] at c
  exact SupX.suM_of c.2.2.2.2.2.2.2.2.2.2.2.2.2.2.2.2.2.2.2.2.2.2.2.2.2.2.2.2.2.2.2.2.2.2.2.2.2.2.2.2.2.2.2.2.2.2.2.2.2.2.2.2.2.2.2.2.2.2.2.2.2.2.2.2.2.2.2.2.2.2.2.2.2.2.2.2.2.2.2.2.2.2.2.2.2.2.2.2.2.2.2.2.2.2.2.2.2.2.2.2.1
theorem Tx.sm_LoggedReel_LoggedReel_insert (T : Tx K mg) : SupX.SuM K (He.ga K "LoggedReel") (He.ga K "LoggedReel") "insert" (He.ma K (He.ga K "Reel") "insert") := by
  have c := T.ex
  unfold exq at c
  try simp only [Bool.and_eq_true, decide_eq_true_eq] at c
  exact SupX.suM_of c.2.2.2.2.2.2.2.2.2.2.2.2.2.2.2.2.2.2.2.2.2.2.2.2.2.2.2.2.2.2.2.2.2.2.2.2.2.2.2.2.2.2.2.2.2.2.2.2.2.2.2.2.2.2.2.2.2.2.2.2.2.2.2.2.2.2.2.2.2.2.2.2.2.2.2.2.2.2.2.2.2.2.2.2.2.2.2.2.2.2.2.2.2.2.2.2.2.2.2.2.2.2.1
theorem Tx.sm_LoggedReadyReel_LoggedReel_insert (T : Tx K mg) : SupX.SuM K (He.ga K "LoggedReadyReel") (He.ga K "LoggedReel") "insert" (He.ma K (He.ga K "Reel") "insert") := by
  have c := T.ex
  unfold exq at c
  try simp only [Bool.and_eq_true, decide_eq_true_eq] at c
  exact SupX.suM_of c.2.2.2.2.2.2.2.2.2.2.2.2.2.2.2.2.2.2.2.2.2.2.2.2.2.2.2.2.2.2.2.2.2.2.2.2.2.2.2.2.2.2.2.2.2.2.2.2.2.2.2.2.2.2.2.2.2.2.2.2.2.2.2.2.2.2.2.2.2.2.2.2.2.2.2.2.2.2.2.2.2.2.2.2.2.2.2.2.2.2.2.2.2.2.2.2.2.2.2.2.2.2.2.1
theorem Tx.sm_LoggedReel_LoggedReel_remove (T : Tx K mg) : SupX.SuM K (He.ga K "LoggedReel") (He.ga K "LoggedReel") "remove" (He.ma K (He.ga K "Reel") "remove") := by
  have c := T.ex
  unfold exq at c
  try simp only [Bool.and_eq_true, decide_eq_true_eq] at c
  exact SupX.suM_of c.2.2.2.2.2.2.2.2.2.2.2.2.2.2.2.2.2.2.2.2.2.2.2.2.2.2.2.2.2.2.2.2.2.2.2.2.2.2.2.2.2.2.2.2.2.2.2.2.2.2.2.2.2.2.2.2.2.2.2.2.2.2.2.2.2.2.2.2.2.2.2.2.2.2.2.2.2.2.2.2.2.2.2.2.2.2.2.2.2.2.2.2.2.2.2.2.2.2.2.2.2.2.2.2.2.1
theorem Tx.sm_LoggedReadyReel_LoggedReel_remove (T : Tx K mg) : SupX.SuM K (He.ga K "LoggedReadyReel") (He.ga K "LoggedReel") "remove" (He.ma K (He.ga K "Reel") "remove") := by
  have c := T.ex
  unfold exq at c
  try simp only [Bool.and_eq_true, decide_eq_true_eq] at c
  exact SupX.suM_of c.2.2.2.2.2.2.2.2.2.2.2.2.2.2.2.2.2.2.2.2.2.2.2.2.2.2.2.2.2.2.2.2.2.2.2.2.2.2.2.2.2.2.2.2.2.2.2.2.2.2.2.2.2.2.2.2.2.2.2.2.2.2.2.2.2.2.2.2.2.2.2.2.2.2.2.2.2.2.2.2.2.2.2.2.2.2.2.2.2.2.2.2.2.2.2.2.2.2.2.2.2.2.2.2.2.2.1
theorem Tx.sm_LoggedReel_LoggedReel_undo (T : Tx K mg) : SupX.SuM K (He.ga K "LoggedReel") (He.ga K "LoggedReel") "undo" (He.ma K (He.ga K "Reel") "undo") := by
  have c := T.ex
  unfold exq at c
  try simp only [Bool.and_eq_true, decide_eq_true_eq] at c
  exact SupX.suM_of c.2.2.2.2.2.2.2.2.2.2.2.2.2.2.2.2.2.2.2.2.2.2.2.2.2.2.2.2.2.2.2.2.2.2.2.2.2.2.2.2.2.2.2.2.2.2.2.2.2.2.2.2.2.2.2.2.2.2.2.2.2.2.2.2.2.2.2.2.2.2.2.2.2.2.2.2.2.2.2.2.2.2.2.2.2.2.2.2.2.2.2.2.2.2.2.2.2.2.2.2.2.2.2.2.2.2.2.2.1
theorem Tx.sm_LoggedReadyReel_LoggedReel_undo (T : Tx K mg) : SupX.SuM K (He.ga K "LoggedReadyReel") (He.ga K "LoggedReel") "undo" (He.ma K (He.ga K "Reel") "undo") := by
  have c := T.ex
  unfold exq at c
  try simp only [Bool.and_eq_true, decide_eq_true_eq] at c
  exact SupX.suM_of c.2.2.2.2.2.2.2.2.2.2.2.2.2.2.2.2.2.2.2.2.2.2.2.2.2.2.2.2.2.2.2.2.2.2.2.2.2.2.2.2.2.2.2.2.2.2.2.2.2.2.2.2.2.2.2.2.2.2.2.2.2.2.2.2.2.2.2.2.2.2.2.2.2.2.2.2.2.2.2.2.2.2.2.2.2.2.2.2.2.2.2.2.2.2.2.2.2.2.2.2.2.2.2.2.2.2.2.2.2.1
theorem Tx.su_LoggedReadyReel_init (T : Tx K mg) : SupX.suB mf K d_LoggedReadyReel_init = true := by
  have c := T.ex
  unfold exq at c
  try simp only [Bool.and_eq_true, decide_eq_true_eq] at c
  exact c.2.2.2.2.2.2.2.2.2.2.2.2.2.2.2.2.2.2.2.2.2.2.2.2.2.2.2.2.2.2.2.2.2.2.2.2.2.2.2.2.2.2.2.2.2.2.2.2.2.2.2.2.2.2.2.2.2.2.2.2.2.2.2.2.2.2.2.2.2.2.2.2.2.2.2.2.2.2.2.2.2.2.2.2.2.2.2.2.2.2.2.2.2.2.2.2.2.2.2.2.2.2.2.2.2.2.2.2.2.2.1
theorem Tx.sm_LoggedReadyReel_LoggedReadyReel_init (T : Tx K mg) : SupX.SuM K (He.ga K "LoggedReadyReel") (He.ga K "LoggedReadyReel") "__init__" (He.ma K (He.ga K "LoggedReel") "__init__") := by
  have c := T.ex
  unfold exq at c
  try simp only [Bool.and_eq_true, decide_eq_true_eq] at c
  exact SupX.suM_of c.2.2.2.2.2.2.2.2.2.2.2.2.2.2.2.2.2.2.2.2.2.2.2.2.2.2.2.2.2.2.2.2.2.2.2.2.2.2.2.2.2.2.2.2.2.2.2.2.2.2.2.2.2.2.2.2.2.2.2.2.2.2.2.2.2.2.2.2.2.2.2.2.2.2.2.2.2.2.2.2.2.2.2.2.2.2.2.2.2.2.2.2.2.2.2.2.2.2.2.2.2.2.2.2.2.2.2.2.2.2.2.1
theorem Tx.k_BadRing (T : Tx K mg) : ClsE K (He.ga K "BadRing") := by
  have c := T.ex
  unfold exq at c
  try simp only [Bool.and_eq_true, decide_eq_true_eq] at c
  exact clsB_ok c.2.2.2.2.2.2.2.2.2.2.2.2.2.2.2.2.2.2.2.2.2.2.2.2.2.2.2.2.2.2.2.2.2.2.2.2.2.2.2.2.2.2.2.2.2.2.2.2.2.2.2.2.2.2.2.2.2.2.2.2.2.2.2.2.2.2.2.2.2.2.2.2.2.2.2.2.2.2.2.2.2.2.2.2.2.2.2.2.2.2.2.2.2.2.2.2.2.2.2.2.2.2.2.2.2.2.2.2.2.2.2.2.2.2.2.2.2.2.2.2.2.2.2.2.2.2.2.2.2.2.2.2.2.2.2.2.2.2.2.2.2.2.2.2.2.2.2.2.1
theorem Tx.nm_BadRing (T : Tx K mg) : NameE K (He.ga K "BadRing") 2 := by
  have c := T.ex
  unfold exq at c
  try simp only [Bool.and_eq_true, decide_eq_true_eq] at c
  exact nameB_ok T.k_BadRing (by decide) c.2.2.2.2.2.2.2.2.2.2.2.2.2.2.2.2.2.2.2.2.2.2.2.2.2.2.2.2.2.2.2.2.2.2.2.2.2.2.2.2.2.2.2.2.2.2.2.2.2.2.2.2.2.2.2.2.2.2.2.2.2.2.2.2.2.2.2.2.2.2.2.2.2.2.2.2.2.2.2.2.2.2.2.2.2.2.2.2.2.2.2.2.2.2.2.2.2.2.2.2.2.2.2.2.2.2.2.2.2.2.2.2.2.2.2.2.2.2.2.2.2.2.2.2.2.2.2.2.2.2.2.2.2.2.2.2.2.2.2.2.2.2.2.2.2.2.2.2.2.1
theorem Tx.kd_BadRing (T : Tx K mg) : KindE K (He.ga K "BadRing") 4 := by
  have c := T.ex
  unfold exq at c
  try simp only [Bool.and_eq_true, decide_eq_true_eq] at c
  exact kindB_ok T.k_BadRing c.2.2.2.2.2.2.2.2.2.2.2.2.2.2.2.2.2.2.2.2.2.2.2.2.2.2.2.2.2.2.2.2.2.2.2.2.2.2.2.2.2.2.2.2.2.2.2.2.2.2.2.2.2.2.2.2.2.2.2.2.2.2.2.2.2.2.2.2.2.2.2.2.2.2.2.2.2.2.2.2.2.2.2.2.2.2.2.2.2.2.2.2.2.2.2.2.2.2.2.2.2.2.2.2.2.2.2.2.2.2.2.2.2.2.2.2.2.2.2.2.2.2.2.2.2.2.2.2.2.2.2.2.2.2.2.2.2.2.2.2.2.2.2.2.2.2.2.2.2.2.1
theorem Tx.xm_BadRing (T : Tx K mg) : exmB K (He.ga K "BadRing") = true := by
  have c := T.ex
  unfold exq at c
  try simp only [Bool.and_eq_true, decide_eq_true_eq] at c
  exact c.2.2.2.2.2.2.2.2.2.2.2.2.2.2.2.2.2.2.2.2.2.2.2.2.2.2.2.2.2.2.2.2.2.2.2.2.2.2.2.2.2.2.2.2.2.2.2.2.2.2.2.2.2.2.2.2.2.2.2.2.2.2.2.2.2.2.2.2.2.2.2.2.2.2.2.2.2.2.2.2.2.2.2.2.2.2.2.2.2.2.2.2.2.2.2.2.2.2.2.2.2.2.2.2.2.2.2.2.2.2.2.2.2.2.2.2.2.2.2.2.2.2.2.2.2.2.2.2.2.2.2.2.2.2.2.2.2.2.2.2.2.2.2.2.2.2.2.2.2.2.2.1
theorem Tx.fl_BadRing (T : Tx K mg) : FldE K (He.ga K "BadRing") "error" := by
  have c := T.ex
  unfold exq at c
  try simp only [Bool.and_eq_true, decide_eq_true_eq] at c
  exact fldB_ok c.2.2.2.2.2.2.2.2.2.2.2.2.2.2.2.2.2.2.2.2.2.2.2.2.2.2.2.2.2.2.2.2.2.2.2.2.2.2.2.2.2.2.2.2.2.2.2.2.2.2.2.2.2.2.2.2.2.2.2.2.2.2.2.2.2.2.2.2.2.2.2.2.2.2.2.2.2.2.2.2.2.2.2.2.2.2.2.2.2.2.2.2.2.2.2.2.2.2.2.2.2.2.2.2.2.2.2.2.2.2.2.2.2.2.2.2.2.2.2.2.2.2.2.2.2.2.2.2.2.2.2.2.2.2.2.2.2.2.2.2.2.2.2.2.2.2.2.2.2.2.2.2.1
theorem Tx.k_NoBalance (T : Tx K mg) : ClsE K (He.ga K "NoBalance") := by
  have c := T.ex
  unfold exq at c
  try simp only [Bool.and_eq_true, decide_eq_true_eq] at c
  exact clsB_ok c.2.2.2.2.2.2.2.2.2.2.2.2.2.2.2.2.2.2.2.2.2.2.2.2.2.2.2.2.2.2.2.2.2.2.2.2.2.2.2.2.2.2.2.2.2.2.2.2.2.2.2.2.2.2.2.2.2.2.2.2.2.2.2.2.2.2.2.2.2.2.2.2.2.2.2.2.2.2.2.2.2.2.2.2.2.2.2.2.2.2.2.2.2.2.2.2.2.2.2.2.2.2.2.2.2.2.2.2.2.2.2.2.2.2.2.2.2.2.2.2.2.2.2.2.2.2.2.2.2.2.2.2.2.2.2.2.2.2.2.2.2.2.2.2.2.2.2.2.2.2.2.2.2.2.2.2.2.2.1
theorem Tx.nm_NoBalance (T : Tx K mg) : NameE K (He.ga K "NoBalance") 7 := by
  have c := T.ex
  unfold exq at c
  try simp only [Bool.and_eq_true, decide_eq_true_eq] at c
  exact nameB_ok T.k_NoBalance (by decide) c.2.2.2.2.2.2.2.2.2.2.2.2.2.2.2.2.2.2.2.2.2.2.2.2.2.2.2.2.2.2.2.2.2.2.2.2.2.2.2.2.2.2.2.2.2.2.2.2.2.2.2.2.2.2.2.2.2.2.2.2.2.2.2.2.2.2.2.2.2.2.2.2.2.2.2.2.2.2.2.2.2.2.2.2.2.2.2.2.2.2.2.2.2.2.2.2.2.2.2.2.2.2.2.2.2.2.2.2.2.2.2.2.2.2.2.2.2.2.2.2.2.2.2.2.2.2.2.2.2.2.2.2.2.2.2.2.2.2.2.2.2.2.2.2.2.2.2.2.2.2.2.2.2.2.2.2.2.2.2.1
theorem Tx.kd_NoBalance (T : Tx K mg) : KindE K (He.ga K "NoBalance") 3 := by
  have c := T.ex
  unfold exq at c
  try simp only [Bool.and_eq_true, decide_eq_true_eq] at c
  exact kindB_ok T.k_NoBalance c.2.2.2.2.2.2.2.2.2.2.2.2.2.2.2.2.2.2.2.2.2.2.2.2.2.2.2.2.2.2.2.2.2.2.2.2.2.2.2.2.2.2.2.2.2.2.2.2.2.2.2.2.2.2.2.2.2.2.2.2.2.2.2.2.2.2.2.2.2.2.2.2.2.2.2.2.2.2.2.2.2.2.2.2.2.2.2.2.2.2.2.2.2.2.2.2.2.2.2.2.2.2.2.2.2.2.2.2.2.2.2.2.2.2.2.2.2.2.2.2.2.2.2.2.2.2.2.2.2.2.2.2.2.2.2.2.2.2.2.2.2.2.2.2.2.2.2.2.2.2.2.2.2.2.2.2.2.2.2.2.1
theorem Tx.xm_NoBalance (T : Tx K mg) : exmB K (He.ga K "NoBalance") = true := by
  have c := T.ex
  unfold exq at c
  try simp only [Bool.and_eq_true, decide_eq_true_eq] at c
  exact c.2.2.2.2.2.2.2.2.2.2.2.2.2.2.2.2.2.2.2.2.2.2.2.2.2.2.2.2.2.2.2.2.2.2.2.2.2.2.2.2.2.2.2.2.2.2.2.2.2.2.2.2.2.2.2.2.2.2.2.2.2.2.2.2.2.2.2.2.2.2.2.2.2.2.2.2.2.2.2.2.2.2.2.2.2.2.2.2.2.2.2.2.2.2.2.2.2.2.2.2.2.2.2.2.2.2.2.2.2.2.2.2.2.2.2.2.2.2.2.2.2.2.2.2.2.2.2.2.2.2.2.2.2.2.2.2.2.2.2.2.2.2.2.2.2.2.2.2.2.2.2.2.2.2.2.2.2.2.2.2.2.1
theorem Tx.fl_NoBalance (T : Tx K mg) : FldE K (He.ga K "NoBalance") "balance" := by
  have c := T.ex
  unfold exq at c
  try simp only [Bool.and_eq_true, decide_eq_true_eq] at c
  exact fldB_ok c.2.2.2.2.2.2.2.2.2.2.2.2.2.2.2.2.2.2.2.2.2.2.2.2.2.2.2.2.2.2.2.2.2.2.2.2.2.2.2.2.2.2.2.2.2.2.2.2.2.2.2.2.2.2.2.2.2.2.2.2.2.2.2.2.2.2.2.2.2.2.2.2.2.2.2.2.2.2.2.2.2.2.2.2.2.2.2.2.2.2.2.2.2.2.2.2.2.2.2.2.2.2.2.2.2.2.2.2.2.2.2.2.2.2.2.2.2.2.2.2.2.2.2.2.2.2.2.2.2.2.2.2.2.2.2.2.2.2.2.2.2.2.2.2.2.2.2.2.2.2.2.2.2.2.2.2.2.2.2.2.2.2.1
theorem Tx.k_BadText (T : Tx K mg) : ClsE K (He.ga K "BadText") := by
  have c := T.ex
  unfold exq at c
  try simp only [Bool.and_eq_true, decide_eq_true_eq] at c
  exact clsB_ok c.2.2.2.2.2.2.2.2.2.2.2.2.2.2.2.2.2.2.2.2.2.2.2.2.2.2.2.2.2.2.2.2.2.2.2.2.2.2.2.2.2.2.2.2.2.2.2.2.2.2.2.2.2.2.2.2.2.2.2.2.2.2.2.2.2.2.2.2.2.2.2.2.2.2.2.2.2.2.2.2.2.2.2.2.2.2.2.2.2.2.2.2.2.2.2.2.2.2.2.2.2.2.2.2.2.2.2.2.2.2.2.2.2.2.2.2.2.2.2.2.2.2.2.2.2.2.2.2.2.2.2.2.2.2.2.2.2.2.2.2.2.2.2.2.2.2.2.2.2.2.2.2.2.2.2.2.2.2.2.2.2.2.2.2.2.2.2.2.2.2.2.2.2.2.2.2.2.1
theorem Tx.nm_BadText (T : Tx K mg) : NameE K (He.ga K "BadText") 3 := by
  have c := T.ex
  unfold exq at c
  try simp only [Bool.and_eq_true, decide_eq_true_eq] at c
  exact nameB_ok T.k_BadText (by decide) c.2.2.2.2.2.2.2.2.2.2.2.2.2.2.2.2.2.2.2.2.2.2.2.2.2.2.2.2.2.2.2.2.2.2.2.2.2.2.2.2.2.2.2.2.2.2.2.2.2.2.2.2.2.2.2.2.2.2.2.2.2.2.2.2.2.2.2.2.2.2.2.2.2.2.2.2.2.2.2.2.2.2.2.2.2.2.2.2.2.2.2.2.2.2.2.2.2.2.2.2.2.2.2.2.2.2.2.2.2.2.2.2.2.2.2.2.2.2.2.2.2.2.2.2.2.2.2.2.2.2.2.2.2.2.2.2.2.2.2.2.2.2.2.2.2.2.2.2.2.2.2.2.2.2.2.2.2.2.2.2.2.2.2.2.2.2.2.2.2.2.2.2.2.2.2.2.2.2.1
theorem Tx.kd_BadText (T : Tx K mg) : KindE K (He.ga K "BadText") 1 := by
  have c := T.ex
  unfold exq at c
  try simp only [Bool.and_eq_true, decide_eq_true_eq] at c
  exact kindB_ok T.k_BadText c.2.2.2.2.2.2.2.2.2.2.2.2.2.2.2.2.2.2.2.2.2.2.2.2.2.2.2.2.2.2.2.2.2.2.2.2.2.2.2.2.2.2.2.2.2.2.2.2.2.2.2.2.2.2.2.2.2.2.2.2.2.2.2.2.2.2.2.2.2.2.2.2.2.2.2.2.2.2.2.2.2.2.2.2.2.2.2.2.2.2.2.2.2.2.2.2.2.2.2.2.2.2.2.2.2.2.2.2.2.2.2.2.2.2.2.2.2.2.2.2.2.2.2.2.2.2.2.2.2.2.2.2.2.2.2.2.2.2.2.2.2.2.2.2.2.2.2.2.2.2.2.2.2.2.2.2.2.2.2.2.2.2.2.2.2.2.2.2.2.2.2.2.2.2.2.2.2.2.2.1
theorem Tx.xm_BadText (T : Tx K mg) : exmB K (He.ga K "BadText") = true := by
  have c := T.ex
  unfold exq at c
  try simp only [Bool.and_eq_true, decide_eq_true_eq] at c
  exact c.2.2.2.2.2.2.2.2.2.2.2.2.2.2.2.2.2.2.2.2.2.2.2.2.2.2.2.2.2.2.2.2.2.2.2.2.2.2.2.2.2.2.2.2.2.2.2.2.2.2.2.2.2.2.2.2.2.2.2.2.2.2.2.2.2.2.2.2.2.2.2.2.2.2.2.2.2.2.2.2.2.2.2.2.2.2.2.2.2.2.2.2.2.2.2.2.2.2.2.2.2.2.2.2.2.2.2.2.2.2.2.2.2.2.2.2.2.2.2.2.2.2.2.2.2.2.2.2.2.2.2.2.2.2.2.2.2.2.2.2.2.2.2.2.2.2.2.2.2.2.2.2.2.2.2.2.2.2.2.2.2.2.2.2.2.2.2.2.2.2.2.2.2.2.2.2.2.2.2.2.1
theorem Tx.fl_BadText (T : Tx K mg) : FldE K (He.ga K "BadText") "index" := by
  have c := T.ex
  unfold exq at c
  try simp only [Bool.and_eq_true, decide_eq_true_eq] at c
  exact fldB_ok c.2.2.2.2.2.2.2.2.2.2.2.2.2.2.2.2.2.2.2.2.2.2.2.2.2.2.2.2.2.2.2.2.2.2.2.2.2.2.2.2.2.2.2.2.2.2.2.2.2.2.2.2.2.2.2.2.2.2.2.2.2.2.2.2.2.2.2.2.2.2.2.2.2.2.2.2.2.2.2.2.2.2.2.2.2.2.2.2.2.2.2.2.2.2.2.2.2.2.2.2.2.2.2.2.2.2.2.2.2.2.2.2.2.2.2.2.2.2.2.2.2.2.2.2.2.2.2.2.2.2.2.2.2.2.2.2.2.2.2.2.2.2.2.2.2.2.2.2.2.2.2.2.2.2.2.2.2.2.2.2.2.2.2.2.2.2.2.2.2.2.2.2.2.2.2.2.2.2.2.2.2
end
end K62
namespace K62
open PySem PySem.Spec PyProof.Rows My
open L2 hiding TupI
section
variable {w : World} {K : PySem.W.Frag} {mg : Str → Option Value} {base : Heap}
-- @@ is_plain_integer
def sp_is_plain_integer (K : PySem.W.Frag) : Sp := fun vs H Q _ => ∃ v, vs = [v] ∧ Kd K H v ∧ Q (.bl (isI v)) H
theorem ok_is_plain_integer (T : Tx K mg) : Ok P w K mg base CX0 1 "is_plain_integer" ["value"] (sp_is_plain_integer K) := by
  refine ok_of T.F_is_plain_integer T.g_is_plain_integer sc_is_plain_integer (fun _ _ _ _ _ _ us hl => match us, hl with | [_], _ => rfl) (fun vs H Q E h => ?_) (fun cdv A outer s H vs Q E hr h => ?_)
  · obtain ⟨v, rfl, _⟩ := h
    rfl
  · obtain ⟨v, rfl, kd, q⟩ := h
    refine ⟨_, (pss_one (ps_ret (pe_and (pe_callB call_isi (by rfl) T.f_isinstance boot_isinstance (pa_cons (pv 0) (pa_cons (pe_bltn (v := .ty "int") (by rfl) T.f_int boot_int rfl) pa_nil))) (pe_one (pe_not (pe_callB call_isi (by rfl) T.f_isinstance boot_isinstance (pa_cons (pv 0) (pa_cons (pe_bltn (v := .ty "bool") (by rfl) T.f_bool boot_bool rfl) pa_nil)))))))), ?_⟩
    obtain ⟨t1, ty1, k1⟩ := kd_int kd
    obtain ⟨t2, ty2, k2⟩ := kd_bool kd
    refine ⟨_, rfl, v, .ty "int", t1, _, _, rfl, .ty _, ty1, k1, _, rfl, ?_⟩
    cases e1 : (isI v || isB v) with
    | false =>
      refine iteF ?_
      have e : isI v = false := by
        cases q1 : isI v with
        | false => rfl
        | true =>
          rw [q1] at e1
          cases e1
      rw [e] at q
      exact q
    | true =>
      refine iteT ?_
      refine ⟨_, rfl, v, .ty "bool", t2, _, _, rfl, .ty _, ty2, k2, _, rfl, ?_⟩
      have e : isI v = !isB v := by
        cases v <;> first | rfl | cases e1
      rw [e] at q
      exact q
-- @@ is_index
def sp_is_index (K : PySem.W.Frag) : Sp := fun vs H Q _ => ∃ v n, vs = [v, .int n] ∧ Kd K H v ∧ Q (.bl (ixB v n)) H
theorem ok_is_index (T : Tx K mg) : Ok P w K mg base CX0 2 "is_index" ["value", "many"] (sp_is_index K) := by
  refine ok_of T.F_is_index T.g_is_index sc_is_index (fun _ _ _ _ _ _ us hl => match us, hl with | [_, _], _ => rfl) (fun vs H Q E h => ?_) (fun cdv A outer s H vs Q E hr h => ?_)
  · obtain ⟨v, n, rfl, _⟩ := h
    rfl
  · obtain ⟨v, n, rfl, kd, q⟩ := h
    refine ⟨_, (pss_one (ps_ret (pe_and (cal (ok_is_plain_integer T) (hr.mono (by decide)) pass0 (pa_cons (pv 0) pa_nil)) (pe_one (pe_chain op_le op_lt pe_int (pv 0) (pv 1)))))), ?_⟩
    refine ⟨_, rfl, v, rfl, kd, _, rfl, ?_⟩
    cases v with
    | int i =>
      refine iteT ?_
      refine ⟨_, rfl, _, _, rfl, rfl, _, rfl, ?_⟩
      change Q (.bl (decide ((0 : Int) ≤ i) && decide (i < n))) H at q
      cases e1 : decide ((0 : Int) ≤ i) with
      | true =>
        refine iteT ?_
        rw [e1, Bool.true_and] at q
        exact ⟨_, rfl, _, _, rfl, rfl, q⟩
      | false =>
        refine iteF ?_
        rw [e1, Bool.false_and] at q
        exact q
    | _ => exact iteF q
-- @@ is_arity
def spAr (K : PySem.W.Frag) : Sp := fun vs H Q _ => ∃ v, vs = [v] ∧ Kd K H v ∧ Q (.bl (arB v)) H
theorem ok_is_arity (T : Tx K mg) : Ok P w K mg base CX0 3 "is_arity" ["value"] (spAr K) := by
  refine ok_of T.F_is_arity T.g_is_arity sc_is_arity (fun _ _ _ _ _ _ us hl => match us, hl with | [_], _ => rfl) (fun vs H Q E h => ?_) (fun cdv A outer s H vs Q E hr h => ?_)
  · obtain ⟨v, rfl, _⟩ := h
    rfl
  · obtain ⟨v, rfl, kd, q⟩ := h
    refine ⟨_, (pss_one (ps_ret (cal (ok_is_index T) (hr.mono (by decide)) pass0 (pa_cons (pv 0) (pa_cons (pe_op op_add (pe_glob (v := .int 5) rfl T.g_MAX_ARITY.choose_spec ⟨_, rfl⟩) pe_int) pa_nil))))), ?_⟩
    exact ⟨_, rfl, _, _, rfl, rfl, v, _, rfl, kd, q⟩
/-- what is judged, and its judgement's data -/
def JIn (K : PySem.W.Frag) (H : Hp) (v : V) (d : PyData) : Prop := (NotT K H v ∧ d = jdN) ∨ (∃ p xs, v = .ref p ∧ SqT K H p xs ∧ xs.length ≤ 2000 ∧ (∀ x ∈ xs, Kd K H x) ∧ d = jdT xs)
def JV (H : Hp) (u : V) (d : PyData) : Prop := (u = .non ∧ d = .none) ∨ ∃ (p : Addr) (x : Str), u = .ref p ∧ ((H p = some (.tup [.non, .str x]) ∧ d = .tuple [.none, .str x]) ∨ ∃ j : Nat, j ≤ 2100 ∧ H p = some (.tup [.int (j : Int), .str x]) ∧ d = .tuple [.int (j : Int), .str x]) ∧ Fit 100 10 (.str x)
def spJ (K : PySem.W.Frag) : Sp := fun vs H Q _ => ∃ v d, vs = [v] ∧ JIn K H v d ∧ ∀ H' u, Same H H' → JV H' u d → Q u H'
def isNd : PyData → Bool
  | .none => true
  | _ => false
theorem ft_w {x : Str} (h : x = "tuple" ∨ x = "length" ∨ x = "arity") : Fit 100 10 (.str x) := by
  rcases h with rfl | rfl | rfl <;> exact ⟨by decide +kernel, by decide +kernel, by decide +kernel, by decide +kernel⟩
theorem jdF_no : ∀ (xs : List V) (i j : Nat), j < xs.length → (∀ k : Nat, k < j → ∀ x : V, xs[k]? = some x → arB x = true) → (∀ x : V, xs[j]? = some x → arB x = false) → jdF i xs = .tuple [.int ((i + j : Nat) : Int), .str "arity"]
  | [], _, _, h, _, _ => absurd h (Nat.not_lt_zero _)
  | x :: xs, i, 0, _, _, h2 => by
    unfold jdF
    rw [h2 x rfl]
    rfl
  | x :: xs, i, j + 1, h, h1, h2 => by
    unfold jdF
    rw [h1 0 (Nat.succ_pos _) x rfl]
    have e := jdF_no xs (i + 1) j (Nat.lt_of_succ_lt_succ h) (fun k hk y hy => h1 (k + 1) (Nat.succ_lt_succ hk) y hy) h2
    rw [if_pos rfl, e]
    congr 3
    omega
theorem jdF_yes : ∀ (xs : List V) (i : Nat), (∀ (k : Nat) (x : V), xs[k]? = some x → arB x = true) → jdF i xs = .none
  | [], _, _ => rfl
  | x :: xs, i, h => by
    unfold jdF
    rw [h 0 x rfl, if_pos rfl]
    exact jdF_yes xs (i + 1) fun k y hy => h (k + 1) y hy
-- @@ ring_error
theorem ok_ring_error (T : Tx K mg) : Ok P w K mg base CX0 4 "ring_error" ["value"] (spJ K) := by
  refine ok_of T.F_ring_error T.g_ring_error sc_ring_error (fun _ _ _ _ _ _ us hl => match us, hl with | [_], _ => rfl) (fun vs H Q E h => ?_) (fun cdv A outer s H vs Q E hr h => ?_)
  · obtain ⟨v, d, rfl, _⟩ := h
    rfl
  · obtain ⟨v, d, rfl, hj, q⟩ := h
    refine ⟨_, (pss_cons (ps_if (pt_not (pt_val (pe_callB call_isi (by rfl) T.f_isinstance boot_isinstance (pa_cons (pv 0) (pa_cons (pe_bltn (v := .ty "tuple") (by rfl) T.f_tuple boot_tuple rfl) pa_nil))))) (pss_one (ps_ret (pe_tup (pa_cons pe_non (pa_cons pe_str pa_nil))))) pss_nil)
    (pss_cons (ps_if (pt_not (pt_chain op_le op_le pe_int (pe_callB call_len_seq (by rfl) T.f_len PySem.boot_len (pa_cons (pv 0) pa_nil)) (pe_glob (v := .int 24) rfl T.g_MAX_TOKENS.choose_spec ⟨_, rfl⟩))) (pss_one (ps_ret (pe_tup (pa_cons pe_non (pa_cons pe_str pa_nil))))) pss_nil)
    (pss_cons (ps_for PassesOwn.never rfl (pi_enumT (by rfl) T.f_enumerate (pa_cons (pv 0) pa_nil)) (pg_tup rfl (pgs_cons (pg_name (i := 1) sc_ring_error.nd rfl (.inl rfl)) (pgs_cons (pg_name (i := 2) sc_ring_error.nd rfl (.inl rfl)) pgs_nil)))
    (pss_one (ps_if (pt_not (pt_val (cal (ok_is_arity T) (hr.mono (by decide)) pass0 (pa_cons (pv 2) pa_nil)))) (pss_one (ps_ret (pe_tup (pa_cons (pv 1) (pa_cons pe_str pa_nil))))) pss_nil)))
    (pss_one (ps_ret pe_non))))), ?_⟩
    rcases hj with ⟨⟨t, ty, kk⟩, rfl⟩ | ⟨p, xs, rfl, hp, hl, hk, rfl⟩
    · refine ⟨_, rfl, v, .ty "tuple", t, _, _, rfl, .ty _, ty, kk, _, rfl, ?_⟩
      refine iteY rfl ⟨sz (by show 2 ≤ _; decide), fun a na => q _ _ (same_upd na) (.inr ⟨a, "tuple", rfl, .inl ⟨upd_same, rfl⟩, ft_w (.inl rfl)⟩)⟩
    · obtain ⟨t, ty, kk⟩ := tySq hp
      have hq : SqT K H p xs := hp
      refine ⟨_, rfl, .ref p, .ty "tuple", t, _, _, rfl, .ty _, ty, kk, _, rfl, iteN rfl ?_⟩
      refine ⟨.ref p, rfl, p, xs, rfl, .inr hq, _, _, rfl, rfl, _, rfl, ?_⟩
      have bad : ¬ (1 ≤ xs.length ∧ xs.length ≤ 24) → jdT xs = .tuple [.none, .str "length"] := fun h => if_neg h
      by_cases h1 : (1 : Int) ≤ (xs.length : Int)
      · refine iteY (decide_eq_true h1) ?_
        refine ⟨_, _, rfl, rfl, _, rfl, ?_⟩
        by_cases h2 : (xs.length : Int) ≤ 24
        · refine iteN (by rw [decide_eq_true h2]; rfl) ?_
          have ej : jdT xs = jdF 0 xs := if_pos ⟨by omega, by omega⟩
          rw [ej] at q
          refine ⟨.ref p, rfl, p, xs, rfl, hq, for_enumT (xs := xs) (fun i σ H3 => ∃ y1 y2, σ = [some (.ref p), y1, y2] ∧ Same H H3 ∧ ∀ k : Nat, k < i → ∀ x : V, xs[k]? = some x → arB x = true) ⟨_, _, rfl, Same.refl H, fun k z => absurd z (Nat.not_lt_zero _)⟩ ?_ ?_ ?_⟩
          · rintro i σ H3 _ ⟨_, _, _, s3, _⟩
            exact same_seqT s3 hp
          · rintro i x σ H3 Tp hx ⟨y1, y2, rfl, s3, hb⟩ nT
            have s4 := s3.trans (same_upd (o := .tup [.int (i : Nat), x]) nT)
            have hT := upd_same (H := H3) (a := Tp) (o := .tup [.int (i : Nat), x])
            revert s4 hT
            generalize (upd H3 Tp (.tup [.int (i : Nat), x])) = H4
            intro s4 hT
            refine ⟨Tp, _, rfl, .inl (.inl hT), rfl, _, _, rfl, _, _, rfl, rfl, ?_⟩
            have kx := (hk x (List.mem_of_getElem? hx)).same s4
            refine ⟨x, rfl, x, rfl, kx, _, rfl, ?_⟩
            have hi := (List.getElem?_eq_some_iff.mp hx).1
            cases c : arB x with
            | true =>
              refine iteN rfl ⟨_, _, rfl, s4, fun k hk2 z hz => ?_⟩
              by_cases e : k = i
              · rw [e, hx] at hz
                cases hz
                exact c
              · exact hb k (by omega) z hz
            | false =>
              refine iteY rfl ⟨_, rfl, sz (by show 2 ≤ _; decide), fun a na => q _ _ (s4.trans (same_upd na)) (.inr ⟨a, "arity", rfl, .inr ⟨i, by omega, upd_same, ?_⟩, ft_w (.inr (.inr rfl))⟩)⟩
              have e := jdF_no xs 0 i hi hb (fun y hy => by rw [hx] at hy; cases hy; exact c)
              rw [Nat.zero_add] at e
              exact e
          · rintro σ H3 ⟨y1, y2, rfl, s3, hb⟩
            refine q _ _ s3 (.inl ⟨rfl, jdF_yes xs 0 fun k x hx => hb k (List.getElem?_eq_some_iff.mp hx).1 x hx⟩)
        · refine iteY (by rw [decide_eq_false h2]; rfl) ?_
          rw [bad (by omega)] at q
          exact ⟨sz (by show 2 ≤ _; decide), fun a na => q _ _ (same_upd na) (.inr ⟨a, "length", rfl, .inl ⟨upd_same, rfl⟩, ft_w (.inr (.inl rfl))⟩)⟩
      · refine iteN (decide_eq_false h1) ⟨_, rfl, iteY rfl ?_⟩
        rw [bad (by omega)] at q
        exact ⟨sz (by show 2 ≤ _; decide), fun a na => q _ _ (same_upd na) (.inr ⟨a, "length", rfl, .inl ⟨upd_same, rfl⟩, ft_w (.inr (.inl rfl))⟩)⟩
/-- the place is one -/
def sp_check_place0 (K : PySem.W.Frag) : Sp := fun vs H Q _ => ∃ (a : Addr) (ns : List Int) (p : Nat), vs = [.ref a, .int p] ∧ TupI K H a ns ∧ p < ns.length ∧ Q .non H
theorem ok_check_place0 (T : Tx K mg) : Ok P w K mg base CX0 3 "check_place" ["ring", "place"] (sp_check_place0 K) := by
  refine ok_of T.F_check_place T.g_check_place sc_check_place (fun _ _ _ _ _ _ us hl => match us, hl with | [_, _], _ => rfl) (fun vs H Q E h => ?_) (fun cdv A outer s H vs Q E hr h => ?_)
  · obtain ⟨a, ns, p, rfl, _⟩ := h
    rfl
  · obtain ⟨a, ns, p, rfl, hT, hp, q⟩ := h
    refine ⟨_, (pss_one (ps_if (pt_not (pt_val (cal (ok_is_index T) (hr.mono (by decide)) pass0 (pa_cons (pv 1) (pa_cons (pe_callB call_len_seq (by rfl) T.f_len PySem.boot_len (pa_cons (pv 0) pa_nil)) pa_nil))))) pss_never pss_nil)), ?_⟩
    refine ⟨_, rfl, _, rfl, a, _, rfl, .inr hT, .int p, _, rfl, .int _, _, rfl, ?_⟩
    have e : ixB (.int (p : Int)) (((ns.map V.int).length : Nat) : Int) = true := by
      show (decide ((0 : Int) ≤ (p : Int)) && decide ((p : Int) < _)) = true
      rw [List.length_map, decide_eq_true (by omega), decide_eq_true (by omega)]
      rfl
    rw [e]
    exact iteF q
-- @@ check_place
-- @@ balance
def sp_balance (K : PySem.W.Frag) : Sp := fun vs H Q _ => ∃ (a : Addr) (ns : List Int), vs = [.ref a] ∧ TupI K H a ns ∧ Q (.int (bal ns)) H
theorem ok_balance (T : Tx K mg) : Ok P w K mg base CX0 1 "balance" ["row"] (sp_balance K) := by
  refine ok_of T.F_balance T.g_balance sc_balance (fun _ _ _ _ _ _ us hl => match us, hl with | [_], _ => rfl) (fun vs H Q E h => ?_) (fun cdv A outer s H vs Q E hr h => ?_)
  · obtain ⟨a, ns, rfl, _⟩ := h
    rfl
  · obtain ⟨a, ns, rfl, hT, q⟩ := h
    refine ⟨_, (pss_one (ps_ret (pe_op op_sub (pe_callB call_len_seq (by rfl) T.f_len PySem.boot_len (pa_cons (pv 0) pa_nil)) (pe_callB (call_sumT rfl) (by rfl) T.f_sum boot_sum (pa_cons (pv 0) pa_nil))))), ?_⟩
    refine ⟨_, rfl, a, _, rfl, .inr hT, _, rfl, a, ns, rfl, hT, _, _, rfl, rfl, ?_⟩
    unfold bal at q
    rw [List.length_map]
    exact q
-- @@ turned
def sp_turned (K : PySem.W.Frag) : Sp := fun vs H Q _ => ∃ (a : Addr) (ns : List Int) (p : Nat), vs = [.ref a, .int p] ∧ TupI K H a ns ∧ p < ns.length ∧ ns.length ≤ 24 ∧
  ∀ H' q, Same H H' → TupI K H' q (rot ns p) → Q (.ref q) H'
theorem ok_turned (T : Tx K mg) : Ok P w K mg base CX0 4 "turned" ["ring", "place"] (sp_turned K) := by
  refine ok_of T.F_turned T.g_turned sc_turned (fun _ _ _ _ _ _ us hl => match us, hl with | [_, _], _ => rfl) (fun vs H Q E h => ?_) (fun cdv A outer s H vs Q E hr h => ?_)
  · obtain ⟨a, ns, p, rfl, _⟩ := h
    rfl
  · obtain ⟨a, ns, p, rfl, hT, hp, hl, q⟩ := h
    refine ⟨_, (pss_cons (ps_expr (cal (ok_check_place0 T) (hr.mono (by decide)) pass0 (pa_cons (pv 0) (pa_cons (pv 1) pa_nil))))
      (pss_one (ps_ret (pe_op op_catA (pe_slice sl_tupA (pv 0) (po_some (pv 1)) po_none) (pe_slice sl_tupA (pv 0) po_none (po_some (pv 1))))))), ?_⟩
    refine ⟨_, rfl, _, rfl, a, ns, p, rfl, hT, hp, ?_⟩
    -- ring[place:]
    have hl2 : (ns.map V.int).length = ns.length := List.length_map _
    have h1 : ∀ (H1 : Hp) (b : Addr), Same H H1 → TupI K H1 b (ns.drop p) → ∀ (H2 : Hp) (c : Addr), Same H1 H2 → TupI K H2 c (ns.take p) → rCatA K (.ref b) (.ref c) H2 Q := by
      intro H1 b s1 tb H2 c s2 tc
      refine ⟨b, c, _, _, rfl, rfl, same_seqT s2 tb, tc, ?_, fun e => ?_, fun e1 e2 => ?_, fun e1 e2 d nd => ?_⟩
      · rw [List.length_map, List.length_map, List.length_drop, List.length_take]
        exact sz (by omega)
      · have : (ns.drop p).length = 0 := by rw [List.map_eq_nil_iff.mp e]; rfl
        rw [List.length_drop] at this
        omega
      · refine q H2 b (s1.trans s2) ?_
        have e3 := List.map_eq_nil_iff.mp e2
        unfold rot
        rw [e3, List.append_nil]
        exact same_seqT s2 tb
      · refine q _ d ((s1.trans s2).trans (same_upd nd)) ?_
        refine tupI_of ?_
        rw [upd_same]
        unfold rot
        rw [List.map_append]
    have h2 : ∀ (H1 : Hp) (b : Addr), Same H H1 → TupI K H1 b (ns.drop p) → rSlA K (.ref a) none (some (p : Int)) H1 (fun y H2 => rCatA K (.ref b) y H2 Q) := by
      intro H1 b s1 tb
      refine ⟨a, _, rfl, same_seqT s1 hT, fun e => ?_, fun e d nd => ?_⟩
      · -- the whole of it: not so, p < length
        rw [HT.sIx_none, show HT.sIx (ns.map V.int).length (ns.map V.int).length (some (p : Int)) = min p (ns.map V.int).length from HT.sIx_nat _ _ p, hl2] at e
        omega
      · refine h1 H1 b s1 tb _ d (same_upd nd) (tupI_of ?_)
        rw [upd_same, cut_hi _ _ (by omega), List.map_take]
    refine ⟨.ref a, rfl, .int p, rfl, (p : Int), rfl, a, _, rfl, hT, fun e => ?_, fun e d nd => ?_⟩
    · rw [show HT.sIx (ns.map V.int).length 0 (some (p : Int)) = min p (ns.map V.int).length from HT.sIx_nat _ _ p, hl2] at e
      have p0 : p = 0 := by omega
      refine ⟨.ref a, rfl, .int p, rfl, (p : Int), rfl, h2 H a (Same.refl H) ?_⟩
      rw [p0, List.drop_zero]
      exact hT
    · refine ⟨.ref a, rfl, .int p, rfl, (p : Int), rfl, h2 _ d (same_upd nd) (tupI_of ?_)⟩
      rw [upd_same, cut_lo _ _ (by omega), List.map_drop]
-- @@ heights
def sp_heights (K : PySem.W.Frag) : Sp := fun vs H Q _ => ∃ (a : Addr) (ns : List Int) (p : Nat), vs = [.ref a, .int p] ∧ TupI K H a ns ∧ p < ns.length ∧ ns.length ≤ 24 ∧
  ∀ H' q, Same H H' → TupI K H' q (hts 0 (rot ns p)) → Q (.ref q) H'
theorem ok_heights (T : Tx K mg) : Ok P w K mg base CX0 5 "heights" ["ring", "place"] (sp_heights K) := by
  refine ok_of T.F_heights T.g_heights sc_heights (fun _ _ _ _ _ _ us hl => match us, hl with | [_, _], _ => rfl) (fun vs H Q E h => ?_) (fun cdv A outer s H vs Q E hr h => ?_)
  · obtain ⟨a, ns, p, rfl, _⟩ := h
    rfl
  · obtain ⟨a, ns, p, rfl, hT, hp, hl, q⟩ := h
    refine ⟨_, (pss_cons (ps_set (i := 2) sc_heights.nd rfl (.inl rfl) (pe_lst pa_nil))
      (pss_cons (ps_set (i := 3) sc_heights.nd rfl (.inl rfl) pe_int)
      (pss_cons (ps_for PassesOwn.never rfl (pi_tup (cal (ok_turned T) (hr.mono (by decide)) pass0 (pa_cons (pv 0) (pa_cons (pv 1) pa_nil)))) (pg_name (i := 4) sc_heights.nd rfl (.inl rfl))
        (pss_cons (ps_aug (i := 3) sc_heights.nd rfl (.inl rfl) (pe_op op_sub pe_int (pv 4)) ip_add)
        (pss_one (ps_expr (pe_bm PySem.F.plainAttrs_list PySem.F.slot_list_append PySem.F.type_list_append mt_append (pv 2) (pa_cons (pv 3) pa_nil))))))
      (pss_one (ps_ret (pe_callTy call_tuple_of (by rfl) T.f_tuple boot_tuple (pa_cons (pv 2) pa_nil))))))), ?_⟩
    refine ⟨Nat.zero_le _, fun o no => ?_⟩
    have s1 : Same H (upd H o (.lst [])) := same_upd no
    refine ⟨.ref a, rfl, .int p, rfl, a, ns, p, rfl, same_seqT s1 hT, hp, hl, fun H1 t s2 hR => ?_⟩
    have ho1 : H1 o = some (.lst []) := s2 _ _ upd_same
    have hrl : (rot ns p).length = ns.length := rot_len ns p (by omega)
    refine ⟨t, rfl, ⟨_, hR⟩, for_tup (xs := (rot ns p).map V.int) (fun i σ H3 => ∃ y4, σ = [some (.ref a), some (.int p), some (.ref o), some (.int (ps (rot ns p) i)), y4] ∧ Same H H3 ∧ TupI K H3 t (rot ns p) ∧
      H3 o = some (.lst (((hts 0 (rot ns p)).take i).map V.int))) ?_ ?_ ?_ ?_⟩
    · exact ⟨none, by rw [ps_zero]; rfl, s1.trans s2, hR, ho1⟩
    · rintro i σ H3 _ ⟨_, _, _, h3, _⟩
      exact h3
    · rintro i x σ H3 hx ⟨y4, rfl, s3, h3, h4⟩
      have hi : i < (rot ns p).length := by
        have := (List.getElem?_eq_some_iff.mp hx).1
        rw [List.length_map] at this
        exact this
      have ex : x = .int (rot ns p)[i] := by
        rw [List.getElem?_map, List.getElem?_eq_getElem hi] at hx
        exact (Option.some.inj hx).symm
      subst ex
      have e1 : ps (rot ns p) i + (1 - (rot ns p)[i]) = ps (rot ns p) (i + 1) := by
        unfold ps
        rw [sum_take (List.getElem?_eq_getElem hi)]
        omega
      refine ⟨_, rfl, _, rfl, _, _, rfl, rfl, _, _, rfl, rfl, ?_⟩
      refine ⟨.ref o, rfl, .inl ⟨rfl, _, lstI_of h4⟩, .int _, rfl, o, _, _, rfl, rfl, h4, szl (by rw [List.length_map, List.length_take, hts_len]; omega), ?_⟩
      refine ⟨some (.int (rot ns p)[i]), by rw [← e1]; rfl, fun b z e => ?_, ?_, ?_⟩
      · have nb : b ≠ o := ne_of_none e no
        rw [upd_ne nb]
        exact s3 _ _ e
      · rcases h3 with (z | ⟨ob, z⟩) | z
        · exact .inl (.inl (by rw [upd_ne (ne_of z h4 (by intro q; cases q))]; exact z))
        · exact .inl (.inr ⟨ob, by rw [upd_ne (ne_of z h4 (by intro q; cases q))]; exact z⟩)
        · exact .inr z
      · rw [upd_same, List.take_add_one, hts_get _ _ _ hi, List.map_append]
        have e2 : (0 : Int) + ((i : Int) + 1) - ((rot ns p).take (i + 1)).sum = ps (rot ns p) (i + 1) := by
          unfold ps
          omega
        rw [e2, ← e1]
        rfl
    · rintro σ H3 ⟨y4, rfl, s3, h3, h4⟩
      refine ⟨.ref o, rfl, o, _, rfl, .inl ⟨lstI_of h4, fun d nd => ?_⟩⟩
      refine q _ d (s3.trans (same_upd nd)) (tupI_of ?_)
      rw [upd_same, List.length_map, List.take_of_length_le (by rw [hts_len]; exact Nat.le_refl _)]
-- @@ need
def sp_need (K : PySem.W.Frag) : Sp := fun vs H Q _ => ∃ (a : Addr) (ns : List Int) (p : Nat), vs = [.ref a, .int p] ∧ TupI K H a ns ∧ p < ns.length ∧ ns.length ≤ 24 ∧
  ∀ H', Same H H' → Q (.int (nd ns p)) H'
theorem ok_need (T : Tx K mg) : Ok P w K mg base CX0 6 "need" ["ring", "place"] (sp_need K) := by
  refine ok_of T.F_need T.g_need sc_need (fun _ _ _ _ _ _ us hl => match us, hl with | [_, _], _ => rfl) (fun vs H Q E h => ?_) (fun cdv A outer s H vs Q E hr h => ?_)
  · obtain ⟨a, ns, p, rfl, _⟩ := h
    rfl
  · obtain ⟨a, ns, p, rfl, hT, hp, hl, q⟩ := h
    refine ⟨_, (pss_one (ps_ret (pe_callB (call_max2 rfl) (by rfl) T.f_max boot_max (pa_cons pe_int (pa_cons (pe_op op_sub pe_int (pe_callB (call_minT rfl) (by rfl) T.f_min boot_min (pa_cons (cal (ok_heights T) (hr.mono (by decide)) pass0 (pa_cons (pv 0) (pa_cons (pv 1) pa_nil))) pa_nil))) pa_nil))))), ?_⟩
    refine ⟨.ref a, rfl, .int p, rfl, a, ns, p, rfl, hT, hp, hl, fun H1 t s1 h1 => ?_⟩
    refine ⟨t, _, rfl, h1, by rw [hts_len, rot_len ns p (by omega)]; omega, fun m m1 m2 => ?_⟩
    refine ⟨_, _, rfl, rfl, _, _, rfl, ?_⟩
    rw [lo_uniq m1 m2]
    exact q H1 s1
-- @@ is_beginning
def sp_is_beginning (K : PySem.W.Frag) : Sp := fun vs H Q _ => ∃ (a : Addr) (ns : List Int) (p : Nat), vs = [.ref a, .int p] ∧ TupI K H a ns ∧ p < ns.length ∧ ns.length ≤ 24 ∧
  ∀ H', Same H H' → Q (.bl (decide (nd ns p = 0))) H'
theorem ok_is_beginning (T : Tx K mg) : Ok P w K mg base CX0 7 "is_beginning" ["ring", "place"] (sp_is_beginning K) := by
  refine ok_of T.F_is_beginning T.g_is_beginning sc_is_beginning (fun _ _ _ _ _ _ us hl => match us, hl with | [_, _], _ => rfl) (fun vs H Q E h => ?_) (fun cdv A outer s H vs Q E hr h => ?_)
  · obtain ⟨a, ns, p, rfl, _⟩ := h
    rfl
  · obtain ⟨a, ns, p, rfl, hT, hp, hl, q⟩ := h
    refine ⟨_, (pss_one (ps_ret (pe_cmpR op_eq (cal (ok_need T) (hr.mono (by decide)) pass0 (pa_cons (pv 0) (pa_cons (pv 1) pa_nil))) pe_int (nomark _)))), ?_⟩
    refine ⟨.ref a, rfl, .int p, rfl, a, ns, p, rfl, hT, hp, hl, fun H1 s1 => ?_⟩
    have e : decide (V.int (nd ns p) = V.int 0) = decide (nd ns p = 0) := L2.dec_int
    refine ⟨rfl, ?_⟩
    rw [e]
    exact q H1 s1
-- @@ beginnings
def sp_beginnings (K : PySem.W.Frag) : Sp := fun vs H Q _ => ∃ (a : Addr) (ns : List Int), vs = [.ref a] ∧ TupI K H a ns ∧ ns.length ≤ 24 ∧
  ∀ H' t, Same H H' → H t = none → H' t = some (.tup ((ofN (bgn ns)).map V.int)) → Q (.ref t) H'
theorem ok_beginnings (T : Tx K mg) : Ok P w K mg base CX0 8 "beginnings" ["ring"] (sp_beginnings K) := by
  refine ok_of T.F_beginnings T.g_beginnings sc_beginnings (fun _ _ _ _ _ _ us hl => match us, hl with | [_], _ => rfl) (fun vs H Q E h => ?_) (fun cdv A outer s H vs Q E hr h => ?_)
  · obtain ⟨a, ns, rfl, _⟩ := h
    rfl
  · obtain ⟨a, ns, rfl, hT, hl, q⟩ := h
    refine ⟨_, (pss_one (ps_ret (pe_callTy call_tuple_of (by rfl) T.f_tuple boot_tuple (pa_cons (pe_lc (own := [("place", 1)]) (g := gName 1) rfl sc_beginnings.nd (pi_range1 (by rfl) T.f_range (pa_cons (pe_callB call_len_seq (by rfl) T.f_len PySem.boot_len (pa_cons (pv 0) pa_nil)) pa_nil)) (blkOk_by (own := [("place", 1)]) (N := N_beginnings) (sc := defScope s_beginnings) (by decide +kernel)) (fun _ _ _ _ _ => pg_name (i := 1) sc_beginnings.nd rfl (Or.inl rfl)) (fun _ _ _ _ _ => pts_one (pt_val (cal (ok_is_beginning T) (hr.mono (by decide)) pass0 (pa_cons (pv 0) (pa_cons (pv 1) pa_nil))))) (fun _ _ _ _ _ => (pv 1))) pa_nil)))), ?_⟩
    have hlen : (ns.map V.int).length = ns.length := List.length_map _
    refine ⟨.ref a, rfl, a, _, rfl, .inr hT, ((ns.length : Nat) : Int), by rw [hlen], by omega, by omega, fun D nD => ?_⟩
    refine lc_range (lo := 0) (n := ns.length) (fun i H1 => Same H H1 ∧ H1 D = some (.lst ((ofN (bgU ns i)).map V.int))) ⟨same_upd nD, by rw [upd_same]; rfl⟩ ?_ ?_
    · rintro i H1 hi ⟨s1, hD⟩
      refine ⟨rfl, ?_⟩
      refine ⟨.ref a, rfl, .int ((0 : Int) + (i : Int)), rfl, a, ns, i, by rw [Int.zero_add]; rfl, same_seqT s1 hT, hi, hl, fun H2 s2 => ?_⟩
      refine ⟨_, rfl, ite2 (fun h => ?_) (fun h => ?_)⟩
      · refine ⟨_, rfl, _, s2 _ _ hD, szl (by rw [List.length_map, ofN_len]; have := bgU_len ns i; omega), ?_, ?_⟩
        · intro b z e
          rw [upd_ne (ne_of_none e nD)]
          exact s2 _ _ (s1 _ _ e)
        · rw [upd_same, bgU_yes (of_decide_eq_true h), ofN_app, List.map_append]
          show some (HO.lst (_ ++ [V.int ((0 : Int) + (i : Int))])) = _
          rw [Int.zero_add]
          rfl
      · refine ⟨s1.trans s2, ?_⟩
        rw [bgU_no (fun z => h (decide_eq_true z))]
        exact s2 _ _ hD
    · rintro H1 ⟨s1, hD⟩
      refine ⟨D, _, rfl, .inl ⟨lstI_of hD, fun t nt => ?_⟩⟩
      exact q _ t (s1.trans (same_upd nt)) (s1.free nt) upd_same
-- @@ check_gap
-- @@ with_arity
-- @@ with_token
-- @@ without_token
-- @@ check_arity
-- @@ put_token
-- @@ insert_token
-- @@ edited
-- @@ parse_ring
def spParseX (K : PySem.W.Frag) : Sp := fun vs H Q E => ∃ (v : V) (d : PyData), vs = [v] ∧ Dq true K H v d ∧ (∀ x, v = .str x → x.length ≤ 100000) ∧
  (∀ ns : List Int, resD d = .list [.str "ring", .tuple (ns.map PyData.int)] → ∀ H' t, Same H H' → H' t = some (.tup (ns.map V.int)) → Q (.ref t) H') ∧
  (∀ o : Option Nat, resD d = .list [.str "BadText", optD o] → ∀ H' dd, Same H H' → H' dd = some (.xd [("index", optV o)]) → E (.ref (He.ga K "BadText")) (some dd) H')
theorem ok_parse_ring (T : Tx K mg) : Ok P w K mg base (L2.CX P w) 1 "parse_ring" ["text"] (spParseX K) := by
  refine ok_ofX T.F_parse_ring T.g_parse_ring sc_parse_ring (fun _ _ _ _ _ _ us hl => match us, hl with | [_], _ => rfl) (fun vs H Q E h => ?_) (fun cdv A outer s H vs Q E hr h => ?_)
  · obtain ⟨v, d, rfl, _⟩ := h
    rfl
  · obtain ⟨v, d, rfl, dq, hx, q, er⟩ := h
    refine ⟨_, (pss_cons (ps_if (pt_not (pt_val (pe_callB call_isi (by rfl) T.f_isinstance boot_isinstance (pa_cons (pv 0) (pa_cons (pe_bltn (v := .ty "str") (by rfl) T.f_str boot_str rfl) pa_nil))))) (pss_one (ps_raise_index rfl PySem.F.excBase_ValueError PySem.F.store_ValueError T.x_BadText hr (takes_of rfl rfl rfl rfl) (pa_cons pe_non pa_nil))) pss_nil)
    (pss_cons (ps_setDc (i := 1) (own := [("arity", 2)]) (g := gName 2) rfl sc_parse_ring.nd rfl rfl (sw_trueD rfl rfl rfl (by decide +kernel)) (pi_range1 (by rfl) T.f_range (pa_cons (pe_op op_add (pe_glob (v := .int 5) rfl T.g_MAX_ARITY.choose_spec ⟨_, rfl⟩) pe_int) pa_nil)) (blkOk_by (own := [("arity", 2)]) (N := N_parse_ring) (sc := defScope s_parse_ring) (by decide +kernel)) (fun _ _ _ _ _ => pg_name (i := 2) sc_parse_ring.nd rfl (Or.inl rfl)) (fun _ _ _ _ _ => pts_nil) (fun _ _ _ _ _ => (pe_callTy call_str_int (by rfl) T.f_str boot_str (pa_cons (pv 2) pa_nil))) (fun _ _ _ _ _ => (pv 2)))
    (pss_cons (ps_set (i := 3) sc_parse_ring.nd rfl (.inl rfl) (pe_lst pa_nil))
    (pss_cons (ps_for (passes_of rfl) rfl (pi_enum (by rfl) T.f_enumerate (pa_cons (pe_split (pv 0) pe_str) pa_nil)) (pg_tup rfl (pgs_cons (pg_name (i := 4) sc_parse_ring.nd rfl (.inl rfl)) (pgs_cons (pg_name (i := 5) sc_parse_ring.nd rfl (.inl rfl)) pgs_nil)))
    (pss_cons (ps_if (PW.pt (pw_or (pt_cmpR op_ge (pv 4) (pe_glob (v := .int 24) rfl T.g_MAX_TOKENS.choose_spec ⟨_, rfl⟩) (nomark _)) (pw_or1 (pt_cmp (pc_dnotin (Nat.lt_of_le_of_lt (Nat.add_le_add_left (by decide) _) hr.units) (pv 5) (pv 1)))))) (pss_one (ps_raise_index rfl PySem.F.excBase_ValueError PySem.F.store_ValueError T.x_BadText hr (takes_of rfl rfl rfl rfl) (pa_cons (pv 4) pa_nil))) pss_nil)
    (pss_one (ps_expr (pe_bm PySem.F.plainAttrs_list PySem.F.slot_list_append PySem.F.type_list_append mt_append (pv 3) (pa_cons (pe_dget (Nat.lt_of_le_of_lt (Nat.add_le_add_left (by decide) _) hr.units) (pv 1) (pv 5) (fun _ _ => rfl)) pa_nil))))))
    (pss_one (ps_ret (pe_callTy call_tuple_of (by rfl) T.f_tuple boot_tuple (pa_cons (pv 3) pa_nil)))))))), ?_⟩
    obtain ⟨ty, k1, k2⟩ := dq_str? dq
    refine ⟨_, rfl, v, .ty "str", ty, _, _, rfl, .ty _, k1, k2, _, rfl, ?_⟩
    cases c : isStrD d with
    | false => exact iteY rfl ⟨_, rfl, fun dd ndd => er none (resD_no c) _ dd (same_upd ndd) upd_same⟩
    | true =>
    refine iteN rfl ?_
    obtain ⟨x, rfl⟩ : ∃ x, d = .str x := by
      cases d with
      | str x => exact ⟨x, rfl⟩
      | _ => cases c
    obtain rfl : v = .str x := by
      cases dq
      rfl
    have hxl := hx x rfl
    refine ⟨_, _, rfl, rfl, 6, rfl, by decide, by decide, fun D nD => ?_⟩
    refine dc_range (lo := 0) (n := 6) (fun i H2 => Same H H2 ∧ H2 D = some (.dK (dicA i))) ⟨same_upd nD, upd_same⟩ ?_ ?_
    · rintro i H2 hi ⟨s2, hD⟩
      refine ⟨rfl, ?_⟩
      rw [Int.zero_add]
      refine ⟨_, rfl, (i : Int), rfl, log_of (by omega), _, rfl, ?_⟩
      refine ⟨dicA i, .inr (txI (i : Int)), rfl, hD, by rw [dicA_len]; exact szl (by omega), fun b z e => ?_, ?_⟩
      · rw [upd_ne (ne_of_none e nD)]
        exact s2 _ _ e
      · rw [upd_same, dicA_put i hi]
    rintro H2 ⟨s2, hD⟩
    refine ⟨sz (Nat.zero_le _), fun tk ntk => ?_⟩
    have s3 := same_upd (o := .lst []) ntk
    have hk3 := upd_same (H := H2) (a := tk) (o := .lst [])
    have hD3 := s3 _ _ hD
    have s03 := s2.trans s3
    revert s3 hk3 hD3 s03
    generalize (upd H2 tk (.lst [])) = H3
    intro s3 hk3 hD3 s03
    refine ⟨_, rfl, ⟨_, rfl⟩, _, _, rfl, rfl, rfl, sz (by omega), fun p np => ?_⟩
    have e0 : resD (.str x) = resW 0 (Txt.split x " ") [] := rfl
    generalize hws : Txt.split x " " = ws at e0
    have s4 := same_upd (o := .lst (ws.map V.str)) np
    have hp4 := upd_same (H := H3) (a := p) (o := .lst (ws.map V.str))
    have hk4 := s4 _ _ hk3
    have hD4 := s4 _ _ hD3
    have s04 := s03.trans s4
    have npk : p ≠ tk := fun z => by rw [z, hk3] at np; cases np
    have nDk : D ≠ tk := fun z => by rw [z, hk3] at hD3; cases hD3
    have ntk0 : H tk = none := by
      cases e : H tk with
      | none => rfl
      | some o => exact absurd (s2 _ _ e) (by rw [ntk]; exact fun z => nomatch z)
    revert s4 hp4 hk4 hD4 s04
    generalize (upd H3 p (.lst (ws.map V.str))) = H4
    intro s4 hp4 hk4 hD4 s04
    have keep0 : ∀ {G : Hp}, (∀ b o, H4 b = some o → b ≠ tk → G b = some o) → Same H G := fun k b o e => k _ _ (s04 _ _ e) (ne_of_none e ntk0)
    refine ⟨p, _, rfl, lstI_of hp4, ?_⟩
    refine for_enumL (xs := ws.map V.str) (fun k σ H9 => ∃ y4 y5 acc, σ = [some (.str x), some (.ref D), none, some (.ref tk), y4, y5] ∧ (∀ b o, H4 b = some o → b ≠ tk → H9 b = some o) ∧ H9 tk = some (.lst (acc.map V.int)) ∧ resD (.str x) = resW k (ws.drop k) acc ∧ acc.length ≤ k ∧ k ≤ 24) ⟨_, _, [], rfl, fun _ _ e _ => e, hk4, e0, Nat.le_refl _, by decide⟩ ?_ ?_ ?_
    · rintro k σ H9 _ ⟨_, _, _, rfl, k9, _⟩
      exact lstI_of (k9 _ _ hp4 npk)
    · rintro k x' σ H9 Tp hx' ⟨y4, y5, acc, rfl, k9, hk9, er9, hal, hk24⟩ nT
      obtain ⟨w', hi, rfl⟩ : ∃ w', ws[k]? = some w' ∧ x' = .str w' := by
        rw [List.getElem?_map] at hx'
        cases e : ws[k]? with
        | none =>
          rw [e] at hx'
          cases hx'
        | some i =>
          rw [e] at hx'
          cases hx'
          exact ⟨i, rfl, rfl⟩
      have hkl : k < ws.length := (List.getElem?_eq_some_iff.mp hi).1
      have edr : ws.drop k = w' :: ws.drop (k + 1) := by
        rw [List.drop_eq_getElem_cons hkl, (List.getElem?_eq_some_iff.mp hi).2]
      rw [edr] at er9
      have s10 := same_upd (o := .tup [.int (k : Nat), .str w']) nT
      have hTp := upd_same (H := H9) (a := Tp) (o := .tup [.int (k : Nat), .str w'])
      revert s10 hTp
      generalize (upd H9 Tp (.tup [.int (k : Nat), .str w'])) = H10
      intro s10 hTp
      have hk10 := s10 _ _ hk9
      have hD10 := s10 _ _ (k9 _ _ hD4 nDk)
      have bad : badW k w' = true → ∀ dd, H10 dd = none → E (.ref (He.ga K "BadText")) (some dd) (upd H10 dd (.xd [("index", .int (k : Int))])) := fun hb dd ndd => by
        rw [resW_bad hb] at er9
        exact er (some k) er9 _ dd ((keep0 fun b o e n => s10 _ _ (k9 _ _ e n)).trans (same_upd ndd)) upd_same
      refine ⟨Tp, _, rfl, .inl (.inl hTp), rfl, _, _, rfl, _, _, rfl, rfl, ?_⟩
      refine ⟨_, rfl, _, _, rfl, rfl, _, rfl, ?_⟩
      by_cases c24 : (24 : Int) ≤ (k : Int)
      · refine iteY (decide_eq_true c24) (iteY rfl ⟨_, rfl, _, rfl, bad ?_⟩)
        unfold badW
        rw [decide_eq_true (by omega)]
        rfl
      refine iteN (decide_eq_false c24) ?_
      refine ⟨_, rfl, _, rfl, D, _, rfl, .inl ⟨dicA 6, .inr w', .inl hD10, rfl, (dicA_val w').symm⟩, _, rfl, ?_⟩
      cases etk : tokW w' with
      | none =>
        refine iteY rfl ⟨_, rfl, _, rfl, bad ?_⟩
        unfold badW
        rw [etk]
        exact Bool.or_true _
      | some i =>
        obtain ⟨hi6, ew⟩ := tokW_some etk
        have hb : badW k w' = false := by
          unfold badW
          rw [etk, decide_eq_false (by omega)]
          rfl
        have hg : some (V.int (i : Int)) = valV (dicA 6) (.inr w') := by rw [dicA_val, etk]; rfl
        refine iteN rfl ?_
        refine ⟨.ref tk, rfl, .inl ⟨rfl, _, lstI_of hk10⟩, .ref D, rfl, _, rfl, D, .int (i : Int), rfl, .inl ⟨dicA 6, .inr w', .inl hD10, rfl, hg⟩, ?_⟩
        refine ⟨tk, _, _, rfl, rfl, hk10, szl (by rw [List.length_map]; omega), ?_⟩
        refine ⟨_, _, acc ++ [(i : Int)], rfl, fun b o e nb => ?_, ?_, ?_, by rw [List.length_append]; show _ + 1 ≤ _; omega, by omega⟩
        · rw [upd_ne nb]
          exact s10 _ _ (k9 _ _ e nb)
        · rw [upd_same, List.map_append]
          rfl
        · rw [er9, resW_go hb etk]
    · rintro σ H9 ⟨y4, y5, acc, rfl, k9, hk9, er9, _⟩
      have en : ws.drop (ws.map V.str).length = [] := by rw [List.length_map, List.drop_length]
      rw [en] at er9
      have s9 := keep0 k9
      refine ⟨.ref tk, rfl, tk, _, rfl, .inl ⟨lstI_of hk9, fun l nl => ?_⟩⟩
      exact q acc er9 _ l (s9.trans (same_upd nl)) upd_same
-- @@ Reel_init
abbrev CR (K : PySem.W.Frag) : Addr := He.ga K "Reel"
theorem jin_ring {K : PySem.W.Frag} {H : Hp} {v : V} {d : PyData} (h : JIn K H v d) (hn : isNd d = true) : ∃ t ns, v = .ref t ∧ TupI K H t ns ∧ Ring ns := by
  rcases h with ⟨_, rfl⟩ | ⟨p, xs, rfl, hp, hl, hk, rfl⟩
  · cases hn
  · unfold jdT at hn
    split at hn
    · rename_i hc
      have all : ∀ (xs : List V) (i : Nat), isNd (jdF i xs) = true → ∃ ns : List Int, xs = ns.map V.int ∧ ∀ n ∈ ns, 0 ≤ n ∧ n ≤ 5 := by
        intro xs
        induction xs with
        | nil => intro i _; exact ⟨[], rfl, fun n h => nomatch h⟩
        | cons x xs ih =>
          intro i h
          unfold jdF at h
          split at h
          · rename_i ha
            obtain ⟨ns, rfl, hb⟩ := ih (i + 1) h
            cases x with
            | int z =>
              have ha : (decide ((0 : Int) ≤ z) && decide (z < 6)) = true := ha
              rw [Bool.and_eq_true, decide_eq_true_eq, decide_eq_true_eq] at ha
              refine ⟨z :: ns, rfl, fun n hn => ?_⟩
              rcases List.mem_cons.mp hn with rfl | hn
              · exact ⟨ha.1, by omega⟩
              · exact hb n hn
            | _ => cases ha
          · cases h
      obtain ⟨ns, rfl, hb⟩ := all xs 0 hn
      rw [List.length_map] at hc
      exact ⟨p, ns, rfl, hp, hc.1, hc.2, hb⟩
    · cases hn
theorem jv_same {H H' : Hp} {u : V} {d : PyData} (h : JV H u d) (s : Same H H') : JV H' u d := by
  rcases h with ⟨rfl, rfl⟩ | ⟨p, x, rfl, h, f⟩
  · exact .inl ⟨rfl, rfl⟩
  · refine .inr ⟨p, x, rfl, ?_, f⟩
    rcases h with ⟨h, rfl⟩ | ⟨j, hj, h, rfl⟩
    · exact .inl ⟨s _ _ h, rfl⟩
    · exact .inr ⟨j, hj, s _ _ h, rfl⟩
theorem jin_same {K : PySem.W.Frag} {H H' : Hp} {v : V} {d : PyData} (h : JIn K H v d) (s : Same H H') : JIn K H' v d := by
  rcases h with ⟨h, rfl⟩ | ⟨p, xs, rfl, hp, hl, hk, rfl⟩
  · obtain ⟨t, h1, h2⟩ := h
    exact .inl ⟨⟨t, tyX_same s h1, h2⟩, rfl⟩
  · exact .inr ⟨p, xs, rfl, same_seqT s hp, hl, fun x hx => (hk x hx).same s, rfl⟩
theorem jv_isNd {H : Hp} {u : V} {d : PyData} (h : JV H u d) : (u = .non ∧ isNd d = true) ∨ ((∃ p, u = .ref p) ∧ isNd d = false) := by
  rcases h with ⟨rfl, rfl⟩ | ⟨p, x, rfl, h, _⟩
  · exact .inl ⟨rfl, rfl⟩
  · refine .inr ⟨⟨p, rfl⟩, ?_⟩
    rcases h with ⟨_, rfl⟩ | ⟨j, _, _, rfl⟩ <;> rfl
def spInit (K : PySem.W.Frag) : Sp := fun vs H Q E => ∃ (C : Addr) (b l : Bool) (x : Addr) (v : V) (dx : Addr) (d : PyData), vs = [.ref x, v] ∧ SupX.Fm K b l C ∧ H x = some (.ins C dx []) ∧ JIn K H v d ∧
  ((isNd d = false ∧ ∀ H' dd u, KX x H H' → JV H' u d → FldAt H' dd (some ("error", u)) → E (.ref (He.ga K "BadRing")) dd H') ∨
  ∃ t ns, isNd d = true ∧ v = .ref t ∧ TupI K H t ns ∧ Ring ns ∧ ∀ H', KX x H H' → RO K H' x C ⟨[ns], [], ofN (bgn ns), none, false⟩ → Q .non H')
theorem ok_Reel_init (T : Tx K mg) : OkA P w K mg base (L2.CX P w) 10 (He.ma K (CR K) "__init__") ["self", "ring"] (spInit K) := by
  refine okA_ofX T.F_Reel_init sc_Reel_init (fun _ _ _ _ _ _ us hl => match us, hl with | [_, _], _ => rfl) (fun vs H Q E h => ?_) (fun cdv A outer s H vs Q E hr h => ?_)
  · obtain ⟨C, b, l, x, v, dx, d, rfl, _⟩ := h
    rfl
  · obtain ⟨C, bb, l, x, v, dx, d, rfl, hC, hx, hj, hq⟩ := h
    refine ⟨_, (pss_cons (ps_set (i := 2) sc_Reel_init.nd rfl (.inl rfl) (cal (ok_ring_error T) (hr.mono (by decide)) pass0 (pa_cons (pv 1) pa_nil)))
    (pss_cons (ps_if (pt_cmpR op_notN (pv 2) pe_non (nomark _)) (pss_one (ps_raise_error rfl PySem.F.excBase_ValueError PySem.F.store_ValueError T.x_BadRing hr (takes_of rfl rfl rfl rfl) (pa_cons (pv 2) pa_nil))) pss_nil)
    (pss_cons (ps_fld (pv 0) (pe_tup (pa_cons (pv 1) pa_nil)) rfl)
    (pss_cons (ps_fld (pv 0) (pe_tup pa_nil) rfl)
    (pss_cons (ps_fld (pv 0) (calAs (ok_beginnings T) T.g_beginnings_beginnings T.al_beginnings_beginnings (hr.mono (by decide)) pass0 (pa_cons (pv 1) pa_nil)) rfl)
    (pss_cons (ps_fld (pv 0) pe_non rfl)
    (pss_one (ps_fld (pv 0) pe_bl rfl)))))))), ?_⟩
    refine ⟨v, rfl, v, d, rfl, hj, fun H1 u s1 hu => ?_⟩
    rcases hq with ⟨hn, er⟩ | ⟨t, ns, hn, rfl, hT, rg, q⟩
    · obtain ⟨p0, rfl⟩ : ∃ p, u = .ref p := by
        rcases jv_isNd hu with ⟨_, z⟩ | ⟨z, _⟩
        · rw [hn] at z
          cases z
        · exact z
      refine ⟨_, rfl, rfl, _, rfl, iteY rfl ?_⟩
      exact ⟨.ref p0, rfl, _, rfl, fun dd ndd => er _ (some dd) (.ref p0) ((s1.trans (same_upd ndd)).kx x) (jv_same hu (same_upd ndd)) ⟨dd, rfl, upd_same⟩⟩
    obtain rfl : u = .non := by
      rcases jv_isNd hu with ⟨z, _⟩ | ⟨_, z⟩
      · exact z
      · rw [hn] at z
        cases z
    refine ⟨_, rfl, rfl, _, rfl, iteN rfl ?_⟩
    have hx1 := s1 _ _ hx
    refine ⟨.ref t, rfl, sz (by show 1 ≤ _; decide), fun p np => ?_⟩
    obtain ⟨H2, e2, s2, hp⟩ := new_tup np [.ref t]
    rw [e2]
    have dp : Dt K H2 (.ref p) (.tuple [rgD ns]) := .tup (.inl (.inl hp)) (.cons (dt_rg (same_seqT (s1.trans s2) hT)) .nil)
    have hx2 := s2 _ _ hx1
    refine ⟨.ref x, rfl, x, _, dx, _, rfl, hx2, hC.c, hC.n_rings, by decide, ?_⟩
    obtain ⟨H3, e3, k3, t3, hx3⟩ := new_fld hx2 "rings" (.ref p) rfl
    rw [e3]
    refine ⟨sz (by show 0 ≤ _; decide), fun p2 np2 => ?_⟩
    obtain ⟨H4, e4, s4, hp2⟩ := new_tup np2 []
    rw [e4]
    have hx4 := s4 _ _ hx3
    refine ⟨.ref x, rfl, x, _, dx, _, rfl, hx4, hC.c, hC.n_done, by show 1 < 1000; decide, ?_⟩
    obtain ⟨H5, e5, k5, t5, hx5⟩ := new_fld hx4 "done" (.ref p2) rfl
    rw [e5]
    have t05 : KT H H5 := (s1.trans s2).kt.trans (t3.trans (s4.kt.trans t5))
    refine ⟨.ref t, rfl, t, ns, rfl, SqT.kt t05 hT, rg.2.1, fun H6 b s6 _ hb => ?_⟩
    have hx6 := s6 _ _ hx5
    refine ⟨.ref x, rfl, x, _, dx, _, rfl, hx6, hC.c, hC.n_starts, by show 2 < 1000; decide, ?_⟩
    obtain ⟨H7, e7, k7, t7, hx7⟩ := new_fld hx6 "starts" (.ref b) rfl
    rw [e7]
    refine ⟨.ref x, rfl, x, _, dx, _, rfl, hx7, hC.c, hC.n_chosen, by show 3 < 1000; decide, ?_⟩
    obtain ⟨H8, e8, k8, t8, hx8⟩ := new_fld hx7 "chosen" .non rfl
    rw [e8]
    refine ⟨.ref x, rfl, x, _, dx, _, rfl, hx8, hC.c, hC.n_busy, by show 4 < 1000; decide, ?_⟩
    obtain ⟨H9, e9, k9, t9, hx9⟩ := new_fld hx8 "busy" (.bl false) rfl
    rw [e9]
    have t79 := t7.trans (t8.trans t9)
    have t39 := t3.trans (s4.kt.trans (t5.trans (s6.kt.trans t79)))
    refine q H9 (((s1.trans s2).kx x).trans (k3.trans ((s4.kx x).trans (k5.trans ((s6.kx x).trans (k7.trans (k8.trans k9))))))) ⟨dx, _, _, _, hx9, dp.kt t39, ?_, ?_⟩
    · exact .tup (.inl (.inl ((t5.trans (s6.kt.trans t79)) _ _ |>.1 hp2))) .nil
    · exact (dt_rg (.inl (.inl hb))).kt t79
-- @@ Reel_is_edit
def edB : List V → Bool
  | [] => false
  | w :: ys => if w = .str "remove" then decide (ys.length = 1) else if w = .str "put" ∨ w = .str "insert" then decide (ys.length = 2) else false
theorem words_yes {w : V} (h : inV w ((["put", "insert", "remove"] : List Str).map V.str) = true) : w = .str "put" ∨ w = .str "insert" ∨ w = .str "remove" := by
  cases w with
  | str x =>
    have h : ((("put" : Str) == x) || ((("insert" : Str) == x) || ((("remove" : Str) == x) || false))) = true := h
    rw [Bool.or_false, Bool.or_eq_true, Bool.or_eq_true, beq_iff_eq, beq_iff_eq, beq_iff_eq] at h
    rcases h with h | h | h
    · exact .inl (by rw [h])
    · exact .inr (.inl (by rw [h]))
    · exact .inr (.inr (by rw [h]))
  | _ => cases h
theorem words_no {w : V} (h : inV w ((["put", "insert", "remove"] : List Str).map V.str) = false) (ys : List V) : edB (w :: ys) = false := by
  have e : ∀ x : Str, x ∈ (["put", "insert", "remove"] : List Str) → w ≠ .str x := by
    intro x hx z
    rw [z] at h
    simp only [List.mem_cons, List.not_mem_nil, or_false] at hx
    rcases hx with rfl | rfl | rfl <;> cases h
  show (if w = .str "remove" then decide (ys.length = 1) else if w = .str "put" ∨ w = .str "insert" then decide (ys.length = 2) else false) = false
  rw [if_neg (e _ (by simp)), if_neg (fun z => z.elim (e _ (by simp)) (e _ (by simp)))]
def isStrV : V → Bool
  | .str _ => true
  | _ => false
/-- whether a value is an edit: its first item may be of any built-in type -/
def EdIs (K : PySem.W.Frag) (H : Hp) (v : V) (b : Bool) : Prop := (∃ t, TyX K H v t ∧ PySem.W.kitOne K t (.type "tuple") = some false ∧ b = false) ∨
  ∃ (a : Addr) (xs : List V), v = .ref a ∧ TyX K H v (.type "tuple") ∧ SqT K H a xs ∧ xs.length ≤ 1000 ∧ (∀ w ∈ xs.head?, (∃ T, SupX.Bv K H w T) ∧ ∃ t, TyX K H w t ∧ PySem.W.kitOne K t (.type "str") = some (isStrV w)) ∧ b = edB xs
def spIsEd (K : PySem.W.Frag) : Sp := fun vs H Q _ => ∃ (v : V) (b : Bool), vs = [v] ∧ EdIs K H v b ∧ Q (.bl b) H
theorem ok_Reel_is_edit (T : Tx K mg) : OkA P w K mg base CX0 3 (smA K (CR K) "is_edit") ["value"] (spIsEd K) := by
  refine okA_of T.F_Reel_is_edit sc_Reel_is_edit (fun _ _ _ _ _ _ us hl => match us, hl with | [_], _ => rfl) (fun vs H Q E h => ?_) (fun cdv A outer s H vs Q E hr h => ?_)
  · obtain ⟨v, b, rfl, _⟩ := h
    rfl
  · obtain ⟨v, b, rfl, he, q⟩ := h
    refine ⟨_, (pss_cons (ps_if (PW.pt (pw_or (pt_not (pt_val (pe_callB call_isi (by rfl) T.f_isinstance boot_isinstance (pa_cons (pv 0) (pa_cons (pe_bltn (v := .ty "tuple") (by rfl) T.f_tuple boot_tuple rfl) pa_nil))))) (pw_or (pt_cmpR op_eq (pe_callB call_len_seq (by rfl) T.f_len PySem.boot_len (pa_cons (pv 0) pa_nil)) pe_int (nomark _)) (pw_or1 (pt_cmpR (SupX.op_notInB (Nat.lt_of_le_of_lt (Nat.add_le_add_left (show 1 ≤ 64 by decide) _) hr.units)) (pe_ix ix_tup (pv 0) pe_int (fun _ _ => rfl)) (ClX.pe_cval (pe_glob (v := .ref (He.ga K "Reel")) rfl T.g_Reel rfl)) rfl))))) (pss_one (ps_ret pe_bl)) pss_nil)
    (pss_cons (ps_set (i := 1) sc_Reel_is_edit.nd rfl (.inl rfl) (pe_ifExp (pt_cmpR op_eq (pe_ix ix_tup (pv 0) pe_int (fun _ _ => rfl)) pe_str (nomark _)) pe_int pe_int))
    (pss_one (ps_ret (pe_cmpR op_eq (pe_callB call_len_seq (by rfl) T.f_len PySem.boot_len (pa_cons (pv 0) pa_nil)) (pe_op op_add pe_int (pv 1)) (nomark _)))))), ?_⟩
    rcases he with ⟨t, ty, kt, rfl⟩ | ⟨a, xs, rfl, ty, hT, hl, hf, rfl⟩
    · exact ⟨v, rfl, v, .ty "tuple", t, _, _, rfl, .ty _, ty, kt, _, rfl, q⟩
    · refine ⟨.ref a, rfl, .ref a, .ty "tuple", _, _, _, rfl, .ty _, ty, kit_ty (a := "tuple") (b := "tuple") (r := true) (by decide +kernel), _, rfl, ?_⟩
      refine iteN rfl ?_
      refine ⟨.ref a, rfl, a, xs, rfl, .inr hT, rfl, _, rfl, ?_⟩
      cases xs with
      | nil => exact iteY rfl q
      | cons w ys =>
        refine iteN (decide_eq_false fun z => by injection z with z; simp at z; omega) ?_
        obtain ⟨aw, hcv, hw⟩ := T.cv_Reel_WORDS
        obtain ⟨⟨T0, hbv⟩, _⟩ := hf w rfl
        refine ⟨.ref a, rfl, a, _, _, w, rfl, rfl, hT, atI_nat (j := 0) rfl, ?_⟩
        refine ⟨_, _, _, _, rfl, T.cr_Reel, hcv, aw, _, T0, rfl, .inr (hw _), hbv, _, rfl, ?_⟩
        rw [if_pos rfl]
        cases hin : inV w ((["put", "insert", "remove"] : List Str).map V.str) with
        | false =>
          refine iteY rfl ?_
          rw [words_no hin] at q
          exact q
        | true =>
          refine iteN rfl ?_
          have fin : ∀ (n : Nat), edB (w :: ys) = decide (ys.length = n) → decide (V.int (((w :: ys).length : Nat) : Int) = V.int (1 + (n : Int))) = edB (w :: ys) := by
            intro n e
            rw [e]
            refine decide_eq_decide.mpr ⟨fun z => ?_, fun z => ?_⟩
            · have := V.int.inj z
              rw [List.length_cons] at this
              omega
            · rw [List.length_cons, z]
              congr 1
              omega
          rcases words_yes hin with rfl | rfl | rfl
          · refine ⟨.ref a, rfl, a, _, _, _, rfl, rfl, hT, atI_nat (j := 0) rfl, rfl, _, rfl, iteN rfl ?_⟩
            refine ⟨.ref a, rfl, a, _, rfl, .inr hT, _, rfl, _, _, rfl, rfl, rfl, ?_⟩
            exact Eq.mpr (congrArg (fun z => Q (V.bl z) H) (fin 2 rfl)) q
          · refine ⟨.ref a, rfl, a, _, _, _, rfl, rfl, hT, atI_nat (j := 0) rfl, rfl, _, rfl, iteN rfl ?_⟩
            refine ⟨.ref a, rfl, a, _, rfl, .inr hT, _, rfl, _, _, rfl, rfl, rfl, ?_⟩
            exact Eq.mpr (congrArg (fun z => Q (V.bl z) H) (fin 2 rfl)) q
          · refine ⟨.ref a, rfl, a, _, _, _, rfl, rfl, hT, atI_nat (j := 0) rfl, rfl, _, rfl, iteY rfl ?_⟩
            refine ⟨.ref a, rfl, a, _, rfl, .inr hT, _, rfl, _, _, rfl, rfl, rfl, ?_⟩
            exact Eq.mpr (congrArg (fun z => Q (V.bl z) H) (fin 1 rfl)) q
-- @@ Reel_ring
def spR_ring (K : PySem.W.Frag) : Sp := fun vs H Q _ => ∃ (C : Addr) (b : Bool) (lg : Option (List PyData)) (x : Addr) (r : RS) (ns : List Int), vs = [.ref x] ∧ SupX.Fm K b lg.isSome C ∧ SupX.RL K H x C lg r ∧ r.rs.getLast? = some ns ∧ ∀ t, TupI K H t ns → Q (.ref t) H
theorem ok_Reel_ring (T : Tx K mg) : OkA P w K mg base CX0 2 (gtA K (CR K) "ring") ["self"] (spR_ring K) := by
  refine okA_of T.F_Reel_ring sc_Reel_ring (fun _ _ _ _ _ _ us hl => match us, hl with | [_], _ => rfl) (fun vs H Q E h => ?_) (fun cdv A outer s H vs Q E hr h => ?_)
  · obtain ⟨C, b, lg, x, r, ns, rfl, _⟩ := h
    rfl
  · obtain ⟨C, b, lg, x, r, ns, rfl, hC, hR, hns, q⟩ := h
    refine ⟨_, (pss_one (ps_ret (pe_ix ix_tup (pe_fld (pv 0) rfl) (pe_un un_neg pe_int) (fun _ _ => rfl)))), ?_⟩
    obtain ⟨dx, vr, vd, v1, ex, hx, dr, dd, d1, hex⟩ := id hR
    obtain ⟨rs, er⟩ := last_of hns
    rw [er, List.map_append] at dr
    obtain ⟨ra, rvs, rfl, hra, dra⟩ := dr.tuple_of
    obtain ⟨ys, y, rfl, dys, dy⟩ := dra.snoc_of
    obtain ⟨rt, rfl, hT⟩ := dt_rg_of dy
    exact ⟨.ref x, rfl, x, _, dx, _, _, rfl, hx, hC.c, hC.n_rings, rfl, _, rfl, ra, _, _, _, rfl, rfl, hra, atI_last _ _, q rt hT⟩
-- @@ Reel_version
def spR_version (K : PySem.W.Frag) : Sp := fun vs H Q _ => ∃ (C : Addr) (b : Bool) (lg : Option (List PyData)) (x : Addr) (r : RS), vs = [.ref x] ∧ SupX.Fm K b lg.isSome C ∧ SupX.RL K H x C lg r ∧ Q (.int (r.es.length : Int)) H
theorem ok_Reel_version (T : Tx K mg) : OkA P w K mg base CX0 2 (gtA K (CR K) "version") ["self"] (spR_version K) := by
  refine okA_of T.F_Reel_version sc_Reel_version (fun _ _ _ _ _ _ us hl => match us, hl with | [_], _ => rfl) (fun vs H Q E h => ?_) (fun cdv A outer s H vs Q E hr h => ?_)
  · obtain ⟨C, b, lg, x, r, rfl, _⟩ := h
    rfl
  · obtain ⟨C, b, lg, x, r, rfl, hC, hR, q⟩ := h
    refine ⟨_, (pss_one (ps_ret (pe_callB call_len_seq (by rfl) T.f_len PySem.boot_len (pa_cons (pe_fld (pv 0) rfl) pa_nil)))), ?_⟩
    obtain ⟨dx, vr, vd, v1, ex, hx, dr, dd, d1, hex⟩ := id hR
    obtain ⟨da, dvs, rfl, hda, dda⟩ := dd.tuple_of
    have ld : (dvs.length : Int) = (r.es.length : Int) := by rw [dda.len]
    refine ⟨.ref x, rfl, x, _, dx, _, _, rfl, hx, hC.c, hC.n_done, rfl, da, _, rfl, .inr hda, ?_⟩
    rw [ld]
    exact q
-- @@ Reel_beginnings
def spR_beginnings (K : PySem.W.Frag) : Sp := fun vs H Q _ => ∃ (C : Addr) (b : Bool) (lg : Option (List PyData)) (x : Addr) (r : RS), vs = [.ref x] ∧ SupX.Fm K b lg.isSome C ∧ SupX.RL K H x C lg r ∧ ∀ v, Dt K H v (rgD r.ss) → Q v H
theorem ok_Reel_beginnings (T : Tx K mg) : OkA P w K mg base CX0 2 (gtA K (CR K) "beginnings") ["self"] (spR_beginnings K) := by
  refine okA_of T.F_Reel_beginnings sc_Reel_beginnings (fun _ _ _ _ _ _ us hl => match us, hl with | [_], _ => rfl) (fun vs H Q E h => ?_) (fun cdv A outer s H vs Q E hr h => ?_)
  · obtain ⟨C, b, lg, x, r, rfl, _⟩ := h
    rfl
  · obtain ⟨C, b, lg, x, r, rfl, hC, hR, q⟩ := h
    refine ⟨_, (pss_one (ps_ret (pe_fld (pv 0) rfl))), ?_⟩
    obtain ⟨dx, vr, vd, v1, ex, hx, dr, dd, d1, hex⟩ := id hR
    exact ⟨.ref x, rfl, x, _, dx, _, _, rfl, hx, hC.c, hC.n_starts, rfl, q _ d1⟩
-- @@ Reel_start
def spR_start (K : PySem.W.Frag) : Sp := fun vs H Q _ => ∃ (C : Addr) (b : Bool) (lg : Option (List PyData)) (x : Addr) (r : RS), vs = [.ref x] ∧ SupX.Fm K b lg.isSome C ∧ SupX.RL K H x C lg r ∧ Q (optV r.ch) H
theorem ok_Reel_start (T : Tx K mg) : OkA P w K mg base CX0 2 (gtA K (CR K) "start") ["self"] (spR_start K) := by
  refine okA_of T.F_Reel_start sc_Reel_start (fun _ _ _ _ _ _ us hl => match us, hl with | [_], _ => rfl) (fun vs H Q E h => ?_) (fun cdv A outer s H vs Q E hr h => ?_)
  · obtain ⟨C, b, lg, x, r, rfl, _⟩ := h
    rfl
  · obtain ⟨C, b, lg, x, r, rfl, hC, hR, q⟩ := h
    refine ⟨_, (pss_one (ps_ret (pe_fld (pv 0) rfl))), ?_⟩
    obtain ⟨dx, vr, vd, v1, ex, hx, dr, dd, d1, hex⟩ := id hR
    exact ⟨.ref x, rfl, x, _, dx, _, _, rfl, hx, hC.c, hC.n_chosen, rfl, q⟩
-- @@ Reel_start_set
-- @@ Reel_check_idle
-- @@ Reel_check_result
def spRes (K : PySem.W.Frag) (b : Bool) : Sp := fun vs H Q E => ∃ (a : V) (t : Addr) (ns : List Int), vs = [a, .ref t] ∧ TupI K H t ns ∧
  (b = true → SupX.balL ns ≤ 0 → ∀ H' d, Same H H' → FldAt H' d (some ("balance", .int (SupX.balL ns))) → E (.ref (He.ga K "NoBalance")) d H') ∧ (¬ (b = true ∧ SupX.balL ns ≤ 0) → Q .non H)
theorem ok_Reel_check_result (T : Tx K mg) : OkA P w K mg base (L2N.CX P w) 10 (He.ma K (He.ga K "Reel") "check_result") ["self", "ring"] (spRes K false) := by
  refine okA_ofX T.F_Reel_check_result sc_Reel_check_result (fun _ _ _ _ _ _ us hl => match us, hl with | [_, _], _ => rfl) (fun vs H Q E h => ?_) (fun cdv A outer s H vs Q E hr h => ?_)
  · obtain ⟨a, t, ns, rfl, _⟩ := h
    rfl
  · obtain ⟨a, t, ns, rfl, _, _, q⟩ := h
    exact ⟨_, (pss_one ps_pass), q fun z => Bool.noConfusion z.1⟩
theorem ok_ReadyReel_check_result (T : Tx K mg) : OkA P w K mg base (L2N.CX P w) 10 (He.ma K (He.ga K "ReadyReel") "check_result") ["self", "ring"] (spRes K true) := by
  refine okA_ofX T.F_ReadyReel_check_result sc_ReadyReel_check_result (fun _ _ _ _ _ _ us hl => match us, hl with | [_, _], _ => rfl) (fun vs H Q E h => ?_) (fun cdv A outer s H vs Q E hr h => ?_)
  · obtain ⟨a, t, ns, rfl, _⟩ := h
    rfl
  · obtain ⟨a, t, ns, rfl, hT, e, q⟩ := h
    refine ⟨_, (pss_cons (ps_set (i := 2) sc_ReadyReel_check_result.nd rfl (.inl rfl) (cal (ok_balance T) (hr.mono (by decide)) pass0 (pa_cons (pv 1) pa_nil)))
      (pss_one (ps_if (pt_cmpR op_le (pv 2) pe_int (nomark _)) (pss_one (ps_raiseN_balance rfl PySem.F.excBase_ValueError PySem.F.store_ValueError T.x_NoBalance hr (L2N.takes_of rfl rfl rfl rfl) (pa_cons (pv 2) pa_nil))) pss_nil))), ?_⟩
    refine ⟨.ref t, rfl, t, ns, rfl, hT, ?_⟩
    refine ⟨_, rfl, _, _, rfl, rfl, _, rfl, ?_⟩
    by_cases c : SupX.balL ns ≤ 0
    · refine iteY (decide_eq_true c) ?_
      exact ⟨_, rfl, _, rfl, fun d nd => e rfl c _ (some d) (same_upd nd) ⟨d, rfl, upd_same⟩⟩
    · refine iteN (decide_eq_false c) ?_
      exact q fun z => c z.2
theorem ok_res (T : Tx K mg) (b : Bool) : OkA P w K mg base (L2N.CX P w) 10 (He.ma K (He.ga K (if b = true then "ReadyReel" else "Reel")) "check_result") ["self", "ring"] (spRes K b) := by
  cases b with
  | true => exact ok_ReadyReel_check_result T
  | false => exact ok_Reel_check_result T
-- @@ Reel_settle
-- @@ Reel_do_edit
-- @@ Reel_put
-- @@ Reel_insert
-- @@ Reel_remove
-- @@ Reel_undo
-- @@ Reel_edits
def spR_edits (K : PySem.W.Frag) : Sp := fun vs H Q _ => ∃ (C : Addr) (b : Bool) (lg : Option (List PyData)) (x : Addr) (r : RS), vs = [.ref x] ∧ SupX.Fm K b lg.isSome C ∧ SupX.RL K H x C lg r ∧ ∀ v, Dt K H v (.tuple r.es) → Q v H
theorem ok_Reel_edits (T : Tx K mg) : OkA P w K mg base CX0 2 (He.ma K (CR K) "edits") ["self"] (spR_edits K) := by
  refine okA_of T.F_Reel_edits sc_Reel_edits (fun _ _ _ _ _ _ us hl => match us, hl with | [_], _ => rfl) (fun vs H Q E h => ?_) (fun cdv A outer s H vs Q E hr h => ?_)
  · obtain ⟨C, b, lg, x, r, rfl, _⟩ := h
    rfl
  · obtain ⟨C, b, lg, x, r, rfl, hC, hR, q⟩ := h
    refine ⟨_, (pss_one (ps_ret (pe_fld (pv 0) rfl))), ?_⟩
    obtain ⟨dx, vr, vd, v1, ex, hx, dr, dd, d1, hex⟩ := id hR
    exact ⟨.ref x, rfl, x, _, dx, _, _, rfl, hx, hC.c, hC.n_done, rfl, q _ dd⟩
-- @@ Reel_walk
def YdW (K : PySem.W.Frag) (rvs : List V) : Nat → Hp → V → Hp → Prop := fun j H x H' => ∃ t y, x = .ref t ∧ rvs[j]? = some y ∧ Same H H' ∧ SqT K H' t [.int (j : Nat), y]
def spR_walk (K : PySem.W.Frag) : GenP.SpQ3 := fun vs H Q => ∃ (C : Addr) (b : Bool) (lg : Option (List PyData)) (x : Addr) (r : RS), vs = [.ref x] ∧ SupX.Fm K b lg.isSome C ∧ SupX.RL K H x C lg r ∧ r.rs.length ≤ 1000 ∧
  ∀ H' ra rvs, Same H H' → SqT K H' ra rvs → DtAll K H' rvs (r.rs.map rgD) → Q H rvs.length (fun _ H2 => SqT K H2 ra rvs) (YdW K rvs) H'
theorem ok_Reel_walk (T : Tx K mg) : GenP.OkQA P w K mg base 2 (He.ma K (CR K) "walk") ["self"] (spR_walk K) := by
  refine GenP.okQA_of T.F_Reel_walk sc_Reel_walk ⟨_, _, _, _, _, _, rfl, fun _ _ _ => rfl⟩ (fun _ _ => rfl) (by decide +kernel) (fun _ _ _ _ _ _ us hl => match us, hl with | [_], _ => rfl) (fun vs H Q h => ?_) (fun cdv A outer s H H2 vs Q hr h hs => ?_)
  · obtain ⟨C, b, lg, x, r, rfl, _⟩ := h
    rfl
  · obtain ⟨C, b, lg, x, r, rfl, hC, hR, hn, q⟩ := h
    apply Exists.intro
    apply Exists.intro
    apply Exists.intro
    apply And.intro
    · apply GenP.pfy
      · exact fun _ _ => (pi_enumTK (K := K) rfl (by rfl) T.f_enumerate (pa_cons (pe_fldK (K := K) rfl (pv 0) rfl) pa_nil))
      · exact fun _ _ => (pg_tupI (n := 2) (K := K) rfl rfl (pgs_cons (pg_name (i := 1) sc_Reel_walk.nd rfl (.inl rfl)) (pgs_cons (pg_name (i := 2) sc_Reel_walk.nd rfl (.inl rfl)) pgs_nil)))
      · exact fun _ _ => (pe_tup (pa_cons (pv 1) (pa_cons (pv 2) pa_nil)))
    obtain ⟨dx, vr, vd, v1, ex, hx, dr, dd, d1, hex⟩ := hR.same hs
    obtain ⟨ra, rvs, rfl, hra, dra⟩ := dr.tuple_of
    have hl : rvs.length = r.rs.length := by rw [dra.len, List.length_map]
    refine ⟨.ref x, rfl, x, _, dx, _, _, rfl, hx, hC.c, hC.n_rings, rfl, ra, rvs, rfl, hra, Same.refl H2, rvs.length, fun _ H2 => SqT K H2 ra rvs, YdW K rvs, sz (by omega), fun j H3 hj hg => ⟨?_, fun x1 H4 hy => ?_⟩, fun H3 hg => ?_, hra, q H2 ra rvs hs hra dra⟩
    · exact ⟨rvs, rvs[j], hg, List.getElem?_eq_getElem hj⟩
    · obtain ⟨T0, y, rfl, nT, rfl, hall⟩ := hy
      have s4 := same_upd (o := .tup [.int (j : Nat), y]) nT
      refine ⟨T0, _, rfl, .inl (.inl upd_same), rfl, _, _, rfl, _, _, rfl, rfl, ?_⟩
      refine ⟨_, rfl, _, rfl, sz (by show 2 ≤ _; decide), fun t nt => ?_⟩
      have s5 := s4.trans (same_upd (o := .tup [.int (j : Nat), y]) nt)
      exact ⟨⟨t, y, rfl, hall rvs hg, s5, .inl (.inl upd_same)⟩, fun b hb q => by
        cases e : H3 b with
        | none => exact hb e
        | some o => rw [s5 b o e] at q; cases q⟩
    · exact ⟨rvs, hg, Nat.le_refl _⟩
theorem fmW_Reel (T : Tx K mg) : SupX.FmW K false false (He.ga K "Reel") := ⟨T.m_Reel_walk⟩
theorem fmW_ReadyReel (T : Tx K mg) : SupX.FmW K true false (He.ga K "ReadyReel") := ⟨SupX.meth_to (D := "Reel") T.sa_ReadyReel (by decide) T.m_ReadyReel_walk⟩
theorem fmW_LoggedReel (T : Tx K mg) : SupX.FmW K false true (He.ga K "LoggedReel") := ⟨SupX.meth_to (D := "Reel") T.sa_LoggedReel (by decide) T.m_LoggedReel_walk⟩
theorem fmW_LoggedReadyReel (T : Tx K mg) : SupX.FmW K true true (He.ga K "LoggedReadyReel") := ⟨SupX.meth_to (D := "Reel") T.sa_LoggedReadyReel (by decide) T.m_LoggedReadyReel_walk⟩
theorem fmW_of (T : Tx K mg) (b l : Bool) : SupX.FmW K b l (He.ga K (SupX.clsN b l)) :=
  match b, l with
  | false, false => fmW_Reel T
  | true, false => fmW_ReadyReel T
  | false, true => fmW_LoggedReel T
  | true, true => fmW_LoggedReadyReel T
-- @@ Reel_len
-- @@ Reel_str
-- @@ Reel_eq
-- @@ ReadyReel_init
def spInitB (K : PySem.W.Frag) (b : Bool) : Sp := fun vs H Q E => ∃ (C : Addr) (l : Bool) (x : Addr) (v : V) (dx : Addr) (d : PyData), vs = [.ref x, v] ∧ SupX.Fm K b l C ∧ H x = some (.ins C dx []) ∧ JIn K H v d ∧
  ((isNd d = false ∧ ∀ H' dd u, KX x H H' → JV H' u d → FldAt H' dd (some ("error", u)) → E (.ref (He.ga K "BadRing")) dd H') ∨
  ∃ t ns, isNd d = true ∧ v = .ref t ∧ TupI K H t ns ∧ Ring ns ∧ (b = true → SupX.balL ns ≤ 0 → ∀ H' d, KX x H H' → FldAt H' d (some ("balance", .int (SupX.balL ns))) → E (.ref (He.ga K "NoBalance")) d H') ∧
    (¬ (b = true ∧ SupX.balL ns ≤ 0) → ∀ H', KX x H H' → RO K H' x C ⟨[ns], [], ofN (bgn ns), none, false⟩ → Q .non H'))
theorem ok_ReadyReel_init (T : Tx K mg) : OkA P w K mg base (L2.CX P w) 20 (He.ma K (He.ga K "ReadyReel") "__init__") ["self", "ring"] (spInitB K true) := by
  refine SupX.okS (d := d_ReadyReel_init) T.S_ReadyReel_init T.su_ReadyReel_init z_ReadyReel_init hMn T.f_super sc_ReadyReel_init rfl (fun _ _ _ _ _ _ _ us hl => match us, hl with | [_, _], _ => rfl) (fun vs H Q E h => ?_) (fun cc c A outer s H vs Q E hr hS h => ?_)
  · obtain ⟨C, l, x, v, dx, d, rfl, _⟩ := h
    rfl
  · obtain ⟨C, l, x, v, dx, d, rfl, hC, hx, hj, hq⟩ := h
    refine ⟨_, (SupX.psas_cons (SupX.psa_expr (SupX.pes_sup (k := 18) hS (hr.mono (by decide)) (passes_call (takes_of rfl rfl rfl rfl) fun _ _ _ _ h => h) (SupX.PAs.of (pa_cons (pv 1) pa_nil))))
    (SupX.psas_cons (SupX.PSa.of (ps_expr (calM (ok_res T true).n (hr.mono (by decide)) (passes_call (takes_of rfl rfl rfl rfl) fun _ _ _ _ h => h) hC.c hC.m_check_result (pv 0) (pa_cons (pv 1) pa_nil))))
    (SupX.PSas.of pss_nil))), ?_⟩
    refine ⟨C, x, dx, _, _, _, _, rfl, hx, hC.i_ready rfl, SupX.OkA_mono (ok_Reel_init T) (by decide), v, rfl, C, true, l, x, v, dx, d, rfl, hC, hx, hj, ?_⟩
    rcases hq with hq | ⟨t, ns, hn, rfl, hT, rg, e, q⟩
    · exact .inl hq
    refine .inr ⟨t, ns, hn, rfl, hT, rg, fun H1 k1 hR1 => ?_⟩
    obtain ⟨dx1, vr, vd, v1, hx1, dr, dd, d1⟩ := id hR1
    refine ⟨.ref x, rfl, x, dx1, _, rfl, hx1, rfl, .ref t, rfl, _, t, ns, rfl, SqT.kt (k1.kt hx) hT, fun hb hz H' d s' hf => e hb hz H' d (k1.trans (s'.kx x)) hf, fun hz => ?_⟩
    exact q hz H1 k1 hR1
theorem ok_initB (T : Tx K mg) (b : Bool) : OkA P w K mg base (L2.CX P w) 20 (He.ma K (He.ga K (if b = true then "ReadyReel" else "Reel")) "__init__") ["self", "ring"] (spInitB K b) := by
  cases b with
  | true => exact ok_ReadyReel_init T
  | false =>
    obtain ⟨fd, F, hb⟩ := SupX.OkA_mono (ok_Reel_init T) (k := 20) (by decide)
    refine ⟨fd, F.imp fun vs H Q E h => ?_, hb⟩
    obtain ⟨C, l, x, v, dx, d, rfl, hC, hx, hj, hq⟩ := h
    refine ⟨C, false, l, x, v, dx, d, rfl, hC, hx, hj, ?_⟩
    rcases hq with hq | ⟨t, ns, hn, rfl, hT, rg, e, q⟩
    · exact .inl hq
    · exact .inr ⟨t, ns, hn, rfl, hT, rg, fun H' k hR => q (fun z => Bool.noConfusion z.1) H' k hR⟩
-- @@ ReadyReel_check_result
-- beside Reel_check_result
-- @@ LoggedReel_init
def spInitL (K : PySem.W.Frag) : Sp := fun vs H Q E => ∃ (C : Addr) (b : Bool) (x : Addr) (v : V) (dx : Addr) (d : PyData), vs = [.ref x, v] ∧ SupX.Fm K b true C ∧ H x = some (.ins C dx []) ∧ JIn K H v d ∧
  ((isNd d = false ∧ ∀ H' dd u, KX x H H' → JV H' u d → FldAt H' dd (some ("error", u)) → E (.ref (He.ga K "BadRing")) dd H') ∨
  ∃ t ns, isNd d = true ∧ v = .ref t ∧ TupI K H t ns ∧ Ring ns ∧ (b = true → SupX.balL ns ≤ 0 → ∀ H' d, KX x H H' → FldAt H' d (some ("balance", .int (SupX.balL ns))) → E (.ref (He.ga K "NoBalance")) d H') ∧
    (¬ (b = true ∧ SupX.balL ns ≤ 0) → ∀ H', KX x H H' → SupX.RL K H' x C (some []) ⟨[ns], [], ofN (bgn ns), none, false⟩ → Q .non H'))
theorem ok_LoggedReel_init (T : Tx K mg) : OkA P w K mg base (L2.CX P w) 24 (He.ma K (He.ga K "LoggedReel") "__init__") ["self", "ring"] (spInitL K) := by
  refine SupX.okS (d := d_LoggedReel_init) T.S_LoggedReel_init T.su_LoggedReel_init z_LoggedReel_init hMn T.f_super sc_LoggedReel_init rfl (fun _ _ _ _ _ _ _ us hl => match us, hl with | [_, _], _ => rfl) (fun vs H Q E h => ?_) (fun cc c A outer s H vs Q E hr hS h => ?_)
  · obtain ⟨C, b, x, v, dx, d, rfl, _⟩ := h
    rfl
  · obtain ⟨C, b, x, v, dx, d, rfl, hC, hx, hj, hq⟩ := h
    refine ⟨_, (SupX.psas_cons (SupX.psa_expr (SupX.pes_sup (k := 20) hS (hr.mono (by decide)) (passes_call (takes_of rfl rfl rfl rfl) fun _ _ _ _ h => h) (SupX.PAs.of (pa_cons (pv 1) pa_nil))))
    (SupX.psas_cons (SupX.PSa.of (ps_fld (pv 0) (pe_tup pa_nil) rfl))
    (SupX.PSas.of pss_nil))), ?_⟩
    refine ⟨C, x, dx, _, _, _, _, rfl, hx, hC.i_logged rfl, ok_initB T b, v, rfl, C, true, x, v, dx, d, rfl, hC, hx, hj, ?_⟩
    rcases hq with hq | ⟨t, ns, hn, rfl, hT, rg, e, q⟩
    · exact .inl hq
    refine .inr ⟨t, ns, hn, rfl, hT, rg, e, fun hz H1 k1 hR1 => ?_⟩
    obtain ⟨dx1, vr, vd, v1, hx1, dr, dd, d1⟩ := id hR1
    refine ⟨sz (by show 0 ≤ _; decide), fun p np => ?_⟩
    obtain ⟨H2, e2, s2, hp⟩ := new_tup np []
    rw [e2]
    have hx2 := s2 _ _ hx1
    refine ⟨.ref x, rfl, x, _, dx1, _, rfl, hx2, hC.c, hC.n_calls rfl, by show 5 < 1000; decide, ?_⟩
    obtain ⟨H3, e3, k3, t3, hx3⟩ := new_fld hx2 "calls" (.ref p) rfl
    rw [e3]
    have t13 := s2.kt.trans t3
    exact q hz H3 (k1.trans ((s2.kx x).trans k3)) ⟨dx1, vr, vd, v1, _, hx3, dr.kt t13, dd.kt t13, d1.kt t13, .ref p, rfl, .tup (SqT.kt t3 (.inl (.inl hp))) .nil⟩
-- @@ LoggedReel_log
-- @@ LoggedReel_noted
-- @@ LoggedReel_put
-- @@ LoggedReel_insert
-- @@ LoggedReel_remove
-- @@ LoggedReel_undo
-- @@ LoggedReadyReel_init
/-! the four classes -/
theorem fm_Reel (T : Tx K mg) : SupX.Fm K false false (He.ga K "Reel") where
  c := T.c_Reel
  n_rings := T.n_Reel_rings
  n_done := T.n_Reel_done
  n_starts := T.n_Reel_starts
  n_chosen := T.n_Reel_chosen
  n_busy := T.n_Reel_busy
  n_calls := fun z => Bool.noConfusion z
  k_MOST_EDITS := T.k_Reel_MOST_EDITS
  m_check_idle := T.m_Reel_check_idle
  m_settle := T.m_Reel_settle
  m_do_edit := T.m_Reel_do_edit
  m_edits := T.m_Reel_edits
  m_len := T.m_Reel___len__
  m_str := T.m_Reel___str__
  m_eq := T.m_Reel___eq__
  m_check_result := T.m_Reel_check_result
  m_put := T.m_Reel_put
  m_insert := T.m_Reel_insert
  m_remove := T.m_Reel_remove
  m_undo := T.m_Reel_undo
  m_noted := fun z => Bool.noConfusion z
  p_ring := T.p_Reel_ring
  p_version := T.p_Reel_version
  p_beginnings := T.p_Reel_beginnings
  p_start := T.p_Reel_start
  st_start := T.st_Reel_start
  p_log := fun z => Bool.noConfusion z
  isC := T.is_Reel
  mkC := T.mk_Reel
  i_ready := fun z => Bool.noConfusion z
  i_logged := fun z => Bool.noConfusion z
  i_both := fun z1 z2 => Bool.noConfusion z1
  s_put := fun z => Bool.noConfusion z
  s_insert := fun z => Bool.noConfusion z
  s_remove := fun z => Bool.noConfusion z
  s_undo := fun z => Bool.noConfusion z
theorem fm_ReadyReel (T : Tx K mg) : SupX.Fm K true false (He.ga K "ReadyReel") where
  c := T.c_ReadyReel
  n_rings := T.n_ReadyReel_rings
  n_done := T.n_ReadyReel_done
  n_starts := T.n_ReadyReel_starts
  n_chosen := T.n_ReadyReel_chosen
  n_busy := T.n_ReadyReel_busy
  n_calls := fun z => Bool.noConfusion z
  k_MOST_EDITS := T.k_ReadyReel_MOST_EDITS
  m_check_idle := SupX.meth_to (D := "Reel") T.sa_ReadyReel (by decide) T.m_ReadyReel_check_idle
  m_settle := SupX.meth_to (D := "Reel") T.sa_ReadyReel (by decide) T.m_ReadyReel_settle
  m_do_edit := SupX.meth_to (D := "Reel") T.sa_ReadyReel (by decide) T.m_ReadyReel_do_edit
  m_edits := SupX.meth_to (D := "Reel") T.sa_ReadyReel (by decide) T.m_ReadyReel_edits
  m_len := SupX.meth_to (D := "Reel") T.sa_ReadyReel (by decide) T.m_ReadyReel___len__
  m_str := SupX.meth_to (D := "Reel") T.sa_ReadyReel (by decide) T.m_ReadyReel___str__
  m_eq := SupX.meth_to (D := "Reel") T.sa_ReadyReel (by decide) T.m_ReadyReel___eq__
  m_check_result := T.m_ReadyReel_check_result
  m_put := SupX.meth_to (D := "Reel") T.sa_ReadyReel (by decide) T.m_ReadyReel_put
  m_insert := SupX.meth_to (D := "Reel") T.sa_ReadyReel (by decide) T.m_ReadyReel_insert
  m_remove := SupX.meth_to (D := "Reel") T.sa_ReadyReel (by decide) T.m_ReadyReel_remove
  m_undo := SupX.meth_to (D := "Reel") T.sa_ReadyReel (by decide) T.m_ReadyReel_undo
  m_noted := fun z => Bool.noConfusion z
  p_ring := SupX.prop_to T.sp_ReadyReel (by decide) T.p_ReadyReel_ring
  p_version := SupX.prop_to T.sp_ReadyReel (by decide) T.p_ReadyReel_version
  p_beginnings := SupX.prop_to T.sp_ReadyReel (by decide) T.p_ReadyReel_beginnings
  p_start := SupX.prop_to T.sp_ReadyReel (by decide) T.p_ReadyReel_start
  st_start := SupX.pset_from (SupX.sam_p T.sp_ReadyReel (by decide)) T.st_ReadyReel_start
  p_log := fun z => Bool.noConfusion z
  isC := T.is_ReadyReel
  mkC := T.mk_ReadyReel
  i_ready := fun z => T.sm_ReadyReel_ReadyReel_init
  i_logged := fun z => Bool.noConfusion z
  i_both := fun z1 z2 => Bool.noConfusion z2
  s_put := fun z => Bool.noConfusion z
  s_insert := fun z => Bool.noConfusion z
  s_remove := fun z => Bool.noConfusion z
  s_undo := fun z => Bool.noConfusion z
theorem fm_LoggedReel (T : Tx K mg) : SupX.Fm K false true (He.ga K "LoggedReel") where
  c := T.c_LoggedReel
  n_rings := T.n_LoggedReel_rings
  n_done := T.n_LoggedReel_done
  n_starts := T.n_LoggedReel_starts
  n_chosen := T.n_LoggedReel_chosen
  n_busy := T.n_LoggedReel_busy
  n_calls := fun z => T.n_LoggedReel_calls
  k_MOST_EDITS := T.k_LoggedReel_MOST_EDITS
  m_check_idle := SupX.meth_to (D := "Reel") T.sa_LoggedReel (by decide) T.m_LoggedReel_check_idle
  m_settle := SupX.meth_to (D := "Reel") T.sa_LoggedReel (by decide) T.m_LoggedReel_settle
  m_do_edit := SupX.meth_to (D := "Reel") T.sa_LoggedReel (by decide) T.m_LoggedReel_do_edit
  m_edits := SupX.meth_to (D := "Reel") T.sa_LoggedReel (by decide) T.m_LoggedReel_edits
  m_len := SupX.meth_to (D := "Reel") T.sa_LoggedReel (by decide) T.m_LoggedReel___len__
  m_str := SupX.meth_to (D := "Reel") T.sa_LoggedReel (by decide) T.m_LoggedReel___str__
  m_eq := SupX.meth_to (D := "Reel") T.sa_LoggedReel (by decide) T.m_LoggedReel___eq__
  m_check_result := SupX.meth_to (D := "Reel") T.sa_LoggedReel (by decide) T.m_LoggedReel_check_result
  m_put := T.m_LoggedReel_put
  m_insert := T.m_LoggedReel_insert
  m_remove := T.m_LoggedReel_remove
  m_undo := T.m_LoggedReel_undo
  m_noted := fun z => T.m_LoggedReel_noted
  p_ring := SupX.prop_to T.sp_LoggedReel (by decide) T.p_LoggedReel_ring
  p_version := SupX.prop_to T.sp_LoggedReel (by decide) T.p_LoggedReel_version
  p_beginnings := SupX.prop_to T.sp_LoggedReel (by decide) T.p_LoggedReel_beginnings
  p_start := SupX.prop_to T.sp_LoggedReel (by decide) T.p_LoggedReel_start
  st_start := SupX.pset_from (SupX.sam_p T.sp_LoggedReel (by decide)) T.st_LoggedReel_start
  p_log := fun z => T.p_LoggedReel_log
  isC := T.is_LoggedReel
  mkC := T.mk_LoggedReel
  i_ready := fun z => Bool.noConfusion z
  i_logged := fun z => T.sm_LoggedReel_LoggedReel_init
  i_both := fun z1 z2 => Bool.noConfusion z1
  s_put := fun z => T.sm_LoggedReel_LoggedReel_put
  s_insert := fun z => T.sm_LoggedReel_LoggedReel_insert
  s_remove := fun z => T.sm_LoggedReel_LoggedReel_remove
  s_undo := fun z => T.sm_LoggedReel_LoggedReel_undo
theorem fm_LoggedReadyReel (T : Tx K mg) : SupX.Fm K true true (He.ga K "LoggedReadyReel") where
  c := T.c_LoggedReadyReel
  n_rings := T.n_LoggedReadyReel_rings
  n_done := T.n_LoggedReadyReel_done
  n_starts := T.n_LoggedReadyReel_starts
  n_chosen := T.n_LoggedReadyReel_chosen
  n_busy := T.n_LoggedReadyReel_busy
  n_calls := fun z => T.n_LoggedReadyReel_calls
  k_MOST_EDITS := T.k_LoggedReadyReel_MOST_EDITS
  m_check_idle := SupX.meth_to (D := "Reel") T.sa_LoggedReadyReel (by decide) T.m_LoggedReadyReel_check_idle
  m_settle := SupX.meth_to (D := "Reel") T.sa_LoggedReadyReel (by decide) T.m_LoggedReadyReel_settle
  m_do_edit := SupX.meth_to (D := "Reel") T.sa_LoggedReadyReel (by decide) T.m_LoggedReadyReel_do_edit
  m_edits := SupX.meth_to (D := "Reel") T.sa_LoggedReadyReel (by decide) T.m_LoggedReadyReel_edits
  m_len := SupX.meth_to (D := "Reel") T.sa_LoggedReadyReel (by decide) T.m_LoggedReadyReel___len__
  m_str := SupX.meth_to (D := "Reel") T.sa_LoggedReadyReel (by decide) T.m_LoggedReadyReel___str__
  m_eq := SupX.meth_to (D := "Reel") T.sa_LoggedReadyReel (by decide) T.m_LoggedReadyReel___eq__
  m_check_result := SupX.meth_to (D := "ReadyReel") T.sa_LoggedReadyReel (by decide) T.m_LoggedReadyReel_check_result
  m_put := SupX.meth_to (D := "LoggedReel") T.sa_LoggedReadyReel (by decide) T.m_LoggedReadyReel_put
  m_insert := SupX.meth_to (D := "LoggedReel") T.sa_LoggedReadyReel (by decide) T.m_LoggedReadyReel_insert
  m_remove := SupX.meth_to (D := "LoggedReel") T.sa_LoggedReadyReel (by decide) T.m_LoggedReadyReel_remove
  m_undo := SupX.meth_to (D := "LoggedReel") T.sa_LoggedReadyReel (by decide) T.m_LoggedReadyReel_undo
  m_noted := fun z => SupX.meth_to (D := "LoggedReel") T.sa_LoggedReadyReel (by decide) T.m_LoggedReadyReel_noted
  p_ring := SupX.prop_to T.sp_LoggedReadyReel (by decide) T.p_LoggedReadyReel_ring
  p_version := SupX.prop_to T.sp_LoggedReadyReel (by decide) T.p_LoggedReadyReel_version
  p_beginnings := SupX.prop_to T.sp_LoggedReadyReel (by decide) T.p_LoggedReadyReel_beginnings
  p_start := SupX.prop_to T.sp_LoggedReadyReel (by decide) T.p_LoggedReadyReel_start
  st_start := SupX.pset_from (SupX.sam_p T.sp_LoggedReadyReel (by decide)) T.st_LoggedReadyReel_start
  p_log := fun z => SupX.prop_from (SupX.sameP_at T.sq_LoggedReadyReel (by decide)) T.p_LoggedReadyReel_log
  isC := T.is_LoggedReadyReel
  mkC := T.mk_LoggedReadyReel
  i_ready := fun z => T.sm_LoggedReadyReel_ReadyReel_init
  i_logged := fun z => T.sm_LoggedReadyReel_LoggedReel_init
  i_both := fun z1 z2 => T.sm_LoggedReadyReel_LoggedReadyReel_init
  s_put := fun z => T.sm_LoggedReadyReel_LoggedReel_put
  s_insert := fun z => T.sm_LoggedReadyReel_LoggedReel_insert
  s_remove := fun z => T.sm_LoggedReadyReel_LoggedReel_remove
  s_undo := fun z => T.sm_LoggedReadyReel_LoggedReel_undo
theorem fm_of (T : Tx K mg) (b l : Bool) : SupX.Fm K b l (He.ga K (SupX.clsN b l)) :=
  match b, l with
  | false, false => fm_Reel T
  | true, false => fm_ReadyReel T
  | false, true => fm_LoggedReel T
  | true, true => fm_LoggedReadyReel T
def spInitLR (K : PySem.W.Frag) : Sp := fun vs H Q E => ∃ (C : Addr) (x : Addr) (v : V) (dx : Addr) (d : PyData), vs = [.ref x, v] ∧ SupX.Fm K true true C ∧ H x = some (.ins C dx []) ∧ JIn K H v d ∧
  ((isNd d = false ∧ ∀ H' dd u, KX x H H' → JV H' u d → FldAt H' dd (some ("error", u)) → E (.ref (He.ga K "BadRing")) dd H') ∨
  ∃ t ns, isNd d = true ∧ v = .ref t ∧ TupI K H t ns ∧ Ring ns ∧ (SupX.balL ns ≤ 0 → ∀ H' d, KX x H H' → FldAt H' d (some ("balance", .int (SupX.balL ns))) → E (.ref (He.ga K "NoBalance")) d H') ∧
    (¬ (SupX.balL ns ≤ 0) → ∀ H', KX x H H' → SupX.RL K H' x C (some []) ⟨[ns], [], ofN (bgn ns), none, false⟩ → Q .non H'))
theorem ok_LoggedReadyReel_init (T : Tx K mg) : OkA P w K mg base (L2.CX P w) 28 (He.ma K (He.ga K "LoggedReadyReel") "__init__") ["self", "ring"] (spInitLR K) := by
  refine SupX.okS (d := d_LoggedReadyReel_init) T.S_LoggedReadyReel_init T.su_LoggedReadyReel_init z_LoggedReadyReel_init hMn T.f_super sc_LoggedReadyReel_init rfl (fun _ _ _ _ _ _ _ us hl => match us, hl with | [_, _], _ => rfl) (fun vs H Q E h => ?_) (fun cc c A outer s H vs Q E hr hS h => ?_)
  · obtain ⟨C, x, v, dx, d, rfl, _⟩ := h
    rfl
  · obtain ⟨C, x, v, dx, d, rfl, hC, hx, hj, hq⟩ := h
    refine ⟨_, (SupX.psas_cons (SupX.psa_expr (SupX.pes_sup (k := 24) hS (hr.mono (by decide)) (passes_call (takes_of rfl rfl rfl rfl) fun _ _ _ _ h => h) (SupX.PAs.of (pa_cons (pv 1) pa_nil))))
    (SupX.PSas.of pss_nil)), ?_⟩
    refine ⟨C, x, dx, _, _, _, _, rfl, hx, hC.i_both rfl rfl, ok_LoggedReel_init T, v, rfl, C, true, x, v, dx, d, rfl, hC, hx, hj, ?_⟩
    rcases hq with hq | ⟨t, ns, hn, rfl, hT, rg, e, q⟩
    · exact .inl hq
    · exact .inr ⟨t, ns, hn, rfl, hT, rg, fun _ hz H' d k hf => e hz H' d k hf, fun hz H1 k1 hR1 => q (fun h => hz ⟨rfl, h⟩) H1 k1 hR1⟩
/-- what a making of a value does -/
def IniTo (K : PySem.W.Frag) (H : Hp) (x C : Addr) (b : Bool) (lg : Option (List PyData)) (v : V) (d : PyData) (Q : VK) (E : XK) : Prop :=
  ((isNd d = false ∧ ∀ H' dd u, KX x H H' → JV H' u d → FldAt H' dd (some ("error", u)) → E (.ref (He.ga K "BadRing")) dd H') ∨
  ∃ t ns, isNd d = true ∧ v = .ref t ∧ TupI K H t ns ∧ Ring ns ∧ (b = true → SupX.balL ns ≤ 0 → ∀ H' d, KX x H H' → FldAt H' d (some ("balance", .int (SupX.balL ns))) → E (.ref (He.ga K "NoBalance")) d H') ∧
    (¬ (b = true ∧ SupX.balL ns ≤ 0) → ∀ H', KX x H H' → SupX.RL K H' x C lg (newR ns) → Q .non H'))
def spInitG (K : PySem.W.Frag) (b l : Bool) : Sp := fun vs H Q E => ∃ (x : Addr) (v : V) (dx : Addr) (d : PyData), vs = [.ref x, v] ∧ H x = some (.ins (He.ga K (SupX.clsN b l)) dx []) ∧ JIn K H v d ∧ IniTo K H x (He.ga K (SupX.clsN b l)) b (lg0 l) v d Q E
theorem ok_initG (T : Tx K mg) (b l : Bool) : OkA P w K mg base (L2.CX P w) 28 (He.ma K (He.ga K (SupX.clsN b l)) "__init__") ["self", "ring"] (spInitG K b l) := by
  match b, l with
  | false, false =>
    obtain ⟨fd, F, hb⟩ := SupX.OkA_mono (ok_Reel_init T) (k := 28) (by decide)
    refine ⟨fd, F.imp fun vs H Q E h => ?_, hb⟩
    obtain ⟨x, v, dx, d, rfl, hx, hj, hq⟩ := h
    refine ⟨_, false, false, x, v, dx, d, rfl, fm_of T false false, hx, hj, ?_⟩
    rcases hq with hq | ⟨t, ns, hn, rfl, hT, rg, e, q⟩
    · exact .inl hq
    · exact .inr ⟨t, ns, hn, rfl, hT, rg, fun H' k hR => q (fun z => Bool.noConfusion z.1) H' k (SupX.RL.ro.mpr hR)⟩
  | true, false =>
    obtain ⟨fd, F, hb⟩ := SupX.OkA_mono (ok_ReadyReel_init T) (k := 28) (by decide)
    refine ⟨fd, F.imp fun vs H Q E h => ?_, hb⟩
    obtain ⟨x, v, dx, d, rfl, hx, hj, hq⟩ := h
    refine ⟨_, false, x, v, dx, d, rfl, fm_of T true false, hx, hj, ?_⟩
    rcases hq with hq | ⟨t, ns, hn, rfl, hT, rg, e, q⟩
    · exact .inl hq
    · exact .inr ⟨t, ns, hn, rfl, hT, rg, e, fun z H' k hR => q z H' k (SupX.RL.ro.mpr hR)⟩
  | false, true =>
    obtain ⟨fd, F, hb⟩ := SupX.OkA_mono (ok_LoggedReel_init T) (k := 28) (by decide)
    refine ⟨fd, F.imp fun vs H Q E h => ?_, hb⟩
    obtain ⟨x, v, dx, d, rfl, hx, hj, hq⟩ := h
    exact ⟨_, false, x, v, dx, d, rfl, fm_of T false true, hx, hj, hq⟩
  | true, true =>
    obtain ⟨fd, F, hb⟩ := ok_LoggedReadyReel_init (w := w) (base := base) T
    refine ⟨fd, F.imp fun vs H Q E h => ?_, hb⟩
    obtain ⟨x, v, dx, d, rfl, hx, hj, hq⟩ := h
    refine ⟨_, x, v, dx, d, rfl, fm_of T true true, hx, hj, ?_⟩
    rcases hq with hq | ⟨t, ns, hn, rfl, hT, rg, e, q⟩
    · exact .inl hq
    · exact .inr ⟨t, ns, hn, rfl, hT, rg, e rfl, fun z H' k hR => q (fun y => z y.2) H' k hR⟩
-- @@ _law_made
/-- what a making of a value does, seen from outside -/
def MkTo (K : PySem.W.Frag) (H : Hp) (b l : Bool) (v : V) (d : PyData) (Q : VK) (E : XK) : Prop :=
  ((isNd d = false ∧ ∀ H' dd u, Same H H' → JV H' u d → FldAt H' dd (some ("error", u)) → E (.ref (He.ga K "BadRing")) dd H') ∨
  ∃ t ns, isNd d = true ∧ v = .ref t ∧ TupI K H t ns ∧ Ring ns ∧ (b = true → SupX.balL ns ≤ 0 → ∀ H' d, Same H H' → FldAt H' d (some ("balance", .int (SupX.balL ns))) → E (.ref (He.ga K "NoBalance")) d H') ∧
    (¬ (b = true ∧ SupX.balL ns ≤ 0) → ∀ H' x, Same H H' → H x = none → SupX.RL K H' x (He.ga K (SupX.clsN b l)) (lg0 l) (newR ns) → Q (.ref x) H'))
theorem ini_to {K : PySem.W.Frag} {H H1 : Hp} {x : Addr} {b l : Bool} {v : V} {d : PyData} {Q Q' : VK} {E : XK} (h : MkTo K H b l v d Q E) (s : Same H H1) (k : ∀ H', KX x H1 H' → Same H H') (nx : H x = none) (hQ : ∀ H', Q (.ref x) H' → Q' .non H') : IniTo K H1 x (He.ga K (SupX.clsN b l)) b (lg0 l) v d Q' E := by
  rcases h with ⟨hn, er⟩ | ⟨t, ns, hn, rfl, hT, rg, e, q⟩
  · exact .inl ⟨hn, fun H' dd u kx hu hf => er H' dd u (k H' kx) hu hf⟩
  · exact .inr ⟨t, ns, hn, rfl, same_seqT s hT, rg, fun hb hz H' d kx hf => e hb hz H' d (k H' kx) hf, fun hz H' kx hR => hQ H' (q hz H' x (k H' kx) nx hR)⟩
def spMade (K : PySem.W.Frag) : Sp := fun vs H Q E => ∃ (b l : Bool) (v : V) (d : PyData), vs = [.int (kindN b l), v] ∧ JIn K H v d ∧ MkTo K H b l v d Q E
theorem ok__law_made (T : Tx K mg) : Ok P w K mg base (L2.CX P w) 34 "_law_made" ["_law_kind", "_law_ring_here"] (spMade K) := by
  refine ok_ofX T.F__law_made T.g__law_made sc__law_made (fun _ _ _ _ _ _ us hl => match us, hl with | [_, _], _ => rfl) (fun vs H Q E h => ?_) (fun cdv A outer s H vs Q E hr h => ?_)
  · obtain ⟨b, l, v, d, rfl, _⟩ := h
    rfl
  · obtain ⟨b, l, v, d, rfl, hj, hm⟩ := h
    refine ⟨_, (pss_cons (ps_if (pt_cmpR op_eq (pv 0) pe_int (nomark _)) (pss_one (ps_ret (calI (ok_initG T false false) (hr.mono (by decide)) (passes_call (takes_of rfl rfl rfl rfl) fun _ _ _ _ h => h) T.mk_Reel T.g_Reel (pa_cons (pv 1) pa_nil)))) pss_nil)
    (pss_cons (ps_if (pt_cmpR op_eq (pv 0) pe_int (nomark _)) (pss_one (ps_ret (calI (ok_initG T true false) (hr.mono (by decide)) (passes_call (takes_of rfl rfl rfl rfl) fun _ _ _ _ h => h) T.mk_ReadyReel T.g_ReadyReel (pa_cons (pv 1) pa_nil)))) pss_nil)
    (pss_one (ps_ret (pe_ifExp (pt_cmpR op_eq (pv 0) pe_int (nomark _)) (calI (ok_initG T false true) (hr.mono (by decide)) (passes_call (takes_of rfl rfl rfl rfl) fun _ _ _ _ h => h) T.mk_LoggedReel T.g_LoggedReel (pa_cons (pv 1) pa_nil)) (calI (ok_initG T true true) (hr.mono (by decide)) (passes_call (takes_of rfl rfl rfl rfl) fun _ _ _ _ h => h) T.mk_LoggedReadyReel T.g_LoggedReadyReel (pa_cons (pv 1) pa_nil))))))), ?_⟩
    match b, l with
    | false, false =>
      refine ⟨_, rfl, rfl, _, rfl, iteY rfl ?_⟩
      refine ⟨v, rfl, fun x dx nx ndx nxd => ?_⟩
      exact ⟨x, v, dx, d, rfl, upd_same, jin_same hj (made_before nx ndx nxd), ini_to hm (made_before nx ndx nxd) (fun H' kx => made_same nx ndx nxd kx) nx fun H' q => ⟨rfl, q⟩⟩
    | true, false =>
      refine ⟨_, rfl, rfl, _, rfl, iteN rfl ?_⟩
      refine ⟨_, rfl, rfl, _, rfl, iteY rfl ?_⟩
      refine ⟨v, rfl, fun x dx nx ndx nxd => ?_⟩
      exact ⟨x, v, dx, d, rfl, upd_same, jin_same hj (made_before nx ndx nxd), ini_to hm (made_before nx ndx nxd) (fun H' kx => made_same nx ndx nxd kx) nx fun H' q => ⟨rfl, q⟩⟩
    | false, true =>
      refine ⟨_, rfl, rfl, _, rfl, iteN rfl ?_⟩
      refine ⟨_, rfl, rfl, _, rfl, iteN rfl ?_⟩
      refine ⟨_, rfl, rfl, _, rfl, iteY rfl ?_⟩
      refine ⟨v, rfl, fun x dx nx ndx nxd => ?_⟩
      exact ⟨x, v, dx, d, rfl, upd_same, jin_same hj (made_before nx ndx nxd), ini_to hm (made_before nx ndx nxd) (fun H' kx => made_same nx ndx nxd kx) nx fun H' q => ⟨rfl, q⟩⟩
    | true, true =>
      refine ⟨_, rfl, rfl, _, rfl, iteN rfl ?_⟩
      refine ⟨_, rfl, rfl, _, rfl, iteN rfl ?_⟩
      refine ⟨_, rfl, rfl, _, rfl, iteN rfl ?_⟩
      refine ⟨v, rfl, fun x dx nx ndx nxd => ?_⟩
      exact ⟨x, v, dx, d, rfl, upd_same, jin_same hj (made_before nx ndx nxd), ini_to hm (made_before nx ndx nxd) (fun H' kx => made_same nx ndx nxd kx) nx fun H' q => ⟨rfl, q⟩⟩
-- @@ Reel_read
theorem resW_ring : ∀ (ws : List Str) (k : Nat) (acc ns : List Int), resW k ws acc = .list [.str "ring", .tuple (ns.map PyData.int)] → acc.length = k → k ≤ 24 → (∀ x ∈ acc, 0 ≤ x ∧ x ≤ 5) → ns.length = k + ws.length ∧ ns.length ≤ 24 ∧ ∀ x ∈ ns, 0 ≤ x ∧ x ≤ 5
  | [], k, acc, ns, h, ha, hk, hb => by
    have h1 : (PyData.list [.str "ring", .tuple (acc.map PyData.int)]) = .list [.str "ring", .tuple (ns.map PyData.int)] := h
    simp only [PyData.list.injEq, List.cons.injEq, PyData.tuple.injEq, and_true, true_and] at h1
    have e := (List.map_inj_right (fun _ _ z => PyData.int.inj z)).mp h1
    subst e
    exact ⟨by simp [ha], by omega, hb⟩
  | w :: ws, k, acc, ns, h, ha, hk, hb => by
    by_cases c : badW k w = true
    · rw [resW_bad c] at h
      simp only [PyData.list.injEq, List.cons.injEq, PyData.str.injEq] at h
      exact absurd h.1 (by decide +kernel)
    · have c : badW k w = false := by simpa using c
      have c2 := c
      unfold badW at c2
      rw [Bool.or_eq_false_iff, decide_eq_false_iff_not] at c2
      cases etk : tokW w with
      | none => rw [etk] at c2; exact absurd c2.2 (by decide)
      | some i =>
        obtain ⟨hi6, _⟩ := tokW_some etk
        rw [resW_go c etk] at h
        obtain ⟨h1, h2, h3⟩ := resW_ring ws (k + 1) (acc ++ [(i : Int)]) ns h (by rw [List.length_append, ha]; rfl) (by omega) fun x hx => by
          rcases List.mem_append.mp hx with z | z
          · exact hb x z
          · rw [List.mem_singleton.mp z]
            exact ⟨Int.natCast_nonneg _, by omega⟩
        exact ⟨by rw [h1, List.length_cons]; omega, h2, h3⟩
theorem resD_ring {d : PyData} {ns : List Int} (h : resD d = .list [.str "ring", .tuple (ns.map PyData.int)]) : Ring ns := by
  cases d with
  | str x =>
    obtain ⟨h1, h2, h3⟩ := resW_ring (Txt.split x " ") 0 [] ns h rfl (by decide) fun x hx => nomatch hx
    have := split_ne x
    exact ⟨by omega, h2, h3⟩
  | _ =>
    have h : (PyData.list [.str "BadText", .none]) = .list [.str "ring", .tuple (ns.map PyData.int)] := h
    simp only [PyData.list.injEq, List.cons.injEq, PyData.str.injEq] at h
    exact absurd h.1 (by decide +kernel)
theorem jd_ring {ns : List Int} (rg : Ring ns) : jdT (ns.map V.int) = .none := by
  unfold jdT
  rw [if_pos ⟨by rw [List.length_map]; exact rg.1, by rw [List.length_map]; exact rg.2.1⟩]
  refine jdF_yes _ 0 fun k x hx => ?_
  rw [List.getElem?_map] at hx
  cases e : ns[k]? with
  | none => rw [e] at hx; cases hx
  | some z =>
    rw [e] at hx
    cases hx
    have hb := rg.2.2 z (List.mem_of_getElem? e)
    show (decide ((0 : Int) ≤ z) && decide (z < 6)) = true
    rw [decide_eq_true hb.1, decide_eq_true (by omega)]
    rfl
theorem jin_of {K : PySem.W.Frag} {H : Hp} {t : Addr} {ns : List Int} (hT : TupI K H t ns) (rg : Ring ns) : JIn K H (.ref t) .none := by
  refine .inr ⟨t, ns.map V.int, rfl, hT, by rw [List.length_map]; have := rg.2.1; omega, fun x hx => ?_, (jd_ring rg).symm⟩
  obtain ⟨z, _, rfl⟩ := List.mem_map.mp hx
  exact .int z
/-- what a reading of a text does -/
def RdTo (K : PySem.W.Frag) (H : Hp) (b l : Bool) (d : PyData) (Q : VK) (E : XK) : Prop :=
  (∀ ns : List Int, resD d = .list [.str "ring", .tuple (ns.map PyData.int)] → (b = true → SupX.balL ns ≤ 0 → ∀ H' d, Same H H' → FldAt H' d (some ("balance", .int (SupX.balL ns))) → E (.ref (He.ga K "NoBalance")) d H') ∧
    (¬ (b = true ∧ SupX.balL ns ≤ 0) → ∀ H' x, Same H H' → H x = none → SupX.RL K H' x (He.ga K (SupX.clsN b l)) (lg0 l) (newR ns) → Q (.ref x) H')) ∧
  (∀ o : Option Nat, resD d = .list [.str "BadText", optD o] → ∀ H' dd, Same H H' → FldAt H' dd (some ("index", optV o)) → E (.ref (He.ga K "BadText")) dd H')
def spRead (K : PySem.W.Frag) : Sp := fun vs H Q E => ∃ (b l : Bool) (v : V) (d : PyData), vs = [.ref (He.ga K (SupX.clsN b l)), v] ∧ Dq true K H v d ∧ (∀ x, v = .str x → x.length ≤ 100000) ∧ RdTo K H b l d Q E
theorem ok_Reel_read (T : Tx K mg) : OkA P w K mg base (L2.CX P w) 30 (cmA K (CR K) "read") ["cls", "text"] (spRead K) := by
  refine okA_ofX T.F_Reel_read sc_Reel_read (fun _ _ _ _ _ _ us hl => match us, hl with | [_, _], _ => rfl) (fun vs H Q E h => ?_) (fun cdv A outer s H vs Q E hr h => ?_)
  · obtain ⟨b, l, v, d, rfl, _⟩ := h
    rfl
  · obtain ⟨b, l, v, d, rfl, dq, hx, hg, hb⟩ := h
    refine ⟨_, (pss_one (ps_ret (calL (i := 0) (ok_initG T b l) (hr.mono (by decide)) (passes_call (takes_of rfl rfl rfl rfl) fun _ _ _ _ h => h) (fm_of T b l).mkC rfl (.inl rfl) (pa_cons (calX (ok_parse_ring T) (hr.mono (by decide)) (takes_of rfl rfl rfl rfl) (pa_cons (pv 1) pa_nil)) pa_nil)))), ?_⟩
    refine ⟨rfl, v, rfl, v, d, rfl, dq, hx, fun ns e H1 t s1 ht => ?_, fun o e H' dd s hd => hb o e H' (some dd) s ⟨dd, rfl, hd⟩⟩
    have rg := resD_ring e
    obtain ⟨h1, h2⟩ := hg ns e
    intro x dx nx ndx nxd
    have hT : TupI K H1 t ns := tupI_of ht
    have mk : MkTo K H1 b l (.ref t) .none Q E := .inr ⟨t, ns, rfl, rfl, hT, rg, fun hb hz H' d s' hf => h1 hb hz H' d (s1.trans s') hf, fun hz H' x' s' nx' hR => h2 hz H' x' (s1.trans s') (s1.free nx') hR⟩
    exact ⟨x, .ref t, dx, .none, rfl, upd_same, jin_same (jin_of hT rg) (made_before nx ndx nxd), ini_to mk (made_before nx ndx nxd) (fun H' kx => made_same nx ndx nxd kx) nx fun H' q => ⟨rfl, q⟩⟩
-- @@ _law_stream
theorem ok__law_stream (T : Tx K mg) : Ok P w K mg base CX0 1 "_law_stream" ["_law_script"] (spStream K) := by
  refine ok_of T.F__law_stream T.g__law_stream sc__law_stream (fun _ _ _ _ _ _ us hl => match us, hl with | [_], _ => rfl) (fun vs H Q E h => ?_) (fun cdv A outer s H vs Q E hr h => ?_)
  · obtain ⟨a, ns, rfl, _⟩ := h
    rfl
  · obtain ⟨a, ns, rfl, hS, hlen, q⟩ := h
    refine ⟨_, (pss_cons (ps_setLc (i := 1) (own := [("_law_cell", 2)]) (g := gName 2) rfl sc__law_stream.nd rfl rfl (sw_true rfl rfl rfl (by decide +kernel)) (pi_list (pv 0)) (blkOk_by (own := [("_law_cell", 2)]) (N := N__law_stream) (sc := defScope s__law_stream) (by decide +kernel)) (fun _ _ _ _ _ => pg_name (i := 2) sc__law_stream.nd rfl (Or.inl rfl)) (fun _ _ _ _ _ => pts_nil) (fun _ _ _ _ _ => (pe_callB call_abs (by rfl) T.f_abs boot_abs (pa_cons (pv 2) pa_nil))))
      (pss_one (ps_ret (pe_lst (pa_cons (pe_lc (own := [("_law_cell", 2)]) (g := gName 2) rfl sc__law_stream.nd (pi_list (pv 1)) (blkOk_by (own := [("_law_cell", 2)]) (N := N__law_stream) (sc := defScope s__law_stream) (by decide +kernel)) (fun _ _ _ _ _ => pg_name (i := 2) sc__law_stream.nd rfl (Or.inl rfl)) (fun _ _ _ _ _ => pts_one (pt_cmpR op_ge (pv 2) (pe_op op_pow pe_int pe_int) (nomark _))) (fun _ _ _ _ _ => (pv 2))) (pa_cons (pe_op op_cat (pv 1) (pe_lst (pa_cons (pe_op op_add (pe_callB call_len_seq (by rfl) T.f_len PySem.boot_len (pa_cons (pv 1) pa_nil)) pe_int) pa_nil))) (pa_cons pe_int pa_nil))))))), ?_⟩
    refine ⟨.ref a, rfl, a, rfl, ⟨_, hS⟩, fun D nD => ?_⟩
    refine lc_list (K := K) (a := a) (xs := ns.map V.int) (fun i H1 => Same H H1 ∧ ∃ cs : List Int, H1 D = some (.lst (cs.map V.int)) ∧ cs.length = i) ⟨same_upd nD, [], upd_same, rfl⟩ (fun i H1 _ h => h.1.seq hS) ?_ ?_
    · rintro i x H1 hx ⟨s1, cs, hD, hcs⟩
      have hi : i < ns.length := by
        have := (List.getElem?_eq_some_iff.mp hx).1
        rw [List.length_map] at this
        exact this
      obtain ⟨z, rfl⟩ : ∃ z, x = V.int z := by
        rw [List.getElem?_map, List.getElem?_eq_getElem hi] at hx
        exact ⟨_, (Option.some.inj hx).symm⟩
      refine ⟨rfl, ?_⟩
      refine ⟨_, rfl, z, rfl, _, hD, szl (by rw [List.length_map]; omega), fun b o e => ?_, cs ++ [if z < 0 then -z else z], ?_, ?_⟩
      · rw [upd_ne (ne_of_none e nD)]
        exact s1 _ _ e
      · rw [upd_same, List.map_append]
        rfl
      · rw [List.length_append, hcs]
        rfl
    · rintro H1 ⟨s1, cs, hD, hcs⟩
      rw [List.length_map] at hcs
      -- [[..], cells + [..], 0]
      refine ⟨.ref D, rfl, D, rfl, ⟨_, lstI_of hD⟩, fun E1 nE => ?_⟩
      have nDE : D ≠ E1 := ne_of_none hD nE
      refine lc_list (K := K) (a := D) (xs := cs.map V.int) (fun i H2 => Same H1 H2 ∧ ∃ gs : List Int, H2 E1 = some (.lst (gs.map V.int)) ∧ gs.length ≤ i) ⟨same_upd nE, [], upd_same, Nat.le_refl _⟩ (fun i H2 _ h => h.1.seq (lstI_of hD)) ?_ ?_
      · rintro i x H2 hx ⟨s2, gs, hE, hgs⟩
        have hi : i < cs.length := by
          have := (List.getElem?_eq_some_iff.mp hx).1
          rw [List.length_map] at this
          exact this
        obtain ⟨z, rfl⟩ : ∃ z, x = V.int z := by
          rw [List.getElem?_map, List.getElem?_eq_getElem hi] at hx
          exact ⟨_, (Option.some.inj hx).symm⟩
        refine ⟨rfl, ?_⟩
        refine ⟨_, rfl, _, _, rfl, rfl, ⟨by decide, by decide, by decide⟩, _, _, rfl, rfl, _, rfl, ite2 (fun h => ?_) (fun h => ?_)⟩
        · refine ⟨_, rfl, _, hE, szl (by rw [List.length_map]; omega), fun b o e => ?_, gs ++ [z], ?_, ?_⟩
          · rw [upd_ne (ne_of_none e nE)]
            exact s2 _ _ e
          · rw [upd_same, List.map_append]
            rfl
          · rw [List.length_append]
            show gs.length + 1 ≤ i + 1
            omega
        · exact ⟨s2, gs, hE, by omega⟩
      · rintro H2 ⟨s2, gs, hE, hgs⟩
        rw [List.length_map] at hgs
        have hD2 := s2 _ _ hD
        refine ⟨.ref D, rfl, .ref D, rfl, D, _, rfl, .inl (lstI_of hD2), _, _, rfl, rfl, Nat.succ_le_of_lt (szl (by decide)), fun F1 nF => ?_⟩
        have hD3 : (upd H2 F1 (.lst [.int (((cs.map V.int).length : Nat) + 17)])) D = some (.lst (cs.map V.int)) := by
          rw [upd_ne (ne_of_none hD2 nF)]
          exact hD2
        refine ⟨D, F1, _, _, rfl, rfl, hD3, upd_same, sz (by rw [List.length_map]; show cs.length + 1 ≤ _; omega), fun G1 nG => ?_⟩
        refine ⟨sz (by show 3 ≤ _; decide), fun S nS => ?_⟩
        have s3 : Same H1 (upd (upd (upd H2 F1 (.lst [.int (((cs.map V.int).length : Nat) + 17)])) G1 (.lst (cs.map V.int ++ [.int (((cs.map V.int).length : Nat) + 17)]))) S (.lst [.ref E1, .ref G1, .int 0])) :=
          ((s2.trans (same_upd nF)).trans (same_upd nG)).trans (same_upd nS)
        have hE2 : (upd H2 F1 (.lst [.int (((cs.map V.int).length : Nat) + 17)])) E1 = some (.lst (gs.map V.int)) := by
          rw [upd_ne (ne_of_none hE nF)]
          exact hE
        have hEG : E1 ≠ G1 := ne_of_none hE2 nG
        have hE3 : (upd (upd H2 F1 (.lst [.int (((cs.map V.int).length : Nat) + 17)])) G1 (.lst (cs.map V.int ++ [.int (((cs.map V.int).length : Nat) + 17)]))) E1 = some (.lst (gs.map V.int)) := by
          rw [upd_ne hEG]
          exact hE2
        have nSE : E1 ≠ S := ne_of_none hE3 nS
        have nSG : G1 ≠ S := ne_of_none upd_same nS
        have z1 : Same H (upd H2 F1 (.lst [.int (((cs.map V.int).length : Nat) + 17)])) := s1.trans (s2.trans (same_upd nF))
        refine q _ S E1 G1 (s1.trans s3) ((z1.trans (same_upd nG)).free nS) (s1.free nE) (z1.free nG) ⟨upd_same, ⟨gs, ?_, by omega⟩, ⟨cs ++ [(((cs.map V.int).length : Nat) : Int) + 17], ?_, ?_, ?_⟩, Ne.symm nSE, Ne.symm nSG, hEG⟩
        · rw [upd_ne nSE]
          exact hE3
        · rw [upd_ne nSG, upd_same, List.map_append]
          rfl
        · rw [List.length_append, hcs]
          show ns.length + 1 ≤ 64
          omega
        · rw [List.length_append]
          show 0 < cs.length + 1
          omega
-- @@ _law_draw
theorem ok__law_draw (T : Tx K mg) : Ok P w K mg base CX0 1 "_law_draw" ["_law_stream_here", "_law_many"] (spDraw K) := by
  refine ok_of T.F__law_draw T.g__law_draw sc__law_draw (fun _ _ _ _ _ _ us hl => match us, hl with | [_, _], _ => rfl) (fun vs H Q E h => ?_) (fun cdv A outer s H vs Q E hr h => ?_)
  · obtain ⟨S, A, B, t, many, rfl, _⟩ := h
    rfl
  · obtain ⟨S, A, B, t, many, rfl, st, m0, m1, ht, q⟩ := h
    refine ⟨_, (pss_cons (ps_while PassesOwn.never (pt_cmpR (op_neD hr.units) (pe_ix ix_list (pv 0) pe_int (fun _ _ => rfl)) (pe_lst pa_nil) (nomark _)) (pss_cons (ps_set (i := 2) sc__law_draw.nd rfl (.inl rfl) (pe_ix ix_list (pe_ix ix_list (pv 0) pe_int (fun _ _ => rfl)) pe_int (fun _ _ => rfl)))
      (pss_cons (ps_if (pt_cmpR op_gt (pv 2) pe_int (nomark _)) (pss_cons (ps_asg (pe_op op_fdivL (pv 2) (pv 1)) (pg_sub (pe_ix ix_list (pv 0) pe_int (fun _ _ => rfl)) pe_int set_list))
      (pss_one (ps_ret (pe_op op_modN (pv 2) (pv 1))))) pss_nil)
      (pss_one (ps_expr (pe_bm PySem.F.plainAttrs_list PySem.F.slot_list_pop PySem.F.type_list_pop mt_popAt (pe_ix ix_list (pv 0) pe_int (fun _ _ => rfl)) (pa_cons pe_int pa_nil)))))))
      (pss_cons (ps_set (i := 3) sc__law_draw.nd rfl (.inl rfl) (pe_op op_add (pe_ix ix_list (pv 0) pe_int (fun _ _ => rfl)) pe_int))
      (pss_cons (ps_asg (pv 3) (pg_sub (pv 0) pe_int set_list))
      (pss_cons (ps_set (i := 4) sc__law_draw.nd rfl (.inl rfl) (pe_op op_modN (pe_ix ix_list (pe_ix ix_list (pv 0) pe_int (fun _ _ => rfl)) (pe_op op_modN (pv 3) (pe_callB call_len_seq (by rfl) T.f_len PySem.boot_len (pa_cons (pe_ix ix_list (pv 0) pe_int (fun _ _ => rfl)) pa_nil))) (fun _ _ => rfl)) pe_int))
      (pss_cons (ps_set (i := 5) sc__law_draw.nd rfl (.inl rfl) (pe_op op_modN (pe_op op_add (pe_op op_add (pe_op op_mul (pv 4) (pe_op op_add pe_int (pe_op op_mul pe_int (pv 3)))) (pe_op op_mul (pe_op op_mul pe_int (pv 3)) (pv 3))) pe_int) pe_int))
      (pss_one (ps_ret (pe_op op_modN (pe_op op_fdivN (pe_op op_modN (pe_op op_mul (pv 5) (pv 5)) pe_int) pe_int) (pv 1))))))))), ?_⟩
    obtain ⟨as0, _, hl0⟩ := st.a
    refine ⟨fun m σ H1 => ∃ y2, σ = [some (.ref S), some (.int many), y2, none, none, none] ∧ SameX S A H H1 ∧ Strm H1 S A B t ∧ ∃ as : List Int, H1 A = some (.lst (as.map V.int)) ∧ as.length = m, ?_, ?_⟩
    · obtain ⟨as, h1, _⟩ := st.a
      exact ⟨as.length, none, rfl, SameX.refl S A H, st, as, h1, rfl⟩
    · rintro m σ H1 ⟨y2, rfl, sx, s1, as, hA, hm⟩
      have hS := s1.s
      refine ⟨.ref S, rfl, S, _, _, .ref A, rfl, rfl, lstI_of hS, atI_nat (j := 0) rfl, Nat.zero_le _, fun e ne => ?_⟩
      have hSe : (upd H1 e (.lst [])) S = some (.lst [.ref A, .ref B, .int t]) := by
        rw [upd_ne (ne_of_none hS ne)]
        exact hS
      have hAe : (upd H1 e (.lst [])) A = some (.lst (as.map V.int)) := by
        rw [upd_ne (ne_of_none hA ne)]
        exact hA
      have sxe : SameX S A H (upd H1 e (.lst [])) := sx.trans (Same.x (same_upd ne))
      have ste : Strm (upd H1 e (.lst [])) S A B t := s1.same (same_upd ne)
      refine ⟨.list (as.map PyData.int), .list [], .lst (lstI_of hAe) (dpAll_ints as), .lst (lstI_of upd_same) .nil, shaped_ints as, shaped_ints [], _, rfl, ?_⟩
      rw [eqv_ints_nil]
      cases as with
      | nil =>
        -- the great cells are used up
        refine iteF ?_
        obtain ⟨bs, hB, hb1, hb2⟩ := ste.b
        refine ⟨.ref S, rfl, S, _, _, .int t, rfl, rfl, lstI_of hSe, atI_nat (j := 2) rfl, _, _, rfl, rfl, ?_⟩
        refine ⟨_, rfl, .ref S, rfl, S, _, _, 2, rfl, rfl, hSe, rfl, ?_⟩
        have hS2 : (upd (upd H1 e (.lst [])) S (.lst [.ref A, .ref B, .int ((t : Int) + 1)])) S = some (.lst [.ref A, .ref B, .int ((t : Int) + 1)]) := upd_same
        have hB2 : (upd (upd H1 e (.lst [])) S (.lst [.ref A, .ref B, .int ((t : Int) + 1)])) B = some (.lst (bs.map V.int)) := by
          rw [upd_ne (Ne.symm st.sb)]
          exact hB
        have hA2 : (upd (upd H1 e (.lst [])) S (.lst [.ref A, .ref B, .int ((t : Int) + 1)])) A = some (.lst (([] : List Int).map V.int)) := by
          rw [upd_ne (Ne.symm st.sa)]
          exact hAe
        have st2 : Strm (upd (upd H1 e (.lst [])) S (.lst [.ref A, .ref B, .int ((t : Int) + 1)])) S A B (t + 1) :=
          ⟨hS2, ⟨[], hA2, Nat.zero_le _⟩, ⟨bs, hB2, hb1, hb2⟩, st.sa, st.sb, st.ab⟩
        have sx2 : SameX S A H (upd (upd H1 e (.lst [])) S (.lst [.ref A, .ref B, .int ((t : Int) + 1)])) := fun c o h1 h2 h3 => by
          rw [upd_ne h2]
          exact sxe c o h1 h2 h3
        have hbl : ((bs.map V.int).length : Int) = (bs.length : Int) := by rw [List.length_map]
        have bp : (0 : Int) < ((bs.map V.int).length : Int) := by omega
        -- the cell
        have i0 := fmod_nn (a := (t : Int) + 1) bp
        have i1 := fmod_lt' (a := (t : Int) + 1) bp
        obtain ⟨j, hj⟩ := Int.eq_ofNat_of_zero_le i0
        have jl : j < bs.length := by omega
        have gj : (bs.map V.int)[j]? = some (.int bs[j]) := by
          rw [List.getElem?_map, List.getElem?_eq_getElem jl]
          rfl
        refine ⟨.ref S, rfl, S, _, _, .ref B, rfl, rfl, lstI_of hS2, atI_nat (j := 1) rfl, ?_⟩
        refine ⟨_, rfl, .ref S, rfl, S, _, _, .ref B, rfl, rfl, lstI_of hS2, atI_nat (j := 1) rfl, B, _, rfl, .inl (lstI_of hB2), ?_⟩
        refine ⟨_, _, rfl, rfl, by omega, B, _, _, .int bs[j], rfl, rfl, lstI_of hB2, by rw [hj]; exact atI_nat gj, ?_⟩
        refine ⟨_, _, rfl, rfl, (show (2147483587 : Int) ≠ 0 by decide), ?_⟩
        have c0 := fmod_nn (a := bs[j]) (b := 2147483587) (by decide)
        have c1 := fmod_lt' (a := bs[j]) (b := 2147483587) (by decide)
        -- the mixed number
        refine ⟨_, rfl, _, rfl, _, _, rfl, rfl, .inl ⟨by decide, by decide⟩, _, _, rfl, rfl, _, _, rfl, rfl, .inl ⟨by omega, by omega⟩, ?_⟩
        refine ⟨_, rfl, _, _, rfl, rfl, .inl ⟨by decide, by decide⟩, _, rfl, _, _, rfl, rfl, .inr ⟨by omega, by omega⟩, _, _, rfl, rfl, _, _, rfl, rfl, _, _, rfl, rfl, (show (2147483647 : Int) ≠ 0 by decide), ?_⟩
        refine ⟨_, rfl, _, rfl, _, _, rfl, rfl, ?_, _, _, rfl, rfl, (show (2147483629 : Int) ≠ 0 by decide), _, _, rfl, rfl, ⟨(show (16 : Int) ≠ 0 by decide), (show (16 : Int).natAbs < 1073741824 by decide)⟩, _, rfl, _, _, rfl, rfl, by omega, ?_⟩
        · have d0 := fmod_nn (a := (bs[j].fmod 2147483587) * (16807 + 48271 * ((t : Int) + 1)) + 69621 * ((t : Int) + 1) * ((t : Int) + 1) + 5) (b := 2147483647) (by decide)
          have d1 := fmod_lt' (a := (bs[j].fmod 2147483587) * (16807 + 48271 * ((t : Int) + 1)) + 69621 * ((t : Int) + 1) * ((t : Int) + 1) + 5) (b := 2147483647) (by decide)
          exact .inl ⟨by omega, by omega⟩
        · exact q _ (t + 1) _ sx2 st2 (Nat.le_refl _) (fmod_nn m0) (fmod_lt' m0)
      | cons r rs =>
        refine iteT ?_
        refine ⟨fun σ' H' => ∃ y2, σ' = [some (.ref S), some (.int many), y2, none, none, none] ∧ SameX S A H H' ∧ Strm H' S A B t ∧ ∃ as : List Int, H' A = some (.lst (as.map V.int)) ∧ as.length = rs.length, fun σ' H' ⟨z2, e1, e2, e3, as', e4, e5⟩ => ⟨rs.length, by rw [← hm]; exact Nat.lt_succ_self _, z2, e1, e2, e3, as', e4, e5⟩, ?_⟩
        refine ⟨.ref S, rfl, S, _, _, .ref A, rfl, rfl, lstI_of hSe, atI_nat (j := 0) rfl, A, _, _, .int r, rfl, rfl, lstI_of hAe, atI_nat (j := 0) rfl, ?_⟩
        refine ⟨_, rfl, _, _, rfl, rfl, _, rfl, ite2 (fun h => ?_) (fun h => ?_)⟩
        · -- a digit of the great cell
          refine ⟨_, rfl, _, rfl, _, _, rfl, rfl, ⟨by omega, by omega⟩, ?_⟩
          refine ⟨.ref S, rfl, S, _, _, .ref A, rfl, rfl, lstI_of hSe, atI_nat (j := 0) rfl, A, _, _, 0, rfl, rfl, hAe, ixN_of (j := 0) (by rw [List.length_map]; exact Nat.succ_pos _), ?_⟩
          refine ⟨_, rfl, _, rfl, _, _, rfl, rfl, by omega, ?_⟩
          refine q _ t _ (fun c o h1 h2 h3 => ?_) ⟨?_, ⟨r.fdiv many :: rs, upd_same, ?_⟩, ?_, st.sa, st.sb, st.ab⟩ (Nat.le_succ _) (fmod_nn m0) (fmod_lt' m0)
          · rw [upd_ne h3]
            exact sxe c o h1 h2 h3
          · rw [upd_ne st.sa]
            exact hSe
          · obtain ⟨as2, h1, h2⟩ := ste.a
            rw [hAe] at h1
            have e1 : (r :: rs).map V.int = as2.map V.int := by
              injection h1 with h1
              injection h1
            have e2 := congrArg List.length e1
            rw [List.length_map, List.length_map] at e2
            show rs.length + 1 ≤ 64
            have e3 : (r :: rs).length = rs.length + 1 := rfl
            omega
          · obtain ⟨bs, hB, hb⟩ := ste.b
            exact ⟨bs, by rw [upd_ne (Ne.symm st.ab)]; exact hB, hb⟩
        · -- it is used up
          refine ⟨.ref S, rfl, S, _, _, .ref A, rfl, rfl, lstI_of hSe, atI_nat (j := 0) rfl, .inl ⟨rfl, _, lstI_of hAe⟩, A, _, 0, 0, .int r, rfl, rfl, hAe, by decide, by decide, (ixN_seq (ixN_of (j := 0) (by rw [List.length_map]; exact Nat.succ_pos _))).1, rfl, ?_⟩
          refine ⟨_, rfl, fun c o h1 h2 h3 => ?_, ⟨?_, ⟨rs, upd_same, ?_⟩, ?_, st.sa, st.sb, st.ab⟩, rs, upd_same, rfl⟩
          · rw [upd_ne h3]
            exact sxe c o h1 h2 h3
          · rw [upd_ne st.sa]
            exact hSe
          · obtain ⟨as2, h1, h2⟩ := ste.a
            rw [hAe] at h1
            have e1 : (r :: rs).map V.int = as2.map V.int := by
              injection h1 with h1
              injection h1
            have e2 := congrArg List.length e1
            rw [List.length_map, List.length_map] at e2
            have e3 : (r :: rs).length = rs.length + 1 := rfl
            omega
          · obtain ⟨bs, hB, hb⟩ := ste.b
            exact ⟨bs, by rw [upd_ne (Ne.symm st.ab)]; exact hB, hb⟩
-- @@ _law_pick
theorem ok__law_pick (T : Tx K mg) : Ok P w K mg base CX0 2 "_law_pick" ["_law_stream_here", "_law_items"] (spPick K) := by
  refine ok_of T.F__law_pick T.g__law_pick sc__law_pick (fun _ _ _ _ _ _ us hl => match us, hl with | [_, _], _ => rfl) (fun vs H Q E h => ?_) (fun cdv A outer s H vs Q E hr h => ?_)
  · obtain ⟨S, A, B, t, l, xs, rfl, _⟩ := h
    rfl
  · obtain ⟨S, A, B, t, l, xs, rfl, st, ht, hl, n1, n2, h0, h1, q⟩ := h
    refine ⟨_, (pss_one (ps_ret (pe_ix ix_list (pv 1) (cal (ok__law_draw T) (hr.mono (by decide)) pass0 (pa_cons (pv 0) (pa_cons (pe_callB call_len_seq (by rfl) T.f_len PySem.boot_len (pa_cons (pv 1) pa_nil)) pa_nil))) (fun _ _ => rfl)))), ?_⟩
    refine ⟨.ref l, rfl, .ref S, rfl, .ref l, rfl, l, xs, rfl, .inl hl, S, A, B, t, _, rfl, st, by omega, by omega, ht, fun H1 t1 v sx s1 ht1 v0 v1 => ?_⟩
    obtain ⟨j, rfl⟩ := Int.eq_ofNat_of_zero_le v0
    have jl : j < xs.length := by omega
    have hl1 : SqL K H1 l xs := by
      rcases hl with (h | ⟨o, h⟩) | h
      · exact .inl (.inl (sx _ _ h n1 n2))
      · exact .inl (.inr ⟨o, sx _ _ h n1 n2⟩)
      · exact .inr h
    refine ⟨l, xs, _, xs[j], rfl, rfl, hl1, atI_nat (List.getElem?_eq_getElem jl), ?_⟩
    exact q H1 t1 _ sx s1 ht1 (List.getElem_mem jl)
-- @@ _law_whole
def spWhole (K : PySem.W.Frag) : Sp := fun vs H Q _ => ∃ (v : V) (lo hi : Int), vs = [v, .int lo, .int hi] ∧ Kd K H v ∧ Q (.bl (whB v lo hi)) H
theorem ok__law_whole (T : Tx K mg) : Ok P w K mg base CX0 1 "_law_whole" ["_law_value", "_law_low", "_law_high"] (spWhole K) := by
  refine ok_of T.F__law_whole T.g__law_whole sc__law_whole (fun _ _ _ _ _ _ us hl => match us, hl with | [_, _, _], _ => rfl) (fun vs H Q E h => ?_) (fun cdv A outer s H vs Q E hr h => ?_)
  · obtain ⟨v, lo, hi, rfl, _⟩ := h
    rfl
  · obtain ⟨v, lo, hi, rfl, kd, q⟩ := h
    refine ⟨_, (pss_cons (ps_if (PW.pt (pw_or (pt_not (pt_val (pe_callB call_isi (by rfl) T.f_isinstance boot_isinstance (pa_cons (pv 0) (pa_cons (pe_bltn (v := .ty "int") (by rfl) T.f_int boot_int rfl) pa_nil))))) (pw_or1 (pt_val (pe_callB call_isi (by rfl) T.f_isinstance boot_isinstance (pa_cons (pv 0) (pa_cons (pe_bltn (v := .ty "bool") (by rfl) T.f_bool boot_bool rfl) pa_nil))))))) (pss_one (ps_ret pe_bl)) pss_nil)
    (pss_one (ps_ret (pe_chain op_le op_le (pv 1) (pv 0) (pv 2))))), ?_⟩
    obtain ⟨t1, ty1, k1⟩ := kd_int kd
    obtain ⟨t2, ty2, k2⟩ := kd_bool kd
    refine ⟨_, rfl, v, .ty "int", t1, _, _, rfl, .ty _, ty1, k1, _, rfl, ?_⟩
    cases v with
    | int i =>
      refine iteN rfl ?_
      refine ⟨_, rfl, .int i, .ty "bool", t2, _, _, rfl, .ty _, ty2, k2, _, rfl, iteN rfl ?_⟩
      refine ⟨_, rfl, _, rfl, _, _, rfl, rfl, _, rfl, ?_⟩
      change Q (.bl (decide (lo ≤ i) && decide (i ≤ hi))) H at q
      cases e1 : decide (lo ≤ i) with
      | true =>
        refine iteT ?_
        rw [e1, Bool.true_and] at q
        exact ⟨_, rfl, _, _, rfl, rfl, q⟩
      | false =>
        refine iteF ?_
        rw [e1, Bool.false_and] at q
        exact q
    | bl b =>
      refine iteN rfl ?_
      exact ⟨_, rfl, .bl b, .ty "bool", t2, _, _, rfl, .ty _, ty2, k2, _, rfl, iteY rfl q⟩
    | _ => exact iteY rfl q
-- @@ _law_ring
theorem ok__law_ring (T : Tx K mg) : Ok P w K mg base CX0 3 "_law_ring" ["_law_stream_here", "_law_most"] (spRing K) := by
  refine ok_of T.F__law_ring T.g__law_ring sc__law_ring (fun _ _ _ _ _ _ us hl => match us, hl with | [_, _], _ => rfl) (fun vs H Q E h => ?_) (fun cdv A outer s H vs Q E hr h => ?_)
  · obtain ⟨S, A, B, t, most, rfl, _⟩ := h
    rfl
  · obtain ⟨S, A, B, t, most, rfl, st, ht, m0, m24, q⟩ := h
    refine ⟨_, (pss_cons (ps_set (i := 2) sc__law_ring.nd rfl (.inl rfl) (pe_lst (pa_cons (pe_lst (pa_cons pe_int (pa_cons pe_int (pa_cons pe_int (pa_cons pe_int pa_nil))))) (pa_cons (pe_lst (pa_cons pe_int (pa_cons pe_int (pa_cons pe_int (pa_cons pe_int (pa_cons pe_int (pa_cons pe_int (pa_cons pe_int pa_nil)))))))) (pa_cons (pe_lst (pa_cons pe_int (pa_cons pe_int (pa_cons pe_int (pa_cons pe_int (pa_cons pe_int (pa_cons pe_int pa_nil))))))) (pa_cons (pe_lst (pa_cons pe_int (pa_cons pe_int (pa_cons pe_int pa_nil)))) (pa_cons (pe_lst (pa_cons pe_int (pa_cons pe_int (pa_cons pe_int (pa_cons pe_int pa_nil))))) pa_nil)))))))
    (pss_cons (ps_asg (pe_tup (pa_cons (cal (ok__law_pick T) (hr.mono (by decide)) pass0 (pa_cons (pv 0) (pa_cons (pe_op op_cat (pv 2) (pe_lst (pa_cons (pe_lst (pa_cons pe_int (pa_cons pe_int (pa_cons pe_int (pa_cons pe_int (pa_cons pe_int pa_nil)))))) (pa_cons (pe_lst (pa_cons pe_int pa_nil)) pa_nil)))) pa_nil))) (pa_cons (pe_op op_add pe_int (cal (ok__law_draw T) (hr.mono (by decide)) pass0 (pa_cons (pv 0) (pa_cons (pv 1) pa_nil)))) pa_nil))) (pg_tup rfl (pgs_cons (pg_name (i := 3) sc__law_ring.nd rfl (.inr rfl)) (pgs_cons (pg_name (i := 4) sc__law_ring.nd rfl (.inl rfl)) pgs_nil))))
    (pss_cons (ps_setLc (i := 5) (own := [("_law_k", 6)]) (g := gName 6) rfl sc__law_ring.nd rfl rfl (sw_true rfl rfl rfl (by decide +kernel)) (pi_range1 (by rfl) T.f_range (pa_cons (pv 4) pa_nil)) (blkOk_by (own := [("_law_k", 6)]) (N := N__law_ring) (sc := defScope s__law_ring) (by decide +kernel)) (fun _ _ _ _ _ => pg_name (i := 6) sc__law_ring.nd rfl (Or.inl rfl)) (fun _ _ _ _ _ => pts_nil) (fun _ _ _ _ _ => (cal (ok__law_pick T) (hr.mono (by decide)) pass0 (pa_cons (pv 0) (pa_cons (pv 3) pa_nil)))))
    (pss_cons (ps_set (i := 7) sc__law_ring.nd rfl (.inl rfl) (pe_ix ix_list (pe_lst (pa_cons pe_int (pa_cons (pe_op op_add pe_int (cal (ok__law_draw T) (hr.mono (by decide)) pass0 (pa_cons (pv 0) (pa_cons pe_int pa_nil)))) (pa_cons (pe_op op_sub pe_int (cal (ok__law_draw T) (hr.mono (by decide)) pass0 (pa_cons (pv 0) (pa_cons pe_int pa_nil)))) pa_nil)))) (cal (ok__law_draw T) (hr.mono (by decide)) pass0 (pa_cons (pv 0) (pa_cons pe_int pa_nil))) (fun _ _ => rfl)))
    (pss_cons (ps_for PassesOwn.never rfl (pi_range1 (by rfl) T.f_range (pa_cons (pe_op op_mul pe_int (pv 4)) pa_nil)) (pg_name (i := 8) sc__law_ring.nd rfl (.inl rfl))
    (pss_cons (ps_par (i := 9) (j := 10) (by rfl) sc__law_ring.nd rfl rfl (by decide) rfl rfl (pa_cons (cal (ok__law_draw T) (hr.mono (by decide)) pass0 (pa_cons (pv 0) (pa_cons (pv 4) pa_nil))) (pa_cons (pe_op op_sub (pe_op op_sub (pv 4) (pe_callB (cr_sum rfl) (by rfl) T.f_sum boot_sum (pa_cons (pv 5) pa_nil))) (pv 7)) pa_nil)) (by rfl))
    (pss_one (ps_if (PW.pt (pw_and (pt_cmpR op_lt (pv 7) pe_int (nomark _)) (pw_and (pt_cmpR op_lt (pv 10) pe_int (nomark _)) (pw_and1 (pt_cmpR op_gt (pe_ix ix_list (pv 5) (pv 9) (fun _ _ => rfl)) pe_int (nomark _)))))) (pss_one (ps_asg (pe_op op_sub (pe_ix ix_list (pv 5) (pv 9) (fun _ _ => rfl)) pe_int) (pg_sub (pv 5) (pv 9) set_list))) (pss_one (ps_if (PW.pt (pw_and (pt_cmpR op_lt (pv 7) pe_int (nomark _)) (pw_and (pt_cmpR op_gt (pv 10) pe_int (nomark _)) (pw_and1 (pt_cmpR op_lt (pe_ix ix_list (pv 5) (pv 9) (fun _ _ => rfl)) pe_int (nomark _)))))) (pss_one (ps_asg (pe_op op_add (pe_ix ix_list (pv 5) (pv 9) (fun _ _ => rfl)) pe_int) (pg_sub (pv 5) (pv 9) set_list))) pss_nil))))))
    (pss_one (ps_ret (pe_callTy call_tuple_of (by rfl) T.f_tuple boot_tuple (pa_cons (pv 5) pa_nil))))))))), ?_⟩
    -- the menus
    refine ⟨sz (by show 4 ≤ _; decide), fun a1 n1 => ⟨sz (by show 7 ≤ _; decide), fun a2 n2 => ⟨sz (by show 6 ≤ _; decide), fun a3 n3 => ⟨sz (by show 3 ≤ _; decide), fun a4 n4 => ⟨sz (by show 4 ≤ _; decide), fun a5 n5 => ⟨sz (by show 5 ≤ _; decide), fun L nL => ?_⟩⟩⟩⟩⟩⟩
    have s5 := same_upd (o := .lst [V.ref a1, V.ref a2, V.ref a3, V.ref a4, V.ref a5]) nL
    have s4 := (same_upd n5).trans s5
    have s3 := (same_upd n4).trans s4
    have s2 := (same_upd n3).trans s3
    have s1 := (same_upd n2).trans s2
    have s0 := (same_upd n1).trans s1
    have st1 := st.same (same_upd (o := .lst [V.int 0, V.int 0, V.int 1, V.int 2]) n1)
    have st2 := st1.same (same_upd (o := .lst [V.int 0, V.int 0, V.int 0, V.int 0, V.int 0, V.int 5, V.int 4]) n2)
    have st3 := st2.same (same_upd (o := .lst [V.int 0, V.int 1, V.int 2, V.int 3, V.int 4, V.int 5]) n3)
    have st4 := st3.same (same_upd (o := .lst [V.int 0, V.int 0, V.int 2]) n4)
    have mm : ∀ v ∈ [V.ref a1, V.ref a2, V.ref a3, V.ref a4, V.ref a5], Menu S A (upd (upd (upd (upd (upd (upd H a1 (.lst [V.int 0, V.int 0, V.int 1, V.int 2])) a2 (.lst [V.int 0, V.int 0, V.int 0, V.int 0, V.int 0, V.int 5, V.int 4])) a3 (.lst [V.int 0, V.int 1, V.int 2, V.int 3, V.int 4, V.int 5])) a4 (.lst [V.int 0, V.int 0, V.int 2])) a5 (.lst [V.int 0, V.int 0, V.int 0, V.int 1])) L (.lst [V.ref a1, V.ref a2, V.ref a3, V.ref a4, V.ref a5])) v := by
      intro v hv
      simp only [List.mem_cons, List.not_mem_nil, or_false] at hv
      rcases hv with rfl | rfl | rfl | rfl | rfl
      · exact (Menu.new st n1 [0, 0, 1, 2] (by decide) (by decide) (by decide)).x (Same.x s1)
      · exact (Menu.new st1 n2 [0, 0, 0, 0, 0, 5, 4] (by decide) (by decide) (by decide)).x (Same.x s2)
      · exact (Menu.new st2 n3 [0, 1, 2, 3, 4, 5] (by decide) (by decide) (by decide)).x (Same.x s3)
      · exact (Menu.new st3 n4 [0, 0, 2] (by decide) (by decide) (by decide)).x (Same.x s4)
      · exact (Menu.new st4 n5 [0, 0, 0, 1] (by decide) (by decide) (by decide)).x (Same.x s5)
    have hL := upd_same (H := (upd (upd (upd (upd (upd H a1 (.lst [V.int 0, V.int 0, V.int 1, V.int 2])) a2 (.lst [V.int 0, V.int 0, V.int 0, V.int 0, V.int 0, V.int 5, V.int 4])) a3 (.lst [V.int 0, V.int 1, V.int 2, V.int 3, V.int 4, V.int 5])) a4 (.lst [V.int 0, V.int 0, V.int 2])) a5 (.lst [V.int 0, V.int 0, V.int 0, V.int 1]))) (a := L) (o := .lst [V.ref a1, V.ref a2, V.ref a3, V.ref a4, V.ref a5])
    have stL := st.same s0
    revert s0 mm hL stL
    generalize (upd (upd (upd (upd (upd (upd H a1 (.lst [V.int 0, V.int 0, V.int 1, V.int 2])) a2 (.lst [V.int 0, V.int 0, V.int 0, V.int 0, V.int 0, V.int 5, V.int 4])) a3 (.lst [V.int 0, V.int 1, V.int 2, V.int 3, V.int 4, V.int 5])) a4 (.lst [V.int 0, V.int 0, V.int 2])) a5 (.lst [V.int 0, V.int 0, V.int 0, V.int 1])) L (.lst [V.ref a1, V.ref a2, V.ref a3, V.ref a4, V.ref a5])) = HL
    clear s5 s4 s3 s2 s1 st1 st2 st3 st4
    intro s0 mm hL stL
    -- the menu that is picked, the size
    refine ⟨.ref S, rfl, .ref L, rfl, sz (by show 5 ≤ _; decide), fun a6 n6 => ⟨sz (by show 1 ≤ _; decide), fun a7 n7 => ⟨sz (by show 2 ≤ _; decide), fun L2 nL2 => ?_⟩⟩⟩
    have u3 := same_upd (o := .lst [V.ref a6, V.ref a7]) nL2
    have u2 := (same_upd n7).trans u3
    have u1 := (same_upd n6).trans u2
    have m6 := (Menu.new stL n6 [1, 1, 1, 0, 2] (by decide) (by decide) (by decide)).x (Same.x u2)
    have m7 := (Menu.new (stL.same (same_upd (o := .lst [V.int 1, V.int 1, V.int 1, V.int 0, V.int 2]) n6)) n7 [2] (by decide) (by decide) (by decide)).x (Same.x u3)
    refine ⟨L, L2, _, _, rfl, rfl, u1 _ _ hL, upd_same, sz (by show 7 ≤ _; decide), fun C nC => ?_⟩
    have u0 := u1.trans (same_upd (o := .lst ([V.ref a1, V.ref a2, V.ref a3, V.ref a4, V.ref a5] ++ [V.ref a6, V.ref a7])) nC)
    have stC := stL.same u0
    obtain ⟨asC, haC, _⟩ := stC.a
    obtain ⟨asU, haU, _⟩ := (stL.same u1).a
    refine ⟨S, A, B, t, C, _, rfl, stC, by omega, lstI_of upd_same, Ne.symm (ne_of_none (stL.same u1).s nC), Ne.symm (ne_of_none haU nC), by show 0 < 7; decide, by show 7 < _; decide, fun H1 t1 v sx1 st1 ht1 hv => ?_⟩
    have mv : Menu S A H1 v := by
      rcases List.mem_append.mp hv with z | z
      · exact (mm v z).x ((Same.x u0).trans sx1)
      · simp only [List.mem_cons, List.not_mem_nil, or_false] at z
        rcases z with rfl | rfl
        · exact m6.x ((Same.x (same_upd nC)).trans sx1)
        · exact m7.x ((Same.x (same_upd nC)).trans sx1)
    have sxa : SameX S A H H1 := (Same.x (s0.trans u0)).trans sx1
    refine ⟨.ref S, rfl, .int most, rfl, S, A, B, t1, most, rfl, st1, m0, by omega, by omega, fun H2 t2 z sx2 st2 ht2 z0 z1 => ?_⟩
    refine ⟨_, _, rfl, rfl, sz (by show 2 ≤ _; decide), fun tp ntp => ?_⟩
    refine ⟨tp, [v, .int (1 + z)], rfl, .inl (.inl upd_same), rfl, v, [.int (1 + z)], rfl, .int (1 + z), [], rfl, rfl, ?_⟩
    obtain ⟨n, hn⟩ : ∃ n : Nat, 1 + z = (n : Int) := ⟨(1 + z).toNat, by omega⟩
    have n0 : 1 ≤ n := by omega
    have n24 : (n : Int) ≤ most := by omega
    dsimp only
    rw [hn]
    have st3 := st2.same (same_upd (o := .tup [v, .int (1 + z)]) ntp)
    have sxb : SameX S A H (upd H2 tp (.tup [v, .int (1 + z)])) := (sxa.trans sx2).trans (Same.x (same_upd ntp))
    have mv3 : Menu S A (upd H2 tp (.tup [v, .int (1 + z)])) v := (mv.x sx2).x (Same.x (same_upd ntp))
    rw [hn] at st3 sxb mv3
    revert st3 sxb mv3
    generalize (upd H2 tp (.tup [v, .int (n : Int)])) = H3
    intro st3 sxb mv3
    have t3 : t2 ≤ t + 2 := by omega
    clear hv mv sxa st1 st2 sx1 sx2 ntp u0 u1 u2 u3 m6 m7 stC haC haU mm hL stL s0 ht1 ht2
    obtain ⟨M, ks, rfl, hM, nMS, nMA, k0, k10, k5⟩ := id mv3
    -- the tokens
    refine ⟨.int n, rfl, (n : Int), rfl, by omega, by omega, fun D nD => ?_⟩
    have stD := st3.same (same_upd (o := .lst []) nD)
    obtain ⟨as3, ha3, _⟩ := st3.a
    have nDS : D ≠ S := Ne.symm (ne_of_none st3.s nD)
    have nDA : D ≠ A := Ne.symm (ne_of_none ha3 nD)
    obtain ⟨bs3, hb3, _⟩ := st3.b
    have nDB : D ≠ B := Ne.symm (ne_of_none hb3 nD)
    have nMD : M ≠ D := ne_of_none hM nD
    have frD : ∀ (H4 : Hp) (o : HO), SameX S A H H4 → SameX S A H (upd H4 D o) := fun H4 o e b x hb h1 h2 => by
      by_cases q1 : b = D
      · rw [q1] at hb h1 h2
        have := sxb _ _ hb h1 h2
        rw [nD] at this
        cases this
      · rw [upd_ne q1]
        exact e b x hb h1 h2
    refine lc_range (lo := 0) (n := (n : Int).toNat) (fun i H4 => SameX S A H H4 ∧ SameX S A H3 H4 ∧ ∃ (t4 : Nat) (ts : List Int), Strm H4 S A B t4 ∧ t4 ≤ t + 2 + i ∧ H4 D = some (.lst (ts.map V.int)) ∧ ts.length = i ∧ Tok5 ts) ?_ ?_ ?_
    · exact ⟨frD _ _ sxb, Same.x (same_upd nD), t2, [], stD, t3, upd_same, rfl, fun k hk => by cases hk⟩
    · rintro i H4 hi ⟨sx4, sy4, t4, ts, st4, ht4, hD4, hl4, h54⟩
      refine ⟨rfl, ?_⟩
      have hM4 : H4 M = some (.lst (ks.map V.int)) := sy4 _ _ hM nMS nMA
      refine ⟨.ref S, rfl, .ref M, rfl, S, A, B, t4, M, _, rfl, st4, by omega, lstI_of hM4, nMS, nMA, by rw [List.length_map]; exact k0, by rw [List.length_map]; omega, fun H5 t5 x sx5 st5 ht5 hx => ?_⟩
      obtain ⟨k, hk, rfl⟩ := List.mem_map.mp hx
      refine ⟨_, sx5 _ _ hD4 nDS nDA, szl (by rw [List.length_map]; omega), ?_⟩
      refine ⟨frD _ _ (sx4.trans sx5), fun b o e h1 h2 => ?_, t5, ts ++ [k], st5.upd (Ne.symm nDS) (Ne.symm nDA) (Ne.symm nDB), by omega, ?_, ?_, ?_⟩
      · rw [upd_ne (ne_of_none e nD)]
        exact sx5 _ _ (sy4 _ _ e h1 h2) h1 h2
      · rw [upd_same, List.map_append]
        rfl
      · rw [List.length_append, hl4]
        rfl
      · intro y hy
        rcases List.mem_append.mp hy with z | z
        · exact h54 y z
        · have e := List.mem_singleton.mp z
          subst e
          exact k5 _ hk
    · rintro H4 ⟨sx4, sy4, t4, ts, st4, ht4, hD4, hl4, h54⟩
      have hn2 : ((n : Int).toNat) = n := by omega
      rw [hn2] at hl4 ht4
      clear sy4
      -- the goal
      refine ⟨.ref S, rfl, S, A, B, t4, 3, rfl, st4, by decide, by decide, by omega, fun H5 t5 g1 sx5 st5 ht5 _ _ => ?_⟩
      refine ⟨_, _, rfl, rfl, .ref S, rfl, S, A, B, t5, 3, rfl, st5, by decide, by decide, by omega, fun H6 t6 g2 sx6 st6 ht6 _ _ => ?_⟩
      refine ⟨_, _, rfl, rfl, sz (by show 3 ≤ _; decide), fun G nG => ?_⟩
      dsimp only
      have st6' := st6.same (same_upd (o := .lst [V.int 99, V.int (1 + g1), V.int (0 - g2)]) nG)
      obtain ⟨as6, ha6, _⟩ := st6.a
      refine ⟨.ref S, rfl, S, A, B, t6, 3, rfl, st6', by decide, by decide, by omega, fun H7 t7 g3 sx7 st7 ht7 g30 g31 => ?_⟩
      have hG7 : H7 G = some (.lst [V.int 99, V.int (1 + g1), V.int (0 - g2)]) := sx7 _ _ upd_same (Ne.symm (ne_of_none st6.s nG)) (Ne.symm (ne_of_none ha6 nG))
      obtain ⟨g, hg⟩ : ∃ g : Int, atI [V.int 99, V.int (1 + g1), V.int (0 - g2)] g3 = some (.int g) := by
        obtain ⟨j, rfl⟩ := Int.eq_ofNat_of_zero_le g30
        have hj : j < 3 := by omega
        match j, hj with
        | 0, _ => exact ⟨_, atI_nat rfl⟩
        | 1, _ => exact ⟨_, atI_nat rfl⟩
        | 2, _ => exact ⟨_, atI_nat rfl⟩
      refine ⟨G, _, _, .int g, rfl, rfl, lstI_of hG7, hg, ?_⟩
      have hD7 : H7 D = some (.lst (ts.map V.int)) := sx7 _ _ (same_upd nG _ _ (sx6 _ _ (sx5 _ _ hD4 nDS nDA) nDS nDA)) nDS nDA
      have sxc : SameX S A H H7 := (((sx4.trans sx5).trans sx6).trans (Same.x (same_upd nG))).trans sx7
      have ht8 : t7 ≤ t + 5 + n := by omega
      clear hG7 hg g30 g31 sx5 sx6 sx7 sx4 ht7 ht6 ht5 ht4 hD4 st4 st5 st6 st6' ha6 nG
      -- the balance is brought near the goal
      refine ⟨.int n, rfl, _, _, rfl, rfl, .inl ⟨by decide, by decide⟩, (5 * (n : Int)), rfl, by omega, by omega, ?_⟩
      refine for_range (lo := 0) (n := (5 * (n : Int)).toNat) (fun i σ H8 => ∃ y8 y9 y10, σ = [some (.ref S), some (.int most), some (.ref L), some (.ref M), some (.int n), some (.ref D), none, some (.int g), y8, y9, y10] ∧
        SameX S A H H8 ∧ ∃ (t8 : Nat) (ts : List Int), Strm H8 S A B t8 ∧ t8 ≤ t + 5 + n + i ∧ H8 D = some (.lst (ts.map V.int)) ∧ ts.length = n ∧ Tok5 ts) ?_ ?_ ?_
      · exact ⟨none, none, none, rfl, sxc, t7, ts, st7, ht8, hD7, hl4, h54⟩
      · clear hl4 h54 hD7 sxc ht8 st7
        rintro i σ H8 hi ⟨y8, y9, y10, rfl, sx8, t8, ts, st8, ht8, hD8, hl7, h57⟩
        refine ⟨.ref S, rfl, .int n, rfl, S, A, B, t8, n, rfl, st8, by omega, by omega, by omega, fun H9 t7 z sx9 st7 ht9 z0 z1 => ?_⟩
        have hD7 := sx9 _ _ hD8 nDS nDA
        have sxc := sx8.trans sx9
        obtain ⟨j, rfl⟩ := Int.eq_ofNat_of_zero_le z0
        have hj : j < ts.length := by omega
        refine ⟨.int n, rfl, .ref D, rfl, D, ts, rfl, lstI_of hD7, _, _, rfl, rfl, _, rfl, _, _, rfl, rfl, _, _, rfl, ?_⟩
        refine ⟨_, rfl, _, _, rfl, rfl, _, rfl, ite2 (fun h1 => ?_) (fun h1 => ?_)⟩
        · refine ⟨_, rfl, _, _, rfl, rfl, _, rfl, ite2 (fun h2 => ?_) (fun h2 => ?_)⟩
          · refine ⟨.ref D, rfl, .int j, rfl, D, _, _, .int ts[j], rfl, rfl, lstI_of hD7, atI_nat (get_map_int hj), _, _, rfl, rfl, _, rfl, ite2 (fun h3 => ?_) (fun h3 => ?_)⟩
            · have h3 := of_decide_eq_true h3
              refine ⟨.ref D, rfl, .int j, rfl, D, _, _, .int ts[j], rfl, rfl, lstI_of hD7, atI_nat (get_map_int hj), _, _, rfl, rfl, .ref D, rfl, .int j, rfl, D, _, _, j, rfl, rfl, hD7, ixN_of (by rw [List.length_map]; exact hj), ?_⟩
              have hk := h57 _ (List.getElem_mem hj)
              have h4 : 0 < ts[j] := h3
              refine ⟨_, _, _, rfl, frD _ _ sxc, t7, ts.set j (ts[j] - 1), st7.upd (Ne.symm nDS) (Ne.symm nDA) (Ne.symm nDB), by omega, ?_, by rw [List.length_set]; exact hl7, h57.set (by omega) (by omega)⟩
              rw [upd_same, ← map_set_int]
            · skip
              refine ⟨_, rfl, _, _, rfl, rfl, _, rfl, ite2 (fun k1 => ?_) (fun k1 => ?_)⟩
              · refine ⟨_, rfl, _, _, rfl, rfl, _, rfl, ite2 (fun k2 => ?_) (fun k2 => ?_)⟩
                · refine ⟨.ref D, rfl, .int j, rfl, D, _, _, .int ts[j], rfl, rfl, lstI_of hD7, atI_nat (get_map_int hj), _, _, rfl, rfl, _, rfl, ite2 (fun k3 => ?_) (fun k3 => ?_)⟩
                  · have k3 := of_decide_eq_true k3
                    refine ⟨.ref D, rfl, .int j, rfl, D, _, _, .int ts[j], rfl, rfl, lstI_of hD7, atI_nat (get_map_int hj), _, _, rfl, rfl, .ref D, rfl, .int j, rfl, D, _, _, j, rfl, rfl, hD7, ixN_of (by rw [List.length_map]; exact hj), ?_⟩
                    have hk := h57 _ (List.getElem_mem hj)
                    have k4 : ts[j] < 5 := k3
                    refine ⟨_, _, _, rfl, frD _ _ sxc, t7, ts.set j (ts[j] + 1), st7.upd (Ne.symm nDS) (Ne.symm nDA) (Ne.symm nDB), by omega, ?_, by rw [List.length_set]; exact hl7, h57.set (by omega) (by omega)⟩
                    rw [upd_same, ← map_set_int]
                  · exact ⟨_, _, _, rfl, sxc, t7, ts, st7, by omega, hD7, hl7, h57⟩
                · exact ⟨_, _, _, rfl, sxc, t7, ts, st7, by omega, hD7, hl7, h57⟩
              · exact ⟨_, _, _, rfl, sxc, t7, ts, st7, by omega, hD7, hl7, h57⟩
          · skip
            refine ⟨_, rfl, _, _, rfl, rfl, _, rfl, ite2 (fun k1 => ?_) (fun k1 => ?_)⟩
            · refine ⟨_, rfl, _, _, rfl, rfl, _, rfl, ite2 (fun k2 => ?_) (fun k2 => ?_)⟩
              · refine ⟨.ref D, rfl, .int j, rfl, D, _, _, .int ts[j], rfl, rfl, lstI_of hD7, atI_nat (get_map_int hj), _, _, rfl, rfl, _, rfl, ite2 (fun k3 => ?_) (fun k3 => ?_)⟩
                · have k3 := of_decide_eq_true k3
                  refine ⟨.ref D, rfl, .int j, rfl, D, _, _, .int ts[j], rfl, rfl, lstI_of hD7, atI_nat (get_map_int hj), _, _, rfl, rfl, .ref D, rfl, .int j, rfl, D, _, _, j, rfl, rfl, hD7, ixN_of (by rw [List.length_map]; exact hj), ?_⟩
                  have hk := h57 _ (List.getElem_mem hj)
                  have k4 : ts[j] < 5 := k3
                  refine ⟨_, _, _, rfl, frD _ _ sxc, t7, ts.set j (ts[j] + 1), st7.upd (Ne.symm nDS) (Ne.symm nDA) (Ne.symm nDB), by omega, ?_, by rw [List.length_set]; exact hl7, h57.set (by omega) (by omega)⟩
                  rw [upd_same, ← map_set_int]
                · exact ⟨_, _, _, rfl, sxc, t7, ts, st7, by omega, hD7, hl7, h57⟩
              · exact ⟨_, _, _, rfl, sxc, t7, ts, st7, by omega, hD7, hl7, h57⟩
            · exact ⟨_, _, _, rfl, sxc, t7, ts, st7, by omega, hD7, hl7, h57⟩
        · skip
          refine ⟨_, rfl, _, _, rfl, rfl, _, rfl, ite2 (fun k1 => ?_) (fun k1 => ?_)⟩
          · refine ⟨_, rfl, _, _, rfl, rfl, _, rfl, ite2 (fun k2 => ?_) (fun k2 => ?_)⟩
            · refine ⟨.ref D, rfl, .int j, rfl, D, _, _, .int ts[j], rfl, rfl, lstI_of hD7, atI_nat (get_map_int hj), _, _, rfl, rfl, _, rfl, ite2 (fun k3 => ?_) (fun k3 => ?_)⟩
              · have k3 := of_decide_eq_true k3
                refine ⟨.ref D, rfl, .int j, rfl, D, _, _, .int ts[j], rfl, rfl, lstI_of hD7, atI_nat (get_map_int hj), _, _, rfl, rfl, .ref D, rfl, .int j, rfl, D, _, _, j, rfl, rfl, hD7, ixN_of (by rw [List.length_map]; exact hj), ?_⟩
                have hk := h57 _ (List.getElem_mem hj)
                have k4 : ts[j] < 5 := k3
                refine ⟨_, _, _, rfl, frD _ _ sxc, t7, ts.set j (ts[j] + 1), st7.upd (Ne.symm nDS) (Ne.symm nDA) (Ne.symm nDB), by omega, ?_, by rw [List.length_set]; exact hl7, h57.set (by omega) (by omega)⟩
                rw [upd_same, ← map_set_int]
              · exact ⟨_, _, _, rfl, sxc, t7, ts, st7, by omega, hD7, hl7, h57⟩
            · exact ⟨_, _, _, rfl, sxc, t7, ts, st7, by omega, hD7, hl7, h57⟩
          · exact ⟨_, _, _, rfl, sxc, t7, ts, st7, by omega, hD7, hl7, h57⟩
      · rintro σ H8 ⟨y8, y9, y10, rfl, sx8, t8, ts, st8, ht8, hD8, hl7, h57⟩
        refine ⟨.ref D, rfl, D, _, rfl, .inl ⟨lstI_of hD8, fun r nr => ?_⟩⟩
        refine q _ t8 r ts (sx8.trans (Same.x (same_upd nr))) (st8.same (same_upd nr)) (by omega) ?_ upd_same ⟨by omega, by omega, h57⟩ (by omega)
        cases hr0 : H r with
        | none => rfl
        | some o =>
          by_cases q1 : r = S
          · subst q1
            rw [st8.s] at nr
            cases nr
          · by_cases q2 : r = A
            · subst q2
              obtain ⟨as8, ha8, _⟩ := st8.a
              rw [ha8] at nr
              cases nr
            · have := sx8 _ _ hr0 q1 q2
              rw [this] at nr
              cases nr
-- @@ _law_odd
theorem ok__law_odd (T : Tx K mg) : Ok P w K mg base CX0 2 "_law_odd" ["_law_stream_here"] (spOdd2 K) := by
  refine ok_of T.F__law_odd T.g__law_odd sc__law_odd (fun _ _ _ _ _ _ us hl => match us, hl with | [_], _ => rfl) (fun vs H Q E h => ?_) (fun cdv A0 outer s H vs Q E hr h => ?_)
  · obtain ⟨S, A, B, t, rfl, _⟩ := h
    rfl
  · obtain ⟨S, A, B, t, rfl, st, ht, q⟩ := h
    refine ⟨_, (pss_cons (ps_set (i := 1) sc__law_odd.nd rfl (.inl rfl) (pe_lst' (pa_cons pe_non (pa_cons pe_bl (pa_cons pe_bl (pa_cons (pe_un un_neg pe_int) (pa_cons pe_int (pa_cons pe_int (pa_cons pe_int (pa_cons pe_int (pa_cons pe_int (pa_cons pe_int (pa_cons (pe_op op_pow pe_int pe_int) (pa_cons pe_str (pa_cons pe_str (pa_cons (pe_tup pa_nil) (pa_cons (pe_lst' pa_nil) (pa_cons pe_dnewK (pa_cons (pe_tup (pa_cons pe_int pa_nil)) (pa_cons (pe_lst' (pa_cons pe_int pa_nil)) (pa_cons (pe_tup (pa_cons pe_bl pa_nil)) (pa_cons (pe_tup (pa_cons (pe_tup pa_nil) pa_nil)) (pa_cons pe_str pa_nil)))))))))))))))))))))))
    (pss_one (ps_ret (pe_ix ix_list (pe_op op_cat (pv 1) (pe_lst' (pa_cons (pe_tup (pa_cons pe_int (pa_cons pe_int pa_nil))) (pa_cons (pe_disp (pps_cons pe_str pe_int pps_nil) (by rfl) (by rfl) (fun z => by cases z) (by decide)) (pa_cons (pe_tup (pa_cons pe_int (pa_cons pe_int (pa_cons pe_int pa_nil)))) pa_nil))))) (cal (ok__law_draw T) (hr.mono (by decide)) pass0 (pa_cons (pv 0) (pa_cons pe_int pa_nil))) (fun _ _ => rfl))))), ?_⟩
    refine ⟨1, rfl, _, _, rfl, rfl, ⟨by decide, by decide, by decide⟩, sz (Nat.zero_le _), fun p1 n1 => ?_⟩
    have o1 := od2_tup (K := K) st n1 (xs := []) (ds := []) .nil ⟨by decide +kernel, by decide +kernel, by decide +kernel, by decide +kernel⟩ (by decide) (fun x z => nomatch z)
    have t1 := st.same (same_upd (o := .tup []) n1)
    refine ⟨sz (Nat.zero_le _), fun p2 n2 m2 => ?_⟩
    have o2 := od2_lst (K := K) t1 n2 m2 (xs := []) (ds := []) .nil ⟨by decide +kernel, by decide +kernel, by decide +kernel, by decide +kernel⟩
    have t2 := t1.same (same_upd (o := .lst []) n2)
    intro p3 n3
    have o3 := od2_dic (K := K) t2 n3 [] ⟨by decide +kernel, by decide +kernel, by decide +kernel, by decide +kernel⟩
    have t3 := t2.same (same_upd (o := .dK []) n3)
    refine ⟨sz (by show 1 ≤ _; decide), fun p4 n4 => ?_⟩
    have o4 := od2_tup (K := K) t3 n4 (xs := [.int 0]) (ds := [.int 0]) (.cons (.int 0) .nil) ⟨by decide +kernel, by decide +kernel, by decide +kernel, by decide +kernel⟩ (by decide) (fun x z => by
      simp only [List.mem_cons, List.not_mem_nil, or_false] at z
      subst z
      exact odd_int (by decide +kernel))
    have t4 := t3.same (same_upd (o := .tup [.int 0]) n4)
    refine ⟨sz (by show 1 ≤ _; decide), fun p5 n5 m5 => ?_⟩
    have o5 := od2_lst (K := K) t4 n5 m5 (xs := [.int 0]) (ds := [.int 0]) (.cons (.int 0) .nil) ⟨by decide +kernel, by decide +kernel, by decide +kernel, by decide +kernel⟩
    have t5 := t4.same (same_upd (o := .lst [.int 0]) n5)
    refine ⟨sz (by show 1 ≤ _; decide), fun p6 n6 => ?_⟩
    have o6 := od2_tup (K := K) t5 n6 (xs := [.bl true]) (ds := [.bool true]) (.cons (.bl true) .nil) ⟨by decide +kernel, by decide +kernel, by decide +kernel, by decide +kernel⟩ (by decide) (fun x z => by
      simp only [List.mem_cons, List.not_mem_nil, or_false] at z
      subst z
      exact odd_bl _)
    have t6 := t5.same (same_upd (o := .tup [.bl true]) n6)
    refine ⟨sz (Nat.zero_le _), fun p7 n7 => ?_⟩
    have g7 := hid_get t6 n7 (.tup [])
    have o7 := od2_tup (K := K) t6 n7 (xs := []) (ds := []) .nil ⟨by decide +kernel, by decide +kernel, by decide +kernel, by decide +kernel⟩ (by decide) (fun x z => nomatch z)
    have t7 := t6.same (same_upd (o := .tup []) n7)
    refine ⟨sz (by show 1 ≤ _; decide), fun p8 n8 => ?_⟩
    have o8 := od2_tup (K := K) t7 n8 (xs := [.ref p7]) (ds := [.tuple []]) (.cons (.tup (.inl (.inl g7)) .nil) .nil) ⟨by decide +kernel, by decide +kernel, by decide +kernel, by decide +kernel⟩ (by show 1 ≤ 3; decide) (fun x z => by
      simp only [List.mem_cons, List.not_mem_nil, or_false] at z
      subst z
      exact o7.1)
    have t8 := t7.same (same_upd (o := .tup [.ref p7]) n8)
    refine ⟨sz (by show 21 ≤ _; decide), fun L nL mL => ?_⟩
    have s8 := same_upd (o := .lst [.non, .bl true, .bl false, (fun i : Int => V.int (-i)) 1, .int 0, .int 1, .int 2, .int 5, .int 6, .int 24, (fun i j : Int => V.int (i ^ j.toNat)) 10 29, .str "", .str "0", .ref p1, .ref p2, .ref p3, .ref p4, .ref p5, .ref p6, .ref p8, .str "a"]) nL
    have s7 := (same_upd (o := .tup [.ref p7]) n8).trans s8
    have s6 := (same_upd (o := .tup []) n7).trans s7
    have s5 := (same_upd (o := .tup [.bl true]) n6).trans s6
    have s4 := (same_upd (o := .lst [.int 0]) n5).trans s5
    have s3 := (same_upd (o := .tup [.int 0]) n4).trans s4
    have s2 := (same_upd (o := .dK []) n3).trans s3
    have s1 := (same_upd (o := .lst []) n2).trans s2
    have s0 := (same_upd (o := .tup []) n1).trans s1
    have fe : Fit 100 10 (.str "") := ⟨by decide +kernel, by decide +kernel, by decide +kernel, by decide +kernel⟩
    have f0 : Fit 100 10 (.str "0") := ⟨by decide +kernel, by decide +kernel, by decide +kernel, by decide +kernel⟩
    have fa' : Fit 100 10 (.str "a") := ⟨by decide +kernel, by decide +kernel, by decide +kernel, by decide +kernel⟩
    have mm : ∀ v ∈ ([.non, .bl true, .bl false, (fun i : Int => V.int (-i)) 1, .int 0, .int 1, .int 2, .int 5, .int 6, .int 24, (fun i j : Int => V.int (i ^ j.toNat)) 10 29, .str "", .str "0", .ref p1, .ref p2, .ref p3, .ref p4, .ref p5, .ref p6, .ref p8, .str "a"] : List V), Od2 K S A (upd (upd (upd (upd (upd (upd (upd (upd (upd H p1 (.tup [])) p2 (.lst [])) p3 (.dK [])) p4 (.tup [.int 0])) p5 (.lst [.int 0])) p6 (.tup [.bl true])) p7 (.tup [])) p8 (.tup [.ref p7])) L (.lst [.non, .bl true, .bl false, (fun i : Int => V.int (-i)) 1, .int 0, .int 1, .int 2, .int 5, .int 6, .int 24, (fun i j : Int => V.int (i ^ j.toNat)) 10 29, .str "", .str "0", .ref p1, .ref p2, .ref p3, .ref p4, .ref p5, .ref p6, .ref p8, .str "a"])) v := by
      intro v hv
      simp only [List.mem_cons, List.not_mem_nil, or_false] at hv
      rcases hv with rfl | rfl | rfl | rfl | rfl | rfl | rfl | rfl | rfl | rfl | rfl | rfl | rfl | rfl | rfl | rfl | rfl | rfl | rfl | rfl | rfl
      · exact od2_non
      · exact od2_bl _
      · exact od2_bl _
      · exact od2_int (by decide +kernel)
      · exact od2_int (by decide +kernel)
      · exact od2_int (by decide +kernel)
      · exact od2_int (by decide +kernel)
      · exact od2_int (by decide +kernel)
      · exact od2_int (by decide +kernel)
      · exact od2_int (by decide +kernel)
      · exact od2_int (by decide +kernel)
      · exact od2_str fe
      · exact od2_str f0
      · exact o1.same s1
      · exact o2.same s2
      · exact o3.same s3
      · exact o4.same s4
      · exact o5.same s5
      · exact o6.same s6
      · exact o8.same s8
      · exact od2_str fa'
    have hL := upd_same (H := (upd (upd (upd (upd (upd (upd (upd (upd H p1 (.tup [])) p2 (.lst [])) p3 (.dK [])) p4 (.tup [.int 0])) p5 (.lst [.int 0])) p6 (.tup [.bl true])) p7 (.tup [])) p8 (.tup [.ref p7]))) (a := L) (o := .lst [.non, .bl true, .bl false, (fun i : Int => V.int (-i)) 1, .int 0, .int 1, .int 2, .int 5, .int 6, .int 24, (fun i j : Int => V.int (i ^ j.toNat)) 10 29, .str "", .str "0", .ref p1, .ref p2, .ref p3, .ref p4, .ref p5, .ref p6, .ref p8, .str "a"])
    have stL := st.same s0
    revert s0 mm hL stL
    generalize (upd (upd (upd (upd (upd (upd (upd (upd (upd H p1 (.tup [])) p2 (.lst [])) p3 (.dK [])) p4 (.tup [.int 0])) p5 (.lst [.int 0])) p6 (.tup [.bl true])) p7 (.tup [])) p8 (.tup [.ref p7])) L (.lst [.non, .bl true, .bl false, (fun i : Int => V.int (-i)) 1, .int 0, .int 1, .int 2, .int 5, .int 6, .int 24, (fun i j : Int => V.int (i ^ j.toNat)) 10 29, .str "", .str "0", .ref p1, .ref p2, .ref p3, .ref p4, .ref p5, .ref p6, .ref p8, .str "a"])) = HL
    clear s8 s7 s6 s5 s4 s3 s2 s1 t1 t2 t3 t4 t5 t6 t7 t8 o1 o2 o3 o4 o5 o6 o8
    intro s0 mm hL stL
    refine ⟨.ref L, rfl, sz (by show 2 ≤ _; decide), fun p9 n9 => ?_⟩
    have o9 := od2_tup (K := K) stL n9 (xs := [.int 0, .int 2]) (ds := [.int 0, .int 2]) (.cons (.int 0) (.cons (.int 2) .nil)) ⟨by decide +kernel, by decide +kernel, by decide +kernel, by decide +kernel⟩ (by decide) (fun x z => by
      simp only [List.mem_cons, List.not_mem_nil, or_false] at z
      rcases z with rfl | rfl
      · exact odd_int (by decide +kernel)
      · exact odd_int (by decide +kernel))
    have t9 := stL.same (same_upd (o := .tup [.int 0, .int 2]) n9)
    intro p10 n10
    have o10 := od2_dic (K := K) t9 n10 [("a", 1)] ⟨by decide +kernel, by decide +kernel, by decide +kernel, by decide +kernel⟩
    have t10 := t9.same (same_upd (o := .dK ([(("a" : Str), (1 : Int))].map fun p => ((Sum.inr p.1 : Key), V.int p.2))) n10)
    refine ⟨upd_same, [((Sum.inr "a" : Key), .int 1)], rfl, by decide, ?_⟩
    rw [upd_upd, show mergeK [] [((Sum.inr "a" : Key), V.int 1)] = ([(("a" : Str), (1 : Int))].map fun p => ((Sum.inr p.1 : Key), V.int p.2)) from rfl]
    refine ⟨sz (by show 3 ≤ _; decide), fun p11 n11 => ?_⟩
    have o11 := od2_tup (K := K) t10 n11 (xs := [.int 0, .int 0, .int 2]) (ds := [.int 0, .int 0, .int 2]) (.cons (.int 0) (.cons (.int 0) (.cons (.int 2) .nil))) ⟨by decide +kernel, by decide +kernel, by decide +kernel, by decide +kernel⟩ (by decide) (fun x z => by
      simp only [List.mem_cons, List.not_mem_nil, or_false] at z
      rcases z with rfl | rfl | rfl
      · exact odd_int (by decide +kernel)
      · exact odd_int (by decide +kernel)
      · exact odd_int (by decide +kernel))
    have t11 := t10.same (same_upd (o := .tup [.int 0, .int 0, .int 2]) n11)
    refine ⟨sz (by show 3 ≤ _; decide), fun L2 nL2 mL2 => ?_⟩
    have t12 := t11.same (same_upd (o := .lst [.ref p9, .ref p10, .ref p11]) nL2)
    have u3 := same_upd (o := .lst [.ref p9, .ref p10, .ref p11]) nL2
    have u2 := (same_upd (o := .tup [.int 0, .int 0, .int 2]) n11).trans u3
    have u1 := (same_upd (o := .dK ([(("a" : Str), (1 : Int))].map fun p => ((Sum.inr p.1 : Key), V.int p.2))) n10).trans u2
    have u0 := (same_upd (o := .tup [.int 0, .int 2]) n9).trans u1
    refine ⟨L, L2, _, _, rfl, rfl, u0 _ _ hL, upd_same, sz (by show 24 ≤ _; decide), fun C nC => ?_⟩
    have uC := same_upd (o := .lst ([.non, .bl true, .bl false, (fun i : Int => V.int (-i)) 1, .int 0, .int 1, .int 2, .int 5, .int 6, .int 24, (fun i j : Int => V.int (i ^ j.toNat)) 10 29, .str "", .str "0", .ref p1, .ref p2, .ref p3, .ref p4, .ref p5, .ref p6, .ref p8, .str "a"] ++ [.ref p9, .ref p10, .ref p11])) nC
    obtain ⟨as, ha, _⟩ := t12.a
    have nS := Ne.symm (ne_of_none t12.s nC)
    have nA := Ne.symm (ne_of_none ha nC)
    refine ⟨.ref S, rfl, S, A, B, t, 24, rfl, t12.same uC, by decide, by decide, ht, fun H1 tz v sx st1 ht1 v0 v1 => ?_⟩
    have mC : ∀ v ∈ ([.non, .bl true, .bl false, (fun i : Int => V.int (-i)) 1, .int 0, .int 1, .int 2, .int 5, .int 6, .int 24, (fun i j : Int => V.int (i ^ j.toNat)) 10 29, .str "", .str "0", .ref p1, .ref p2, .ref p3, .ref p4, .ref p5, .ref p6, .ref p8, .str "a"] ++ [.ref p9, .ref p10, .ref p11] : List V), Od2 K S A H1 v := by
      intro v hv
      rcases List.mem_append.mp hv with z | z
      · exact ((mm v z).same (u0.trans uC)).x sx
      · simp only [List.mem_cons, List.not_mem_nil, or_false] at z
        rcases z with rfl | rfl | rfl
        · exact o9.same (u1.trans uC) |>.x sx
        · exact o10.same (u2.trans uC) |>.x sx
        · exact o11.same (u3.trans uC) |>.x sx
    obtain ⟨j, rfl⟩ := Int.eq_ofNat_of_zero_le v0
    have jl : j < ([.non, .bl true, .bl false, (fun i : Int => V.int (-i)) 1, .int 0, .int 1, .int 2, .int 5, .int 6, .int 24, (fun i j : Int => V.int (i ^ j.toNat)) 10 29, .str "", .str "0", .ref p1, .ref p2, .ref p3, .ref p4, .ref p5, .ref p6, .ref p8, .str "a"] ++ [.ref p9, .ref p10, .ref p11] : List V).length := by
      show j < 24
      omega
    refine ⟨C, _, _, _, rfl, rfl, lstI_of (sx _ _ upd_same nS nA), atI_nat (List.getElem?_eq_getElem jl), ?_⟩
    exact q H1 tz _ ((Same.x (s0.trans (u0.trans uC))).trans sx) st1 ht1 (mC _ (List.getElem_mem jl))
-- @@ _law_missing
theorem ok__law_missing (T : Tx K mg) : Ok P w K mg base CX0 1 "_law_missing" ["_law_row"] (spMissing K) := by
  refine ok_of T.F__law_missing T.g__law_missing sc__law_missing (fun _ _ _ _ _ _ us hl => match us, hl with | [_], _ => rfl) (fun vs H Q E h => ?_) (fun cdv A outer s H vs Q E hr h => ?_)
  · obtain ⟨a, ns, rfl, _⟩ := h
    rfl
  · obtain ⟨a, ns, rfl, hT, q⟩ := h
    refine ⟨_, (pss_cons (ps_asg (pe_tup (pa_cons pe_int (pa_cons pe_int pa_nil))) (pg_tup rfl (pgs_cons (pg_name (i := 1) sc__law_missing.nd rfl (.inl rfl)) (pgs_cons (pg_name (i := 2) sc__law_missing.nd rfl (.inl rfl)) pgs_nil))))
    (pss_cons (ps_for PassesOwn.never rfl (pi_tup (pv 0)) (pg_name (i := 3) sc__law_missing.nd rfl (.inl rfl))
    (pss_cons (ps_if (pt_cmpR op_lt (pv 1) (pv 3) (nomark _)) (pss_cons (ps_set (i := 2) sc__law_missing.nd rfl (.inl rfl) (pe_op op_sub (pe_op op_add (pv 2) (pv 3)) (pv 1)))
    (pss_one (ps_set (i := 1) sc__law_missing.nd rfl (.inl rfl) (pv 3)))) pss_nil)
    (pss_one (ps_set (i := 1) sc__law_missing.nd rfl (.inl rfl) (pe_op op_add (pe_op op_sub (pv 1) (pv 3)) pe_int)))))
    (pss_one (ps_ret (pe_lst (pa_cons (pv 2) (pa_cons (pv 1) pa_nil))))))), ?_⟩
    refine ⟨sz (by show 2 ≤ _; decide), fun c nc => ?_⟩
    refine ⟨c, [.int 0, .int 0], rfl, .inl (.inl upd_same), rfl, .int 0, [.int 0], rfl, .int 0, [], rfl, rfl, ?_⟩
    have s0 := same_upd (o := .tup [V.int 0, V.int 0]) nc
    refine ⟨.ref a, rfl, a, rfl, ⟨_, same_seqT s0 hT⟩, for_tup (xs := ns.map V.int) (fun i σ H1 => ∃ y3, σ = [some (.ref a), some (.int (fil 0 0 (ns.take i)).1), some (.int (fil 0 0 (ns.take i)).2), y3] ∧ Same H H1) ⟨none, rfl, s0⟩ ?_ ?_ ?_⟩
    · rintro i σ H1 _ ⟨_, _, s1⟩
      exact same_seqT s1 hT
    · rintro i x σ H1 hx ⟨y3, rfl, s1⟩
      have hi : i < ns.length := by
        have := (List.getElem?_eq_some_iff.mp hx).1
        rw [List.length_map] at this
        exact this
      have ex : x = .int ns[i] := by
        rw [get_map_int hi] at hx
        exact (Option.some.inj hx).symm
      subst ex
      have st := fil_step ns 0 0 i hi
      refine ⟨_, rfl, _, rfl, _, _, rfl, rfl, _, rfl, ite2 (fun h => ?_) (fun h => ?_)⟩
      · have h := of_decide_eq_true h
        rw [if_pos h] at st
        refine ⟨_, rfl, _, rfl, _, _, rfl, rfl, _, rfl, _, _, rfl, rfl, ?_⟩
        refine ⟨_, rfl, ?_⟩
        refine ⟨_, rfl, _, rfl, _, _, rfl, rfl, _, _, rfl, rfl, ?_⟩
        exact ⟨_, by rw [st]; rfl, s1⟩
      · have h : ¬ (fil 0 0 (ns.take i)).1 < ns[i] := fun z => h (decide_eq_true z)
        rw [if_neg h] at st
        refine ⟨_, rfl, _, rfl, _, _, rfl, rfl, _, _, rfl, rfl, ?_⟩
        exact ⟨_, by rw [st]; rfl, s1⟩
    · rintro σ H1 ⟨y3, rfl, s1⟩
      rw [List.length_map, List.take_length]
      refine ⟨_, rfl, _, rfl, sz (by show 2 ≤ _; decide), fun p np => ?_⟩
      exact q _ p (s1.trans (same_upd np)) (s1.free np) upd_same
-- @@ _law_from
theorem ok__law_from (T : Tx K mg) : Ok P w K mg base CX0 1 "_law_from" ["_law_ring_here", "_law_place"] (spFrom K) := by
  refine ok_of T.F__law_from T.g__law_from sc__law_from (fun _ _ _ _ _ _ us hl => match us, hl with | [_, _], _ => rfl) (fun vs H Q E h => ?_) (fun cdv A outer s H vs Q E hr h => ?_)
  · obtain ⟨a, ns, p, rfl, _⟩ := h
    rfl
  · obtain ⟨a, ns, p, rfl, hT, hp, hl, q⟩ := h
    refine ⟨_, (pss_one (ps_ret (pe_op op_catA (pe_slice sl_tupA (pv 0) (po_some (pv 1)) po_none) (pe_slice sl_tupA (pv 0) po_none (po_some (pv 1)))))), ?_⟩
    -- ring[place:]
    have hl2 : (ns.map V.int).length = ns.length := List.length_map _
    have h1 : ∀ (H1 : Hp) (b : Addr), Same H H1 → TupI K H1 b (ns.drop p) → ∀ (H2 : Hp) (c : Addr), Same H1 H2 → TupI K H2 c (ns.take p) → rCatA K (.ref b) (.ref c) H2 Q := by
      intro H1 b s1 tb H2 c s2 tc
      refine ⟨b, c, _, _, rfl, rfl, same_seqT s2 tb, tc, ?_, fun e => ?_, fun e1 e2 => ?_, fun e1 e2 d nd => ?_⟩
      · rw [List.length_map, List.length_map, List.length_drop, List.length_take]
        exact sz (by omega)
      · have : (ns.drop p).length = 0 := by rw [List.map_eq_nil_iff.mp e]; rfl
        rw [List.length_drop] at this
        omega
      · refine q H2 b (s1.trans s2) ?_
        have e3 := List.map_eq_nil_iff.mp e2
        unfold rot
        rw [e3, List.append_nil]
        exact same_seqT s2 tb
      · refine q _ d ((s1.trans s2).trans (same_upd nd)) ?_
        refine tupI_of ?_
        rw [upd_same]
        unfold rot
        rw [List.map_append]
    have h2 : ∀ (H1 : Hp) (b : Addr), Same H H1 → TupI K H1 b (ns.drop p) → rSlA K (.ref a) none (some (p : Int)) H1 (fun y H2 => rCatA K (.ref b) y H2 Q) := by
      intro H1 b s1 tb
      refine ⟨a, _, rfl, same_seqT s1 hT, fun e => ?_, fun e d nd => ?_⟩
      · -- the whole of it: not so, p < length
        rw [HT.sIx_none, show HT.sIx (ns.map V.int).length (ns.map V.int).length (some (p : Int)) = min p (ns.map V.int).length from HT.sIx_nat _ _ p, hl2] at e
        omega
      · refine h1 H1 b s1 tb _ d (same_upd nd) (tupI_of ?_)
        rw [upd_same, cut_hi _ _ (by omega), List.map_take]
    refine ⟨.ref a, rfl, .int p, rfl, (p : Int), rfl, a, _, rfl, hT, fun e => ?_, fun e d nd => ?_⟩
    · rw [show HT.sIx (ns.map V.int).length 0 (some (p : Int)) = min p (ns.map V.int).length from HT.sIx_nat _ _ p, hl2] at e
      have p0 : p = 0 := by omega
      refine ⟨.ref a, rfl, .int p, rfl, (p : Int), rfl, h2 H a (Same.refl H) ?_⟩
      rw [p0, List.drop_zero]
      exact hT
    · refine ⟨.ref a, rfl, .int p, rfl, (p : Int), rfl, h2 _ d (same_upd nd) (tupI_of ?_)⟩
      rw [upd_same, cut_lo _ _ (by omega), List.map_drop]
-- @@ _law_begins
def spBegins (K : PySem.W.Frag) : Sp := fun vs H Q _ => ∃ (a : Addr) (ns : List Int), vs = [.ref a] ∧ TupI K H a ns ∧ ns.length ≤ 24 ∧
  ∀ H' l, Same H H' → H l = none → H' l = some (.lst ((ofN (bgn ns)).map V.int)) → Q (.ref l) H'
theorem ok__law_begins (T : Tx K mg) : Ok P w K mg base CX0 2 "_law_begins" ["_law_ring_here"] (spBegins K) := by
  refine ok_of T.F__law_begins T.g__law_begins sc__law_begins (fun _ _ _ _ _ _ us hl => match us, hl with | [_], _ => rfl) (fun vs H Q E h => ?_) (fun cdv A outer s H vs Q E hr h => ?_)
  · obtain ⟨a, ns, rfl, _⟩ := h
    rfl
  · obtain ⟨a, ns, rfl, hT, hl, q⟩ := h
    refine ⟨_, (pss_one (ps_ret (pe_lc (own := [("_law_place", 1)]) (g := gName 1) rfl sc__law_begins.nd (pi_range1 (by rfl) T.f_range (pa_cons (pe_callB call_len_seq (by rfl) T.f_len PySem.boot_len (pa_cons (pv 0) pa_nil)) pa_nil)) (blkOk_by (own := [("_law_place", 1)]) (N := N__law_begins) (sc := defScope s__law_begins) (by decide +kernel)) (fun _ _ _ _ _ => pg_name (i := 1) sc__law_begins.nd rfl (Or.inl rfl)) (fun _ _ _ _ _ => pts_one (pt_cmpR op_eq (pe_ix (ix_listK (K := K) rfl) (cal (ok__law_missing T) (hr.mono (by decide)) pass0 (pa_cons (cal (ok__law_from T) (hr.mono (by decide)) pass0 (pa_cons (pv 0) (pa_cons (pv 1) pa_nil))) pa_nil)) pe_int (fun _ _ => rfl)) pe_int (nomark _))) (fun _ _ _ _ _ => (pv 1))))), ?_⟩
    have hlen : (ns.map V.int).length = ns.length := List.length_map _
    refine ⟨.ref a, rfl, a, _, rfl, .inr hT, ((ns.length : Nat) : Int), by rw [hlen], by omega, by omega, fun D nD => ?_⟩
    refine lc_range (lo := 0) (n := ns.length) (fun i H1 => Same H H1 ∧ H1 D = some (.lst ((ofN (bgU ns i)).map V.int))) ⟨same_upd nD, by rw [upd_same]; rfl⟩ ?_ ?_
    · rintro i H1 hi ⟨s1, hD⟩
      refine ⟨rfl, ?_⟩
      refine ⟨.ref a, rfl, .int ((0 : Int) + (i : Int)), rfl, a, ns, i, by rw [Int.zero_add]; rfl, same_seqT s1 hT, hi, hl, fun H2 c s2 hc => ?_⟩
      refine ⟨c, rot ns i, rfl, hc, fun H3 d s3 nd3 hd => ?_⟩
      refine ⟨d, _, _, .int (nd ns i), rfl, rfl, lstI_of hd, atI_nat (j := 0) (by rw [fil_nd ns i hi]; rfl), ?_⟩
      have s23 := s2.trans s3
      refine ⟨rfl, _, rfl, ?_⟩
      rw [L2.dec_int]
      refine ite2 (fun h => ?_) (fun h => ?_)
      · refine ⟨_, rfl, _, s23 _ _ hD, szl (by rw [List.length_map, ofN_len]; have := bgU_len ns i; omega), ?_, ?_⟩
        · intro b z e
          rw [upd_ne (ne_of_none e nD)]
          exact s23 _ _ (s1 _ _ e)
        · rw [upd_same, bgU_yes (eq_of_beq h), ofN_app, List.map_append]
          show some (HO.lst (_ ++ [V.int ((0 : Int) + (i : Int))])) = _
          rw [Int.zero_add]
          rfl
      · refine ⟨s1.trans s23, ?_⟩
        rw [bgU_no (fun z => h (beq_iff_eq.mpr z))]
        exact s23 _ _ hD
    · rintro H1 ⟨s1, hD⟩
      exact q _ D s1 nD hD
-- @@ _law_name
/-- the flags of an error's class: the one with number j -/
structure FlagsE (f : Nat → Bool) (j : Nat) : Prop where
  one : ([V.bl (f 0), .bl (f 1), .bl (f 2), .bl (f 3), .bl (f 4), .bl (f 5), .bl (f 6), .bl (f 7), .bl (f 8), .bl (f 9), .bl (f 10), .bl (f 11), .bl (f 12), .bl (f 13), .bl (f 14)].countP fun y => eqV y (.bl true)) = 1
  at_ : [V.bl (f 0), .bl (f 1), .bl (f 2), .bl (f 3), .bl (f 4), .bl (f 5), .bl (f 6), .bl (f 7), .bl (f 8), .bl (f 9), .bl (f 10), .bl (f 11), .bl (f 12), .bl (f 13), .bl (f 14)][j]? = some (.bl true)
  no : ∀ (m : Nat) (z : V), m < j → [V.bl (f 0), .bl (f 1), .bl (f 2), .bl (f 3), .bl (f 4), .bl (f 5), .bl (f 6), .bl (f 7), .bl (f 8), .bl (f 9), .bl (f 10), .bl (f 11), .bl (f 12), .bl (f 13), .bl (f 14)][m]? = some z → eqV z (.bl true) = false
theorem flagsE {j : Nat} (h : j < 15) : FlagsE (fun i => decide (i = j)) j := by
  have a : ∀ (m : Nat) (z : V), m < j → [V.bl (decide (0 = j)), .bl (decide (1 = j)), .bl (decide (2 = j)), .bl (decide (3 = j)), .bl (decide (4 = j)), .bl (decide (5 = j)), .bl (decide (6 = j)), .bl (decide (7 = j)), .bl (decide (8 = j)), .bl (decide (9 = j)), .bl (decide (10 = j)), .bl (decide (11 = j)), .bl (decide (12 = j)), .bl (decide (13 = j)), .bl (decide (14 = j))][m]? = some z → eqV z (.bl true) = false := by
    intro m z hm hz
    have e : ∀ m : Nat, m < 15 → [V.bl (decide (0 = j)), .bl (decide (1 = j)), .bl (decide (2 = j)), .bl (decide (3 = j)), .bl (decide (4 = j)), .bl (decide (5 = j)), .bl (decide (6 = j)), .bl (decide (7 = j)), .bl (decide (8 = j)), .bl (decide (9 = j)), .bl (decide (10 = j)), .bl (decide (11 = j)), .bl (decide (12 = j)), .bl (decide (13 = j)), .bl (decide (14 = j))][m]? = some (.bl (decide (m = j))) := by
      intro m hm
      match m, hm with
      | 0, _ | 1, _ | 2, _ | 3, _ | 4, _ | 5, _ | 6, _ | 7, _ | 8, _ | 9, _ | 10, _ | 11, _ | 12, _ | 13, _ | 14, _ => rfl
    rw [e m (by omega)] at hz
    cases hz
    rw [decide_eq_false (by omega)]
    rfl
  match j, h, a with
  | 0, _, a | 1, _, a | 2, _, a | 3, _, a | 4, _, a | 5, _, a | 6, _, a | 7, _, a | 8, _, a | 9, _, a | 10, _, a | 11, _, a | 12, _, a | 13, _, a | 14, _, a => exact ⟨rfl, rfl, a⟩
def nms : List Str := ["BadEdit", "BadEdits", "BadRing", "BadText", "Busy", "LastToken", "NoArity", "NoBalance", "NoBeginning", "NothingToUndo", "Rejected", "TooLong", "TooManyEdits", "NoPlace", "NoVersion"]
theorem name_at {j : Nat} (h : j < 15) : ∃ u, nms[j]? = some u ∧ [V.str "BadEdit", .str "BadEdits", .str "BadRing", .str "BadText", .str "Busy", .str "LastToken", .str "NoArity", .str "NoBalance", .str "NoBeginning", .str "NothingToUndo", .str "Rejected", .str "TooLong", .str "TooManyEdits", .str "NoPlace", .str "NoVersion"][j]? = some (.str u) := by
  match j, h with
  | 0, _ | 1, _ | 2, _ | 3, _ | 4, _ | 5, _ | 6, _ | 7, _ | 8, _ | 9, _ | 10, _ | 11, _ | 12, _ | 13, _ | 14, _ => exact ⟨_, rfl, rfl⟩
def spName (K : PySem.W.Frag) : SpE := fun a cls d vs H Q _ => ∃ (D : Addr) (j : Nat), cls = .ref D ∧ vs = [.ref a] ∧ HasD H d ∧ NameE K D j ∧ ∀ H' u, Same H H' → nms[j]? = some u → Q (.str u) H'
theorem ok__law_name (T : Tx K mg) : OkE P w K mg base CX0 1 "_law_name" ["_law_error"] (spName K) := by
  refine okE_of T.F__law_name T.g__law_name sc__law_name (fun _ _ _ _ _ _ us hl => match us, hl with | [_], _ => rfl) (fun a cls d vs H Q E h => ?_) (fun p cls d herr cdv A outer s H vs Q E hr h => ?_)
  · obtain ⟨D, j, _, rfl, _⟩ := h
    rfl
  · obtain ⟨D, j, rfl, rfl, hd, F, q⟩ := h
    have hm : (p.1, p.2) ∈ (L2H.cxH CX0 P w K mg base N__law_name "_law_name" (defScope s__law_name) (He.ga K "_law_name") cdv A outer s H E p).pn := List.mem_cons_self
    refine ⟨_, (pss_cons (ps_set (i := 1) sc__law_name.nd rfl (.inl rfl) (pe_lst (pa_cons pe_str (pa_cons pe_str (pa_cons pe_str (pa_cons pe_str (pa_cons pe_str (pa_cons pe_str (pa_cons pe_str (pa_cons pe_str (pa_cons pe_str pa_nil)))))))))))
    (pss_cons (ps_set (i := 1) sc__law_name.nd rfl (.inl rfl) (pe_op op_cat (pv 1) (pe_lst (pa_cons pe_str (pa_cons pe_str (pa_cons pe_str (pa_cons pe_str (pa_cons pe_str (pa_cons pe_str pa_nil)))))))))
    (pss_cons (ps_set (i := 2) sc__law_name.nd rfl (.inl rfl) (pe_lst (pa_cons (pe_callB (call_isO3 herr hm) (by rfl) T.f_isinstance boot_isinstance (pa_cons (pv 0) (pa_cons (pe_glob (v := .ref (He.ga K "BadEdit")) rfl T.g_BadEdit rfl) pa_nil))) (pa_cons (pe_callB (call_isO3 herr hm) (by rfl) T.f_isinstance boot_isinstance (pa_cons (pv 0) (pa_cons (pe_glob (v := .ref (He.ga K "BadEdits")) rfl T.g_BadEdits rfl) pa_nil))) (pa_cons (pe_callB (call_isO3 herr hm) (by rfl) T.f_isinstance boot_isinstance (pa_cons (pv 0) (pa_cons (pe_glob (v := .ref (He.ga K "BadRing")) rfl T.g_BadRing rfl) pa_nil))) pa_nil)))))
    (pss_cons (ps_set (i := 2) sc__law_name.nd rfl (.inl rfl) (pe_op op_cat (pv 2) (pe_lst (pa_cons (pe_callB (call_isO3 herr hm) (by rfl) T.f_isinstance boot_isinstance (pa_cons (pv 0) (pa_cons (pe_glob (v := .ref (He.ga K "BadText")) rfl T.g_BadText rfl) pa_nil))) (pa_cons (pe_callB (call_isO3 herr hm) (by rfl) T.f_isinstance boot_isinstance (pa_cons (pv 0) (pa_cons (pe_glob (v := .ref (He.ga K "Busy")) rfl T.g_Busy rfl) pa_nil))) (pa_cons (pe_callB (call_isO3 herr hm) (by rfl) T.f_isinstance boot_isinstance (pa_cons (pv 0) (pa_cons (pe_glob (v := .ref (He.ga K "LastToken")) rfl T.g_LastToken rfl) pa_nil))) pa_nil))))))
    (pss_cons (ps_set (i := 2) sc__law_name.nd rfl (.inl rfl) (pe_op op_cat (pv 2) (pe_lst (pa_cons (pe_callB (call_isO3 herr hm) (by rfl) T.f_isinstance boot_isinstance (pa_cons (pv 0) (pa_cons (pe_glob (v := .ref (He.ga K "NoArity")) rfl T.g_NoArity rfl) pa_nil))) (pa_cons (pe_callB (call_isO3 herr hm) (by rfl) T.f_isinstance boot_isinstance (pa_cons (pv 0) (pa_cons (pe_glob (v := .ref (He.ga K "NoBalance")) rfl T.g_NoBalance rfl) pa_nil))) (pa_cons (pe_callB (call_isO3 herr hm) (by rfl) T.f_isinstance boot_isinstance (pa_cons (pv 0) (pa_cons (pe_glob (v := .ref (He.ga K "NoBeginning")) rfl T.g_NoBeginning rfl) pa_nil))) pa_nil))))))
    (pss_cons (ps_set (i := 2) sc__law_name.nd rfl (.inl rfl) (pe_op op_cat (pv 2) (pe_lst (pa_cons (pe_callB (call_isO3 herr hm) (by rfl) T.f_isinstance boot_isinstance (pa_cons (pv 0) (pa_cons (pe_glob (v := .ref (He.ga K "NothingToUndo")) rfl T.g_NothingToUndo rfl) pa_nil))) (pa_cons (pe_callB (call_isO3 herr hm) (by rfl) T.f_isinstance boot_isinstance (pa_cons (pv 0) (pa_cons (pe_glob (v := .ref (He.ga K "Rejected")) rfl T.g_Rejected rfl) pa_nil))) (pa_cons (pe_callB (call_isO3 herr hm) (by rfl) T.f_isinstance boot_isinstance (pa_cons (pv 0) (pa_cons (pe_glob (v := .ref (He.ga K "TooLong")) rfl T.g_TooLong rfl) pa_nil))) pa_nil))))))
    (pss_cons (ps_set (i := 2) sc__law_name.nd rfl (.inl rfl) (pe_op op_cat (pv 2) (pe_lst (pa_cons (pe_callB (call_isO3 herr hm) (by rfl) T.f_isinstance boot_isinstance (pa_cons (pv 0) (pa_cons (pe_glob (v := .ref (He.ga K "TooManyEdits")) rfl T.g_TooManyEdits rfl) pa_nil))) (pa_cons (pe_callB (call_isO3 herr hm) (by rfl) T.f_isinstance boot_isinstance (pa_cons (pv 0) (pa_cons (pe_glob (v := .ref (He.ga K "NoPlace")) rfl T.g_NoPlace rfl) pa_nil))) (pa_cons (pe_callB (call_isO3 herr hm) (by rfl) T.f_isinstance boot_isinstance (pa_cons (pv 0) (pa_cons (pe_glob (v := .ref (He.ga K "NoVersion")) rfl T.g_NoVersion rfl) pa_nil))) pa_nil))))))
    (pss_cons (ps_set (i := 3) sc__law_name.nd rfl (.inl rfl) (pe_lst (pa_cons (pe_callB (call_isO3 herr hm) (by rfl) T.f_isinstance boot_isinstance (pa_cons (pv 0) (pa_cons (pe_glob (v := .ref (He.ga K "RingError")) rfl T.g_RingError rfl) pa_nil))) (pa_cons (pe_callB (call_isO3 herr hm) (by rfl) T.f_isinstance boot_isinstance (pa_cons (pv 0) (pa_cons (pe_bltn (v := .ty "ValueError") (by rfl) T.f_ValueError (by decide +kernel) rfl) pa_nil))) (pa_cons (pe_callB (call_isO3 herr hm) (by rfl) T.f_isinstance boot_isinstance (pa_cons (pv 0) (pa_cons (pe_bltn (v := .ty "LookupError") (by rfl) T.f_LookupError (by decide +kernel) rfl) pa_nil))) pa_nil)))))
    (pss_cons (ps_if (PW.pt (pw_or (pt_cmpR op_ne (pe_bm PySem.F.plainAttrs_list PySem.F.slot_list_count PySem.F.type_list_count (mt_lcountF (K := K) rfl) (pv 2) (pa_cons pe_bl pa_nil)) pe_int (nomark _)) (pw_or1 (pt_cmpR (op_neD (roomH_units hr)) (pv 3) (pe_ix ix_list (pe_lst (pa_cons (pe_lst (pa_cons pe_bl (pa_cons pe_bl (pa_cons pe_bl pa_nil)))) (pa_cons (pe_lst (pa_cons pe_bl (pa_cons pe_bl (pa_cons pe_bl pa_nil)))) pa_nil))) (pe_callTy call_int1 (by rfl) T.f_int boot_int (pa_cons (pe_cmpR op_gt (pe_bm PySem.F.plainAttrs_list PySem.F.slot_list_index PySem.F.type_list_index mt_index (pv 2) (pa_cons pe_bl pa_nil)) pe_int (nomark _)) pa_nil)) (fun _ _ => rfl)) (nomark _))))) (pss_one (ps_ret pe_str)) pss_nil)
    (pss_one (ps_ret (pe_ix ix_list (pv 1) (pe_bm PySem.F.plainAttrs_list PySem.F.slot_list_index PySem.F.type_list_index mt_index (pv 2) (pa_cons pe_bl pa_nil)) (fun _ _ => rfl))))))))))))), ?_⟩
    have fl := flagsE F.lt
    have k0 := F.k 0 (by decide)
    have k1 := F.k 1 (by decide)
    have k2 := F.k 2 (by decide)
    have k3 := F.k 3 (by decide)
    have k4 := F.k 4 (by decide)
    have k5 := F.k 5 (by decide)
    have k6 := F.k 6 (by decide)
    have k7 := F.k 7 (by decide)
    have k8 := F.k 8 (by decide)
    have k9 := F.k 9 (by decide)
    have k10 := F.k 10 (by decide)
    have k11 := F.k 11 (by decide)
    have k12 := F.k 12 (by decide)
    have k13 := F.k 13 (by decide)
    have k14 := F.k 14 (by decide)
    generalize hf : (fun i : Nat => decide (i = j)) = f at fl
    have ef : ∀ i : Nat, decide (i = j) = f i := fun i => congrFun hf i
    rw [ef] at k0 k1 k2 k3 k4 k5 k6 k7 k8 k9 k10 k11 k12 k13 k14
    have more : ∀ (H1 : Hp) (l1 : Addr) (xs ys : List V) (Q1 : VK), Same H H1 → H1 l1 = some (.lst xs) → xs.length ≤ 20 → ys.length ≤ 20 → (∀ H2 l2, Same H H2 → H2 l2 = some (.lst (xs ++ ys)) → Same H1 H2 → Q1 (.ref l2) H2) →
        ys.length ≤ sizeLine ∧ ∀ p, H1 p = none → rCat (.ref l1) (.ref p) (upd H1 p (.lst ys)) Q1 := by
      intro H1 l1 xs ys Q1 s1 e1 c1 c2 k
      refine ⟨sz (by omega), fun l2 n2 => ?_⟩
      have s2 := same_upd (o := .lst ys) n2
      refine ⟨_, _, _, _, rfl, rfl, s2 _ _ e1, upd_same, ?_⟩
      exact ⟨sz (by omega), fun l3 n3 => k _ l3 ((s1.trans s2).trans (same_upd n3)) upd_same (s2.trans (same_upd n3))⟩
    refine ⟨sz (by show 9 ≤ _; decide), fun n1 nn1 => ?_⟩
    obtain ⟨H1, e1, s1, hn1⟩ := new_lst nn1 [V.str "BadEdit", .str "BadEdits", .str "BadRing", .str "BadText", .str "Busy", .str "LastToken", .str "NoArity", .str "NoBalance", .str "NoBeginning"]
    rw [e1]
    refine ⟨.ref n1, rfl, ?_⟩
    refine more H1 n1 _ _ _ s1 hn1 (by show 9 ≤ 20; decide) (by show 6 ≤ 20; decide) fun H2 n2 s2 hn2 _ => ?_
    have hd2 := hd.same s2
    refine ⟨_, rfl, D, _, _, _, rfl, rfl, F.c, hd2, .own _, k0, ?_⟩
    refine ⟨_, rfl, D, _, _, _, rfl, rfl, F.c, hd2, .own _, k1, ?_⟩
    refine ⟨_, rfl, D, _, _, _, rfl, rfl, F.c, hd2, .own _, k2, ?_⟩
    refine ⟨sz (by show 3 ≤ _; decide), fun l1 nl1 => ?_⟩
    obtain ⟨H3, e3, s3, hl3⟩ := new_lst nl1 [V.bl (f 0), .bl (f 1), .bl (f 2)]
    rw [e3]
    have s23 := s2.trans s3
    have hd3 := hd.same s23
    have hn3 := s3 _ _ hn2
    refine ⟨.ref l1, rfl, ?_⟩
    refine ⟨_, rfl, D, _, _, _, rfl, rfl, F.c, hd3, .own _, k3, ?_⟩
    refine ⟨_, rfl, D, _, _, _, rfl, rfl, F.c, hd3, .own _, k4, ?_⟩
    refine ⟨_, rfl, D, _, _, _, rfl, rfl, F.c, hd3, .own _, k5, ?_⟩
    refine more H3 l1 _ _ _ s23 hl3 (by show 3 ≤ 20; decide) (by show 3 ≤ 20; decide) fun H4 l4 s4 hl4 t4 => ?_
    have hd4 := hd.same s4
    have hn4 := t4 _ _ hn3
    refine ⟨.ref l4, rfl, ?_⟩
    refine ⟨_, rfl, D, _, _, _, rfl, rfl, F.c, hd4, .own _, k6, ?_⟩
    refine ⟨_, rfl, D, _, _, _, rfl, rfl, F.c, hd4, .own _, k7, ?_⟩
    refine ⟨_, rfl, D, _, _, _, rfl, rfl, F.c, hd4, .own _, k8, ?_⟩
    refine more H4 l4 _ _ _ s4 hl4 (by show 6 ≤ 20; decide) (by show 3 ≤ 20; decide) fun H5 l5 s5 hl5 t5 => ?_
    have hd5 := hd.same s5
    have hn5 := t5 _ _ hn4
    refine ⟨.ref l5, rfl, ?_⟩
    refine ⟨_, rfl, D, _, _, _, rfl, rfl, F.c, hd5, .own _, k9, ?_⟩
    refine ⟨_, rfl, D, _, _, _, rfl, rfl, F.c, hd5, .own _, k10, ?_⟩
    refine ⟨_, rfl, D, _, _, _, rfl, rfl, F.c, hd5, .own _, k11, ?_⟩
    refine more H5 l5 _ _ _ s5 hl5 (by show 9 ≤ 20; decide) (by show 3 ≤ 20; decide) fun H6 l6 s6 hl6 t6 => ?_
    have hd6 := hd.same s6
    have hn6 := t6 _ _ hn5
    refine ⟨.ref l6, rfl, ?_⟩
    refine ⟨_, rfl, D, _, _, _, rfl, rfl, F.c, hd6, .own _, k12, ?_⟩
    refine ⟨_, rfl, D, _, _, _, rfl, rfl, F.c, hd6, .own _, k13, ?_⟩
    refine ⟨_, rfl, D, _, _, _, rfl, rfl, F.c, hd6, .own _, k14, ?_⟩
    refine more H6 l6 _ _ _ s6 hl6 (by show 12 ≤ 20; decide) (by show 3 ≤ 20; decide) fun H7 l7 s7 hl7 t7 => ?_
    have hd7 := hd.same s7
    have hn7 := t7 _ _ hn6
    refine ⟨_, rfl, D, _, _, _, rfl, rfl, F.c, hd7, .own _, F.r, ?_⟩
    refine ⟨_, rfl, D, _, _, _, rfl, rfl, F.c, hd7, .ty _, F.v, ?_⟩
    refine ⟨_, rfl, D, _, _, _, rfl, rfl, F.c, hd7, .ty _, F.l, ?_⟩
    refine ⟨sz (by show 3 ≤ _; decide), fun b1 nb1 => ?_⟩
    obtain ⟨H8, e8, s8, hb8⟩ := new_lst nb1 [V.bl (decide (j ≤ 12)), .bl (decide (j ≤ 12)), .bl (decide (12 < j))]
    rw [e8]
    have hl8 := s8 _ _ hl7
    have hn8 := s8 _ _ hn7
    have s78 := s7.trans s8
    refine ⟨.ref l7, rfl, .inl ⟨rfl, _, lstI_of hl8⟩, l7, _, _, rfl, rfl, lstI_of hl8, rfl, rfl, ?_⟩
    have one : ([V.bl (f 0), V.bl (f 1), V.bl (f 2)] ++ [V.bl (f 3), V.bl (f 4), V.bl (f 5)] ++ [V.bl (f 6), V.bl (f 7), V.bl (f 8)] ++ [V.bl (f 9), V.bl (f 10), V.bl (f 11)] ++ [V.bl (f 12), V.bl (f 13), V.bl (f 14)]).countP (fun y => eqV y (V.bl true)) = 1 := fl.one
    rw [one]
    refine ⟨rfl, _, rfl, iteN rfl ?_⟩
    refine ⟨.ref b1, rfl, ?_⟩
    refine ⟨sz (by show 3 ≤ _; decide), fun c1 nc1 => ?_⟩
    obtain ⟨H9, e9, s9, hc1⟩ := new_lst nc1 [V.bl true, .bl true, .bl false]
    rw [e9]
    refine ⟨sz (by show 3 ≤ _; decide), fun c2 nc2 => ?_⟩
    obtain ⟨H10, e10, s10, hc2⟩ := new_lst nc2 [V.bl false, .bl false, .bl true]
    rw [e10]
    refine ⟨sz (by show 2 ≤ _; decide), fun c3 nc3 => ?_⟩
    obtain ⟨H11, e11, s11, hc3⟩ := new_lst nc3 [V.ref c1, .ref c2]
    rw [e11]
    have s8b := s9.trans (s10.trans s11)
    have hl11 := s8b _ _ hl8
    refine ⟨.ref l7, rfl, .inl ⟨rfl, _, lstI_of hl11⟩, l7, _, _, j, _, rfl, rfl, lstI_of hl11, rfl, rfl, fl.at_, rfl, fl.no, ?_⟩
    have e12 : decide ((12 : Int) < ((j : Nat) : Int)) = decide (12 < j) := by
      by_cases c : 12 < j
      · rw [decide_eq_true c, decide_eq_true (by omega)]
      · rw [decide_eq_false c, decide_eq_false (by omega)]
    refine ⟨_, _, rfl, rfl, .inr ⟨_, rfl, ?_⟩⟩
    rw [e12]
    have hb11 := s8b _ _ hb8
    have hn11 := s8b _ _ hn8
    have eqs : ∀ (b1 b2 b3 : Bool) {l : Addr}, H11 l = some (.lst [V.bl b1, .bl b2, .bl b3]) → Dp K H11 (.ref l) (.list [.bool b1, .bool b2, .bool b3]) := fun b1 b2 b3 {l} h => .lst (lstI_of h) (.cons (.bl _) (.cons (.bl _) (.cons (.bl _) .nil)))
    by_cases c : 12 < j
    · rw [decide_eq_true c, decide_eq_false (show ¬ j ≤ 12 by omega)] at hb11
      rw [decide_eq_true c]
      refine ⟨c3, _, _, .ref c2, rfl, rfl, lstI_of hc3, atI_nat (j := 1) rfl, ?_⟩
      refine ⟨_, _, eqs _ _ _ hb11, eqs _ _ _ (s11 _ _ hc2), rfl, rfl, _, rfl, iteN rfl ?_⟩
      obtain ⟨u, hu, hv⟩ : ∃ u, nms[j]? = some u ∧ [V.str "BadEdit", .str "BadEdits", .str "BadRing", .str "BadText", .str "Busy", .str "LastToken", .str "NoArity", .str "NoBalance", .str "NoBeginning", .str "NothingToUndo", .str "Rejected", .str "TooLong", .str "TooManyEdits", .str "NoPlace", .str "NoVersion"][j]? = some (.str u) := name_at F.lt
      refine ⟨.ref n2, rfl, .ref l7, rfl, .inl ⟨rfl, _, lstI_of hl11⟩, l7, _, _, j, _, rfl, rfl, lstI_of hl11, rfl, rfl, fl.at_, rfl, fl.no, ?_⟩
      exact ⟨n2, _, _, .str u, rfl, rfl, lstI_of hn11, atI_nat hv, q _ u ((s7.trans s8).trans s8b) hu⟩
    · rw [decide_eq_false c, decide_eq_true (show j ≤ 12 by omega)] at hb11
      rw [decide_eq_false c]
      refine ⟨c3, _, _, .ref c1, rfl, rfl, lstI_of hc3, atI_nat (j := 0) rfl, ?_⟩
      refine ⟨_, _, eqs _ _ _ hb11, eqs _ _ _ ((s10.trans s11) _ _ hc1), rfl, rfl, _, rfl, iteN rfl ?_⟩
      obtain ⟨u, hu, hv⟩ : ∃ u, nms[j]? = some u ∧ [V.str "BadEdit", .str "BadEdits", .str "BadRing", .str "BadText", .str "Busy", .str "LastToken", .str "NoArity", .str "NoBalance", .str "NoBeginning", .str "NothingToUndo", .str "Rejected", .str "TooLong", .str "TooManyEdits", .str "NoPlace", .str "NoVersion"][j]? = some (.str u) := name_at F.lt
      refine ⟨.ref n2, rfl, .ref l7, rfl, .inl ⟨rfl, _, lstI_of hl11⟩, l7, _, _, j, _, rfl, rfl, lstI_of hl11, rfl, rfl, fl.at_, rfl, fl.no, ?_⟩
      exact ⟨n2, _, _, .str u, rfl, rfl, lstI_of hn11, atI_nat hv, q _ u ((s7.trans s8).trans s8b) hu⟩
-- @@ _law_field
def fldNames : List Str := ["value", "index", "limit", "balance", "error"]
/-- an error of the class D holds f, of the kind k of fields -/
def FldOf (K : PySem.W.Frag) (H : Hp) (D : Addr) (d : Option Addr) (k : Nat) (v : V) : Prop := (k = 5 ∧ v = .non) ∨ ∃ dd f, fldNames[k]? = some f ∧ d = some dd ∧ H dd = some (.xd [(f, v)]) ∧ FldE K D f
theorem FldOf.same {K : PySem.W.Frag} {H H' : Hp} {D : Addr} {d : Option Addr} {k : Nat} {v : V} (h : FldOf K H D d k v) (s : Same H H') : FldOf K H' D d k v := by
  rcases h with h | ⟨dd, f, h1, h2, h3, h4⟩
  · exact .inl h
  · exact .inr ⟨dd, f, h1, h2, s _ _ h3, h4⟩
def spField (K : PySem.W.Frag) : SpE := fun a cls d vs H Q _ => ∃ (D : Addr) (k : Nat) (v : V), cls = .ref D ∧ vs = [.ref a] ∧ HasD H d ∧ KindE K D k ∧ k ≤ 5 ∧ FldOf K H D d k v ∧ ∀ H', Same H H' → Q v H'
theorem ok__law_field (T : Tx K mg) : OkE P w K mg base CX0 1 "_law_field" ["_law_error"] (spField K) := by
  refine okE_of T.F__law_field T.g__law_field sc__law_field (fun _ _ _ _ _ _ us hl => match us, hl with | [_], _ => rfl) (fun a cls d vs H Q E h => ?_) (fun p cls d herr cdv A outer s H vs Q E hr h => ?_)
  · obtain ⟨D, k, v, _, rfl, _⟩ := h
    rfl
  · obtain ⟨D, k, v, rfl, rfl, hd, F, hk, hf, q⟩ := h
    have hm : (p.1, p.2) ∈ (L2H.cxH CX0 P w K mg base N__law_field "_law_field" (defScope s__law_field) (He.ga K "_law_field") cdv A outer s H E p).pn := List.mem_cons_self
    refine ⟨_, (pss_cons (ps_if (pt_val (pe_callB (call_isT3 herr hm) (by rfl) T.f_isinstance boot_isinstance (pa_cons (pv 0) (pa_cons (pe_tup (pa_cons (pe_glob (v := .ref (He.ga K "NoPlace")) rfl T.g_NoPlace rfl) (pa_cons (pe_glob (v := .ref (He.ga K "NoVersion")) rfl T.g_NoVersion rfl) (pa_cons (pe_glob (v := .ref (He.ga K "NoArity")) rfl T.g_NoArity rfl) (pa_cons (pe_glob (v := .ref (He.ga K "NoBeginning")) rfl T.g_NoBeginning rfl) pa_nil))))) pa_nil)))) (pss_one (ps_ret (pe_byN herr hm (pv 0)))) pss_nil)
    (pss_cons (ps_if (pt_val (pe_callB (call_isT3 herr hm) (by rfl) T.f_isinstance boot_isinstance (pa_cons (pv 0) (pa_cons (pe_tup (pa_cons (pe_glob (v := .ref (He.ga K "BadEdit")) rfl T.g_BadEdit rfl) (pa_cons (pe_glob (v := .ref (He.ga K "Rejected")) rfl T.g_Rejected rfl) (pa_cons (pe_glob (v := .ref (He.ga K "BadText")) rfl T.g_BadText rfl) pa_nil)))) pa_nil)))) (pss_one (ps_ret (pe_byN herr hm (pv 0)))) pss_nil)
    (pss_cons (ps_if (pt_val (pe_callB (call_isO3 herr hm) (by rfl) T.f_isinstance boot_isinstance (pa_cons (pv 0) (pa_cons (pe_glob (v := .ref (He.ga K "TooLong")) rfl T.g_TooLong rfl) pa_nil)))) (pss_one (ps_ret (pe_byN herr hm (pv 0)))) pss_nil)
    (pss_cons (ps_if (pt_val (pe_callB (call_isO3 herr hm) (by rfl) T.f_isinstance boot_isinstance (pa_cons (pv 0) (pa_cons (pe_glob (v := .ref (He.ga K "NoBalance")) rfl T.g_NoBalance rfl) pa_nil)))) (pss_one (ps_ret (pe_byN herr hm (pv 0)))) pss_nil)
    (pss_one (ps_ret (pe_ifExp (pt_val (pe_callB (call_isO3 herr hm) (by rfl) T.f_isinstance boot_isinstance (pa_cons (pv 0) (pa_cons (pe_glob (v := .ref (He.ga K "BadRing")) rfl T.g_BadRing rfl) pa_nil)))) (pe_byN herr hm (pv 0)) pe_non))))))), ?_⟩
    refine ⟨_, rfl, sz (by show 4 ≤ _; decide), fun t1 n1 => ?_⟩
    obtain ⟨H1, e1, s1, h1⟩ := new_tup n1 [V.ref (He.ga K "NoPlace"), .ref (He.ga K "NoVersion"), .ref (He.ga K "NoArity"), .ref (He.ga K "NoBeginning")]
    rw [e1]
    have hd1 := hd.same s1
    have hf1 := hf.same s1
    refine ⟨D, t1, _, _, _, rfl, rfl, F.c, hd1, h1, .cons (.own _) (.cons (.own _) (.cons (.own _) (.cons (.own _) .nil))), F.k0, _, rfl, ?_⟩
    by_cases c0 : k = 0
    · refine iteY (decide_eq_true c0) ?_
      subst c0
      rcases hf1 with ⟨z, _⟩ | ⟨dd, f, g1, g2, g3, g4⟩
      · cases z
      · cases g1
        exact ⟨.ref p.1, rfl, D, dd, v, rfl, rfl, g4, g2, g3, q H1 s1⟩
    refine iteN (decide_eq_false c0) ?_
    refine ⟨_, rfl, sz (by show 3 ≤ _; decide), fun t2 n2 => ?_⟩
    obtain ⟨H2, e2, s2, h2⟩ := new_tup n2 [V.ref (He.ga K "BadEdit"), .ref (He.ga K "Rejected"), .ref (He.ga K "BadText")]
    rw [e2]
    have hd2 := hd1.same s2
    have hf2 := hf1.same s2
    have s12 := s1.trans s2
    refine ⟨D, t2, _, _, _, rfl, rfl, F.c, hd2, h2, .cons (.own _) (.cons (.own _) (.cons (.own _) .nil)), F.k1, _, rfl, ?_⟩
    by_cases c1 : k = 1
    · refine iteY (decide_eq_true c1) ?_
      subst c1
      rcases hf2 with ⟨z, _⟩ | ⟨dd, f, g1, g2, g3, g4⟩
      · cases z
      · cases g1
        exact ⟨.ref p.1, rfl, D, dd, v, rfl, rfl, g4, g2, g3, q H2 s12⟩
    refine iteN (decide_eq_false c1) ?_
    refine ⟨_, rfl, D, _, _, _, rfl, rfl, F.c, hd2, .own _, F.k2, _, rfl, ?_⟩
    by_cases c2 : k = 2
    · refine iteY (decide_eq_true c2) ?_
      subst c2
      rcases hf2 with ⟨z, _⟩ | ⟨dd, f, g1, g2, g3, g4⟩
      · cases z
      · cases g1
        exact ⟨.ref p.1, rfl, D, dd, v, rfl, rfl, g4, g2, g3, q H2 s12⟩
    refine iteN (decide_eq_false c2) ?_
    refine ⟨_, rfl, D, _, _, _, rfl, rfl, F.c, hd2, .own _, F.k3, _, rfl, ?_⟩
    by_cases c3 : k = 3
    · refine iteY (decide_eq_true c3) ?_
      subst c3
      rcases hf2 with ⟨z, _⟩ | ⟨dd, f, g1, g2, g3, g4⟩
      · cases z
      · cases g1
        exact ⟨.ref p.1, rfl, D, dd, v, rfl, rfl, g4, g2, g3, q H2 s12⟩
    refine iteN (decide_eq_false c3) ?_
    refine ⟨_, rfl, D, _, _, _, rfl, rfl, F.c, hd2, .own _, F.k4, _, rfl, ?_⟩
    by_cases c4 : k = 4
    · refine iteY (decide_eq_true c4) ?_
      subst c4
      rcases hf2 with ⟨z, _⟩ | ⟨dd, f, g1, g2, g3, g4⟩
      · cases z
      · cases g1
        exact ⟨.ref p.1, rfl, D, dd, v, rfl, rfl, g4, g2, g3, q H2 s12⟩
    refine iteN (decide_eq_false c4) ?_
    rcases hf2 with ⟨_, rfl⟩ | ⟨dd, f, g1, _⟩
    · exact q H2 s12
    · exfalso
      have : k = 5 := by omega
      subst this
      cases g1
-- @@ _law_reason
theorem filt_nil {p : Nat → Bool} : ∀ {n : Nat}, (List.range n).filter p = [] → ∀ k, k < n → p k = false := fun {n} h k hk => by
  have := List.filter_eq_nil_iff.mp h k (List.mem_range.mpr hk)
  simpa using this
theorem filt_head {p : Nat → Bool} {j : Nat} {r : List Nat} : ∀ {n : Nat}, (List.range n).filter p = j :: r → j < n ∧ p j = true ∧ ∀ k, k < j → p k = false
  | 0, h => by cases h
  | n + 1, h => by
    rw [List.range_succ, List.filter_append] at h
    cases e : (List.range n).filter p with
    | nil =>
      rw [e, List.nil_append] at h
      have hp : p n = true := by
        cases c : p n with
        | true => rfl
        | false =>
          rw [List.filter_cons_of_neg (by rw [c]; decide)] at h
          cases h
      rw [List.filter_cons_of_pos hp] at h
      cases h
      exact ⟨Nat.lt_succ_self _, hp, filt_nil e⟩
    | cons j' r' =>
      rw [e, List.cons_append] at h
      cases h
      obtain ⟨h1, h2, h3⟩ := filt_head e
      exact ⟨Nat.lt_succ_of_lt h1, h2, h3⟩
theorem ok__law_reason (T : Tx K mg) : Ok P w K mg base CX0 3 "_law_reason" ["_law_value"] (spJ K) := by
  refine ok_of T.F__law_reason T.g__law_reason sc__law_reason (fun _ _ _ _ _ _ us hl => match us, hl with | [_], _ => rfl) (fun vs H Q E h => ?_) (fun cdv A outer s H vs Q E hr h => ?_)
  · obtain ⟨v, d, rfl, _⟩ := h
    rfl
  · obtain ⟨v, d, rfl, hj, q⟩ := h
    refine ⟨_, (pss_cons (ps_if (pt_not (pt_val (pe_callB call_isi (by rfl) T.f_isinstance boot_isinstance (pa_cons (pv 0) (pa_cons (pe_bltn (v := .ty "tuple") (by rfl) T.f_tuple boot_tuple rfl) pa_nil))))) (pss_one (ps_ret (pe_tup (pa_cons pe_non (pa_cons pe_str pa_nil))))) pss_nil)
    (pss_cons (ps_if (pt_not (pt_chain op_le op_le pe_int (pe_callB call_len_seq (by rfl) T.f_len PySem.boot_len (pa_cons (pv 0) pa_nil)) pe_int)) (pss_one (ps_ret (pe_tup (pa_cons pe_non (pa_cons pe_str pa_nil))))) pss_nil)
    (pss_cons (ps_setLc (i := 1) (own := [("_law_index", 2)]) (g := gName 2) rfl sc__law_reason.nd rfl rfl (sw_true rfl rfl rfl (by decide +kernel)) (pi_range1 (by rfl) T.f_range (pa_cons (pe_callB call_len_seq (by rfl) T.f_len PySem.boot_len (pa_cons (pv 0) pa_nil)) pa_nil)) (blkOk_by (own := [("_law_index", 2)]) (N := N__law_reason) (sc := defScope s__law_reason) (by decide +kernel)) (fun _ _ _ _ _ => pg_name (i := 2) sc__law_reason.nd rfl (Or.inl rfl)) (fun _ _ _ _ _ => pts_one (pt_not (pt_val (cal (ok__law_whole T) (hr.mono (by decide)) pass0 (pa_cons (pe_ix (ix_tupK (K := K) rfl) (pv 0) (pv 2) (fun _ _ => rfl)) (pa_cons pe_int (pa_cons pe_int pa_nil))))))) (fun _ _ _ _ _ => (pv 2)))
    (pss_one (ps_ret (pe_ifExp (pt_cmpR (op_eqEL (Nat.lt_of_le_of_lt (Nat.le_add_right _ 64) hr.units)) (pv 1) (pe_lst' pa_nil) (nomark _)) pe_non (pe_tup (pa_cons (pe_ix ix_list (pv 1) pe_int (fun _ _ => rfl)) (pa_cons pe_str pa_nil))))))))), ?_⟩
    rcases hj with ⟨⟨t, ty, kk⟩, rfl⟩ | ⟨p, xs, rfl, hp, hl, hk, rfl⟩
    · refine ⟨_, rfl, v, .ty "tuple", t, _, _, rfl, .ty _, ty, kk, _, rfl, ?_⟩
      refine iteY rfl ⟨sz (by show 2 ≤ _; decide), fun a na => q _ _ (same_upd na) (.inr ⟨a, "tuple", rfl, .inl ⟨upd_same, rfl⟩, ft_w (.inl rfl)⟩)⟩
    · obtain ⟨t, ty, kk⟩ := tySq hp
      have hq : SqT K H p xs := hp
      refine ⟨_, rfl, .ref p, .ty "tuple", t, _, _, rfl, .ty _, ty, kk, _, rfl, iteN rfl ?_⟩
      refine ⟨.ref p, rfl, p, xs, rfl, .inr hq, _, _, rfl, rfl, _, rfl, ?_⟩
      have bad : ¬ (1 ≤ xs.length ∧ xs.length ≤ 24) → jdT xs = .tuple [.none, .str "length"] := fun h => if_neg h
      by_cases h1 : (1 : Int) ≤ (xs.length : Int)
      · refine iteY (decide_eq_true h1) ?_
        refine ⟨_, _, rfl, rfl, _, rfl, ?_⟩
        by_cases h2 : (xs.length : Int) ≤ 24
        · refine iteN (by rw [decide_eq_true h2]; rfl) ?_
          have ej : jdT xs = jdF 0 xs := if_pos ⟨by omega, by omega⟩
          rw [ej] at q
          dsimp only [tNext]
          have eR : ∀ n : Nat, List.range (n + 1) = List.range n ++ [n] := fun n => List.range_succ
          refine ⟨.ref p, rfl, p, xs, rfl, .inr hq, _, rfl, by omega, by omega, fun D nD => ?_⟩
          refine lc_range (lo := 0) (n := xs.length) (fun j H3 => Same H H3 ∧ H3 D = some (.lst (((List.range j).filter fun i => !arB (xs.getD i .non)).map fun (i : Nat) => V.int (i : Int)))) ⟨same_upd nD, upd_same⟩ ?_ ?_
          · rintro j H3 hj ⟨s3, hD⟩
            have hxj : xs[j]? = some (xs.getD j .non) := by
              rw [List.getElem?_eq_getElem hj, List.getD_eq_getElem?_getD, List.getElem?_eq_getElem hj]
              rfl
            refine ⟨rfl, ?_⟩
            rw [Int.zero_add]
            have kx := (hk _ (List.mem_of_getElem? hxj)).same s3
            refine ⟨.ref p, rfl, _, rfl, p, _, _, _, rfl, rfl, same_seqT s3 hq, atI_nat hxj, _, 0, 5, rfl, kx, ?_⟩
            have ew : whB (xs.getD j .non) 0 5 = arB (xs.getD j .non) := whB_ix _ 6
            rw [ew]
            refine ⟨_, rfl, ?_⟩
            cases ea : arB (xs.getD j .non) with
            | true =>
              refine iteN rfl ⟨s3, ?_⟩
              rw [List.range_succ, List.filter_append, List.filter_cons_of_neg (by rw [ea]; decide), List.filter_nil, List.append_nil]
              exact hD
            | false =>
              have hl2 : ((List.range j).filter fun i => !arB (xs.getD i .non)).length ≤ j := Nat.le_trans (List.length_filter_le _ _) (by rw [List.length_range]; exact Nat.le_refl _)
              refine iteY rfl ⟨_, rfl, _, hD, szl (by rw [List.length_map]; omega), ?_, ?_⟩
              · exact fun b o hb => by
                  rw [upd_ne (fun z => by rw [z, nD] at hb; cases hb)]
                  exact s3 _ _ hb
              · rw [upd_same, List.range_succ, List.filter_append, List.filter_cons_of_pos (by rw [ea]; rfl), List.filter_nil, List.map_append]
                rfl
          rintro H3 ⟨s3, hD⟩
          dsimp only [gName]
          generalize hW : (List.range xs.length).filter (fun i => !arB (xs.getD i .non)) = W at hD
          refine ⟨.ref D, rfl, sz (by show 0 ≤ _; decide), fun e0 ne0 _ => ?_⟩
          obtain ⟨H4, e4, s4, he0⟩ := new_lst ne0 []
          rw [e4]
          have s04 := s3.trans s4
          refine ⟨D, e0, _, rfl, rfl, lstI_of (s4 _ _ hD), lstI_of he0, _, rfl, ?_⟩
          have gx : ∀ (k : Nat) (x : V), xs[k]? = some x → xs.getD k .non = x := fun k x hx => by
            rw [List.getD_eq_getElem?_getD, hx]
            rfl
          cases W with
          | nil =>
            refine iteY rfl ?_
            refine q _ _ s04 (.inl ⟨rfl, jdF_yes xs 0 fun k x hx => ?_⟩)
            have := filt_nil hW k (List.getElem?_eq_some_iff.mp hx).1
            rw [gx k x hx] at this
            simpa using this
          | cons j r =>
            refine iteN rfl ?_
            obtain ⟨g1, g2, g3⟩ := filt_head hW
            refine ⟨.ref D, rfl, D, _, _, _, rfl, rfl, lstI_of (s4 _ _ hD), atI_nat (j := 0) rfl, sz (by show 2 ≤ _; decide), fun a na => ?_⟩
            refine q _ _ (s04.trans (same_upd na)) (.inr ⟨a, "arity", rfl, .inr ⟨j, by omega, upd_same, ?_⟩, ft_w (.inr (.inr rfl))⟩)
            have e := jdF_no xs 0 j g1 (fun k hk2 x hx => by
              have := g3 k hk2
              rw [gx k x hx] at this
              simpa using this) (fun y hy => by
              rw [gx j y hy] at g2
              simpa using g2)
            rw [Nat.zero_add] at e
            exact e
        · refine iteY (by rw [decide_eq_false h2]; rfl) ?_
          rw [bad (by omega)] at q
          exact ⟨sz (by show 2 ≤ _; decide), fun a na => q _ _ (same_upd na) (.inr ⟨a, "length", rfl, .inl ⟨upd_same, rfl⟩, ft_w (.inr (.inl rfl))⟩)⟩
      · refine iteN (decide_eq_false h1) ⟨_, rfl, iteY rfl ?_⟩
        rw [bad (by omega)] at q
        exact ⟨sz (by show 2 ≤ _; decide), fun a na => q _ _ (same_upd na) (.inr ⟨a, "length", rfl, .inl ⟨upd_same, rfl⟩, ft_w (.inr (.inl rfl))⟩)⟩
-- @@ _law_read
theorem cm_read (T : Tx K mg) (b l : Bool) : ClX.CMet K (He.ga K (SupX.clsN b l)) (.type "type") "read" (prA K (CR K) "read") (cmA K (CR K) "read") := by
  match b, l with
  | false, false => exact T.cm_Reel_read
  | true, false => exact cmet_from (SupX.sam_p T.sp_ReadyReel (by decide)) T.cm_ReadyReel_read
  | false, true => exact cmet_from (SupX.sam_p T.sp_LoggedReel (by decide)) T.cm_LoggedReel_read
  | true, true => exact cmet_from (SupX.sam_p T.sp_LoggedReadyReel (by decide)) T.cm_LoggedReadyReel_read
def spLawRead (K : PySem.W.Frag) : Sp := fun vs H Q E => ∃ (b l : Bool) (v : V) (d : PyData), vs = [.int (kindN b l), v] ∧ Dq true K H v d ∧ (∀ x, v = .str x → x.length ≤ 100000) ∧ RdTo K H b l d Q E
theorem ok__law_read (T : Tx K mg) : Ok P w K mg base (L2.CX P w) 34 "_law_read" ["_law_kind", "_law_text"] (spLawRead K) := by
  refine ok_ofX T.F__law_read T.g__law_read sc__law_read (fun _ _ _ _ _ _ us hl => match us, hl with | [_, _], _ => rfl) (fun vs H Q E h => ?_) (fun cdv A outer s H vs Q E hr h => ?_)
  · obtain ⟨b, l, v, d, rfl, _⟩ := h
    rfl
  · obtain ⟨b, l, v, d, rfl, dq, hx, hrd⟩ := h
    refine ⟨_, (pss_cons (ps_if (pt_cmpR op_eq (pv 0) pe_int (nomark _)) (pss_one (ps_ret (calCM (ok_Reel_read T) (hr.mono (by decide)) (passes_call (takes_of rfl rfl rfl rfl) fun _ _ _ _ h => h) T.cr_Reel (cm_read T false false) (pe_glob (v := .ref (He.ga K "Reel")) rfl T.g_Reel rfl) (pa_cons (pv 1) pa_nil)))) pss_nil)
    (pss_cons (ps_if (pt_cmpR op_eq (pv 0) pe_int (nomark _)) (pss_one (ps_ret (calCM (ok_Reel_read T) (hr.mono (by decide)) (passes_call (takes_of rfl rfl rfl rfl) fun _ _ _ _ h => h) T.cr_ReadyReel (cm_read T true false) (pe_glob (v := .ref (He.ga K "ReadyReel")) rfl T.g_ReadyReel rfl) (pa_cons (pv 1) pa_nil)))) pss_nil)
    (pss_one (ps_ret (pe_ifExp (pt_cmpR op_eq (pv 0) pe_int (nomark _)) (calCM (ok_Reel_read T) (hr.mono (by decide)) (passes_call (takes_of rfl rfl rfl rfl) fun _ _ _ _ h => h) T.cr_LoggedReel (cm_read T false true) (pe_glob (v := .ref (He.ga K "LoggedReel")) rfl T.g_LoggedReel rfl) (pa_cons (pv 1) pa_nil)) (calCM (ok_Reel_read T) (hr.mono (by decide)) (passes_call (takes_of rfl rfl rfl rfl) fun _ _ _ _ h => h) T.cr_LoggedReadyReel (cm_read T true true) (pe_glob (v := .ref (He.ga K "LoggedReadyReel")) rfl T.g_LoggedReadyReel rfl) (pa_cons (pv 1) pa_nil))))))), ?_⟩
    match b, l with
    | false, false =>
      refine ⟨_, rfl, rfl, _, rfl, iteY rfl ?_⟩
      exact ⟨rfl, v, rfl, false, false, v, d, rfl, dq, hx, hrd⟩
    | true, false =>
      refine ⟨_, rfl, rfl, _, rfl, iteN rfl ?_⟩
      refine ⟨_, rfl, rfl, _, rfl, iteY rfl ?_⟩
      exact ⟨rfl, v, rfl, true, false, v, d, rfl, dq, hx, hrd⟩
    | false, true =>
      refine ⟨_, rfl, rfl, _, rfl, iteN rfl ?_⟩
      refine ⟨_, rfl, rfl, _, rfl, iteN rfl ?_⟩
      refine ⟨_, rfl, rfl, _, rfl, iteY rfl ?_⟩
      exact ⟨rfl, v, rfl, false, true, v, d, rfl, dq, hx, hrd⟩
    | true, true =>
      refine ⟨_, rfl, rfl, _, rfl, iteN rfl ?_⟩
      refine ⟨_, rfl, rfl, _, rfl, iteN rfl ?_⟩
      refine ⟨_, rfl, rfl, _, rfl, iteN rfl ?_⟩
      exact ⟨rfl, v, rfl, true, true, v, d, rfl, dq, hx, hrd⟩
-- @@ _law_found
/-- what a value or a text tells of a making -/
inductive Mk where
  | bad (d : PyData)
  | ring (ns : List Int)
  | text (o : Option Nat)
def outR (b l : Bool) (ns : List Int) : List PyData := if b = true ∧ SupX.balL ns ≤ 0 then [.str "NoBalance", .int (SupX.balL ns)] else [rgD ns, .int 0, rgD (ofN (bgn ns)), .none, .tuple [], .list [.tuple [.int 0, rgD ns]], .list [.bool true, .bool b, .bool l]]
def outM (b l : Bool) : Mk → List PyData
  | .bad d => [.str "BadRing", d]
  | .ring ns => outR b l ns
  | .text o => [.str "BadText", optD o]
def MkIs (K : PySem.W.Frag) (H : Hp) (v : V) (tx : Bool) : Mk → Prop
  | .bad d => tx = false ∧ JIn K H v d ∧ isNd d = false
  | .ring ns => Ring ns ∧ ((tx = false ∧ ∃ t, v = .ref t ∧ TupI K H t ns) ∨ (tx = true ∧ ∃ d, Dq true K H v d ∧ (∀ x, v = .str x → x.length ≤ 100000) ∧ resD d = .list [.str "ring", .tuple (ns.map PyData.int)]))
  | .text o => tx = true ∧ ∃ d, Dq true K H v d ∧ (∀ x, v = .str x → x.length ≤ 100000) ∧ resD d = .list [.str "BadText", optD o]
def ErM (H' : Hp) (b : Bool) (c : Str) (f : Str × V) : Mk → Prop
  | .bad d => c = "BadRing" ∧ f.1 = "error" ∧ JV H' f.2 d
  | .ring ns => c = "NoBalance" ∧ b = true ∧ SupX.balL ns ≤ 0 ∧ f = ((("balance" : Str), V.int (SupX.balL ns)) : Str × V)
  | .text o => c = "BadText" ∧ f = ((("index" : Str), optV o) : Str × V)
def OutTo (K : PySem.W.Frag) (H : Hp) (b l : Bool) (m : Mk) (Q : VK) (E : XK) : Prop :=
  (∀ c f H' dd, Same H H' → FldAt H' dd (some f) → ErM H' b c f m → E (.ref (He.ga K c)) dd H') ∧
  (∀ ns, m = .ring ns → ¬ (b = true ∧ SupX.balL ns ≤ 0) → ∀ H' x, Same H H' → H x = none → SupX.RL K H' x (He.ga K (SupX.clsN b l)) (lg0 l) (newR ns) → Q (.ref x) H')
theorem out_mk {K : PySem.W.Frag} {H : Hp} {b l : Bool} {v : V} {m : Mk} {Q : VK} {E : XK} (h : MkIs K H v false m) (o : OutTo K H b l m Q E) : ∃ d, JIn K H v d ∧ MkTo K H b l v d Q E := by
  cases m with
  | bad d =>
    obtain ⟨_, hj, hn⟩ := h
    exact ⟨d, hj, .inl ⟨hn, fun H' dd u s hu hf => o.1 "BadRing" ("error", u) H' dd s hf ⟨rfl, rfl, hu⟩⟩⟩
  | ring ns =>
    obtain ⟨rg, ⟨_, t, rfl, hT⟩ | ⟨z, _⟩⟩ := h
    · exact ⟨.none, jin_of hT rg, .inr ⟨t, ns, rfl, rfl, hT, rg, fun hb hz H' d s hf => o.1 "NoBalance" _ H' d s hf ⟨rfl, hb, hz, rfl⟩, fun hz H' x s nx hR => o.2 ns rfl hz H' x s nx hR⟩⟩
    · cases z
  | text o => cases h.1
theorem optD_inj {o p : Option Nat} (h : optD o = optD p) : o = p := by
  cases o <;> cases p
  · rfl
  · cases h
  · cases h
  · have h : PyData.int _ = PyData.int _ := h
    have := PyData.int.inj h
    congr 1
    omega
theorem two_ne {ns : List Int} {o : Option Nat} (h : (PyData.list [.str "ring", .tuple (ns.map PyData.int)]) = .list [.str "BadText", optD o]) : False := by
  simp only [PyData.list.injEq, List.cons.injEq, PyData.str.injEq] at h
  exact absurd h.1 (by decide +kernel)
theorem out_rd {K : PySem.W.Frag} {H : Hp} {b l : Bool} {v : V} {m : Mk} {Q : VK} {E : XK} (h : MkIs K H v true m) (o : OutTo K H b l m Q E) : ∃ d, Dq true K H v d ∧ (∀ x, v = .str x → x.length ≤ 100000) ∧ RdTo K H b l d Q E := by
  cases m with
  | bad d => cases h.1
  | ring ns =>
    obtain ⟨rg, ⟨z, _⟩ | ⟨_, d, hd, hx, e⟩⟩ := h
    · cases z
    · refine ⟨d, hd, hx, fun ns2 e2 => ?_, fun o2 e2 => ?_⟩
      · rw [e] at e2
        simp only [PyData.list.injEq, List.cons.injEq, PyData.tuple.injEq, and_true, true_and] at e2
        have e3 := (List.map_inj_right (fun _ _ z => PyData.int.inj z)).mp e2
        subst e3
        exact ⟨fun hb hz H' d s hf => o.1 "NoBalance" _ H' d s hf ⟨rfl, hb, hz, rfl⟩, fun hz H' x s nx hR => o.2 ns rfl hz H' x s nx hR⟩
      · exact (two_ne (e.symm.trans e2)).elim
  | text o1 =>
    obtain ⟨_, d, hd, hx, e⟩ := h
    refine ⟨d, hd, hx, fun ns2 e2 => (two_ne (e2.symm.trans e)).elim, fun o2 e2 H' dd s hf => ?_⟩
    rw [e] at e2
    simp only [PyData.list.injEq, List.cons.injEq, and_true, true_and] at e2
    have e3 := optD_inj e2
    subst e3
    exact o.1 "BadText" _ H' dd s hf ⟨rfl, rfl⟩
theorem erM_k (T : Tx K mg) {H' : Hp} {b : Bool} {c : Str} {f : Str × V} {m : Mk} (h : ErM H' b c f m) : ∃ j k, nms[j]? = some c ∧ NameE K (He.ga K c) j ∧ KindE K (He.ga K c) k ∧ exmB K (He.ga K c) = true ∧ k ≤ 5 ∧ fldNames[k]? = some f.1 ∧ FldE K (He.ga K c) f.1 := by
  cases m with
  | bad d =>
    obtain ⟨rfl, hf, _⟩ := h
    obtain ⟨f1, f2⟩ := f
    have hf : f1 = "error" := hf
    subst hf
    exact ⟨2, 4, rfl, T.nm_BadRing, T.kd_BadRing, T.xm_BadRing, by decide, rfl, T.fl_BadRing⟩
  | ring ns =>
    obtain ⟨rfl, _, _, rfl⟩ := h
    exact ⟨7, 3, rfl, T.nm_NoBalance, T.kd_NoBalance, T.xm_NoBalance, by decide, rfl, T.fl_NoBalance⟩
  | text o =>
    obtain ⟨rfl, rfl⟩ := h
    exact ⟨3, 1, rfl, T.nm_BadText, T.kd_BadText, T.xm_BadText, by decide, rfl, T.fl_BadText⟩
theorem jv_dq {K : PySem.W.Frag} {H : Hp} {u : V} {d : PyData} (h : JV H u d) : Dq false K H u d := by
  rcases h with ⟨rfl, rfl⟩ | ⟨p, x, rfl, h, _⟩
  · exact .non
  · rcases h with ⟨h, rfl⟩ | ⟨j, _, h, rfl⟩
    · exact .tup (.inl (.inl h)) (.cons .non (.cons (.str _) .nil))
    · exact .tup (.inl (.inl h)) (.cons (.int _) (.cons (.str _) .nil))
theorem erM_d {K : PySem.W.Frag} {H1 H' : Hp} {b l : Bool} {c : Str} {f : Str × V} {m : Mk} (h : ErM H1 b c f m) (s : Same H1 H') : DqAll false K H' [.str c, f.2] (outM b l m) := by
  cases m with
  | bad d =>
    obtain ⟨rfl, hf, hu⟩ := h
    exact .cons (.str _) (.cons (jv_dq (jv_same hu s)) .nil)
  | ring ns =>
    obtain ⟨rfl, hb, hz, rfl⟩ := h
    show DqAll false K H' _ (outR b l ns)
    unfold outR
    rw [if_pos ⟨hb, hz⟩]
    exact .cons (.str _) (.cons (.int _) .nil)
  | text o =>
    obtain ⟨rfl, rfl⟩ := h
    exact .cons (.str _) (.cons (opt_dq o) .nil)
theorem made_of {K : PySem.W.Frag} {H : Hp} {b l : Bool} {v : V} {m : Mk} {Q : VK} {E : XK} (h : MkIs K H v false m) (o : OutTo K H b l m Q E) : spMade K [.int (kindN b l), v] H Q E := by
  obtain ⟨d, hj, mk⟩ := out_mk h o
  exact ⟨b, l, v, d, rfl, hj, mk⟩
theorem read_of {K : PySem.W.Frag} {H : Hp} {b l : Bool} {v : V} {m : Mk} {Q : VK} {E : XK} (h : MkIs K H v true m) (o : OutTo K H b l m Q E) : spLawRead K [.int (kindN b l), v] H Q E := by
  obtain ⟨d, hd, hx, rd⟩ := out_rd h o
  exact ⟨b, l, v, d, rfl, hd, hx, rd⟩
theorem fmK_Reel (T : Tx K mg) : SupX.FmK K false false (He.ga K "Reel") := ⟨T.ko_Reel_Reel, T.ko_Reel_ReadyReel, T.ko_Reel_LoggedReel⟩
theorem fmK_ReadyReel (T : Tx K mg) : SupX.FmK K true false (He.ga K "ReadyReel") := ⟨T.ko_ReadyReel_Reel, T.ko_ReadyReel_ReadyReel, T.ko_ReadyReel_LoggedReel⟩
theorem fmK_LoggedReel (T : Tx K mg) : SupX.FmK K false true (He.ga K "LoggedReel") := ⟨T.ko_LoggedReel_Reel, T.ko_LoggedReel_ReadyReel, T.ko_LoggedReel_LoggedReel⟩
theorem fmK_LoggedReadyReel (T : Tx K mg) : SupX.FmK K true true (He.ga K "LoggedReadyReel") := ⟨T.ko_LoggedReadyReel_Reel, T.ko_LoggedReadyReel_ReadyReel, T.ko_LoggedReadyReel_LoggedReel⟩
theorem fmK_of (T : Tx K mg) (b l : Bool) : SupX.FmK K b l (He.ga K (SupX.clsN b l)) :=
  match b, l with
  | false, false => fmK_Reel T
  | true, false => fmK_ReadyReel T
  | false, true => fmK_LoggedReel T
  | true, true => fmK_LoggedReadyReel T
def spFound (K : PySem.W.Frag) : Sp := fun vs H Q _ => ∃ (b l : Bool) (v : V) (tx : Bool) (m : Mk), vs = [.int (kindN b l), v, .bl tx] ∧ MkIs K H v tx m ∧
  ∀ H' p xs, Same H H' → H' p = some (.lst xs) → p ≠ sysModules → DqAll false K H' xs (outM b l m) → Q (.ref p) H'
theorem ok__law_found (T : Tx K mg) : Ok P w K mg base CX0 40 "_law_found" ["_law_kind", "_law_value", "_law_is_text"] (spFound K) := by
  refine ok_of T.F__law_found T.g__law_found sc__law_found (fun _ _ _ _ _ _ us hl => match us, hl with | [_, _, _], _ => rfl) (fun vs H Q E h => ?_) (fun cdv A outer s H vs Q E hr h => ?_)
  · obtain ⟨b, l, v, tx, m, rfl, _⟩ := h
    rfl
  · obtain ⟨b, l, v, tx, m, rfl, hm, q⟩ := h
    refine ⟨_, (pss_cons (ps_try_as2 (i := 4) (Wout := fun _ _ _ _ => False) rfl rfl sc__law_found.nd rfl rfl ⟨rfl, by decide, Or.inl T.g_RingError⟩ ⟨rfl, by decide, Or.inl T.g_NoPlace⟩ takes0
      (fun W pn xe tk _ => (pss_one (ps_set (i := 3) sc__law_found.nd rfl (.inl rfl) (pe_ifExp (pt_val (pv 2)) (calXS (ok__law_read T) (hr.mono (by decide)) (fun σ => passAt tk σ) (pa_cons (pv 0) (pa_cons (pv 1) pa_nil))) (calXS (ok__law_made T) (hr.mono (by decide)) (fun σ => passAt tk σ) (pa_cons (pv 0) (pa_cons (pv 1) pa_nil)))))))
      (fun a oe cls d pn hz hf => (pss_one (ps_ret (pe_lst' (pa_cons (calE (ok__law_name T) ⟨(hr.mono (j := 1) (by decide)).dp, (hr.mono (j := 1) (by decide)).un⟩ pass0 hz hf List.mem_cons_self (pa_cons (pv 4) pa_nil)) (pa_cons (calE (ok__law_field T) ⟨(hr.mono (j := 1) (by decide)).dp, (hr.mono (j := 1) (by decide)).un⟩ pass0 hz hf List.mem_cons_self (pa_cons (pv 4) pa_nil)) pa_nil)))))))
    (pss_cons (ps_set (i := 5) sc__law_found.nd rfl (.inl rfl) (pe_lst' (pa_cons (pe_callB call_isi (by rfl) T.f_isinstance boot_isinstance (pa_cons (pv 3) (pa_cons (pe_glob (v := .ref (He.ga K "Reel")) rfl T.g_Reel rfl) pa_nil))) (pa_cons (pe_callB call_isi (by rfl) T.f_isinstance boot_isinstance (pa_cons (pv 3) (pa_cons (pe_glob (v := .ref (He.ga K "ReadyReel")) rfl T.g_ReadyReel rfl) pa_nil))) (pa_cons (pe_callB call_isi (by rfl) T.f_isinstance boot_isinstance (pa_cons (pv 3) (pa_cons (pe_glob (v := .ref (He.ga K "LoggedReel")) rfl T.g_LoggedReel rfl) pa_nil))) pa_nil)))))
    (pss_one (ps_ret (pe_lst' (pa_cons (SupX.pe_ex fun z : Bool × Bool => (calP (ok_Reel_ring T) (hr.mono (by decide)) pass0 (fm_of T z.1 z.2).c (fm_of T z.1 z.2).p_ring (pv 3))) (pa_cons (SupX.pe_ex fun z : Bool × Bool => (calP (ok_Reel_version T) (hr.mono (by decide)) pass0 (fm_of T z.1 z.2).c (fm_of T z.1 z.2).p_version (pv 3))) (pa_cons (SupX.pe_ex fun z : Bool × Bool => (calP (ok_Reel_beginnings T) (hr.mono (by decide)) pass0 (fm_of T z.1 z.2).c (fm_of T z.1 z.2).p_beginnings (pv 3))) (pa_cons (SupX.pe_ex fun z : Bool × Bool => (calP (ok_Reel_start T) (hr.mono (by decide)) pass0 (fm_of T z.1 z.2).c (fm_of T z.1 z.2).p_start (pv 3))) (pa_cons (SupX.pe_ex fun z : Bool × Bool => (calM0 (ok_Reel_edits T) (hr.mono (by decide)) pass0 (fm_of T z.1 z.2).c (fm_of T z.1 z.2).m_edits (pv 3))) (pa_cons (SupX.pe_ex fun z : Bool × Bool => (GenP.pe_listW (GenP.calMQ0 (ok_Reel_walk T) (hr.mono (by decide)) (fm_of T z.1 z.2).c (fmW_of T z.1 z.2).m_walk (pv 3)) (hr.mono (by decide)) (by rfl) T.f_list boot_list)) (pa_cons (pv 5) pa_nil)))))))))))), ?_⟩
    refine seq_go ?_
    refine cut_rt (fun σ H1 => ∃ x ns, σ = [some (.int (kindN b l)), some v, some (.bl tx), some (.ref x), none, none] ∧ m = .ring ns ∧ ¬ (b = true ∧ SupX.balL ns ≤ 0) ∧ Ring ns ∧ Same H H1 ∧ SupX.RL K H1 x (He.ga K (SupX.clsN b l)) (lg0 l) (newR ns)) (fun D' hD' hrt => ?_) ?_
    · have rgm : ∀ ns, m = .ring ns → Ring ns := fun ns e => by
        subst e
        exact hm.1
      cases tx
      case' false => refine ⟨_, rfl, _, rfl, iteN rfl ⟨_, rfl, v, rfl, made_of hm ?_⟩⟩
      case' true => refine ⟨_, rfl, _, rfl, iteY rfl ⟨_, rfl, v, rfl, read_of hm ?_⟩⟩
      all_goals
        refine ⟨fun c f H1 dd s1 hf he => ?_, fun ns em hb H1 x s1 nx hR => ?_⟩
        · obtain ⟨j, k0, hj, nm, kd, xm, hk0, hf1, hf2⟩ := erM_k T he
          refine ⟨true, of_decide_eq_true xm, fun _ a na => ?_, fun z => nomatch z⟩
          obtain ⟨d0, e1, e2⟩ := hf
          have hh : HasD H1 dd := .inr ⟨d0, _, e1, e2⟩
          refine ⟨.ref a, rfl, _, j, rfl, rfl, hh, nm, fun H2 u s2 hu => ?_⟩
          have eu : u = c := Option.some.inj (hu.symm.trans hj)
          subst eu
          have hfo : FldOf K H2 (He.ga K u) dd k0 f.2 := .inr ⟨d0, _, hf1, e1, s2 _ _ e2, hf2⟩
          refine ⟨.ref a, rfl, _, k0, _, rfl, rfl, hh.same s2, kd, hk0, hfo, fun H3 s3 => ?_⟩
          refine ⟨sz (by show 2 ≤ _; decide), fun l0 nl0 ml0 => ?_⟩
          obtain ⟨H4, e4, s4, hl0⟩ := new_lst nl0 [V.str u, f.2]
          rw [e4]
          have s14 := s2.trans (s3.trans s4)
          exact q H4 l0 _ (s1.trans s14) hl0 ml0 (erM_d he s14)
        · exact hD' _ _ ⟨x, ns, rfl, em, hb, rgm ns em, s1, hR⟩
    · rintro σ H1 ⟨x, ns, rfl, rfl, hb, rg, s1, hR⟩
      dsimp only
      have fm := fm_of T b l
      have hK := fmK_of T b l
      have fmL : SupX.Fm K b (lg0 l).isSome (He.ga K (SupX.clsN b l)) := by rw [lg0_some]; exact fm
      obtain ⟨dx, vr, vd, v1, ex, hx, _, _, _, hex⟩ := id hR
      have ty := fm.isC.ty fm.c hx
      refine ⟨.ref x, rfl, _, _, _, _, true, rfl, .own _, ty, hK.kR, ?_⟩
      refine ⟨.ref x, rfl, _, _, _, _, b, rfl, .own _, ty, hK.kB, ?_⟩
      refine ⟨.ref x, rfl, _, _, _, _, l, rfl, .own _, ty, hK.kL, ?_⟩
      refine ⟨sz (by show 3 ≤ _; decide), fun kd nkd mkd => ?_⟩
      obtain ⟨H2, e2, s2, hkd⟩ := new_lst nkd [V.bl true, .bl b, .bl l]
      rw [e2]
      dsimp only [gName]
      have hR2 := hR.same s2
      have hx2 := s2 _ _ hx
      refine ⟨(b, l), .ref x, rfl, x, dx, _, rfl, hx2, _, b, lg0 l, x, newR ns, ns, rfl, fmL, hR2, rfl, fun t1 ht1 => ?_⟩
      refine ⟨(b, l), .ref x, rfl, x, dx, _, rfl, hx2, _, b, lg0 l, x, newR ns, rfl, fmL, hR2, ?_⟩
      refine ⟨(b, l), .ref x, rfl, x, dx, _, rfl, hx2, _, b, lg0 l, x, newR ns, rfl, fmL, hR2, fun v1 dv1 => ?_⟩
      refine ⟨(b, l), .ref x, rfl, x, dx, _, rfl, hx2, _, b, lg0 l, x, newR ns, rfl, fmL, hR2, ?_⟩
      refine ⟨(b, l), .ref x, rfl, x, dx, _, rfl, hx2, hex.none rfl, _, b, lg0 l, x, newR ns, rfl, fmL, hR2, fun v2 dv2 => ?_⟩
      refine ⟨(b, l), .ref x, rfl, x, dx, _, rfl, hx2, hex.none rfl, _, b, lg0 l, x, newR ns, rfl, fmL, hR2, by show 1 ≤ 1000; decide, fun H3 ra rvs s3 hra dra => ?_⟩
      obtain ⟨y0, rfl, dy0⟩ : ∃ y, rvs = [y] ∧ Dt K H3 y (rgD ns) := by
        have dra : DtAll K H3 rvs [rgD ns] := dra
        cases dra with
        | cons a b =>
          cases b
          exact ⟨_, rfl, a⟩
      refine ⟨fun k out H4 => Same H3 H4 ∧ DtAll K H4 out ([PyData.tuple [.int 0, rgD ns]].take k), ⟨Same.refl _, .nil⟩, fun k out H4 _ h => SqT.kt h.1.kt hra, fun k out x2 H4 H5 hk h y => ?_, fun out H4 h D nD => ?_⟩
      · obtain ⟨s4, dz⟩ := h
        obtain ⟨t5, y5, rfl, hy5, s5, ht5⟩ := y
        have hk0 : k = 0 := by
          have : k < 1 := hk
          omega
        subst hk0
        cases hy5
        refine ⟨s4.trans s5, ?_⟩
        cases dz
        exact .cons (.tup ht5 (.cons (.int _) (.cons (dy0.kt (s4.trans s5).kt) .nil))) .nil
      obtain ⟨s4, dz⟩ := h
      obtain ⟨H5, e5, s5, hD⟩ := new_lst nD out
      rw [e5]
      refine ⟨.ref kd, rfl, sz (by show 7 ≤ _; decide), fun p np mp => ?_⟩
      obtain ⟨H6, e6, s6, hp⟩ := new_lst np [V.ref t1, .int 0, v1, .non, v2, .ref D, .ref kd]
      have e6' : upd H5 p (.lst [V.ref t1, .int (((newR ns).es.length : Nat) : Int), v1, optV (newR ns).ch, v2, .ref D, .ref kd]) = H6 := e6
      show Q (.ref p) _
      refine e6' ▸ ?_
      have s26 := s3.trans (s4.trans (s5.trans s6))
      have s16 := s2.trans s26
      refine q H6 p _ (s1.trans s16) hp mp ?_
      show DqAll false K H6 _ (outR b l ns)
      unfold outR
      rw [if_neg hb]
      refine .cons (dt_rg (SqT.kt s26.kt ht1)).dq (.cons (.int _) (.cons (dv1.kt s26.kt).dq (.cons .non (.cons (dv2.kt s26.kt).dq (.cons ?_ (.cons ?_ .nil))))))
      · exact .lst (lstI_of (s6 _ _ hD)) (fun z => nomatch z) (dz.kt (s5.trans s6).kt).dq
      · exact .lst (lstI_of (s26 _ _ hkd)) (fun z => nomatch z) (.cons (.bl _) (.cons (.bl _) (.cons (.bl _) .nil)))
-- @@ _law_due
def spLawDue (K : PySem.W.Frag) : Sp := fun vs H Q _ => ∃ (b l : Bool) (t : Addr) (ns : List Int), vs = [.int (kindN b l), .ref t] ∧ TupI K H t ns ∧ Ring ns ∧
  ∀ H' p xs, Same H H' → H p = none → H' p = some (.lst xs) → p ≠ sysModules → DqAll false K H' xs (outR b l ns) → Q (.ref p) H'
theorem ok__law_due (T : Tx K mg) : Ok P w K mg base CX0 4 "_law_due" ["_law_kind", "_law_ring_here"] (spLawDue K) := by
  refine ok_of T.F__law_due T.g__law_due sc__law_due (fun _ _ _ _ _ _ us hl => match us, hl with | [_, _], _ => rfl) (fun vs H Q E h => ?_) (fun cdv A outer s H vs Q E hr h => ?_)
  · obtain ⟨b, l, t, ns, rfl, _⟩ := h
    rfl
  · obtain ⟨b, l, t, ns, rfl, hT, rg, q⟩ := h
    refine ⟨_, (pss_cons (ps_if (PW.pt (pw_and (pt_cmpR op_in_seq (pv 0) (pe_tup (pa_cons pe_int (pa_cons pe_int pa_nil))) rfl) (pw_and1 (pt_cmpR op_ge (pe_callB (cr_sum rfl) (by rfl) T.f_sum boot_sum (pa_cons (pe_callTy call_list_of' (by rfl) T.f_list boot_list (pa_cons (pv 1) pa_nil)) pa_nil)) (pe_callB call_len_seq (by rfl) T.f_len PySem.boot_len (pa_cons (pv 1) pa_nil)) (nomark _))))) (pss_one (ps_ret (pe_lst' (pa_cons pe_str (pa_cons (pe_op op_sub (pe_callB call_len_seq (by rfl) T.f_len PySem.boot_len (pa_cons (pv 1) pa_nil)) (pe_callB (cr_sum rfl) (by rfl) T.f_sum boot_sum (pa_cons (pe_callTy call_list_of' (by rfl) T.f_list boot_list (pa_cons (pv 1) pa_nil)) pa_nil))) pa_nil))))) pss_nil)
    (pss_one (ps_ret (pe_lst' (pa_cons (pv 1) (pa_cons pe_int (pa_cons (pe_callTy call_tuple_of (by rfl) T.f_tuple boot_tuple (pa_cons (cal (ok__law_begins T) (hr.mono (by decide)) pass0 (pa_cons (pv 1) pa_nil)) pa_nil)) (pa_cons pe_non (pa_cons (pe_tup pa_nil) (pa_cons (pe_lst' (pa_cons (pe_tup (pa_cons pe_int (pa_cons (pv 1) pa_nil))) pa_nil)) (pa_cons (pe_lst' (pa_cons pe_bl (pa_cons (pe_cmpR op_in_seq (pv 0) (pe_tup (pa_cons pe_int (pa_cons pe_int pa_nil))) rfl) (pa_cons (pe_cmpR op_in_seq (pv 0) (pe_tup (pa_cons pe_int (pa_cons pe_int pa_nil))) rfl) pa_nil)))) pa_nil))))))))))), ?_⟩
    have eB : inV (.int (kindN b l)) [V.int 1, .int 3] = b := by cases b <;> cases l <;> rfl
    have eL : inV (.int (kindN b l)) [V.int 2, .int 3] = l := by cases b <;> cases l <;> rfl
    have ln : (((ns.map V.int).length : Nat) : Int) = (ns.length : Int) := by rw [List.length_map]
    refine seq_go ?_
    refine cut_rt (fun σ H2 => σ = [some (.int (kindN b l)), some (.ref t)] ∧ Same H H2 ∧ ¬ (b = true ∧ SupX.balL ns ≤ 0)) (fun D' hD' hrt => ?_) ?_
    · refine ⟨_, rfl, sz (by show 2 ≤ _; decide), fun t1 nt1 => ?_⟩
      obtain ⟨H1, e1, s1, ht1⟩ := new_tup nt1 [V.int 1, .int 3]
      rw [e1]
      refine ⟨t1, _, rfl, .inr (.inl (.inl ht1)), rfl, rfl, ?_⟩
      rw [if_neg Bool.false_ne_true, eB]
      refine ⟨_, rfl, ?_⟩
      cases b with
      | false =>
        refine iteN rfl (iteN rfl ?_)
        exact hD' _ _ ⟨rfl, s1, fun z => Bool.noConfusion z.1⟩
      | true =>
        refine iteY rfl ?_
        refine ⟨.ref t, rfl, t, _, rfl, .inr (same_seqT s1 hT), fun l2 nl2 _ => ?_⟩
        obtain ⟨H2, e2, s2, hl2⟩ := new_lst nl2 (ns.map V.int)
        rw [e2]
        have s12 := s1.trans s2
        refine ⟨l2, ns, rfl, lstI_of hl2, .ref t, rfl, t, _, rfl, .inr (same_seqT s12 hT), _, _, rfl, rfl, _, rfl, ?_⟩
        rw [ln]
        by_cases c : SupX.balL ns ≤ 0
        · refine iteY (decide_eq_true (show (ns.length : Int) ≤ ns.sum from by
            have c' : (ns.length : Int) - ns.sum ≤ 0 := c
            omega)) ?_
          refine ⟨.ref t, rfl, t, _, rfl, .inr (same_seqT s12 hT), .ref t, rfl, t, _, rfl, .inr (same_seqT s12 hT), fun l3 nl3 _ => ?_⟩
          obtain ⟨H3, e3, s3, hl3⟩ := new_lst nl3 (ns.map V.int)
          rw [e3]
          refine ⟨l3, ns, rfl, lstI_of hl3, _, _, rfl, rfl, sz (by show 2 ≤ _; decide), fun p np mp => ?_⟩
          rw [ln]
          obtain ⟨H4, e4, s4, hp⟩ := new_lst np [V.str "NoBalance", .int ((ns.length : Int) - ns.sum)]
          rw [hrt, e4]
          have s14 := s12.trans (s3.trans s4)
          refine q H4 p _ s14 ((s12.trans s3).free np) hp mp ?_
          show DqAll false K H4 _ (outR true l ns)
          unfold outR
          rw [if_pos ⟨rfl, c⟩]
          exact .cons (.str _) (.cons (.int _) .nil)
        · refine iteN (decide_eq_false (fun z => c (by show (ns.length : Int) - ns.sum ≤ 0; omega))) ?_
          exact hD' _ _ ⟨rfl, s12, fun z => c z.2⟩
    · rintro σ H2 ⟨rfl, s2, hb⟩
      dsimp only
      refine ⟨.ref t, rfl, .ref t, rfl, t, ns, rfl, same_seqT s2 hT, rg.2.1, fun H3 bl s3 nbl hbl => ⟨bl, _, rfl, .inl ⟨lstI_of hbl, fun tb ntb => ?_⟩⟩⟩
      obtain ⟨H4, e4, s4, htb⟩ := new_tup ntb ((ofN (bgn ns)).map V.int)
      rw [e4]
      refine ⟨sz (by show 0 ≤ _; decide), fun t0 nt0 => ?_⟩
      obtain ⟨H5, e5, s5, ht0⟩ := new_tup nt0 []
      rw [e5]
      refine ⟨.ref t, rfl, sz (by show 2 ≤ _; decide), fun tp ntp => ?_⟩
      obtain ⟨H6, e6, s6, htp⟩ := new_tup ntp [V.int 0, .ref t]
      rw [e6]
      refine ⟨sz (by show 1 ≤ _; decide), fun lw nlw mlw => ?_⟩
      obtain ⟨H7, e7, s7, hlw⟩ := new_lst nlw [V.ref tp]
      rw [e7]
      refine ⟨_, rfl, sz (by show 2 ≤ _; decide), fun t3 nt3 => ?_⟩
      obtain ⟨H8, e8, s8, ht3⟩ := new_tup nt3 [V.int 1, .int 3]
      rw [e8]
      refine ⟨t3, _, rfl, .inr (.inl (.inl ht3)), rfl, rfl, ?_⟩
      rw [if_neg Bool.false_ne_true, eB]
      refine ⟨_, rfl, sz (by show 2 ≤ _; decide), fun t4 nt4 => ?_⟩
      obtain ⟨H9, e9, s9, ht4⟩ := new_tup nt4 [V.int 2, .int 3]
      rw [e9]
      refine ⟨t4, _, rfl, .inr (.inl (.inl ht4)), rfl, rfl, ?_⟩
      rw [if_neg Bool.false_ne_true, eL]
      refine ⟨sz (by show 3 ≤ _; decide), fun kl nkl mkl => ?_⟩
      obtain ⟨H10, e10, s10, hkl⟩ := new_lst nkl [V.bl true, .bl b, .bl l]
      rw [e10]
      refine ⟨sz (by show 7 ≤ _; decide), fun p np mp => ?_⟩
      obtain ⟨H11, e11, s11, hp⟩ := new_lst np [V.ref t, .int 0, .ref tb, .non, .ref t0, .ref lw, .ref kl]
      rw [e11]
      have s711 := s8.trans (s9.trans (s10.trans s11))
      have s611 := s7.trans s711
      have s411 := s5.trans (s6.trans s611)
      have s2a := s3.trans (s4.trans (s5.trans (s6.trans (s7.trans (s8.trans (s9.trans s10))))))
      have s11' := (s2.trans s2a).trans s11
      refine q H11 p _ s11' ((s2.trans s2a).free np) hp mp ?_
      unfold outR
      rw [if_neg hb]
      have hT11 := same_seqT s11' hT
      refine .cons (dt_rg hT11).dq (.cons (.int _) (.cons (dt_rg (.inl (.inl (s411 _ _ htb)))).dq (.cons .non (.cons (.tup (.inl (.inl ((s6.trans s611) _ _ ht0))) .nil) (.cons ?_ (.cons ?_ .nil))))))
      · exact .lst (lstI_of (s711 _ _ hlw)) (fun z => nomatch z) (.cons (.tup (.inl (.inl (s611 _ _ htp))) (.cons (.int _) (.cons (dt_rg hT11).dq .nil))) .nil)
      · exact .lst (lstI_of (s11 _ _ hkl)) (fun z => nomatch z) (.cons (.bl _) (.cons (.bl _) (.cons (.bl _) .nil)))
-- @@ _law_parsed
def spParsed (K : PySem.W.Frag) : Sp := fun vs H Q _ => ∃ (v : V) (d : PyData), vs = [v] ∧ Dq true K H v d ∧ (∀ x, v = .str x → x.length ≤ 100000) ∧
  (∀ ns : List Int, resD d = .list [.str "ring", .tuple (ns.map PyData.int)] → ∀ H' t, Same H H' → TupI K H' t ns → Q (.ref t) H') ∧
  (∀ o : Option Nat, resD d = .list [.str "BadText", optD o] → ∀ H' p, Same H H' → H' p = some (.lst [optV o]) → Q (.ref p) H')
theorem ok__law_parsed (T : Tx K mg) : Ok P w K mg base CX0 2 "_law_parsed" ["_law_text"] (spParsed K) := by
  refine ok_of T.F__law_parsed T.g__law_parsed sc__law_parsed (fun _ _ _ _ _ _ us hl => match us, hl with | [_], _ => rfl) (fun vs H Q E h => ?_) (fun cdv A outer s H vs Q E hr h => ?_)
  · obtain ⟨v, d, rfl, _⟩ := h
    rfl
  · obtain ⟨v, d, rfl, dq, hx, q, q2⟩ := h
    refine ⟨_, (pss_cons (ps_if (pt_not (pt_val (pe_callB call_isi (by rfl) T.f_isinstance boot_isinstance (pa_cons (pv 0) (pa_cons (pe_bltn (v := .ty "str") (by rfl) T.f_str boot_str rfl) pa_nil))))) (pss_one (ps_ret (pe_lst' (pa_cons pe_non pa_nil)))) pss_nil)
    (pss_cons (ps_set (i := 1) sc__law_parsed.nd rfl (.inl rfl) (pe_tup pa_nil))
    (pss_cons (ps_for PassesOwn.never rfl (pi_enum (by rfl) T.f_enumerate (pa_cons (pe_split (pv 0) pe_str) pa_nil)) (pg_tup rfl (pgs_cons (pg_name (i := 2) sc__law_parsed.nd rfl (.inl rfl)) (pgs_cons (pg_name (i := 3) sc__law_parsed.nd rfl (.inl rfl)) pgs_nil)))
    (pss_cons (ps_if (PW.pt (pw_or (pt_cmpR op_notIn_seq (pv 3) (pe_lst' (pa_cons pe_str (pa_cons pe_str (pa_cons pe_str (pa_cons pe_str (pa_cons pe_str (pa_cons pe_str pa_nil))))))) rfl) (pw_or1 (pt_cmpR op_gt (pv 2) pe_int (nomark _))))) (pss_one (ps_ret (pe_lst' (pa_cons (pv 2) pa_nil)))) pss_nil)
    (pss_one (ps_set (i := 1) sc__law_parsed.nd rfl (.inl rfl) (pe_op op_catA (pv 1) (pe_tup (pa_cons (pe_callTy call_int_str (by rfl) T.f_int boot_int (pa_cons (pv 3) pa_nil)) pa_nil)))))))
    (pss_one (ps_ret (pv 1)))))), ?_⟩
    obtain ⟨ty, k1, k2⟩ := dq_str? dq
    refine ⟨_, rfl, v, .ty "str", ty, _, _, rfl, .ty _, k1, k2, _, rfl, ?_⟩
    cases c : isStrD d with
    | false =>
      exact iteY rfl ⟨sz (by show 1 ≤ _; decide), fun l nl ml => q2 none (resD_no c) _ l (same_upd nl) upd_same⟩
    | true =>
    refine iteN rfl ?_
    obtain ⟨x, rfl⟩ : ∃ x, d = .str x := by
      cases d with
      | str x => exact ⟨x, rfl⟩
      | _ => cases c
    obtain rfl : v = .str x := by
      cases dq
      rfl
    have hxl := hx x rfl
    refine ⟨sz (Nat.zero_le _), fun t0 nt0 => ?_⟩
    have s1 := same_upd (o := .tup []) nt0
    have ht1 : TupI K (upd H t0 (.tup [])) t0 [] := tupI_of upd_same
    revert s1 ht1
    generalize (upd H t0 (.tup [])) = H1
    intro s1 ht1
    refine ⟨_, rfl, ⟨_, rfl⟩, _, _, rfl, rfl, rfl, sz (by omega), fun p np => ?_⟩
    have e0 : resD (.str x) = resW 0 (Txt.split x " ") [] := rfl
    generalize hws : Txt.split x " " = ws at e0
    have s2 := s1.trans (same_upd (o := .lst (ws.map V.str)) np)
    have ht2 := same_seqT (same_upd (o := .lst (ws.map V.str)) np) ht1
    have hp2 := upd_same (H := H1) (a := p) (o := .lst (ws.map V.str))
    revert s2 ht2 hp2
    generalize (upd H1 p (.lst (ws.map V.str))) = H2
    intro s2 ht2 hp2
    refine ⟨p, _, rfl, lstI_of hp2, ?_⟩
    refine for_enumL (xs := ws.map V.str) (fun k σ H9 => ∃ y2 y3 acc t, σ = [some (.str x), some (.ref t), y2, y3] ∧ Same H2 H9 ∧ TupI K H9 t acc ∧ resD (.str x) = resW k (ws.drop k) acc ∧ acc.length ≤ k ∧ k ≤ 24) ⟨_, _, [], t0, rfl, Same.refl _, ht2, e0, Nat.le_refl _, by decide⟩ ?_ ?_ ?_
    · rintro k σ H9 _ ⟨_, _, _, _, rfl, s9, _⟩
      exact lstI_of (s9 _ _ hp2)
    · rintro k x' σ H9 Tp hx' ⟨y2, y3, acc, t, rfl, s9, ht9, er9, hal, hk24⟩ nT
      obtain ⟨w', hi, rfl⟩ : ∃ w', ws[k]? = some w' ∧ x' = .str w' := by
        rw [List.getElem?_map] at hx'
        cases e : ws[k]? with
        | none =>
          rw [e] at hx'
          cases hx'
        | some i =>
          rw [e] at hx'
          cases hx'
          exact ⟨i, rfl, rfl⟩
      have hkl : k < ws.length := (List.getElem?_eq_some_iff.mp hi).1
      have edr : ws.drop k = w' :: ws.drop (k + 1) := by
        rw [List.drop_eq_getElem_cons hkl, (List.getElem?_eq_some_iff.mp hi).2]
      rw [edr] at er9
      have s10 := s9.trans (same_upd (o := .tup [.int (k : Nat), .str w']) nT)
      have hTp := upd_same (H := H9) (a := Tp) (o := .tup [.int (k : Nat), .str w'])
      have ht10 := same_seqT (same_upd (o := .tup [.int (k : Nat), .str w']) nT) ht9
      revert s10 hTp ht10
      generalize (upd H9 Tp (.tup [.int (k : Nat), .str w'])) = H10
      intro s10 hTp ht10
      refine ⟨Tp, _, rfl, .inl (.inl hTp), rfl, _, _, rfl, _, _, rfl, rfl, ?_⟩
      refine ⟨.str w', rfl, sz (by show 6 ≤ _; decide), fun l nl ml => ?_⟩
      have s11 := s10.trans (same_upd (o := .lst [.str "0", .str "1", .str "2", .str "3", .str "4", .str "5"]) nl)
      have ht11 := same_seqT (same_upd (o := .lst [.str "0", .str "1", .str "2", .str "3", .str "4", .str "5"]) nl) ht10
      have hl11 := upd_same (H := H10) (a := l) (o := .lst [.str "0", .str "1", .str "2", .str "3", .str "4", .str "5"])
      revert s11 ht11 hl11
      generalize (upd H10 l (.lst [.str "0", .str "1", .str "2", .str "3", .str "4", .str "5"])) = H11
      intro s11 ht11 hl11
      refine ⟨l, _, rfl, .inl (lstI_of hl11), rfl, rfl, ?_⟩
      rw [if_pos rfl, inV_six]
      have bad : badW k w' = true → ∀ l, H11 l = none → l ≠ sysModules → Q (.ref l) (upd H11 l (.lst [.int (k : Int)])) := fun hb l nl ml => by
        rw [resW_bad hb] at er9
        exact q2 (some k) er9 _ l (s2.trans (s11.trans (same_upd nl))) upd_same
      cases etk : tokW w' with
      | none =>
        refine ⟨_, rfl, iteY rfl (iteY rfl ⟨_, rfl, sz (by show 1 ≤ _; decide), bad ?_⟩)⟩
        unfold badW
        rw [etk]
        exact Bool.or_true _
      | some i =>
        obtain ⟨hi6, ew⟩ := tokW_some etk
        refine ⟨_, rfl, iteN rfl ⟨_, rfl, _, _, rfl, rfl, _, rfl, ?_⟩⟩
        by_cases c24 : (23 : Int) < (k : Int)
        · refine iteY (decide_eq_true c24) ⟨_, rfl, sz (by show 1 ≤ _; decide), bad ?_⟩
          unfold badW
          rw [decide_eq_true (by omega)]
          rfl
        refine iteN (decide_eq_false c24) ?_
        have hb : badW k w' = false := by
          unfold badW
          rw [etk, decide_eq_false (by omega)]
          rfl
        refine ⟨.ref t, rfl, .str w', rfl, w', (i : Int), rfl, by rw [ew]; exact intT i hi6, by rw [ew]; exact Nat.le_trans (txI_len (by omega)) (by decide), sz (by show 1 ≤ _; decide), fun e ne => ?_⟩
        refine catT (same_seqT (same_upd ne) ht11) (.inl (.inl upd_same)) (by rw [List.length_map]; show _ + 1 ≤ _; omega) fun H12 t2 s12 ht12 => ?_
        refine ⟨_, _, acc ++ [(i : Int)], t2, rfl, s11.trans ((same_upd ne).trans s12), ?_, ?_, by rw [List.length_append]; show _ + 1 ≤ _; omega, by omega⟩
        · show SqT K H12 t2 ((acc ++ [(i : Int)]).map V.int)
          rw [List.map_append]
          exact ht12
        · rw [er9, resW_go hb etk]
    · rintro σ H9 ⟨y2, y3, acc, t, rfl, s9, ht9, er9, _⟩
      have en : ws.drop (ws.map V.str).length = [] := by rw [List.length_map, List.drop_length]
      rw [en] at er9
      exact ⟨.ref t, rfl, q acc er9 _ t (s2.trans s9) ht9⟩
-- @@ _law_is_edit
def spLawIsEd (K : PySem.W.Frag) : Sp := fun vs H Q _ => ∃ (v : V) (b : Bool), vs = [v] ∧ EdIs K H v b ∧ ∀ H', Same H H' → Q (.bl b) H'
theorem ok__law_is_edit (T : Tx K mg) : Ok P w K mg base CX0 3 "_law_is_edit" ["_law_value"] (spLawIsEd K) := by
  refine ok_of T.F__law_is_edit T.g__law_is_edit sc__law_is_edit (fun _ _ _ _ _ _ us hl => match us, hl with | [_], _ => rfl) (fun vs H Q E h => ?_) (fun cdv A outer s H vs Q E hr h => ?_)
  · obtain ⟨v, b, rfl, _⟩ := h
    rfl
  · obtain ⟨v, b, rfl, he, q⟩ := h
    refine ⟨_, (pss_cons (ps_if (PW.pt (pw_or (pt_not (pt_val (pe_callB call_isi (by rfl) T.f_isinstance boot_isinstance (pa_cons (pv 0) (pa_cons (pe_bltn (v := .ty "tuple") (by rfl) T.f_tuple boot_tuple rfl) pa_nil))))) (pw_or (pt_cmpR (op_eqE (Nat.lt_of_le_of_lt (Nat.le_add_right _ 64) hr.units)) (pv 0) (pe_tup pa_nil) (nomark _)) (pw_or1 (pt_not (pt_val (pe_callB call_isi (by rfl) T.f_isinstance boot_isinstance (pa_cons (pe_ix ix_tup (pv 0) pe_int (fun _ _ => rfl)) (pa_cons (pe_bltn (v := .ty "str") (by rfl) T.f_str boot_str rfl) pa_nil))))))))) (pss_one (ps_ret pe_bl)) pss_nil)
    (pss_one (ps_ret (pe_or (pe_and (pe_cmpR op_in_seq (pe_ix ix_tup (pv 0) pe_int (fun _ _ => rfl)) (pe_lst' (pa_cons pe_str (pa_cons pe_str pa_nil))) rfl) (pe_one (pe_cmpR op_eq (pe_callB call_len_seq (by rfl) T.f_len PySem.boot_len (pa_cons (pv 0) pa_nil)) pe_int (nomark _)))) (pe_one (pe_and (pe_cmpR op_eq (pe_ix ix_tup (pv 0) pe_int (fun _ _ => rfl)) pe_str (nomark _)) (pe_one (pe_cmpR op_eq (pe_callB call_len_seq (by rfl) T.f_len PySem.boot_len (pa_cons (pv 0) pa_nil)) pe_int (nomark _))))))))), ?_⟩
    rcases he with ⟨t, ty, kt, rfl⟩ | ⟨a, xs, rfl, ty, hT, hl, hf, rfl⟩
    · refine ⟨_, rfl, v, .ty "tuple", t, _, _, rfl, .ty _, ty, kt, _, rfl, ?_⟩
      exact iteY rfl (iteY rfl (q H (Same.refl H)))
    · refine ⟨_, rfl, .ref a, .ty "tuple", _, _, _, rfl, .ty _, ty, kit_ty (a := "tuple") (b := "tuple") (r := true) (by decide +kernel), _, rfl, iteN rfl ?_⟩
      refine ⟨.ref a, rfl, sz (by show 0 ≤ _; decide), fun t0 nt0 => ?_⟩
      obtain ⟨H1, e1, s1, ht0⟩ := new_tup nt0 []
      rw [e1]
      have hT1 := same_seqT s1 hT
      refine ⟨a, t0, xs, rfl, rfl, hT1, .inl (.inl ht0), _, rfl, ?_⟩
      cases xs with
      | nil => exact iteY rfl (iteY rfl (q H1 s1))
      | cons w ys =>
        refine iteN (decide_eq_false (by rw [List.length_cons]; omega)) ?_
        obtain ⟨_, tw, tyw, kw⟩ := hf w rfl
        refine ⟨.ref a, rfl, a, _, _, w, rfl, rfl, hT1, atI_nat (j := 0) rfl, ?_⟩
        refine ⟨w, .ty "str", tw, _, _, rfl, .ty _, tyX_same s1 tyw, kw, _, rfl, ?_⟩
        have non : isStrV w = false → edB (w :: ys) = false := fun h => by
          cases w with
          | str z => cases h
          | _ => rfl
        cases hw : isStrV w with
        | false =>
          rw [non hw] at q
          exact iteY rfl (q H1 s1)
        | true =>
          obtain ⟨z, rfl⟩ : ∃ z, w = .str z := by
            cases w with
            | str z => exact ⟨z, rfl⟩
            | _ => cases hw
          refine iteN rfl ?_
          refine ⟨.ref a, rfl, a, _, _, _, rfl, rfl, hT1, atI_nat (j := 0) rfl, sz (by show 2 ≤ _; decide), fun l nl _ => ?_⟩
          obtain ⟨H2, e2, s2, hl2⟩ := new_lst nl [V.str "put", .str "insert"]
          rw [e2]
          refine ⟨l, _, rfl, .inl (lstI_of hl2), rfl, rfl, ?_⟩
          rw [if_neg Bool.false_ne_true]
          have lenC : ∀ n : Nat, decide (V.int (((V.str z :: ys).length : Nat) : Int) = V.int ((n + 1 : Nat) : Int)) = decide (ys.length = n) := fun n => decide_eq_decide.mpr ⟨fun h => by
            have := V.int.inj h
            rw [List.length_cons] at this
            omega, fun h => by rw [List.length_cons, h]⟩
          have hT2 := same_seqT s2 hT1
          have s12 := s1.trans s2
          by_cases c1 : z = "put" ∨ z = "insert"
          · have ei : inV (.str z) [V.str "put", .str "insert"] = true := by
              rcases c1 with rfl | rfl <;> decide +kernel
            rw [ei]
            refine ⟨_, rfl, iteY rfl ?_⟩
            refine ⟨.ref a, rfl, a, _, rfl, .inr hT2, rfl, _, rfl, ?_⟩
            have ee : edB (.str z :: ys) = decide (ys.length = 2) := by
              rcases c1 with rfl | rfl <;> rfl
            rw [ee] at q
            have e3 := lenC 2
            have e3 : decide (V.int (((V.str z :: ys).length : Nat) : Int) = V.int 3) = decide (ys.length = 2) := e3
            rw [e3]
            cases c2 : decide (ys.length = 2) with
            | true =>
              rw [c2] at q
              exact iteY rfl (q H2 s12)
            | false =>
              rw [c2] at q
              refine iteN rfl ?_
              refine ⟨.ref a, rfl, a, _, _, _, rfl, rfl, hT2, atI_nat (j := 0) rfl, rfl, _, rfl, iteN ?_ (q H2 s12)⟩
              rcases c1 with rfl | rfl <;> decide +kernel
          · have ei : inV (.str z) [V.str "put", .str "insert"] = false := by
              cases h : inV (.str z) [V.str "put", .str "insert"] with
              | false => rfl
              | true =>
                have h : ((("put" : Str) == z) || ((("insert" : Str) == z) || false)) = true := h
                rw [Bool.or_false, Bool.or_eq_true, beq_iff_eq, beq_iff_eq] at h
                exact absurd (h.imp Eq.symm Eq.symm) c1
            rw [ei]
            refine ⟨_, rfl, iteN rfl ?_⟩
            refine ⟨_, rfl, iteN rfl ?_⟩
            refine ⟨.ref a, rfl, a, _, _, _, rfl, rfl, hT2, atI_nat (j := 0) rfl, rfl, _, rfl, ?_⟩
            by_cases c3 : z = "remove"
            · subst c3
              refine iteY (decide_eq_true rfl) ?_
              refine ⟨.ref a, rfl, a, _, rfl, .inr hT2, rfl, ?_⟩
              have e2 : decide (V.int (((V.str "remove" :: ys).length : Nat) : Int) = V.int 2) = decide (ys.length = 1) := lenC 1
              rw [e2]
              exact q H2 s12
            · refine iteN (decide_eq_false fun h => c3 (V.str.inj h)) ?_
              have ee : edB (.str z :: ys) = false := by
                show (if V.str z = .str "remove" then decide (ys.length = 1) else if V.str z = .str "put" ∨ V.str z = .str "insert" then decide (ys.length = 2) else false) = false
                rw [if_neg (fun h => c3 (V.str.inj h)), if_neg (fun h => c1 (h.imp V.str.inj V.str.inj))]
              rw [ee] at q
              exact q H2 s12
end
end K62
namespace K62
open PySem PySem.Spec PyProof.Rows My
open L2 hiding TupI
section
variable {w : World} {K : PySem.W.Frag} {mg : Str → Option Value} {base : Heap}
-- level 60
-- guards
-- clsm
-- static
-- owneq
-- super
-- bound 12000
-- interp
-- also x 02 29 38 39 40 q r 68 67 S W 60 61
-- hot check_place check_gap check_arity put_token insert_token with_token without_token edited Reel_check_result ReadyReel_check_result Reel_do_edit
-- plain turned heights need is_beginning beginnings
-- after _law_made:LoggedReadyReel_init Reel_read:_law_made
-- hookq value,limit,error,index,balance
-- errs TooLong,LastToken,NoPlace,NoArity,TooManyEdits,NothingToUndo,Busy,BadRing,NoBeginning,NoBalance,BadEdit,BadEdits,Rejected,BadText
-- types .:rings=tup .:done=tup .:starts=tup .:chosen=any .:busy=bool .:rings[]=tup .:ring=tup .:version=int .:beginnings=tup .:edits()=tup check_place:raises=1 check_gap:raises=1 check_arity:raises=1 put_token:raises=1 put_token:ring=tup ->:put_token=tup insert_token:raises=1 insert_token:ring=tup ->:insert_token=tup with_arity:ring=tup ->:with_arity=tup with_token:raises=1 with_token:ring=tup ->:with_token=tup without_token:raises=1 without_token:ring=tup ->:without_token=tup edited:raises=1 edited:ring=tup edited:edit=tup edited:edit[0]=str edited:edit[]=any ->:edited=tup ring_error:value=tup Reel_init:raises=1 __init__:raises=1 Reel_init:ring=tup Reel_check_idle:raises=1 Reel_do_edit:raises=1 Reel_do_edit:ring=tup Reel_do_edit:edit=tup Reel_put:raises=1 Reel_insert:raises=1 Reel_remove:raises=1 Reel_undo:raises=1 Reel_settle:ring=tup Reel_ring:self.rings[]=tup Reel_settle:self.rings[]=tup Reel_do_edit:self.rings[]=tup Reel_str:self.rings[]=tup _law_name:_law_names=list _law_name:_law_flags=list _law_name:_law_bases=list _law_apply:raises=1 _law_apply:_law_reel=obj:Reel _law_apply:_law_edit_here=tup _law_did:_law_reel=obj:Reel _law_due:_law_ring_here=tup _law_seen:_law_reel=obj:Reel _law_due_seen:_law_done=list _law_due_seen:_law_numbers=list _law_due_seen:_law_numbers[]=str _law_due_seen:_law_text=str _law_edit:_law_ring_here=tup _law_seen:G=1 _law_due_seen:G=1 _law_went:_law_reel=obj:Reel _law_went:_law_rings=list _law_went:_law_rings[]=tup _law_went:_law_done=list _law_went:_law_edit_here=tup _law_went:_law_due_here=list _law_went:_law_due_here[1]=tup _law_went:G=1 _law_went:E=1 _law_went:'=1 _law_did:'=1 _law_due:'=1 .:start=any Reel_start_set:raises=1 start:raises=1 Reel_start_set:value=any Reel_choose:raises=1 Reel_choose:value=any Reel_choose:before=any _law_bent_edit:_law_edit_here=tup _law_started:_law_reel=obj:Reel _law_started:_law_value=any _law_started:'=1 ->:_law_values_right=list Reel_is_edit:value=any ->:is_edit=bool Reel_is_edit:arguments=int Reel_checked_batch:raises=1 Reel_checked_batch:edits=any Reel_checked_batch:batch=tup Reel_checked_batch:item=any checked_batch:raises=1 do_step:raises=1 do_edit:raises=1 Reel_do_step:raises=1 Reel_do_step:edit=tup Reel_run:raises=1 Reel_run:nostep=1 Reel_run:edits=any Reel_run:batch=tup Reel_run:rings=tup Reel_run:done=tup Reel_run:starts=tup Reel_run:chosen=any Reel_run:version=any Reel_run:on_step=any ->:checked_batch=tup _law_ran:_law_reel=obj:Reel ->:_law_rest=list ->:_law_batch=list ->:_law_seen=str ->:_law_begins=list Reel_ring_at:raises=1 _law_ran:_law_edits=any ->:_law_all=list ->:_law_again=obj:Reel ->:_law_did=list ->:_law_ran=list Reel_check_result:raises=1 ReadyReel_check_result:raises=1 ReadyReel_init:raises=1 LoggedReel_init:raises=1 LoggedReadyReel_init:raises=1 LoggedReel_put:raises=1 LoggedReel_insert:raises=1 LoggedReel_remove:raises=1 LoggedReel_undo:raises=1 LoggedReel_run:raises=1 .:calls=tup .:log=tup Reel_eq:self.rings[]=tup Reel_eq:other.rings[]=tup Reel_eq:other=obj:Reel ->:_law_first_errors=list ->:_law_dues=list ->:_law_call=list ->:_law_some_call=tup ->:_law_balanced=tup ->:_law_made=obj:Reel ->:_law_ring=tup ->:_law_edit=tup ->:_law_bent_edit=tup Reel_like:cls=cls:Reel Reel_copy:self.rings[]=tup Reel_copy:other=obj:Reel LoggedReel_copy:other=obj:LoggedReel .:like()=obj:Reel .:copy()=obj:Reel _law_ran:'=1 ->:_law_safe_edit=tup _law_begins:_law_ring_here=tup Reel_read:raises=1 read:raises=1 Reel_read:cls=cls:Reel parse_ring:raises=1 parse_ring:text=str parse_ring:arities=dict parse_ring:tokens=list ->:parse_ring=tup _law_made:raises=1 _law_read:raises=1 ->:_law_read=obj:Reel _law_found:_law_reel=obj:Reel _law_found:fam=1 _law_found:'=1 _law_reason:_law_value=tup _law_reason:_law_wrong=list _law_reason:'=1 _law_reason:E=1 ->:_law_due=list _law_parsed:_law_text=str _law_parsed:_law_found_here=tup _law_parsed:_law_word=str _law_parsed:'=1 _law_is_edit:_law_value=tup _law_is_edit:'=1 law:fam=1 law:'=1 law:G=1 law:_law_ring_here=tup law:_law_values=list law:_law_text=str law:_law_texts=list law:_law_due_here=list law:_law_words=list law:_law_words[]=any law:_law_reel=obj:Reel law:_law_found_here=list ->:_law_found=list
-- mine My0 My1 My2 My3 My4 My5 My6 My7 My8 My9 MyA MyB MyC MyD MyE MyF MyG MyH MyI MyJ MyK MyL MyM MyN MyO MyP MyQ MyR MyS MyT MyU MyV MyX MyY MyZ Mya Myb Myc Myd Mye Myf Myg Myh Myi Myj Myk Myl Mym Myn Myo Myp Myq Myr Mys Myt Myu Myv Myw Myx Myy Myz Myz1 Myz2 Myz3 Myz4 Myz5 Myz6 Myz7 Myz8 Myz9 Myza Myzb Myzc Myzd Myze Myzf Myzg Myzh Myzi Myzj Myzk Myzl Myzm Myzn Myzo Myzp Myzq Myzr Myzs Myzt Myzu Myzv Myzw Myzx Myzy Myzz Myzz1 Myzz2 Myzz3 Myzz4 Myzz5 Myzz6 Myzz7 Myzz8 Myzz9 Myzza Myzzb Myzzc Myzzd Myzze Myzzf Myzzg Myzzh Myzzi Myzzj Myzzk Myzzl Myzzm Myzzn Myzzo Myzzp Myzzq Myzzr Myzzs Myzzt Myzzu Myzzv
theorem jin_mk {K : PySem.W.Frag} {H : Hp} {v : V} {d : PyData} (h : JIn K H v d) : ∃ m, MkIs K H v false m ∧ ((isNd d = false ∧ m = .bad d) ∨ (isNd d = true ∧ ∃ t ns, v = .ref t ∧ TupI K H t ns ∧ Ring ns ∧ m = .ring ns)) := by
  cases hn : isNd d with
  | false => exact ⟨.bad d, ⟨rfl, h, hn⟩, .inl ⟨rfl, rfl⟩⟩
  | true =>
    obtain ⟨t, ns, rfl, hT, rg⟩ := jin_ring h hn
    exact ⟨.ring ns, ⟨rg, .inl ⟨rfl, t, rfl, hT⟩⟩, .inr ⟨rfl, t, ns, rfl, hT, rg, rfl⟩⟩
theorem mk_same {K : PySem.W.Frag} {H H' : Hp} {v : V} {tx : Bool} {m : Mk} (h : MkIs K H v tx m) (s : Same H H') : MkIs K H' v tx m := by
  cases m with
  | bad d => exact ⟨h.1, jin_same h.2.1 s, h.2.2⟩
  | ring ns =>
    obtain ⟨rg, ⟨e, t, rfl, hT⟩ | ⟨e, d, hd, hx, e2⟩⟩ := h
    · exact ⟨rg, .inl ⟨e, t, rfl, same_seqT s hT⟩⟩
    · exact ⟨rg, .inr ⟨e, d, Dq.same s hd, hx, e2⟩⟩
  | text o =>
    obtain ⟨e, d, hd, hx, e2⟩ := h
    exact ⟨e, d, Dq.same s hd, hx, e2⟩
theorem ring_sum {ns : List Int} (h : ∀ x ∈ ns, 0 ≤ x ∧ x ≤ 5) : 0 ≤ ns.sum ∧ ns.sum ≤ 5 * (ns.length : Int) := by
  induction ns with
  | nil => exact ⟨Int.le_refl _, by decide⟩
  | cons x ns ih =>
    obtain ⟨h1, h2⟩ := ih fun y hy => h y (List.mem_cons_of_mem _ hy)
    have hx := h x List.mem_cons_self
    rw [List.sum_cons, List.length_cons]
    exact ⟨by omega, by omega⟩
theorem fit_ringD {ns : List Int} (rg : Ring ns) : Fit 24 5 (rgD ns) := fit_rg rg.2.1 fun x hx => ⟨(rg.2.2 x hx).1, by have := (rg.2.2 x hx).2; omega⟩
theorem fit_outR {b l : Bool} {ns : List Int} (rg : Ring ns) : Fit 100000 50 (.list (outR b l ns)) := by
  obtain ⟨h1, h2⟩ := ring_sum rg.2.2
  have h3 := rg.2.1
  unfold outR
  split
  · have fb : Fit 10 0 (.int (SupX.balL ns)) := (fit_int 0 0 (small30 (show -1000000 ≤ (ns.length : Int) - ns.sum from by omega) (show (ns.length : Int) - ns.sum ≤ 1000000 from by omega))).mono (by decide) (by decide)
    have fs : Fit 20 0 (.str "NoBalance") := sok_fit (sok_of (by decide +kernel))
    exact (fit_list (fitAll_cons fs (fitAll_cons fb (fitAll_nil 0 0)))).mono (by decide) (by decide)
  · have f1 := (fit_ringD rg).mono (show 24 ≤ 100 by decide) (show 5 ≤ 9 by decide)
    have f2 : Fit 100 9 (rgD (ofN (bgn ns))) := by
      refine (fit_tuple (fitAll_ints (ofN (bgn ns)) 0 (ofN_small (n := ns.length) (fun p hp => List.mem_range.mp (List.mem_filter.mp hp).1) (by omega)))).mono ?_ (by decide)
      rw [ofN_len]
      have : (bgn ns).length ≤ ns.length := Nat.le_trans (List.length_filter_le _ _) (by rw [List.length_range]; exact Nat.le_refl _)
      omega
    have f3 : Fit 100 9 (.tuple []) := (fit_tuple (fitAll_nil 0 0)).mono (by decide) (by decide)
    have f4 : Fit 200 9 (.list [.tuple [.int 0, rgD ns]]) := (fit_list (fitAll_cons (fit_tuple (fitAll_cons (fit_int 0 5 (by decide)) (fitAll_cons (fit_ringD rg) (fitAll_nil 0 5)))) (fitAll_nil 0 6))).mono (by decide) (by decide)
    have f5 : Fit 100 9 (.list [.bool true, .bool b, .bool l]) := (fit_list (fitAll_cons (fit_bool 0 0 true) (fitAll_cons (fit_bool 0 0 b) (fitAll_cons (fit_bool 0 0 l) (fitAll_nil 0 0))))).mono (by decide) (by decide)
    exact (fit_list (fitAll_cons f1 (fitAll_cons (fit_int 0 9 (by decide)) (fitAll_cons f2 (fitAll_cons (fit_none 0 9) (fitAll_cons f3 (fitAll_cons f4 (fitAll_cons f5 (fitAll_nil 0 9))))))))).mono (by decide) (by decide)
theorem fit_bad {K : PySem.W.Frag} {H : Hp} {v : V} {d : PyData} (h : JIn K H v d) (hn : isNd d = false) : Fit 300 20 d := by
  have two : ∀ {u : PyData} {x : Str}, Fit 10 10 u → Fit 100 10 (.str x) → Fit 300 20 (.tuple [u, .str x]) := fun {u x} fu fx => (fit_tuple (fitAll_cons fu (fitAll_cons fx (fitAll_nil 0 10)))).mono (by decide) (by decide)
  rcases h with ⟨_, rfl⟩ | ⟨p, xs, rfl, hp, hl, hk, rfl⟩
  · exact two ((fit_none 0 10).mono (by decide) (by decide)) (ft_w (.inl rfl))
  · unfold jdT at hn ⊢
    split at hn
    · rename_i hc
      rw [if_pos hc]
      have all : ∀ (xs : List V) (i : Nat), isNd (jdF i xs) = false → ∃ j : Nat, j ≤ i + xs.length ∧ jdF i xs = .tuple [.int (j : Int), .str "arity"] := by
        intro xs
        induction xs with
        | nil => intro i h; cases h
        | cons x xs ih =>
          intro i h
          unfold jdF at h ⊢
          split at h
          · rename_i ha
            obtain ⟨j, hj, e⟩ := ih (i + 1) h
            exact ⟨j, by rw [List.length_cons]; omega, by rw [if_pos ha]; exact e⟩
          · rename_i ha
            exact ⟨i, by omega, if_neg ha⟩
      obtain ⟨j, hj, e⟩ := all xs 0 hn
      rw [e]
      exact two ((fit_int 0 10 (small_nat (by omega))).mono (by decide) (by decide)) (ft_w (.inr (.inr rfl)))
    · rename_i hc
      rw [if_neg hc]
      exact two ((fit_none 0 10).mono (by decide) (by decide)) (ft_w (.inr (.inl rfl)))
theorem fit_outM {K : PySem.W.Frag} {H : Hp} {v : V} {tx b l : Bool} {m : Mk} (h : MkIs K H v tx m) : Fit 100000 50 (.list (outM b l m)) := by
  cases m with
  | bad d =>
    have fs : Fit 20 0 (.str "BadRing") := sok_fit (sok_of (by decide +kernel))
    exact (fit_list (fitAll_cons (fs.mono (Nat.le_refl _) (show 0 ≤ 20 by decide)) (fitAll_cons (fit_bad h.2.1 h.2.2) (fitAll_nil 0 20)))).mono (by decide) (by decide)
  | ring ns => exact fit_outR h.1
  | text o =>
    obtain ⟨_, d, _, _, e⟩ := h
    have f := fit_resD d
    rw [e] at f
    exact f.mono (by decide) (by decide)
def spLaw (K : PySem.W.Frag) : Sp := fun vs H Q _ => ∃ (a : Addr) (ns : List Int), vs = [.ref a] ∧ SqL K H a (ns.map V.int) ∧ ns.length ≤ 63 ∧ ∀ H', Q (.bl true) H'
theorem cs_LR (T : Tx K mg) : CStat K (He.ga K "LoggedReadyReel") "is_edit" (prA K (CR K) "is_edit") (smA K (CR K) "is_edit") := cstat_from (SupX.sam_p T.sp_LoggedReadyReel (by decide)) T.cs_LoggedReadyReel_is_edit
/-- a value that is judged, whatever is laid later -/
def VJ (K : PySem.W.Frag) (H : Hp) (v : V) : Prop := ∃ d, JIn K H v d
theorem VJ.same {K : PySem.W.Frag} {H H' : Hp} {v : V} (h : VJ K H v) (s : Same H H') : VJ K H' v := h.elim fun d h => ⟨d, jin_same h s⟩
theorem vj_tup {K : PySem.W.Frag} {H : Hp} {p : Addr} {xs : List V} (h : SqT K H p xs) (hl : xs.length ≤ 2000) (hk : ∀ x ∈ xs, Kd K H x) : VJ K H (.ref p) := ⟨_, .inr ⟨p, xs, rfl, h, hl, hk, rfl⟩⟩
theorem vj_odd {K : PySem.W.Frag} {S A : Addr} {H : Hp} {v : V} (h : Od2 K S A H v) : VJ K H v := by
  rcases h.2 with ⟨p, xs, rfl, h2, h3, h4⟩ | ⟨_, h3⟩
  · exact vj_tup (.inl (.inl (hid_same S A H _ _ h2))) (by omega) fun x hx => (h4 x hx).kind
  · exact ⟨_, .inl ⟨h3.same (hid_same S A H), rfl⟩⟩
/-- a text or another value that is read -/
def VT (K : PySem.W.Frag) (H : Hp) (v : V) : Prop := ∃ d, Dq true K H v d ∧ ∀ x, v = .str x → x.length ≤ 100000
theorem VT.same {K : PySem.W.Frag} {H H' : Hp} {v : V} (h : VT K H v) (s : Same H H') : VT K H' v := h.elim fun d h => ⟨d, Dq.same s h.1, h.2⟩
theorem vt_str {K : PySem.W.Frag} {H : Hp} {x : Str} (h : x.length ≤ 100000) : VT K H (.str x) := ⟨_, .str x, fun y e => by cases e; exact h⟩
theorem dq_isStr {b : Bool} {K : PySem.W.Frag} {H : Hp} {v : V} {d : PyData} (h : Dq b K H v d) : isStrD d = isStrV v := by cases h <;> rfl
/-- what may stand first in an edit -/
def HdOk (K : PySem.W.Frag) (H : Hp) (w : V) : Prop := (∃ T, SupX.Bv K H w T) ∧ ∃ t, TyX K H w t ∧ PySem.W.kitOne K t (.type "str") = some (isStrV w)
theorem hd_str {K : PySem.W.Frag} {H : Hp} (x : Str) : HdOk K H (.str x) := ⟨⟨_, .str x⟩, _, .base (.str x), kit_ty (a := "str") (b := "str") (r := true) (by decide +kernel)⟩
theorem hd_odd {K : PySem.W.Frag} {S A : Addr} {H : Hp} {v : V} (h : Odd K S A H v) : HdOk K H v := by
  obtain ⟨d, hd, _⟩ := h.data
  obtain ⟨t, h1, h2⟩ := dq_str? hd
  exact ⟨SupX.bv_dq hd, t, h1, by rw [← dq_isStr hd]; exact h2⟩
def EW (K : PySem.W.Frag) (H : Hp) (w : V) : Prop := ∃ b, ∀ H', Same H H' → EdIs K H' w b
theorem EW.same {K : PySem.W.Frag} {H H' : Hp} {w : V} (h : EW K H w) (s : Same H H') : EW K H' w := h.elim fun b h => ⟨b, fun H2 s2 => h H2 (s.trans s2)⟩
theorem ew_tup {K : PySem.W.Frag} {H : Hp} {p : Addr} {xs : List V} (h : H p = some (.tup xs)) (hl : xs.length ≤ 1000) (hw : ∀ H', Same H H' → ∀ w ∈ xs.head?, HdOk K H' w) : EW K H (.ref p) :=
  ⟨_, fun H' s => .inr ⟨p, xs, rfl, .base (.tup (s _ _ h)), .inl (.inl (s _ _ h)), hl, hw H' s, rfl⟩⟩
theorem ew_not {K : PySem.W.Frag} {H : Hp} {v : V} (h : ∀ H', Same H H' → NotT K H' v) : EW K H v := ⟨false, fun H' s => by
  obtain ⟨t, h1, h2⟩ := h H' s
  exact .inl ⟨t, h1, h2, rfl⟩⟩
theorem ew_odd {K : PySem.W.Frag} {S A : Addr} {H : Hp} {v : V} (h : Od2 K S A H v) : EW K H v := by
  rcases h.2 with ⟨p, xs, rfl, h2, h3, h4⟩ | ⟨_, h3⟩
  · refine ew_tup (hid_same S A H _ _ h2) (by omega) fun H' s w hw => ?_
    cases xs with
    | nil => cases hw
    | cons y ys =>
      cases hw
      exact hd_odd ((h4 _ List.mem_cons_self).same s)
  · exact ew_not fun H' s => (h3.same (hid_same S A H)).same s
theorem ok_law (T : Tx K mg) {fd : FuncData} (F : FunD K "law" "law" (defArgs s_law) (defBody s_law) (defScope s_law) [] [] (He.ga K "law") fd) : RunG P w K mg base 60 (He.ga K "law") fd ["_law_script"] (spLaw K) := by
  refine runG_of F sc_law (fun vs H Q E h => ?_) (fun cdv A0 outer s H vs Q E hg hr h => ?_)
  · obtain ⟨a, ns, rfl, _⟩ := h
    rfl
  · obtain ⟨a, ms, rfl, hS, hlen, q⟩ := h
    refine ⟨_, (pss_cons (ps_set (i := 1) sc_law.nd rfl (.inl rfl) (cal (ok__law_stream T) (hr.mono (by decide)) pass0 (pa_cons (pv 0) pa_nil)))
    (pss_cons (ps_for PassesOwn.never rfl (pi_range1 (by rfl) T.f_range (pa_cons pe_int pa_nil)) (pg_name (i := 2) sc_law.nd rfl (.inl rfl))
    (pss_cons (ps_set (i := 3) sc_law.nd rfl (.inl rfl) (cal (ok__law_ring T) (hr.mono (by decide)) pass0 (pa_cons (pv 1) (pa_cons pe_int pa_nil))))
    (pss_cons (ps_par (i := 4) (j := 5) (by rfl) sc_law.nd rfl rfl (by decide) rfl rfl (pa_cons (cal (ok__law_draw T) (hr.mono (by decide)) pass0 (pa_cons (pv 1) (pa_cons (pe_callB call_len_seq (by rfl) T.f_len PySem.boot_len (pa_cons (pv 3) pa_nil)) pa_nil))) (pa_cons (cal (ok__law_odd T) (hr.mono (by decide)) pass0 (pa_cons (pv 1) pa_nil)) pa_nil)) (by rfl))
    (pss_cons (ps_set (i := 6) sc_law.nd rfl (.inl rfl) (pe_lst' (pa_cons (pv 3) (pa_cons (pe_op op_catA (pe_op op_catA (pe_slice sl_tupA (pv 3) po_none (po_some (pv 4))) (pe_tup (pa_cons (pv 5) pa_nil))) (pe_slice sl_tupA (pv 3) (po_some (pe_op op_add (pv 4) pe_int)) po_none)) (pa_cons (pe_callTy call_list_of' (by rfl) T.f_list boot_list (pa_cons (pv 3) pa_nil)) (pa_cons (pv 5) (pa_cons (pe_op op_repTA (pv 3) pe_int) (pa_cons (pe_slice sl_tupA (pv 3) po_none (po_some (pv 4))) (pa_cons (pe_op op_catA (pv 3) (pe_tup (pa_cons pe_int pa_nil))) pa_nil)))))))))
    (pss_cons (ps_set (i := 7) sc_law.nd rfl (.inl rfl) (pe_join pe_str (pe_lc (own := [("_law_token", 8)]) (g := gName 8) rfl sc_law.nd (pi_tup (pv 3)) (blkOk_by (own := [("_law_token", 8)]) (N := N_law) (sc := defScope s_law) (by decide +kernel)) (fun _ _ _ _ _ => pg_name (i := 8) sc_law.nd rfl (Or.inl rfl)) (fun _ _ _ _ _ => pts_nil) (fun _ _ _ _ _ => (pe_callTy call_str_int (by rfl) T.f_str boot_str (pa_cons (pv 8) pa_nil))))))
    (pss_cons (ps_set (i := 9) sc_law.nd rfl (.inl rfl) (pe_lst' (pa_cons (pv 7) (pa_cons (pe_op op_add_str (pv 7) pe_str) (pa_cons (pe_op op_add_str pe_str (pv 7)) (pa_cons (pv 5) (pa_cons pe_str (pa_cons pe_str (pa_cons (pe_join pe_str (pe_op op_rep (pe_lst' (pa_cons pe_str pa_nil)) pe_int)) pa_nil)))))))))
    (pss_cons (ps_for PassesOwn.never rfl (pi_range1 (by rfl) T.f_range (pa_cons pe_int pa_nil)) (pg_name (i := 10) sc_law.nd rfl (.inl rfl))
    (pss_cons (ps_for PassesOwn.never rfl (pi_list (pv 6)) (pg_name (i := 11) sc_law.nd rfl (.inl rfl))
    (pss_cons (ps_set (i := 12) sc_law.nd rfl (.inl rfl) (pe_lst' (pa_cons pe_str (pa_cons (cal (ok__law_reason T) (hr.mono (by decide)) pass0 (pa_cons (pv 11) pa_nil)) pa_nil))))
    (pss_cons (ps_set (i := 12) sc_law.nd rfl (.inl rfl) (pe_ifExp (pt_cmpR op_isN (pe_ix ix_list (pv 12) pe_int (fun _ _ => rfl)) pe_non (nomark _)) (cal (ok__law_due T) (hr.mono (by decide)) pass0 (pa_cons (pv 10) (pa_cons (pv 11) pa_nil))) (pv 12)))
    (pss_one (ps_if (pt_cmpR op_ne (pe_callB (call_repr hg hr.units) (by rfl) T.f_repr boot_repr (pa_cons (cal (ok__law_found T) (hr.mono (by decide)) pass0 (pa_cons (pv 10) (pa_cons (pv 11) (pa_cons pe_bl pa_nil)))) pa_nil)) (pe_callB (call_repr hg hr.units) (by rfl) T.f_repr boot_repr (pa_cons (pv 12) pa_nil)) (nomark _)) (pss_one (ps_ret pe_bl)) pss_nil)))))
    (pss_one (ps_for PassesOwn.never rfl (pi_list (pv 9)) (pg_name (i := 11) sc_law.nd rfl (.inl rfl))
    (pss_cons (ps_set (i := 12) sc_law.nd rfl (.inl rfl) (cal (ok__law_parsed T) (hr.mono (by decide)) pass0 (pa_cons (pv 11) pa_nil)))
    (pss_cons (ps_set (i := 12) sc_law.nd rfl (.inl rfl) (pe_ifExp (pt_val (pe_callB call_isi (by rfl) T.f_isinstance boot_isinstance (pa_cons (pv 12) (pa_cons (pe_bltn (v := .ty "tuple") (by rfl) T.f_tuple boot_tuple rfl) pa_nil)))) (cal (ok__law_due T) (hr.mono (by decide)) pass0 (pa_cons (pv 10) (pa_cons (pv 12) pa_nil))) (pe_lst' (pa_cons pe_str (pa_cons (pe_ix ix_list (pv 12) pe_int (fun _ _ => rfl)) pa_nil)))))
    (pss_one (ps_if (pt_cmpR op_ne (pe_callB (call_repr hg hr.units) (by rfl) T.f_repr boot_repr (pa_cons (cal (ok__law_found T) (hr.mono (by decide)) pass0 (pa_cons (pv 10) (pa_cons (pv 11) (pa_cons pe_bl pa_nil)))) pa_nil)) (pe_callB (call_repr hg hr.units) (by rfl) T.f_repr boot_repr (pa_cons (pv 12) pa_nil)) (nomark _)) (pss_one (ps_ret pe_bl)) pss_nil))))))))
    (pss_cons (ps_set (i := 13) sc_law.nd rfl (.inl rfl) (pe_lst' (pa_cons (pe_tup (pa_cons pe_str (pa_cons (pv 5) (pa_cons (pv 5) pa_nil)))) (pa_cons (pe_tup (pa_cons pe_str (pa_cons pe_int (pa_cons (pv 5) pa_nil)))) (pa_cons (pe_tup (pa_cons pe_str (pa_cons (pv 5) pa_nil))) (pa_cons (pe_tup (pa_cons pe_str (pa_cons pe_int pa_nil))) (pa_cons (pe_tup (pa_cons pe_str (pa_cons pe_int (pa_cons pe_int pa_nil)))) (pa_cons (pe_tup (pa_cons pe_str pa_nil)) pa_nil))))))))
    (pss_cons (ps_set (i := 13) sc_law.nd rfl (.inl rfl) (pe_op op_cat (pv 13) (pe_lst' (pa_cons (pe_tup (pa_cons pe_str (pa_cons pe_int (pa_cons pe_int (pa_cons pe_int pa_nil))))) (pa_cons (pe_tup (pa_cons (pv 5) (pa_cons pe_int (pa_cons pe_int pa_nil)))) (pa_cons (pe_lst' (pa_cons pe_str (pa_cons pe_int (pa_cons pe_int pa_nil)))) (pa_cons (pv 5) (pa_cons (pe_tup pa_nil) (pa_cons (pe_tup (pa_cons pe_str pa_nil)) (pa_cons pe_str (pa_cons (pe_tup (pa_cons pe_str (pa_cons pe_int (pa_cons pe_int pa_nil)))) pa_nil)))))))))))
    (pss_cons (ps_set (i := 14) sc_law.nd rfl (.inl rfl) (calI (ok_Reel_init T) (hr.mono (by decide)) passL T.mk_Reel T.g_Reel (pa_cons (pe_tup (pa_cons pe_int pa_nil)) pa_nil)))
    (pss_one (ps_for PassesOwn.never rfl (pi_list (pv 13)) (pg_name (i := 11) sc_law.nd rfl (.inl rfl))
    (pss_cons (ps_set (i := 15) sc_law.nd rfl (.inl rfl) (pe_lst' (pa_cons (calCS (ok_Reel_is_edit T) (hr.mono (by decide)) pass0 T.cr_Reel T.cs_Reel_is_edit (pe_glob (v := .ref (He.ga K "Reel")) rfl T.g_Reel rfl) (pa_cons (pv 11) pa_nil)) (pa_cons (calSM (ok_Reel_is_edit T) (hr.mono (by decide)) pass0 T.si_Reel_is_edit (pv 14) (pa_cons (pv 11) pa_nil)) (pa_cons (calCS (ok_Reel_is_edit T) (hr.mono (by decide)) pass0 T.cr_LoggedReadyReel (cs_LR T) (pe_glob (v := .ref (He.ga K "LoggedReadyReel")) rfl T.g_LoggedReadyReel rfl) (pa_cons (pv 11) pa_nil)) pa_nil)))))
    (pss_one (ps_if (pt_cmpR op_ne (pe_callB (call_repr hg hr.units) (by rfl) T.f_repr boot_repr (pa_cons (pv 15) pa_nil)) (pe_callB (call_repr hg hr.units) (by rfl) T.f_repr boot_repr (pa_cons (pe_op op_rep (pe_lst' (pa_cons (cal (ok__law_is_edit T) (hr.mono (by decide)) pass0 (pa_cons (pv 11) pa_nil)) pa_nil)) pe_int) pa_nil)) (nomark _)) (pss_one (ps_ret pe_bl)) pss_nil)))))))))))))))
    (pss_cons (ps_set (i := 15) sc_law.nd rfl (.inl rfl) (pe_lst' (pa_cons (ClX.pe_cval (pe_glob (v := .ref (He.ga K "Reel")) rfl T.g_Reel rfl)) (pa_cons (pe_con (calI (ok_Reel_init T) (hr.mono (by decide)) passL T.mk_Reel T.g_Reel (pa_cons (pe_tup (pa_cons pe_int pa_nil)) pa_nil)) rfl) (pa_cons (ClX.pe_cval (pe_glob (v := .ref (He.ga K "ReadyReel")) rfl T.g_ReadyReel rfl)) (pa_cons (ClX.pe_cval (pe_glob (v := .ref (He.ga K "Reel")) rfl T.g_Reel rfl)) (pa_cons (pe_con (calI (ok_Reel_init T) (hr.mono (by decide)) passL T.mk_Reel T.g_Reel (pa_cons (pe_tup (pa_cons pe_int pa_nil)) pa_nil)) rfl) pa_nil)))))))
    (pss_one (ps_ret (pe_cmpR op_eq (pe_callB (call_repr hg hr.units) (by rfl) T.f_repr boot_repr (pa_cons (pv 15) pa_nil)) (pe_callB (call_repr hg hr.units) (by rfl) T.f_repr boot_repr (pa_cons (pe_lst' (pa_cons pe_int (pa_cons pe_int (pa_cons pe_int (pa_cons (pe_tup (pa_cons pe_str (pa_cons pe_str (pa_cons pe_str pa_nil)))) (pa_cons (pe_tup (pa_cons pe_str (pa_cons pe_str (pa_cons pe_str pa_nil)))) pa_nil)))))) pa_nil)) (nomark _))))))), ?_⟩
    refine ⟨.ref a, rfl, a, ms, rfl, hS, hlen, fun H1 S A B s1 nS nA nB st => ?_⟩
    have at0 : ∀ {v : V} {vs : List V}, atI (v :: vs) 0 = some v := fun {v vs} => atI_nat (j := 0) rfl
    have at1 : ∀ {v y : V} {vs : List V}, atI (v :: y :: vs) 1 = some y := fun {v y vs} => atI_nat (j := 1) rfl
    refine seq_go ?_
    refine ⟨4, rfl, by decide, by decide, ?_⟩
    refine for_range (lo := 0) (n := 4) (fun kk σ H2 => ∃ y2 y3 y4 y5 y6 y7 y8 y9 y10 y11 y12 y13 y14 y15 tk, σ = [some (.ref a), some (.ref S), y2, y3, y4, y5, y6, y7, y8, y9, y10, y11, y12, y13, y14, y15] ∧ Strm H2 S A B tk ∧ tk ≤ 5000 * kk) ⟨_, _, _, _, _, _, _, _, _, _, _, _, _, _, 0, rfl, st, Nat.zero_le _⟩ ?_ ?_
    · rintro kk σ H2 hkk ⟨y2, y3, y4, y5, y6, y7, y8, y9, y10, y11, y12, y13, y14, y15, tk, rfl, st2, htk⟩
      refine ⟨.ref S, rfl, S, A, B, tk, 24, rfl, st2, by omega, by decide, by decide, fun H3 t3 r ns sx3 st3 ht3 nr hr rg hle => ?_⟩
      obtain ⟨g1, g2, g3⟩ := id rg
      have hT3 : TupI K H3 r ns := tupI_of hr
      have lnm : (ns.map V.int).length = ns.length := List.length_map _
      refine ⟨.ref S, rfl, .ref r, rfl, r, _, rfl, .inr hT3, ?_⟩
      rw [lnm]
      refine ⟨S, A, B, t3, (ns.length : Int), rfl, st3, by omega, by omega, by omega, fun H4 t4 sp sx4 st4 ht4 sp0 sp1 => ?_⟩
      refine ⟨.ref S, rfl, S, A, B, t4, rfl, st4, by omega, fun H5 t5 od sx5 st5 ht5 ood => ?_⟩
      obtain ⟨spn, rfl⟩ : ∃ n : Nat, sp = (n : Int) := ⟨sp.toNat, by omega⟩
      have hT5 : TupI K H5 r ns := SqT.kt (sx_kt st4 sx5) (SqT.kt (sx_kt st3 sx4) hT3)
      refine ⟨_, _, rfl, ?_⟩
      refine ⟨.ref r, rfl, ?_⟩
      refine ⟨.ref r, rfl, .int (spn : Int), rfl, (spn : Int), rfl, slT_hi hT5 (by omega) fun H6 b1 s6 hb1 => ?_⟩
      refine ⟨od, rfl, sz (by show 1 ≤ _; decide), fun c1 nc1 => ?_⟩
      obtain ⟨H7, e7, s7, hc1⟩ := new_tup nc1 [od]
      rw [e7]
      refine catT (same_seqT s7 hb1) (.inl (.inl hc1)) (by rw [List.length_take]; show _ + 1 ≤ _; omega) fun H8 d1 s8 hd1 => ?_
      refine ⟨.ref r, rfl, _, rfl, _, _, rfl, rfl, _, rfl, ?_⟩
      dsimp only [tNoPart]
      have s58 := s6.trans (s7.trans s8)
      refine slT_lo (p := spn + 1) (same_seqT s58 hT5) (by omega) fun H9 b2 s9 hb2 => ?_
      refine catT (same_seqT s9 hd1) hb2 (by rw [List.length_append, List.length_take, List.length_drop]; show _ + 1 + _ ≤ _; omega) fun H10 f1 s10 hf1 => ?_
      have s510 := s58.trans (s9.trans s10)
      have hT10 := same_seqT s510 hT5
      refine ⟨.ref r, rfl, r, _, rfl, .inr hT10, fun l1 nl1 ml1 => ?_⟩
      obtain ⟨H11, e11, s11, hl1⟩ := new_lst nl1 (ns.map V.int)
      rw [e11]
      refine ⟨od, rfl, ?_⟩
      refine ⟨.ref r, rfl, r, 3, _, rfl, rfl, same_seqT s11 hT10, (fun z => by have := congrArg List.length z; rw [lnm] at this; simp only [List.length_nil] at this; omega), by decide, by omega, fun H12 r3 s12 hr3 => ?_⟩
      have s1012 := s11.trans s12
      refine ⟨.ref r, rfl, .int (spn : Int), rfl, (spn : Int), rfl, slT_hi (same_seqT s1012 hT10) (by omega) fun H13 b3 s13 hb3 => ?_⟩
      have s1013 := s1012.trans s13
      refine ⟨.ref r, rfl, sz (by show 1 ≤ _; decide), fun c2 nc2 => ?_⟩
      obtain ⟨H14, e14, s14, hc2⟩ := new_tup nc2 [V.int 6]
      rw [e14]
      have s1014 := s1013.trans s14
      refine catT (same_seqT s1014 hT10) (.inl (.inl hc2)) (by show _ + 1 ≤ _; omega) fun H15 f2 s15 hf2 => ?_
      refine ⟨sz (by show 7 ≤ _; decide), fun vl nvl _ => ?_⟩
      obtain ⟨H16, e16, s16, hvl⟩ := new_lst nvl [V.ref r, .ref f1, .ref l1, od, .ref r3, .ref b3, .ref f2]
      rw [e16]
      have s1016 := s1014.trans (s15.trans s16)
      have s516 := s510.trans s1016
      have hT16 := same_seqT s516 hT5
      have ood16 : Od2 K S A H16 od := ood.same s516
      have kio : ∀ {is : List Int}, ∀ x ∈ is.map V.int, Kd K H16 x := fun {is} x hx => by
        obtain ⟨z, _, rfl⟩ := List.mem_map.mp hx
        exact .int z
      have vjs : ∀ v ∈ [V.ref r, .ref f1, .ref l1, od, .ref r3, .ref b3, .ref f2], VJ K H16 v := fun v hv => by
        simp only [List.mem_cons, List.not_mem_nil, or_false] at hv
        rcases hv with rfl | rfl | rfl | rfl | rfl | rfl | rfl
        · exact ⟨_, jin_of hT16 rg⟩
        · refine vj_tup (same_seqT s1016 hf1) ?_ fun x hx => ?_
          · rw [List.length_append, List.length_append, List.length_take, List.length_drop]
            show _ + 1 + _ ≤ _
            omega
          · rcases List.mem_append.mp hx with hx | hx
            · rcases List.mem_append.mp hx with hx | hx
              · exact kio x (List.mem_of_mem_take hx)
              · rw [List.mem_singleton.mp hx]
                exact ood16.1.kind
            · exact kio x (List.mem_of_mem_drop hx)
        · exact ⟨_, .inl ⟨⟨_, .base (.lst ((s12.trans (s13.trans (s14.trans (s15.trans s16)))) _ _ hl1)), kit_ty (a := "list") (b := "tuple") (r := false) (by decide +kernel)⟩, rfl⟩⟩
        · exact vj_odd ood16
        · refine vj_tup (same_seqT (s13.trans (s14.trans (s15.trans s16))) hr3) ?_ fun x hx => ?_
          · rw [List.length_flatten]
            simp only [List.map_replicate, List.sum_replicate_nat]
            omega
          · obtain ⟨l, hl, hx⟩ := List.mem_flatten.mp hx
            rw [List.eq_of_mem_replicate hl] at hx
            exact kio x hx
        · exact vj_tup (same_seqT (s14.trans (s15.trans s16)) hb3) (by rw [List.length_take]; omega) fun x hx => kio x (List.mem_of_mem_take hx)
        · refine vj_tup (same_seqT s16 hf2) (by rw [List.length_append]; show _ + 1 ≤ _; omega) fun x hx => ?_
          rcases List.mem_append.mp hx with hx | hx
          · exact kio x hx
          · rw [List.mem_singleton.mp hx]
            exact .int 6
      have st16 := st5.same s516
      have hbn : ∀ x ∈ ns, x.natAbs < 10 ^ 30 := fun x hx => by have := g3 x hx; omega
      dsimp only [gName]
      refine ⟨⟨_, rfl⟩, .ref r, rfl, r, rfl, ⟨_, hT16⟩, fun D nD => ?_⟩
      refine lc_tup (K := K) (a := r) (xs := ns.map V.int) (fun k H17 => Same H16 H17 ∧ H17 D = some (.lst (((ns.take k).map txI).map V.str))) ⟨same_upd nD, upd_same⟩ (fun k H17 _ h => same_seqT h.1 hT16) ?_ ?_
      · rintro k x H17 hx ⟨s17, hD⟩
        obtain ⟨j, hj, rfl⟩ : ∃ j, ns[k]? = some j ∧ x = .int j := by
          rw [List.getElem?_map] at hx
          cases e : ns[k]? with
          | none =>
            rw [e] at hx
            cases hx
          | some j =>
            rw [e] at hx
            cases hx
            exact ⟨j, rfl, rfl⟩
        refine ⟨rfl, ?_⟩
        refine ⟨.int j, rfl, j, rfl, log_of (hbn j (List.mem_of_getElem? hj)), ?_⟩
        refine ⟨_, hD, szl (by rw [List.length_map, List.length_map, List.length_take]; omega), fun b z e => ?_, ?_⟩
        · rw [upd_ne (ne_of_none e nD)]
          exact s17 _ _ e
        · rw [upd_same, List.take_add_one, hj, List.map_append, List.map_append]
          rfl
      rintro H17 ⟨s17, hD⟩
      have hs := sum_len hbn
      have hx0 := (sok_jnI hbn).mono (m := 768) (by omega)
      refine ⟨_, D, ns.map txI, rfl, rfl, ?_, ?_, ?_⟩
      · rw [List.length_map, List.take_length] at hD
        exact .inl (lstI_of hD)
      · rw [List.length_map]
        show _ + ns.length * 1 ≤ _
        omega
      have ej : Txt.join " " (ns.map txI) = jnI ns := rfl
      rw [ej]
      generalize jnI ns = x at hx0
      have hxl := hx0.1
      dsimp only
      refine ⟨_, rfl, ?_⟩
      refine ⟨_, rfl, _, _, rfl, rfl, sz (by show _ + 2 ≤ _; omega), ?_⟩
      refine ⟨_, rfl, _, _, rfl, rfl, sz (by show 1 + _ ≤ _; omega), ?_⟩
      refine ⟨od, rfl, ⟨_, rfl⟩, sz (by show 1 ≤ _; decide), fun p1 np1 _ => ?_⟩
      obtain ⟨H18, e18, s18, hp1⟩ := new_lst np1 [V.str "0"]
      rw [e18]
      refine ⟨p1, 25, [.str "0"], rfl, rfl, hp1, by decide, by decide, sz (by decide), fun p2 np2 => ?_⟩
      obtain ⟨H19, e19, s19, hp2⟩ := new_lst np2 (List.replicate (25 : Int).toNat [V.str "0"]).flatten
      rw [e19]
      have ljn : (Txt.join " " (List.replicate 25 ("0" : Str))).length ≤ 60 := (Wok.join (n := 60) ⟨by decide +kernel, fun w hw => by
        rw [List.eq_of_mem_replicate hw]
        exact (sok_of (n := 1) (by decide +kernel)).2⟩).1
      refine ⟨_, p2, List.replicate 25 ("0" : Str), rfl, rfl, .inl (lstI_of hp2), by decide +kernel, ?_⟩
      generalize Txt.join " " (List.replicate 25 ("0" : Str)) = jn at ljn
      refine ⟨sz (by show 7 ≤ _; decide), fun tl ntl _ => ?_⟩
      obtain ⟨H20, e20, s20, htl⟩ := new_lst ntl [V.str x, .str (x ++ " 6"), .str (" " ++ x), od, .str "", .str "0 0 2", .str jn]
      rw [e20]
      have s1620 := s17.trans (s18.trans (s19.trans s20))
      have ood20 := ood16.same s1620
      have vts : ∀ v ∈ [V.str x, .str (x ++ " 6"), .str (" " ++ x), od, .str "", .str "0 0 2", .str jn], VT K H20 v := fun v hv => by
        have l2 : (" 6" : Str).length = 2 := rfl
        have l1' : (" " : Str).length = 1 := rfl
        simp only [List.mem_cons, List.not_mem_nil, or_false] at hv
        rcases hv with rfl | rfl | rfl | rfl | rfl | rfl | rfl
        · exact vt_str (by omega)
        · exact vt_str (by rw [str_app_len, l2]; omega)
        · exact vt_str (by rw [str_app_len, l1']; omega)
        · obtain ⟨d, hd, fd⟩ := ood20.1.data
          refine ⟨d, hd, fun y e => ?_⟩
          subst e
          cases hd
          have := fd.bk
          have b1 : (PyData.str y).bulk ≤ 100 := this
          exact Nat.le_trans (show y.length ≤ (PyData.str y).bulk from Nat.le_refl _) (Nat.le_trans b1 (by decide))
        · exact vt_str (by decide +kernel)
        · exact vt_str (by decide +kernel)
        · exact vt_str (by omega)
      have hvl20 := s1620 _ _ hvl
      have vjs20 : ∀ v ∈ [V.ref r, .ref f1, .ref l1, od, .ref r3, .ref b3, .ref f2], VJ K H20 v := fun v hv => (vjs v hv).same s1620
      have st20 := st16.same s1620
      generalize hvv : [V.ref r, .ref f1, .ref l1, od, .ref r3, .ref b3, .ref f2] = vv at hvl20 vjs20
      generalize htt : [V.str x, .str (x ++ " 6"), .str (" " ++ x), od, .str "", .str "0 0 2", .str jn] = tt at htl vts
      dsimp only [gName]
      refine seq_go ?_
      refine ⟨4, rfl, by decide, by decide, ?_⟩
      refine for_range (lo := 0) (n := 4) (fun kd σ H21 => ∃ y8 y10 y11 y12, σ = [some (.ref a), some (.ref S), some (.int (0 + (kk : Int))), some (.ref r), some (.int (spn : Int)), some od, some (.ref vl), some (.str x), y8, some (.ref tl), y10, y11, y12, y13, y14, y15] ∧ Same H20 H21) ⟨_, _, _, _, rfl, Same.refl H20⟩ ?_ ?_
      · rintro kd σ H21 hkd ⟨y8, y10, y11, y12, rfl, s21⟩
        obtain ⟨b, l, hbl⟩ : ∃ b l, (0 : Int) + (kd : Int) = kindN b l := by
          match kd, hkd with
          | 0, _ => exact ⟨false, false, rfl⟩
          | 1, _ => exact ⟨true, false, rfl⟩
          | 2, _ => exact ⟨false, true, rfl⟩
          | 3, _ => exact ⟨true, true, rfl⟩
        rw [hbl]
        dsimp only [gName]
        refine seq_go ?_
        refine ⟨.ref vl, rfl, vl, rfl, ⟨_, lstI_of (s21 _ _ hvl20)⟩, ?_⟩
        refine for_list (xs := vv) (fun j σ H22 => ∃ y11 y12, σ = [some (.ref a), some (.ref S), some (.int (0 + (kk : Int))), some (.ref r), some (.int (spn : Int)), some od, some (.ref vl), some (.str x), y8, some (.ref tl), some (.int (kindN b l)), y11, y12, y13, y14, y15] ∧ Same H20 H22) ⟨_, _, rfl, s21⟩ (fun j σ H22 _ p => lstI_of (p.choose_spec.choose_spec.2 _ _ hvl20)) ?_ ?_
        · rintro j v σ H22 hv ⟨z11, z12, rfl, s22⟩
          obtain ⟨d, hj⟩ := (vjs20 v (List.mem_of_getElem? hv)).same s22
          obtain ⟨m, hm, hcase⟩ := jin_mk hj
          refine ⟨v, rfl, v, d, rfl, hj, fun H23 u s23 hu => ?_⟩
          refine ⟨sz (by show 2 ≤ _; decide), fun du ndu mdu => ?_⟩
          obtain ⟨H24, e24, s24, hdu⟩ := new_lst ndu [V.str "BadRing", u]
          rw [e24]
          dsimp only [gName]
          refine seq_go ?_
          have s2224 := s23.trans s24
          refine cut_st (fun σ H25 => ∃ dd xs, σ = [some (.ref a), some (.ref S), some (.int (0 + (kk : Int))), some (.ref r), some (.int (spn : Int)), some od, some (.ref vl), some (.str x), y8, some (.ref tl), some (.int (kindN b l)), some v, some (.ref dd), y13, y14, y15] ∧ Same H22 H25 ∧ H25 dd = some (.lst xs) ∧ dd ≠ sysModules ∧ DqAll false K H25 xs (outM b l m)) (fun D' hD' => ?_) ?_
          · refine ⟨.ref du, rfl, du, _, _, _, rfl, rfl, lstI_of hdu, at1, rfl, _, rfl, ?_⟩
            rcases jv_isNd hu with ⟨rfl, hn⟩ | ⟨⟨p0, rfl⟩, hn⟩
            · obtain ⟨z, _⟩ | ⟨_, t2, ns2, rfl, hT2, rg2, rfl⟩ := hcase
              · rw [hn] at z
                cases z
              · refine iteY rfl ?_
                refine ⟨_, rfl, .ref t2, rfl, b, l, t2, ns2, rfl, same_seqT s2224 hT2, rg2, fun H25 p xs s25 np hp mp dq => ?_⟩
                exact hD' _ _ ⟨p, xs, rfl, s2224.trans s25, hp, mp, dq⟩
            · obtain ⟨_, rfl⟩ | ⟨z, _⟩ := hcase
              · refine iteN (decide_eq_false fun z => nomatch z) ?_
                refine ⟨_, rfl, hD' _ _ ⟨du, _, rfl, s2224, hdu, mdu, .cons (.str _) (.cons (jv_dq (jv_same hu s24)) .nil)⟩⟩
              · rw [hn] at z
                cases z
          · rintro σ H25 ⟨dd, xs, rfl, s25, hdd, mdd, dqd⟩
            dsimp only
            have s20x := s22.trans s25
            refine ⟨_, rfl, v, rfl, b, l, v, false, m, rfl, mk_same hm s25, fun H26 p xs2 s26 hp mp dq => ?_⟩
            have fm := fit_outM (b := b) (l := l) hm
            refine ⟨false, _, _, rfl, .lst (lstI_of hp) (fun z => nomatch z) dq, fm, ?_⟩
            refine ⟨.ref dd, rfl, false, _, _, rfl, .lst (lstI_of (s26 _ _ hdd)) (fun z => nomatch z) (DqAll.same s26 dqd), fm, ?_⟩
            refine rNe_self ⟨_, rfl, iteN rfl ?_⟩
            exact ⟨_, _, rfl, s20x.trans s26⟩
        rintro σ H22 ⟨z11, z12, rfl, s22⟩
        dsimp only
        refine ⟨.ref tl, rfl, tl, rfl, ⟨_, lstI_of (s22 _ _ htl)⟩, ?_⟩
        refine for_list (xs := tt) (fun j σ H23 => ∃ y11 y12, σ = [some (.ref a), some (.ref S), some (.int (0 + (kk : Int))), some (.ref r), some (.int (spn : Int)), some od, some (.ref vl), some (.str x), y8, some (.ref tl), some (.int (kindN b l)), y11, y12, y13, y14, y15] ∧ Same H20 H23) ⟨_, _, rfl, s22⟩ (fun j σ H23 _ p => lstI_of (p.choose_spec.choose_spec.2 _ _ htl)) ?_ ?_
        · rintro j v σ H23 hv ⟨w11, w12, rfl, s23⟩
          obtain ⟨d, hd, hx⟩ := (vts v (List.mem_of_getElem? hv)).same s23
          dsimp only [gName]
          refine seq_go ?_
          refine cut_st (fun σ H24 => ∃ p2, σ = [some (.ref a), some (.ref S), some (.int (0 + (kk : Int))), some (.ref r), some (.int (spn : Int)), some od, some (.ref vl), some (.str x), y8, some (.ref tl), some (.int (kindN b l)), some v, some (.ref p2), y13, y14, y15] ∧ Same H23 H24 ∧ ((∃ ns2 : List Int, TupI K H24 p2 ns2 ∧ resD d = .list [.str "ring", .tuple (ns2.map PyData.int)]) ∨ ∃ o : Option Nat, H24 p2 = some (.lst [optV o]) ∧ resD d = .list [.str "BadText", optD o])) (fun D' hD' => ?_) ?_
          · exact ⟨v, rfl, v, d, rfl, hd, hx, fun ns2 e H24 t2 s24 ht2 => hD' _ _ ⟨t2, rfl, s24, .inl ⟨ns2, ht2, e⟩⟩, fun o e H24 p2 s24 hp2 => hD' _ _ ⟨p2, rfl, s24, .inr ⟨o, hp2, e⟩⟩⟩
          rintro σ H24 ⟨p2, rfl, s24, hc⟩
          dsimp only
          refine seq_go ?_
          refine cut_st (fun σ H25 => ∃ dd xs m, σ = [some (.ref a), some (.ref S), some (.int (0 + (kk : Int))), some (.ref r), some (.int (spn : Int)), some od, some (.ref vl), some (.str x), y8, some (.ref tl), some (.int (kindN b l)), some v, some (.ref dd), y13, y14, y15] ∧ Same H24 H25 ∧ H25 dd = some (.lst xs) ∧ MkIs K H25 v true m ∧ DqAll false K H25 xs (outM b l m)) (fun D' hD' => ?_) ?_
          · rcases hc with ⟨ns2, hT2, e⟩ | ⟨o, hp2, e⟩
            · obtain ⟨ty2, k1, k2⟩ := tySq hT2
              have rg2 := resD_ring e
              refine ⟨_, rfl, .ref p2, .ty "tuple", ty2, _, _, rfl, .ty _, k1, k2, _, rfl, iteY rfl ?_⟩
              refine ⟨_, rfl, .ref p2, rfl, b, l, p2, ns2, rfl, hT2, rg2, fun H25 p xs s25 np hp mp dq => ?_⟩
              exact hD' _ _ ⟨p, xs, .ring ns2, rfl, s25, hp, ⟨rg2, .inr ⟨rfl, d, Dq.same (s24.trans s25) hd, hx, e⟩⟩, dq⟩
            · refine ⟨_, rfl, .ref p2, .ty "tuple", _, _, _, rfl, .ty _, .base (.lst hp2), kit_ty (a := "list") (b := "tuple") (r := false) (by decide +kernel), _, rfl, iteN rfl ?_⟩
              refine ⟨.ref p2, rfl, p2, _, _, _, rfl, rfl, lstI_of hp2, at0, sz (by show 2 ≤ _; decide), fun l4 nl4 ml4 => ?_⟩
              obtain ⟨H25, e25, s25, hl4⟩ := new_lst nl4 [V.str "BadText", optV o]
              rw [e25]
              exact hD' _ _ ⟨l4, _, .text o, rfl, s25, hl4, ⟨rfl, d, Dq.same (s24.trans s25) hd, hx, e⟩, .cons (.str _) (.cons (opt_dq o) .nil)⟩
          rintro σ H25 ⟨dd, xs, m, rfl, s25, hdd, hm, dqd⟩
          dsimp only
          refine ⟨_, rfl, v, rfl, b, l, v, true, m, rfl, hm, fun H26 p xs2 s26 hp mp dq => ?_⟩
          have fm := fit_outM (b := b) (l := l) hm
          refine ⟨false, _, _, rfl, .lst (lstI_of hp) (fun z => nomatch z) dq, fm, ?_⟩
          refine ⟨.ref dd, rfl, false, _, _, rfl, .lst (lstI_of (s26 _ _ hdd)) (fun z => nomatch z) (DqAll.same s26 dqd), fm, ?_⟩
          refine rNe_self ⟨_, rfl, iteN rfl ?_⟩
          exact ⟨_, _, rfl, s23.trans (s24.trans (s25.trans s26))⟩
        rintro σ H23 ⟨w11, w12, rfl, s23⟩
        exact ⟨_, _, _, _, rfl, s23⟩
      rintro σ H21 ⟨y8, y10, y11, y12, rfl, s21⟩
      have ood21 := ood20.same s21
      dsimp only
      refine ⟨od, rfl, od, rfl, sz (by show 3 ≤ _; decide), fun w1 nw1 => ?_⟩
      obtain ⟨H22, e22, s22, hw1⟩ := new_tup nw1 [V.str "put", od, od]
      rw [e22]
      refine ⟨od, rfl, sz (by show 3 ≤ _; decide), fun w2 nw2 => ?_⟩
      obtain ⟨H23, e23, s23, hw2⟩ := new_tup nw2 [V.str "insert", .int 0, od]
      rw [e23]
      refine ⟨od, rfl, sz (by show 2 ≤ _; decide), fun w3 nw3 => ?_⟩
      obtain ⟨H24, e24, s24, hw3⟩ := new_tup nw3 [V.str "remove", od]
      rw [e24]
      refine ⟨sz (by show 2 ≤ _; decide), fun w4 nw4 => ?_⟩
      obtain ⟨H25, e25, s25, hw4⟩ := new_tup nw4 [V.str "put", .int 0]
      rw [e25]
      refine ⟨sz (by show 3 ≤ _; decide), fun w5 nw5 => ?_⟩
      obtain ⟨H26, e26, s26, hw5⟩ := new_tup nw5 [V.str "remove", .int 0, .int 0]
      rw [e26]
      refine ⟨sz (by show 1 ≤ _; decide), fun w6 nw6 => ?_⟩
      obtain ⟨H27, e27, s27, hw6⟩ := new_tup nw6 [V.str "undo"]
      rw [e27]
      refine ⟨sz (by show 6 ≤ _; decide), fun W1 nW1 _ => ?_⟩
      obtain ⟨H28, e28, s28, hW1⟩ := new_lst nW1 [V.ref w1, .ref w2, .ref w3, .ref w4, .ref w5, .ref w6]
      rw [e28]
      dsimp only [gName]
      refine ⟨.ref W1, rfl, sz (by show 4 ≤ _; decide), fun w7 nw7 => ?_⟩
      obtain ⟨H29, e29, s29, hw7⟩ := new_tup nw7 [V.str "put", .int 0, .int 0, .int 0]
      rw [e29]
      refine ⟨od, rfl, sz (by show 3 ≤ _; decide), fun w8 nw8 => ?_⟩
      obtain ⟨H30, e30, s30, hw8⟩ := new_tup nw8 [od, .int 0, .int 0]
      rw [e30]
      refine ⟨sz (by show 3 ≤ _; decide), fun w9 nw9 _ => ?_⟩
      obtain ⟨H31, e31, s31, hw9⟩ := new_lst nw9 [V.str "put", .int 0, .int 0]
      rw [e31]
      refine ⟨od, rfl, sz (by show 0 ≤ _; decide), fun wb nwb => ?_⟩
      obtain ⟨H32, e32, s32, hwb⟩ := new_tup nwb []
      rw [e32]
      refine ⟨sz (by show 1 ≤ _; decide), fun wc nwc => ?_⟩
      obtain ⟨H33, e33, s33, hwc⟩ := new_tup nwc [V.str "put"]
      rw [e33]
      refine ⟨sz (by show 3 ≤ _; decide), fun wd nwd => ?_⟩
      obtain ⟨H34, e34, s34, hwd⟩ := new_tup nwd [V.str "Put", .int 0, .int 0]
      rw [e34]
      refine ⟨sz (by show 8 ≤ _; decide), fun W2 nW2 _ => ?_⟩
      obtain ⟨H35, e35, s35, hW2⟩ := new_lst nW2 [V.ref w7, .ref w8, .ref w9, od, .ref wb, .ref wc, .str "put", .ref wd]
      rw [e35]
      have s2835 := s29.trans (s30.trans (s31.trans (s32.trans (s33.trans (s34.trans s35)))))
      refine ⟨W1, W2, _, _, rfl, rfl, s2835 _ _ hW1, hW2, sz (by show 6 + 8 ≤ _; decide), fun W3 nW3 => ?_⟩
      obtain ⟨H36, e36, s36, hW3⟩ := new_lst nW3 ([V.ref w1, .ref w2, .ref w3, .ref w4, .ref w5, .ref w6] ++ [V.ref w7, .ref w8, .ref w9, od, .ref wb, .ref wc, .str "put", .ref wd])
      rw [e36]
      have q36 : Same H36 H36 := Same.refl _
      have q35 := s36
      have q34 := s35.trans q35
      have q33 := s34.trans q34
      have q32 := s33.trans q33
      have q31 := s32.trans q32
      have q30 := s31.trans q31
      have q29 := s30.trans q30
      have q28 := s29.trans q29
      have q27 := s28.trans q28
      have q26 := s27.trans q27
      have q25 := s26.trans q26
      have q24 := s25.trans q25
      have q23 := s24.trans q24
      have q22 := s23.trans q23
      have q21 := s22.trans q22
      have ood36 := ood21.same q21
      have hs : ∀ {xs : List V} {p : Addr} {x : Str}, H36 p = some (.tup (.str x :: xs)) → xs.length ≤ 10 → EW K H36 (.ref p) := fun {xs p x} h hl => ew_tup h (by rw [List.length_cons]; omega) fun H' s w hw => by
        cases hw
        exact hd_str x
      have ews : ∀ w ∈ [V.ref w1, .ref w2, .ref w3, .ref w4, .ref w5, .ref w6] ++ [V.ref w7, .ref w8, .ref w9, od, .ref wb, .ref wc, .str "put", .ref wd], EW K H36 w := fun w hw => by
        simp only [List.cons_append, List.nil_append, List.mem_cons, List.not_mem_nil, or_false] at hw
        rcases hw with rfl | rfl | rfl | rfl | rfl | rfl | rfl | rfl | rfl | rfl | rfl | rfl | rfl | rfl
        · exact hs (q22 _ _ hw1) (by simp)
        · exact hs (q23 _ _ hw2) (by simp)
        · exact hs (q24 _ _ hw3) (by simp)
        · exact hs (q25 _ _ hw4) (by simp)
        · exact hs (q26 _ _ hw5) (by simp)
        · exact hs (q27 _ _ hw6) (by simp)
        · exact hs (q29 _ _ hw7) (by simp)
        · refine ew_tup (q30 _ _ hw8) (by show 3 ≤ 1000; decide) fun H' s w hw => ?_
          cases hw
          exact hd_odd (ood36.1.same s)
        · exact ew_not fun H' s => ⟨_, .base (.lst (s _ _ (q31 _ _ hw9))), kit_ty (a := "list") (b := "tuple") (r := false) (by decide +kernel)⟩
        · exact ew_odd ood36
        · exact ew_tup (q32 _ _ hwb) (by decide) fun H' s w hw => by cases hw
        · exact hs (q33 _ _ hwc) (by simp)
        · exact ew_not fun H' s => ⟨_, .base (.str _), kit_ty (a := "str") (b := "tuple") (r := false) (by decide +kernel)⟩
        · exact hs (q34 _ _ hwd) (by simp)
      have st36 := (st20.same s21).same q21
      generalize [V.ref w1, .ref w2, .ref w3, .ref w4, .ref w5, .ref w6] ++ [V.ref w7, .ref w8, .ref w9, od, .ref wb, .ref wc, .str "put", .ref wd] = ww at hW3 ews
      dsimp only [gName]
      refine ⟨sz (by show 1 ≤ _; decide), fun t0 nt0 => ?_⟩
      obtain ⟨H37, e37, s37, ht0⟩ := new_tup nt0 [V.int 0]
      rw [e37]
      have rg0 : Ring [0] := ⟨by decide, by decide, fun x hx => by
        rw [List.mem_singleton.mp hx]
        decide⟩
      have hT37 : TupI K H37 t0 [0] := .inl (.inl ht0)
      intro xr dx nx ndx nxd
      refine ⟨_, false, false, xr, .ref t0, dx, .none, rfl, fm_of T false false, upd_same, jin_of (same_seqT (made_before nx ndx nxd) hT37) rg0, .inr ⟨t0, [0], rfl, rfl, same_seqT (made_before nx ndx nxd) hT37, rg0, fun H38 k38 hR38 => ⟨rfl, ?_⟩⟩⟩
      have s3738 := made_same nx ndx nxd k38
      have s3638 := s37.trans s3738
      obtain ⟨dr, vr, vd, vs, hxr, _, _, _⟩ := id hR38
      dsimp only [gName]
      refine ⟨.ref W3, rfl, W3, rfl, ⟨_, lstI_of (s3638 _ _ hW3)⟩, ?_⟩
      refine for_list (xs := ww) (fun j σ H39 => ∃ y11 y15, σ = [some (.ref a), some (.ref S), some (.int (0 + (kk : Int))), some (.ref r), some (.int (spn : Int)), some od, some (.ref vl), some (.str x), y8, some (.ref tl), y10, y11, y12, some (.ref W3), some (.ref xr), y15] ∧ Same H38 H39) ⟨_, _, rfl, Same.refl H38⟩ (fun j σ H39 _ p => lstI_of ((s3638.trans p.choose_spec.choose_spec.2) _ _ hW3)) ?_ ?_
      · rintro j v σ H39 hv ⟨u11, u15, rfl, s39⟩
        have ew39 := (ews v (List.mem_of_getElem? hv)).same (s3638.trans s39)
        obtain ⟨bb, hew⟩ := ew39
        have he := hew H39 (Same.refl H39)
        refine ⟨rfl, v, rfl, v, bb, rfl, he, ?_⟩
        refine ⟨.ref xr, rfl, xr, dr, _, rfl, s39 _ _ hxr, rfl, v, rfl, v, bb, rfl, he, ?_⟩
        refine ⟨rfl, v, rfl, v, bb, rfl, he, ?_⟩
        refine ⟨sz (by show 3 ≤ _; decide), fun fl nfl mfl => ?_⟩
        obtain ⟨H40, e40, s40, hfl⟩ := new_lst nfl [V.bl bb, .bl bb, .bl bb]
        rw [e40]
        have fb : Fit 100000 50 (.list [.bool bb, .bool bb, .bool bb]) := (fit_list (fitAll_cons (fit_bool 0 0 bb) (fitAll_cons (fit_bool 0 0 bb) (fitAll_cons (fit_bool 0 0 bb) (fitAll_nil 0 0))))).mono (by decide) (by decide)
        dsimp only [gName]
        refine ⟨.ref fl, rfl, false, _, _, rfl, .lst (lstI_of hfl) (fun z => nomatch z) (.cons (.bl _) (.cons (.bl _) (.cons (.bl _) .nil))), fb, ?_⟩
        refine ⟨v, rfl, v, bb, rfl, hew H40 s40, fun H41 s41 => ?_⟩
        refine ⟨sz (by show 1 ≤ _; decide), fun p1 np1 _ => ?_⟩
        obtain ⟨H42, e42, s42, hp1⟩ := new_lst np1 [V.bl bb]
        rw [e42]
        refine ⟨p1, 3, _, rfl, rfl, hp1, by decide, by decide, sz (by show 3 ≤ _; decide), fun p2 np2 => ?_⟩
        obtain ⟨H43, e43, s43, hp2⟩ := new_lst np2 [V.bl bb, .bl bb, .bl bb]
        have e43' : upd H42 p2 (.lst (List.replicate (3 : Int).toNat [V.bl bb]).flatten) = H43 := e43
        rw [e43']
        refine ⟨false, _, _, rfl, .lst (lstI_of hp2) (fun z => nomatch z) (.cons (.bl _) (.cons (.bl _) (.cons (.bl _) .nil))), fb, ?_⟩
        refine rNe_self ⟨_, rfl, iteN rfl ?_⟩
        exact ⟨_, _, rfl, s39.trans (s40.trans (s41.trans (s42.trans s43)))⟩
      rintro σ H39 ⟨u11, u15, rfl, s39⟩
      exact ⟨_, _, _, _, _, _, _, _, _, _, _, _, _, _, t5, rfl, st36.same (s3638.trans s39), by omega⟩
    · rintro σ H2 ⟨y2, y3, y4, y5, y6, y7, y8, y9, y10, y11, y12, y13, y14, y15, tk, rfl, st2, htk⟩
      obtain ⟨aw, hcv, hw⟩ := T.cv_Reel_WORDS
      obtain ⟨ak, hck, hkw⟩ := T.kt_Reel_WORDS
      obtain ⟨u1, hc1⟩ := T.cn_Reel_MOST_EDITS
      obtain ⟨u2, hc2⟩ := T.k_Reel_MOST_EDITS
      obtain ⟨u3, hc3⟩ := T.cn_ReadyReel_MOST_EDITS
      have rg0 : Ring [0] := ⟨by decide, by decide, fun x hx => by
        rw [List.mem_singleton.mp hx]
        decide⟩
      dsimp only
      refine ⟨_, _, _, _, rfl, T.cr_Reel, hc1, ?_⟩
      refine ⟨sz (by show 1 ≤ _; decide), fun t0 nt0 => ?_⟩
      obtain ⟨H3, e3, s3, ht0⟩ := new_tup nt0 [V.int 0]
      rw [e3]
      have hT3 : TupI K H3 t0 [0] := .inl (.inl ht0)
      intro xr dx nx ndx nxd
      refine ⟨_, false, false, xr, .ref t0, dx, .none, rfl, fm_of T false false, upd_same, jin_of (same_seqT (made_before nx ndx nxd) hT3) rg0, .inr ⟨t0, [0], rfl, rfl, same_seqT (made_before nx ndx nxd) hT3, rg0, fun H4 k4 hR4 => ⟨rfl, ?_⟩⟩⟩
      obtain ⟨dr, vr, vd, vs, hxr, _, _, _⟩ := id hR4
      refine ⟨xr, _, dr, _, _, _, rfl, hxr, (fm_of T false false).c, hc2, rfl, ?_⟩
      refine ⟨_, _, _, _, rfl, T.cr_ReadyReel, hc3, ?_⟩
      refine ⟨_, _, _, _, rfl, T.cr_Reel, hcv, ?_⟩
      refine ⟨sz (by show 1 ≤ _; decide), fun t5 nt5 => ?_⟩
      obtain ⟨H5, e5, s5, ht5⟩ := new_tup nt5 [V.int 0]
      rw [e5]
      have hT5 : TupI K H5 t5 [0] := .inl (.inl ht5)
      intro xr2 dx2 nx2 ndx2 nxd2
      refine ⟨_, false, false, xr2, .ref t5, dx2, .none, rfl, fm_of T false false, upd_same, jin_of (same_seqT (made_before nx2 ndx2 nxd2) hT5) rg0, .inr ⟨t5, [0], rfl, rfl, same_seqT (made_before nx2 ndx2 nxd2) hT5, rg0, fun H6 k6 hR6 => ⟨rfl, ?_⟩⟩⟩
      obtain ⟨dr2, vr2, vd2, vs2, hxr2, _, _, _⟩ := id hR6
      refine ⟨xr2, _, dr2, _, _, _, rfl, hxr2, (fm_of T false false).c, hck, rfl, ?_⟩
      refine ⟨sz (by show 5 ≤ _; decide), fun fl nfl mfl => ?_⟩
      obtain ⟨H7, e7, s7, hfl⟩ := new_lst nfl [V.int 60, .int 60, .int 60, .ref aw, .ref ak]
      rw [e7]
      dsimp only [gName]
      have dq3 : ∀ {H : Hp} {t : Addr}, SqT K H t ((["put", "insert", "remove"] : List Str).map V.str) → Dq false K H (.ref t) (.tuple [.str "put", .str "insert", .str "remove"]) := fun h => .tup h (.cons (.str _) (.cons (.str _) (.cons (.str _) .nil)))
      have ft : ∀ {x : Str}, x = "put" ∨ x = "insert" ∨ x = "remove" → Fit 20 0 (.str x) := fun h => by
        rcases h with rfl | rfl | rfl <;> exact sok_fit (sok_of (by decide +kernel))
      have fw : Fit 100 9 (.tuple [.str "put", .str "insert", .str "remove"]) := (fit_tuple (fitAll_cons (ft (.inl rfl)) (fitAll_cons (ft (.inr (.inl rfl))) (fitAll_cons (ft (.inr (.inr rfl))) (fitAll_nil 0 0))))).mono (by decide) (by decide)
      have fi : Fit 0 9 (.int 60) := fit_int 0 9 (by decide)
      have fd : Fit 100000 50 (.list [.int 60, .int 60, .int 60, .tuple [.str "put", .str "insert", .str "remove"], .tuple [.str "put", .str "insert", .str "remove"]]) := (fit_list (fitAll_cons fi (fitAll_cons fi (fitAll_cons fi (fitAll_cons fw (fitAll_cons fw (fitAll_nil 0 9))))))).mono (by decide) (by decide)
      refine ⟨.ref fl, rfl, false, _, _, rfl, .lst (lstI_of hfl) (fun z => nomatch z) (.cons (.int _) (.cons (.int _) (.cons (.int _) (.cons (dq3 (hw _)) (.cons (dq3 (hkw _)) .nil))))), fd, ?_⟩
      refine ⟨sz (by show 3 ≤ _; decide), fun t8 nt8 => ?_⟩
      obtain ⟨H8, e8, s8, ht8⟩ := new_tup nt8 [V.str "put", .str "insert", .str "remove"]
      rw [e8]
      refine ⟨sz (by show 3 ≤ _; decide), fun t9 nt9 => ?_⟩
      obtain ⟨H9, e9, s9, ht9⟩ := new_tup nt9 [V.str "put", .str "insert", .str "remove"]
      rw [e9]
      refine ⟨sz (by show 5 ≤ _; decide), fun p np mp => ?_⟩
      obtain ⟨H10, e10, s10, hp⟩ := new_lst np [V.int 60, .int 60, .int 60, .ref t8, .ref t9]
      rw [e10]
      refine ⟨false, _, _, rfl, .lst (lstI_of hp) (fun z => nomatch z) (.cons (.int _) (.cons (.int _) (.cons (.int _) (.cons (dq3 (.inl (.inl ((s9.trans s10) _ _ ht8)))) (.cons (dq3 (.inl (.inl (s10 _ _ ht9)))) .nil))))), fd, ?_⟩
      exact rEq_self (q H10)
end
end K62
set_option maxHeartbeats 0
namespace K62
open PySem PySem.Spec PyProof.Rows My
open L2 hiding TupI
theorem facts {w : World} {K : PySem.W.Frag} {h : Heap} {mg : Str → Option Value} {f : Addr} (X : K.In h) (G : h.Ns mainGlobals mg) (hfa : mg ("law" : Str) = some (.ref f)) (c : SupX.SaysU fa fn exq gs ss w h K) :
    ∃ fd : FuncData, (∀ (s : Shared) (v : Value), BindsTo s fd ⟨[v], []⟩ [("_law_script", v)]) ∧ ∀ base : Heap, K.In base → base.Ns mainGlobals mg → RunG P w K mg base 60 f fd ["_law_script"] (spLaw K) := by
  have T : Tx K mg := ⟨⟨h, X, G⟩, c.p.x.t.d, c.p.x.more, c.p.g, c.s⟩
  obtain ⟨fd, F⟩ := T.F_law
  have e := hfa.symm.trans T.g_law
  cases e
  have b := FunD.bindsA (ps := ["_law_script"]) F fun _ _ _ _ _ _ us hl => match us, hl with | [_], _ => rfl
  refine ⟨fd, fun s v => b s [v] rfl, fun base _ _ => ?_⟩
  exact ok_law T F
end K62
open PySem PySem.W PySem.Calls PyProof.Rows
theorem PySem.Challenge.cw_ringpostfix_k62_reels_constructed_holds : PySem.Challenge.rw_ringpostfix_k62_reels_constructed.Holds := by
  w_on; o_law
  refine HandSHeadRun.head_any (r := OpenLaw.row PySem.Challenge.rw_ringpostfix_k62_reels_constructed) (q := view (OpenLaw.row PySem.Challenge.rw_ringpostfix_k62_reels_constructed).prog [71]) (H := K62.hk) (ob := K62.ob) (M := 12000) (loose := K62.loose) (d := HandSHeadRun.topDef (OpenLaw.row PySem.Challenge.rw_ringpostfix_k62_reels_constructed).prog 71) (kwd := []) K62.ob_eq
    (by kernel_rfl) (fun s => by kernel_rfl) K62.run (by kernel_rfl) (by kernel_rfl) (by kernel_rfl) (by rfl) (by first | assumption | decide +kernel) (by decide +kernel) ⟨rfl, rfl, rfl, rfl, rfl, by decide +kernel⟩ ?hw ?hc
  case hw => w_witness2
  case hc =>
    refine My.walk_ofG (l := PySem.Challenge.rw_ringpostfix_k62_reels_constructed) (n := 63) (k := 60) (x := "_law_script") rfl (by decide) (by kernel_rfl) ⟨rfl, by decide, by decide⟩ ?F
    intro w mg fa h Y G hmg0
    obtain ⟨K, KX, c⟩ := Y
    have hmg : mg ("law" : PySem.Str) = some (.ref fa) := by
      have e : (HandSHeadRun.topDef (OpenLaw.row PySem.Challenge.rw_ringpostfix_k62_reels_constructed).prog 71).name = ("law" : PySem.Str) := by kernel_rfl
      rw [← e]
      exact hmg0
    obtain ⟨fd, hb, hF⟩ := K62.facts (w := w) KX G hmg c
    exact ⟨K, fd, K62.spLaw K, KX, hb, fun H a ns hl _ hS => ⟨a, ns, rfl, hS, hl, fun _ => rfl⟩, hF⟩
#print axioms PySem.Challenge.cw_ringpostfix_k62_reels_constructed_holds
