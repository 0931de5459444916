import PyProof.Rows.All
import Wide.All
import OpenK.AllK
import Wide.FinOn
import HandS.List
import HandS.Head0
import HandS.ExcIs
import HandS.Head1
import HandS.Head2
import HandS.HeadHook1
import KE.GoesMore
import KE.KDictZip
import HandS.ForMost
import HandS.ForExc
import HandS.Walk
import HandS.TupAny
import HandS.TupMul
import HandS.Lambda
import HandS.TupLe
import HandS.Deep
import HandS.Wide
import HandS.Codes
import PyProof.StrBlock2
import HandS.IsInst
import HandS.Conv
import PyProof.ListStr
import PyProof.ReprRoads
import KE.DataFind
import HandS.Style
import HandS.ExcOwn
import HandS.More
import HandS.WrittenGet
import PyProof.Rows.StrRev
import KE.KRevSl
import HandS.RaiseMore
import HandS.Zip
import KE.GoesEnumKw
import HandS.TryMany
import HandS.EndTab
import HandS.HeadHook4
import HandS.Star
import PyProof.P3In
import HandS.Strs
import HandS.DictComp
import KE.KExcStr
import HandS.Ends
import HandS.Words
import HandS.HeadHook2
import HandS.HeadHook3
import PySem.Challenge.RW_halfbits_k66_errors_by_hand
set_option Elab.async false
set_option linter.all false
set_option maxRecDepth 100000
section
set_option autoImplicit false
set_option maxRecDepth 100000
/-! V0t: a tuple of texts in the module, by computation. -/
namespace Vl
open PySem PySem.Spec L2 PyProof.Rows

def strsB : List Str → List Value → Bool
  | [], [] => true
  | s :: r, .str z _ :: q => decide (s = z) && strsB r q
  | _, _ => false
def tupB (K : PySem.W.Frag) (a : Addr) (xs : List Str) : Bool := match K.lookup a with
  | some o => (match o.cls, o.data, o.dict with
    | .type t, .seq its _, none => t == "tuple" && (strsB xs its.toList && decide (xs.length ≤ 16777216))
    | _, _, _ => false)
  | none => false
end Vl
end
section
set_option autoImplicit false
set_option maxRecDepth 100000
/-! V0u: what is asked of error classes, by computation. -/
namespace Vl
open PySem PySem.Spec L2 PyProof.Rows

def fndB (K : PySem.W.Frag) (c f : Str) (v : Option Value) : Bool := decide (PySem.W.findIn K (.ref (He.ga K c)) f = some v)
/-- the classes nm, by their names: what isinstance and str ask -/
def excB (K : PySem.W.Frag) (nm : List Str) : Bool := nm.all fun c =>
  fndB K c "__getattribute__" (some (.builtin "BaseException.__getattribute__")) && (fndB K c "__getattr__" none && (decide (PySem.W.subIn K (.ref (He.ga K c)) (.type "BaseException") = some true) && (PySem.W.hasDictIn K (He.ga K c) &&
  (fndB K c "__class__" (some (.builtin "object.__class__")) && (decide (PySem.W.specialIn K (.builtin "object.__class__") "__get__" = some (some (.builtin "getset_descriptor.__get__"))) && (decide (PySem.W.takesIn K (.builtin "object.__class__") = some true) &&
  (decide (PySem.W.mroIn K (He.ga K c) (.type "object") = some true) && fndB K c "__str__" (some (.builtin "BaseException.__str__")))))))))
def isaB (K : PySem.W.Frag) (nm : List Str) (t : Str) (isa : Str → Bool) : Bool := nm.all fun c => decide (PySem.W.kitOne K (.ref (He.ga K c)) (.ref (He.ga K t)) = some (isa c))
def isaTB (K : PySem.W.Frag) (nm : List Str) (t : String) (b : Bool) : Bool := nm.all fun c => decide (PySem.W.kitOne K (.ref (He.ga K c)) (.type t) = some b)
def exmB (K : PySem.W.Frag) (nm : List Str) (t : Str) : Bool := nm.all fun c => decide (PySem.W.exmOne K (.ref (He.ga K c)) (.ref (He.ga K t)) = some true)
end Vl
end
section
set_option maxRecDepth 100000
set_option maxHeartbeats 0
namespace Tk
open PySem PySem.Spec PyProof.Rows L2
abbrev hTop (i : Nat) : Stmt := PySem.Challenge.pw_halfbits_k66_errors_by_hand.main.body.getD i (.Pass ⟨0, 0, 0, 0⟩)
def dd__law_caught : He.DefD := ⟨("_law_caught", none), "_law_caught", "_law_caught", defArgs (hTop 61), defBody (hTop 61), defScope (hTop 61), [], []⟩
def dd_is_count : He.DefD := ⟨("is_count", none), "is_count", "is_count", defArgs (hTop 1), defBody (hTop 1), defScope (hTop 1), [], []⟩
def dd_is_word : He.DefD := ⟨("is_word", none), "is_word", "is_word", defArgs (hTop 30), defBody (hTop 30), defScope (hTop 30), [], []⟩
def dd_check_word : He.DefD := ⟨("check_word", none), "check_word", "check_word", defArgs (hTop 31), defBody (hTop 31), defScope (hTop 31), [], []⟩
def dd_is_gate : He.DefD := ⟨("is_gate", none), "is_gate", "is_gate", defArgs (hTop 39), defBody (hTop 39), defScope (hTop 39), [], []⟩
def dd_are_outs : He.DefD := ⟨("are_outs", none), "are_outs", "are_outs", defArgs (hTop 40), defBody (hTop 40), defScope (hTop 40), [], []⟩
def dd_marked : He.DefD := ⟨("marked", none), "marked", "marked", defArgs (hTop 45), defBody (hTop 45), defScope (hTop 45), [], []⟩
def dd_let_through : He.DefD := ⟨("let_through", none), "let_through", "let_through", defArgs (hTop 46), defBody (hTop 46), defScope (hTop 46), [], []⟩
def dd_sign_at : He.DefD := ⟨("sign_at", none), "sign_at", "sign_at", defArgs (hTop 47), defBody (hTop 47), defScope (hTop 47), [], []⟩
def dd_check_rounds : He.DefD := ⟨("check_rounds", none), "check_rounds", "check_rounds", defArgs (hTop 52), defBody (hTop 52), defScope (hTop 52), [], []⟩
def dd_reads_of : He.DefD := ⟨("reads_of", none), "reads_of", "reads_of", defArgs (hTop 54), defBody (hTop 54), defScope (hTop 54), [], []⟩
def dd__law_open : He.DefD := ⟨("_law_open", none), "_law_open", "_law_open", defArgs (hTop 56), defBody (hTop 56), defScope (hTop 56), [], []⟩
def dd__law_spread : He.DefD := ⟨("_law_spread", none), "_law_spread", "_law_spread", defArgs (hTop 57), defBody (hTop 57), defScope (hTop 57), [], []⟩
def dd__law_take : He.DefD := ⟨("_law_take", none), "_law_take", "_law_take", defArgs (hTop 58), defBody (hTop 58), defScope (hTop 58), [], []⟩
def dd__law_one_of : He.DefD := ⟨("_law_one_of", none), "_law_one_of", "_law_one_of", defArgs (hTop 59), defBody (hTop 59), defScope (hTop 59), [], []⟩
def dd__law_kinds_of : He.DefD := ⟨("_law_kinds_of", none), "_law_kinds_of", "_law_kinds_of", defArgs (hTop 60), defBody (hTop 60), defScope (hTop 60), [], []⟩
def dd_are_gates : He.DefD := ⟨("are_gates", none), "are_gates", "are_gates", defArgs (hTop 38), defBody (hTop 38), defScope (hTop 38), [], []⟩
def dd_answers_at : He.DefD := ⟨("answers_at", none), "answers_at", "answers_at", defArgs (hTop 44), defBody (hTop 44), defScope (hTop 44), [], []⟩
def dd_reads : He.DefD := ⟨("reads", none), "reads", "reads", defArgs (hTop 53), defBody (hTop 53), defScope (hTop 53), [], []⟩
def dd_is_net : He.DefD := ⟨("is_net", none), "is_net", "is_net", defArgs (hTop 37), defBody (hTop 37), defScope (hTop 37), [], []⟩
def dd_check_net : He.DefD := ⟨("check_net", none), "check_net", "check_net", defArgs (hTop 41), defBody (hTop 41), defScope (hTop 41), [], []⟩
def dd_told_at : He.DefD := ⟨("told_at", none), "told_at", "told_at", defArgs (hTop 43), defBody (hTop 43), defScope (hTop 43), [], []⟩
def dd_run : He.DefD := ⟨("run", none), "run", "run", defArgs (hTop 42), defBody (hTop 42), defScope (hTop 42), [], []⟩
def dd_law : He.DefD := ⟨("law", none), "law", "law", defArgs (hTop 62), defBody (hTop 62), defScope (hTop 62), [], []⟩
def hFn : List He.DefD := [dd__law_caught, dd_is_count, dd_is_word, dd_check_word, dd_is_gate, dd_are_outs, dd_marked, dd_let_through, dd_sign_at, dd_check_rounds, dd_reads_of, dd__law_open, dd__law_spread, dd__law_take, dd__law_one_of, dd__law_kinds_of, dd_are_gates, dd_answers_at, dd_reads, dd_is_net, dd_check_net, dd_told_at, dd_run, dd_law]
def hFa0 : List He.Fa := [.glo "_law_caught", .glo "is_count", .glo "is_word", .glo "check_word", .glo "is_gate", .glo "are_outs", .glo "marked", .glo "let_through", .glo "sign_at", .glo "check_rounds", .glo "reads_of", .glo "_law_open", .glo "_law_spread", .glo "_law_take", .glo "_law_one_of", .glo "_law_kinds_of", .glo "are_gates", .glo "answers_at", .glo "reads", .glo "is_net", .glo "check_net", .glo "told_at", .glo "run", .glo "law", .glo "BitError", .exc "BitError", .glo "NoWord", .exc "NoWord", .glo "NoNet", .exc "NoNet"]
def hFa1 : List He.Fa := [.glo "NoTable", .exc "NoTable", .glo "NoTelling", .exc "NoTelling", .glo "NoSum", .exc "NoSum", .glo "NoDemand", .exc "NoDemand", .glo "NoPicks", .exc "NoPicks", .glo "NoCount", .exc "NoCount", .glo "NoKind", .exc "NoKind", .glo "NoPlan", .exc "NoPlan", .glo "NoCode", .exc "NoCode", .glo "NoRow", .exc "NoRow", .glo "NoMatch", .exc "NoMatch", .glo "NoGate", .exc "NoGate", .glo "NoBoard", .exc "NoBoard", .glo "NoDeed", .exc "NoDeed", .glo "NoDrop", .exc "NoDrop"]
def hFa2 : List He.Fa := [.glo "NoUndo", .exc "NoUndo", .glo "NoThings", .exc "NoThings", .glo "NoLets", .exc "NoLets", .glo "NotThere", .exc "NotThere", .glo "NoMachine", .exc "NoMachine", .glo "TooGreat", .exc "TooGreat", .glo "PARTS", .glo "KINDS", .glo "BITS", .free "LookupError", .free "ValueError", .free "all", .free "any", .free "bool", .free "dict", .free "enumerate", .free "int", .free "isinstance", .free "len", .free "list", .free "range", .free "repr", .free "set", .free "sorted"]
def hFa3 : List He.Fa := [.free "str", .free "sum", .free "tuple", .free "zip", .str "SIGNS" "01?", .int "MOST_BITS" 32, .int "MOST_INPUTS" 32, .int "MOST_GATES" 100000, .int "MOST_OUTS" 32, .int "MOST_READS" 8]
def hFa : List He.Fa := hFa0 ++ (hFa1 ++ (hFa2 ++ (hFa3)))
def hTs : List He.Tab := [(fun K => He.ga K "PARTS", ["0", "1", "not", "and", "or"])]
def hTf : List He.Defn := [("law", none)]
def hv_PARTS : List (Str × He.Dv) := [("0", .int 1), ("1", .int 1), ("not", .int 2), ("and", .int 3), ("or", .int 3)]
def hNm : List Str := ["BitError", "NoWord", "NoNet", "NoTable", "NoTelling", "NoSum", "NoDemand", "NoPicks", "NoCount", "NoKind", "NoPlan", "NoCode", "NoRow", "NoMatch", "NoGate", "NoBoard", "NoDeed", "NoDrop", "NoUndo", "NoThings", "NoLets", "NotThere", "NoMachine", "TooGreat"]
def hEx (K : PySem.W.Frag) : Bool := He.valsB K (He.ga K "PARTS") hv_PARTS && (Vl.tupB K (He.ga K "KINDS") ["plain", "low", "high"] && (Vl.tupB K (He.ga K "BITS") ["0", "1", "?"] && (Vl.excB K hNm && (Vl.isaB K hNm "BitError" (fun c => c == "BitError" || "BitError" == "BitError") && (Vl.isaB K hNm "NoBoard" (fun c => c == "NoBoard" || "NoBoard" == "BitError") && (Vl.isaB K hNm "NoCode" (fun c => c == "NoCode" || "NoCode" == "BitError") && (Vl.isaB K hNm "NoCount" (fun c => c == "NoCount" || "NoCount" == "BitError") && (Vl.isaB K hNm "NoDeed" (fun c => c == "NoDeed" || "NoDeed" == "BitError") && (Vl.isaB K hNm "NoDemand" (fun c => c == "NoDemand" || "NoDemand" == "BitError") && (Vl.isaB K hNm "NoDrop" (fun c => c == "NoDrop" || "NoDrop" == "BitError") && (Vl.isaB K hNm "NoGate" (fun c => c == "NoGate" || "NoGate" == "BitError") && (Vl.isaB K hNm "NoKind" (fun c => c == "NoKind" || "NoKind" == "BitError") && (Vl.isaB K hNm "NoLets" (fun c => c == "NoLets" || "NoLets" == "BitError") && (Vl.isaB K hNm "NoMachine" (fun c => c == "NoMachine" || "NoMachine" == "BitError") && (Vl.isaB K hNm "NoMatch" (fun c => c == "NoMatch" || "NoMatch" == "BitError") && (Vl.isaB K hNm "NoNet" (fun c => c == "NoNet" || "NoNet" == "BitError") && (Vl.isaB K hNm "NoPicks" (fun c => c == "NoPicks" || "NoPicks" == "BitError") && (Vl.isaB K hNm "NoPlan" (fun c => c == "NoPlan" || "NoPlan" == "BitError") && (Vl.isaB K hNm "NoRow" (fun c => c == "NoRow" || "NoRow" == "BitError") && (Vl.isaB K hNm "NoSum" (fun c => c == "NoSum" || "NoSum" == "BitError") && (Vl.isaB K hNm "NoTable" (fun c => c == "NoTable" || "NoTable" == "BitError") && (Vl.isaB K hNm "NoTelling" (fun c => c == "NoTelling" || "NoTelling" == "BitError") && (Vl.isaB K hNm "NoThings" (fun c => c == "NoThings" || "NoThings" == "BitError") && (Vl.isaB K hNm "NoUndo" (fun c => c == "NoUndo" || "NoUndo" == "BitError") && (Vl.isaB K hNm "NoWord" (fun c => c == "NoWord" || "NoWord" == "BitError") && (Vl.isaB K hNm "NotThere" (fun c => c == "NotThere" || "NotThere" == "BitError") && (Vl.isaB K hNm "TooGreat" (fun c => c == "TooGreat" || "TooGreat" == "BitError") && (Vl.isaTB K hNm "LookupError" false && (Vl.isaTB K hNm "ValueError" true && (Vl.exmB K hNm "BitError"))))))))))))))))))))))))))))))
def hLo0 : List Str := ["__name__", "is_count", "BitError", "NoWord", "NoNet", "NoTable", "NoTelling", "NoSum", "NoDemand", "NoPicks", "NoCount", "NoKind", "NoPlan", "NoCode", "NoRow", "NoMatch", "NoGate", "NoBoard", "NoDeed", "NoDrop", "NoUndo", "NoThings", "NoLets", "NotThere", "NoMachine", "TooGreat", "SIGNS", "MOST_BITS", "is_word", "check_word"]
def hLo1 : List Str := ["MOST_INPUTS", "MOST_GATES", "MOST_OUTS", "PARTS", "is_net", "are_gates", "is_gate", "are_outs", "check_net", "run", "told_at", "answers_at", "marked", "let_through", "sign_at", "KINDS", "BITS", "MOST_READS", "check_rounds", "reads", "reads_of", "_law_open", "_law_spread", "_law_take", "_law_one_of", "_law_kinds_of", "_law_caught"]
def hLo : List Str := hLo0 ++ (hLo1)
abbrev hR : PySem.W.OpenRow := PySem.W.OpenLaw.row PySem.Challenge.rw_halfbits_k66_errors_by_hand
abbrev hHk : PySem.W.Hook := He.hookX 4 hFa hFn hTs hTf hEx
def hOb (s : PySem.W.SharedT) : He.AlX := He.obsX 4 hFa hFn hTs hTf hEx (HandSHeadRun.getT s)
theorem hOb_eq (s : PySem.W.SharedT) : hOb s = hHk.obs s.abs := He.obsX_eq (HandSHeadRun.getT_eq s)
theorem hRunF (w : World) : HandSHeadRun.RunEq hR (PySem.W.view hR.prog [62]) hHk hOb 18920 hLo (w.withFollow "special-get-raises" false) := by
  intro os
  kernel_rfl
theorem hRunT (w : World) : HandSHeadRun.RunEq hR (PySem.W.view hR.prog [62]) hHk hOb 18920 hLo (w.withFollow "special-get-raises" true) := by
  intro os
  kernel_rfl
theorem hRun (w : World) : HandSHeadRun.RunEq hR (PySem.W.view hR.prog [62]) hHk hOb 18920 hLo w := PySem.W.byRow2 "special-get-raises" (P := fun w => HandSHeadRun.RunEq hR (PySem.W.view hR.prog [62]) hHk hOb 18920 hLo w) hRunF hRunT w
end Tk
end
section
set_option autoImplicit false
set_option maxRecDepth 100000
/-! Z0: zip over any number of iterators with equally many items; the tuple that it gave out last may live on or not. -/
namespace Vl
open PySem

theorem typeCall_zipN (us : List Value) : checkTypeCall "zip" ⟨us, []⟩ = pure () := by kernel_rfl
theorem newCall_zipN (a : Value) (us : List Value) : checkBuiltinCall "zip.__new__" ⟨.type "zip" :: a :: us, []⟩ = pure () := by kernel_rfl
theorem initArgs_zipN (obj : Value) (us : List Value) : argsOk "object.__init__" ⟨obj :: us, []⟩ := by unfold argsOk; kernel_rfl

abbrev ZipO (h : Heap) (z TI TO : Addr) (own : Value) (f : Bool) : Prop :=
  h.get? z = some { cls := .type "zip", dict := none, data := .fields #[own, .bool f, .bool false, .ref TI, .ref TO], slots := #[] }
abbrev TupN (h : Heap) (T : Addr) (vs : List Value) : Prop := h.get? T = some { cls := .type "tuple", data := .seq vs.toArray }
structure ItZ where
  it : Addr
  fp : List Addr
  P : Nat → Value → Prop
  St : Nat → Heap → Prop
section
variable {prog : Program} {w : World} {A : Around} {E : Value → Shared → Prop} { s : Shared }
theorem alive_any {a : Addr} {Q : Option Obj → Shared → Prop} (h : Q (s.heap.get? a) s) : wpAny (model prog w) A (loadIfAlive a) Q E s := fun _ _ _ => h
theorem tupFree_zip {z TI TO : Addr} {own : Value} {f : Bool} {Q : Bool → Shared → Prop} (hz : ZipO s.heap z TI TO own f) (ho : own = .none ∨ ∃ a : Nat, own = rawInt a)
    (h1 : Q true s) (h2 : ∀ h', ZipO h' z TI TO own true → Heap.SameBut z s.heap h' → Q false { s with heap := h' }) : wpAny (model prog w) A (Builtin.SmallTypes.ownedTupleIsFree (.ref z)) Q E s := by
  (unfold Builtin.SmallTypes.ownedTupleIsFree)
  rcases ho with rfl | ⟨T, rfl⟩
  · exact wpAny_bind (wpAny_field hz rfl (x := .none) rfl (wpAny_pure h1))
  · refine wpAny_bind (wpAny_field hz rfl (x := rawInt T) rfl ?_)
    show (wpAny _ _ (loadIfAlive ((T : Int).toNat) >>= _) _ _ _)
    rw [Int.toNat_natCast]
    refine wpAny_bind (alive_any ?_)
    cases s.heap.get? T with
    | none =>
      simp only [if_true, Option.isNone_none]
      exact wpAny_pure h1
    | some o =>
      simp only [Bool.false_eq_true, if_false, Option.isNone_some]
      refine (wpAny_bind (wpAny_field hz rfl (x := .bool f) rfl ?_))
      cases f with
      | true =>
        rw [(if_neg (show ¬ ((Value.bool true != Value.bool true) = true) from Bool.false_ne_true))]
        exact wpAny_pure (h2 s.heap hz (Heap.SameBut.refl _ _))
      | false =>
        rw [(if_pos (show (Value.bool false != Value.bool true) = true from rfl))]
        exact wpAny_bind (wpAny_setField_rec hz (by simp) fun h₁ hz₁ hs₁ => wpAny_pure (h2 h₁ hz₁ hs₁))
theorem letGo_zip {tg : Expr} {z TI TO T : Addr} {own : Value} {f : Bool} {Q : Unit → Shared → Prop} (hz : ZipO s.heap z TI TO own f) (ho : own = .none ∨ ∃ a : Nat, own = rawInt a)
    (hQ : ∀ h' own', (own' = .none ∨ ∃ a : Nat, own' = rawInt a) → ZipO h' z TI TO own' f → Heap.SameBut z s.heap h' → Q () { s with heap := h' }) :
    wpAny (model prog w) A (letOwnedTupleGo tg (.ref z) (.ref T)) Q E s := by
  have same : Q () s := hQ s.heap own ho hz (Heap.SameBut.refl _ _)
  unfold letOwnedTupleGo
  cases tg <;> first
    | exact wpAny_pure same
    | (refine wpAny_bind (wpAny_load hz ?_)
       dsimp only
       split
       · refine (wpAny_bind (wpAny_rule ?_))
         show (wpAny _ _ (setField (.ref z) 0 .none) Q E s)
         exact wpAny_setField_rec hz (by simp) fun h' hz' sbh => hQ h' .none (.inl rfl) hz' sbh
       · exact wpAny_pure same)
theorem pyIter_zipO {z TI TO : Addr} {own : Value} {f : Bool} {Q : Value → Shared → Prop} (hz : ZipO s.heap z TI TO own f) (h : Q (.ref z) s) : wpAny (model prog w) A (pyIter (.ref z)) Q E s := by
  have hT : (s.TypeIs (.ref z) "zip") := ⟨_, hz, rfl⟩
  refine (wpAny_pyIter_slot hT F.slot_zip_iter (wpAny_call_entry F.slot_zip_iter hT F.entry_zip_iter ?_ (F.args_zip_iter_1 _)))
  show (wpAny _ _ (ret (.ref z)) _ _ s)
  exact (wpAny_pure ⟨_, rfl, "zip", _, hT, F.slot_zip_next.lookup, h⟩)

/-- the cells lie apart -/
structure ZSep (z TI TO : Addr) (L : List ItZ) : Prop where
  TIz : TI ≠ z
  TOz : TO ≠ z
  TITO : TI ≠ TO
  one : ∀ d ∈ L, d.it ∈ d.fp ∧ z ∉ d.fp ∧ TO ∉ d.fp ∧ TI ≠ d.it
  two : L.Pairwise fun a b => a.it ∉ b.fp ∧ b.it ∉ a.fp
theorem ZSep.zi {z TI TO : Addr} {L : List ItZ} (S : ZSep z TI TO L) {d : ItZ} (h : d ∈ L) : z ≠ d.it := fun e => (S.one d h).2.1 (e ▸ (S.one d h).1)
theorem ZSep.Ti {z TI TO : Addr} {L : List ItZ} (S : ZSep z TI TO L) {d : ItZ} (h : d ∈ L) : TO ≠ d.it := fun e => (S.one d h).2.2.1 (e ▸ (S.one d h).1)
inductive All2 {α β : Type} (R : α → β → Prop) : List α → List β → Prop
  | nil : All2 R [] []
  | cons {a b as bs} : R a b → All2 R as bs → All2 R (a :: as) (b :: bs)
theorem All2.snoc {α β : Type} {R : α → β → Prop} {as : List α} {bs : List β} {a : α} {b : β} (h : All2 R as bs) (r : R a b) : All2 R (as ++ [a]) (bs ++ [b]) := by
  induction h with
  | nil => exact .cons r .nil
  | cons h _ ih => exact .cons h ih
theorem All2.len {α β : Type} {R : α → β → Prop} {as : List α} {bs : List β} (h : All2 R as bs) : as.length = bs.length := by
  induction h with
  | nil => rfl
  | cons h _ ih => rw [List.length_cons, List.length_cons, ih]
/-- where the drawing stands -/
structure ZAt (z TO : Addr) (L : List ItZ) (i : Nat) (hp : Heap) (L1 L2 : List ItZ) (xs : List Value) (h : Heap) : Prop where
  eq : L = L1 ++ L2
  val : All2 (fun d x => d.P i x) L1 xs
  old : ∀ d ∈ L1, d.St (i + 1) h
  new : ∀ d ∈ L2, d.St i h
  sz : h.objs.size = hp.objs.size
  kp : ∀ c o, c ≠ z → c ≠ TO → (∀ d ∈ L, c ≠ d.it) → hp.get? c = some o → h.get? c = some o
theorem zset_at (xs ys : List Value) (y x : Value) : (xs ++ y :: ys).toArray.setIfInBounds xs.length x = ((xs ++ [x]) ++ ys).toArray := by
  simp
/-- one draw -/
theorem ZAt.draw {z TI TO : Addr} {L : List ItZ} {i n : Nat} {hp h : Heap} {L1 L2 : List ItZ} {d : ItZ} {xs : List Value} {Q : Value → Shared → Prop} {g : Array GenState} {dr : Drawn} {tk : Nat} {os : OsState}
    (S : ZSep z TI TO L) (D : ∀ d ∈ L, Draws prog w A d.it d.fp n d.P d.St) (hi : i < n) (Z : ZAt z TO L i hp L1 (d :: L2) xs h)
    (hQ : ∀ x h' tk, Heap.SameBut d.it h h' → ZAt z TO L i hp (L1 ++ [d]) L2 (xs ++ [x]) h' → Q x ⟨h', g, dr, tk, os⟩) : wpAny (model prog w) A (Builtin.SmallTypes.nextOf (.ref d.it)) Q E ⟨h, g, dr, tk, os⟩ := by
  have hd : d ∈ L := by rw [Z.eq]; simp
  refine (D d hd).item i _ _ _ hi (Z.new d (by simp)) fun x h' tk' hx sn hs => hQ x h' tk' hs ?_
  have pw := S.two
  rw [Z.eq] at pw
  obtain ⟨_, p2, p3⟩ := List.pairwise_append.mp pw
  obtain ⟨p4, _⟩ := List.pairwise_cons.mp p2
  refine ⟨by rw [Z.eq]; simp, Z.val.snoc hx, fun e he => ?_, fun e he => ?_, hs.1.trans Z.sz, fun c o c1 c2 c3 q => hs.extBut _ _ (c3 d hd) (Z.kp c o c1 c2 c3 q)⟩
  · rcases (List.mem_append.mp he) with he | he
    · exact (D e (by rw [Z.eq]; simp [he])).over (Z.old e he) hs (p3 e he d (by simp)).2
    · rcases List.mem_singleton.mp he with rfl
      exact sn
  · exact (D e (by rw [Z.eq]; simp [he])).over (Z.new e (by simp [he])) hs (p4 e he).1
end
end Vl
end
section
set_option autoImplicit false
set_option maxRecDepth 100000
/-! Z1: next of such a zip. -/
namespace Vl
open PySem
section
variable {prog : Program} {w : World} {A : Around} {E : Value → Shared → Prop} {s : Shared} {z TI TO : Addr} {L : List ItZ} {i n : Nat}

theorem newTupleL {vs : List Value} {Q : Value → Shared → Prop} (hz : vs.length ≤ sizeLine) (h : Q (.ref s.heap.objs.size) { s with heap := s.heap.push { cls := .type "tuple", data := .seq vs.toArray } }) :
    wpAny (model prog w) A (newTuple vs) Q E s := wpAny_newTuple h hz
/-- an item: the tuple is new; what the zip keeps is told by its cells -/
theorem zipN_next_item {own : Value} {f : Bool} {olds : List Value} {Q : Value → Shared → Prop} (S : ZSep z TI TO L) (D : ∀ d ∈ L, Draws prog w A d.it d.fp n d.P d.St) (hL : L ≠ []) (hlen : olds.length = L.length) (hsz : L.length ≤ sizeLine)
    (hz : ZipO s.heap z TI TO own f) (ho : own = .none ∨ ∃ a : Nat, own = rawInt a) (hTI : TupN s.heap TI (L.map fun d => .ref d.it)) (hTO : TupN s.heap TO olds) (st : ∀ d ∈ L, d.St i s.heap) (hlt : i < n)
    (hQ : ∀ xs h' tk own' f', All2 (fun (d : ItZ) x => d.P i x) L xs → (own' = .none ∨ ∃ a : Nat, own' = rawInt a) → ZipO h' z TI TO own' f' → (∃ olds', olds'.length = L.length ∧ TupN h' TO olds') → (∀ d ∈ L, d.St (i + 1) h') → TupN h' s.heap.objs.size xs → h'.objs.size = s.heap.objs.size + 1 →
      (∀ c o, c ≠ z → c ≠ TO → (∀ d ∈ L, c ≠ d.it) → s.heap.get? c = some o → h'.get? c = some o) → Q (.ref s.heap.objs.size) { s with heap := h', toks := tk }) :
    wpAny (model prog w) A (Builtin.«zip.__next__» ⟨[.ref z], []⟩) (fun fi s' => ∃ v, fi = .done (.ret v) ∧ Q v s') E s := by
  obtain ⟨hp, g, d, tk0, os⟩ := (s)
  show (wpAny _ _ (field (.ref z) 2 >>= _) _ _ _)
  refine (wpAny_bind (wpAny_field hz rfl (x := .bool false) rfl ?_))
  show (wpAny _ _ (field (.ref z) 3 >>= _) _ _ _)
  refine (wpAny_bind (wpAny_field hz rfl (x := .ref TI) rfl ?_))
  refine (wpAny_bind (wpAny_seqItems hTI rfl ?_))
  obtain ⟨d0, L0, rfl⟩ : ∃ d0 L0, L = d0 :: L0 := by
    cases L with
    | nil => exact absurd rfl hL
    | cons a b => exact ⟨a, b, rfl⟩
  show (wpAny _ _ (Builtin.SmallTypes.ownedTupleIsFree (.ref z) >>= _) _ _ _)
  refine wpAny_bind (tupFree_zip hz ho ?_ fun h1 hz1 hs1 => ?_)
  · -- the tuple of the zip is used again
    simp only [if_true]
    refine (wpAny_bind (wpAny_rule ?_))
    refine (wpAny_bind (wpAny_field hz rfl (x := .ref TO) rfl ?_))
    refine wpAny_bind (wpAny_setField_rec hz (by simp) fun g0 hz0 sb0 => ?_)
    replace hz0 : ZipO g0 z TI TO .ellipsis f := hz0
    replace sb0 : Heap.SameBut z hp g0 := sb0
    refine wpAny_bind ?_
    refine wpAny_forIn_list _ (fun rest b s' => ∃ L1 L2 xs os2 h' tk', ZAt z TO (d0 :: L0) i hp L1 L2 xs h' ∧ os2.length = L2.length ∧ TupN h' TO (xs ++ os2) ∧ ZipO h' z TI TO .ellipsis f ∧ rest = (L2.map fun d => Value.ref d.it).zipIdx L1.length ∧ b.1 = none ∧ s' = ⟨h', g, d, tk', os⟩) _ ?_ ?_ _ _
      ⟨[], d0 :: L0, [], olds, g0, tk0, ⟨rfl, .nil, (fun _ h => nomatch h), (fun e he => (D e he).over (st e he) sb0 (S.one e he).2.1), sb0.1, fun c o c1 _ _ q => sb0.extBut _ _ c1 q⟩, hlen, sb0.extBut _ _ S.TOz hTO, hz0, by simp, rfl, rfl⟩
    · rintro x rest b s1 ⟨L1, L2, xs, os2, h', tk', Z, ol, tO, zO, er, eb, rfl⟩
      obtain ⟨b1, b2⟩ := b
      cases eb
      cases L2 with
      | nil => cases er
      | cons d1 L2 =>
        rw [List.map_cons, List.zipIdx_cons] at er
        cases er
        have hd1 : d1 ∈ d0 :: L0 := by rw [Z.eq]; simp
        obtain ⟨y, os3, rfl⟩ : ∃ y os3, os2 = y :: os3 := by
          cases os2 with
          | nil => cases ol
          | cons a b => exact ⟨a, b, rfl⟩
        refine wpAny_bind (wpAny_onRaise ?_)
        show wpAny _ _ (Builtin.SmallTypes.nextOf (.ref d1.it) >>= _) _ _ ⟨h', g, d, tk', os⟩
        refine wpAny_bind (ZAt.draw S D hlt Z fun x h2 tk2 hs2 Z2 => wpAny_pure ?_)
        have tO2 : TupN h2 TO (xs ++ y :: os3) := hs2.extBut _ _ (S.Ti hd1) tO
        have zO2 : ZipO h2 z TI TO .ellipsis f := hs2.extBut _ _ (S.zi hd1) zO
        have lx : xs.length = L1.length := Z.val.len.symm
        have lt : (xs ++ y :: os3).length = (d0 :: L0).length := by
          rw [Z.eq, List.length_append, List.length_append, lx, List.length_cons, List.length_cons]
          simp only [List.length_cons] at ol
          omega
        refine wpAny_bind (wpAny_seqItems (s := ⟨h2, g, d, tk2, os⟩) tO2 rfl ?_)
        refine wpAny_bind (wpAny_updateSeq (s := ⟨h2, g, d, tk2, os⟩) tO2 rfl ?_ (by rw [List.size_toArray, lt]; exact hsz) (by rw [Array.size_setIfInBounds, List.size_toArray, lt]; exact Nat.le_succ_of_le hsz))
        refine (wpAny_bind (wpAny_letGo (wpAny_pure ?_)))
        have hs3 : Heap.SameBut TO h2 (h2.update TO (Obj.mapSeq (·.setIfInBounds L1.length x))) := Heap.SameBut.update ..
        have tO3 : TupN (h2.update TO (Obj.mapSeq (·.setIfInBounds L1.length x))) TO ((xs ++ [x]) ++ os3) := by
          show Heap.get? _ _ = _
          rw [Heap.get?_update_self _ tO2 rfl]
          have e := zset_at xs os3 y x
          rw [lx] at e
          have e2 : ((xs ++ [x] ++ os3).toArray.size == (xs ++ y :: os3).toArray.size) = true := by simp
          simp only [Obj.mapSeq, e]
          rw [if_pos e2]
        refine ⟨L1 ++ [d1], L2, xs ++ [x], os3, _, tk2, ⟨Z2.eq, Z2.val, fun e he => (D e (by rw [Z2.eq]; exact List.mem_append_left _ he)).over (Z2.old e he) hs3 (S.one e (by rw [Z2.eq]; exact List.mem_append_left _ he)).2.2.1, fun e he => (D e (by rw [Z2.eq]; exact List.mem_append_right _ he)).over (Z2.new e he) hs3 (S.one e (by rw [Z2.eq]; exact List.mem_append_right _ he)).2.2.1, hs3.1.trans Z2.sz, fun c o c1 c2 c3 q => hs3.extBut _ _ c2 (Z2.kp c o c1 c2 c3 q)⟩, by simpa using ol, tO3, hs3.extBut _ _ S.TOz.symm zO2, by simp, rfl, rfl⟩
    · rintro b s1 ⟨L1, L2, xs, os2, h', tk', Z, ol, tO, zO, er, eb, rfl⟩
      obtain ⟨b1, b2⟩ := b
      cases eb
      have e2 : L2 = [] := by
        cases L2 with
        | nil => rfl
        | cons a l => rw [List.map_cons, List.zipIdx_cons] at er; cases er
      subst e2
      have e1 : d0 :: L0 = L1 := by rw [Z.eq, List.append_nil]
      have e3 : os2 = [] := List.length_eq_zero_iff.mp ol
      subst e3
      rw [List.append_nil] at tO
      have lx : xs.length = (d0 :: L0).length := by rw [e1]; exact Z.val.len.symm
      have hsz1 := Z.sz
      refine wpAny_bind (wpAny_seqItems (s := ⟨h', g, d, tk', os⟩) tO rfl ?_)
      refine wpAny_bind (newTupleL (by rw [show xs.toArray.toList = xs by simp, lx]; exact hsz) ?_)
      rw [show xs.toArray.toList = xs by simp]
      have hzlt : z < h'.objs.size := Heap.lt_size zO
      show wpAny _ _ (Builtin.SmallTypes.ownedTupleHandOut (.ref z) (.ref h'.objs.size) >>= _) _ _ ⟨h'.push { cls := .type "tuple", data := .seq xs.toArray }, g, d, tk', os⟩
      refine wpAny_bind ?_
      (unfold Builtin.SmallTypes.ownedTupleHandOut)
      have hz6 : ZipO (h'.push { cls := .type "tuple", data := .seq xs.toArray }) z TI TO .ellipsis f := Heap.get?_push_of_some _ zO
      refine wpAny_bind (wpAny_setField_rec hz6 (by simp) fun h7 hz7 hs7 => ?_)
      replace hz7 : ZipO h7 z TI TO (rawInt h'.objs.size) f := hz7
      refine wpAny_setField_rec hz7 (by simp) fun h8 hz8 hs8 => ?_
      replace hz8 : ZipO h8 z TI TO (rawInt h'.objs.size) false := hz8
      replace hs7 : Heap.SameBut z (h'.push { cls := .type "tuple", data := .seq xs.toArray }) h7 := hs7
      replace hs8 : Heap.SameBut z h7 h8 := hs8
      have up : ∀ c o, c ≠ z → h'.get? c = some o → h8.get? c = some o := fun c o c1 e => hs8.extBut _ _ c1 (hs7.extBut _ _ c1 (Heap.get?_push_of_some _ e))
      have hT8 : TupN h8 h'.objs.size xs := hs8.extBut _ _ (Nat.ne_of_gt hzlt) (hs7.extBut _ _ (Nat.ne_of_gt hzlt) (Heap.get?_push_size _ rfl))
      have h8z : h8.objs.size = h'.objs.size + 1 := by rw [hs8.1, hs7.1, Heap.size_push]
      rw [hsz1] at hz8 hT8 h8z
      refine (wpAny_pure ⟨_, rfl, ?_⟩)
      show Q (.ref h'.objs.size) ⟨h8, g, d, tk', os⟩
      rw [hsz1]
      rw [← e1] at Z
      refine hQ xs h8 tk' _ false Z.val (.inr ⟨_, rfl⟩) hz8 ⟨xs, lx, up _ _ S.TOz tO⟩ (fun e he => (D e he).frame _ _ _ (Z.old e he) fun b hb o q => up b o (fun q => (S.one e he).2.1 (q ▸ hb)) q) hT8 h8z fun c o c1 c2 c3 q => up c o c1 (Z.kp c o c1 c2 c3 q)
  · -- the tuple that it gave out lives on: another one
    simp only [if_false, Bool.false_eq_true]
    refine wpAny_bind ?_
    rw [← Array.forIn_toList]
    refine wpAny_forIn_list _ (fun rest b s' => ∃ L1 L2 xs h' tk', ZAt z TO (d0 :: L0) i hp L1 L2 xs h' ∧ (∀ c o, c ≠ z → (∀ d ∈ d0 :: L0, c ≠ d.it) → hp.get? c = some o → h'.get? c = some o) ∧ ZipO h' z TI TO own true ∧ rest = (L2.map fun d => Value.ref d.it) ∧ b.1 = none ∧ b.2 = xs.toArray ∧ s' = ⟨h', g, d, tk', os⟩) _ ?_ ?_ _ _
      ⟨[], d0 :: L0, [], h1, tk0, ⟨rfl, .nil, (fun _ h => nomatch h), (fun e he => (D e he).over (st e he) hs1 (S.one e he).2.1), hs1.1, fun c o c1 _ _ q => hs1.extBut _ _ c1 q⟩, fun c o c1 _ q => hs1.extBut _ _ c1 q, hz1, by simp, rfl, rfl, rfl⟩
    · rintro x rest b s1 ⟨L1, L2, xs, h', tk', Z, kp, zO, er, eb, eb2, rfl⟩
      obtain ⟨b1, b2⟩ := b
      cases eb
      cases eb2
      cases L2 with
      | nil => cases er
      | cons d1 L2 =>
        rw [List.map_cons] at er
        cases er
        have hd1 : d1 ∈ d0 :: L0 := by rw [Z.eq]; simp
        refine (wpAny_bind (wpAny_holding ?_))
        show wpAny _ _ (Builtin.SmallTypes.nextOf (.ref d1.it) >>= _) _ _ ⟨h', g, d, tk', os⟩
        refine wpAny_bind (ZAt.draw S D hlt Z fun x h2 tk2 hs2 Z2 => wpAny_pure (wpAny_pure ?_))
        refine ⟨L1 ++ [d1], L2, xs ++ [x], h2, tk2, Z2, fun c o c1 c3 q => hs2.extBut _ _ (c3 d1 hd1) (kp c o c1 c3 q), hs2.extBut _ _ (S.zi hd1) zO, rfl, rfl, by simp, rfl⟩
    · rintro b s1 ⟨L1, L2, xs, h', tk', Z, kp, zO, er, eb, eb2, rfl⟩
      obtain ⟨b1, b2⟩ := b
      cases eb
      cases eb2
      have e2 : L2 = [] := by
        cases L2 with
        | nil => rfl
        | cons a l => rw [List.map_cons] at er; cases er
      subst e2
      have e1 : d0 :: L0 = L1 := by rw [Z.eq, List.append_nil]
      have lx : xs.length = (d0 :: L0).length := by rw [e1]; exact Z.val.len.symm
      have hsz1 := Z.sz
      refine wpAny_bind (newTupleL (by rw [show xs.toArray.toList = xs by simp, lx]; exact hsz) ?_)
      rw [show xs.toArray.toList = xs by simp]
      refine (wpAny_pure ⟨_, rfl, ?_⟩)
      show Q (.ref h'.objs.size) ⟨h'.push { cls := .type "tuple", data := .seq xs.toArray }, g, d, tk', os⟩
      have hT8 : TupN (h'.push { cls := .type "tuple", data := .seq xs.toArray }) h'.objs.size xs := Heap.get?_push_size _ rfl
      have h8z : (h'.push { cls := .type "tuple", data := .seq xs.toArray }).objs.size = h'.objs.size + 1 := Heap.size_push ..
      rw [hsz1] at hT8 h8z ⊢
      rw [← e1] at Z
      refine hQ xs _ tk' own true Z.val ho (Heap.get?_push_of_some _ zO) ⟨olds, hlen, Heap.get?_push_of_some _ (kp _ _ S.TOz (fun e he => S.Ti he) hTO)⟩ (fun e he => (D e he).frame _ _ _ (Z.old e he) fun b hb o q => Heap.get?_push_of_some _ q) hT8 h8z fun c o c1 c2 c3 q => Heap.get?_push_of_some _ (kp c o c1 c3 q)

/-- the end: the first one has no more -/
theorem zipN_next_end {own : Value} {f : Bool} {olds : List Value} {Q : Fin → Shared → Prop} (S : ZSep z TI TO L) (D : ∀ d ∈ L, Draws prog w A d.it d.fp n d.P d.St) (hL : L ≠ [])
    (hz : ZipO s.heap z TI TO own f) (ho : own = .none ∨ ∃ a : Nat, own = rawInt a) (hTI : TupN s.heap TI (L.map fun d => .ref d.it)) (hTO : TupN s.heap TO olds) (st : ∀ d ∈ L, d.St n s.heap)
    (hE : ∀ h' e, (∀ c o, c ≠ z → c ≠ TO → (∀ d ∈ L, c ≠ d.it) → s.heap.get? c = some o → h'.get? c = some o) → (∃ o, h'.get? e = some o ∧ o.cls = .type "StopIteration") → E (.ref e) { s with heap := h' }) :
    wpAny (model prog w) A ((Builtin.«zip.__next__» ⟨[.ref z], []⟩)) Q E s := by
  obtain ⟨hp, g, d, tk0, os⟩ := (s)
  show (wpAny _ _ (field (.ref z) 2 >>= _) _ _ _)
  refine (wpAny_bind (wpAny_field hz rfl (x := .bool false) rfl ?_))
  show (wpAny _ _ (field (.ref z) 3 >>= _) _ _ _)
  refine (wpAny_bind (wpAny_field hz rfl (x := .ref TI) rfl ?_))
  refine (wpAny_bind (wpAny_seqItems hTI rfl ?_))
  obtain ⟨d0, L0, rfl⟩ : ∃ d0 L0, L = d0 :: L0 := by
    cases L with
    | nil => exact absurd rfl hL
    | cons a b => exact ⟨a, b, rfl⟩
  have h0 : d0 ∈ d0 :: L0 := by simp
  show (wpAny _ _ (Builtin.SmallTypes.ownedTupleIsFree (.ref z) >>= _) _ _ _)
  refine wpAny_bind (tupFree_zip hz ho ?_ fun h1 hz1 hs1 => ?_)
  · simp only [if_true]
    refine (wpAny_bind (wpAny_rule ?_))
    refine (wpAny_bind (wpAny_field hz rfl (x := .ref TO) rfl ?_))
    refine wpAny_bind (wpAny_setField_rec hz (by simp) fun g0 hz0 sb0 => ?_)
    replace hz0 : ZipO g0 z TI TO .ellipsis f := hz0
    replace sb0 : Heap.SameBut z hp g0 := sb0
    refine wpAny_bind ?_
    simp only [List.map_cons, List.zipIdx_cons, List.forIn_cons]
    refine (wpAny_bind (wpAny_bind (wpAny_onRaise ?_)))
    show wpAny _ _ (Builtin.SmallTypes.nextOf (.ref d0.it) >>= _) _ _ ⟨g0, g, d, tk0, os⟩
    refine wpAny_bind ((D d0 h0).done ⟨g0, g, d, tk0, os⟩ _ _ ((D d0 h0).over (st d0 h0) sb0 (S.one d0 h0).2.1) fun q e hq he => ?_)
    replace hq : Heap.ExtBut d0.it g0 q := hq
    obtain ⟨oe, oeq, hce⟩ := he
    replace oeq : q.get? e = some oe := oeq
    have hzq : ZipO q z TI TO .ellipsis f := hq _ _ (S.zi h0) hz0
    have hez : e ≠ z := fun x => by subst x; rw [hzq] at oeq; cases oeq; simp at hce
    refine wpAny_setField_rec (s := ⟨q, g, d, tk0, os⟩) hzq (by simp) fun q' _ sq' => ?_
    replace sq' : Heap.SameBut z q q' := sq'
    exact hE q' e (fun c o cz cT c3 x => sq'.extBut _ _ cz (hq _ _ (c3 d0 h0) (sb0.extBut _ _ cz x))) ⟨oe, sq'.extBut _ _ hez oeq, hce⟩
  · simp only [if_false, Bool.false_eq_true]
    refine wpAny_bind ?_
    rw [← Array.forIn_toList]
    simp only [List.map_cons, List.forIn_cons]
    refine (wpAny_bind (wpAny_bind (wpAny_holding ?_)))
    show wpAny _ _ (Builtin.SmallTypes.nextOf (.ref d0.it) >>= _) _ _ ⟨h1, g, d, tk0, os⟩
    refine wpAny_bind ((D d0 h0).done ⟨h1, g, d, tk0, os⟩ _ _ ((D d0 h0).over (st d0 h0) hs1 (S.one d0 h0).2.1) fun q e hq he => ?_)
    replace hq : Heap.ExtBut d0.it h1 q := hq
    exact hE q e (fun c o cz cT c3 x => hq _ _ (c3 d0 h0) (hs1.extBut _ _ cz x)) he
end
end Vl
end
section
set_option autoImplicit false
set_option maxRecDepth 100000
/-! Z2: such a zip begins. -/
namespace Vl
open PySem
/-- objects one behind the other -/
def pushAll (h : Heap) : List Obj → Heap
  | [] => h
  | o :: os => pushAll (h.push o) os
def BegAll (h : Heap) : List Value → List Obj → Prop
  | [], os => os = []
  | v :: vs, os => ∃ o r Hh, os = o :: r ∧ Begins v o Hh ∧ Hh h ∧ BegAll h vs r
theorem BegAll.len {h : Heap} : ∀ {vs : List Value} {os : List Obj}, BegAll h vs os → os.length = vs.length
  | [], os, e => by rw [show os = [] from e]; rfl
  | _ :: vs, os, ⟨o, r, Hh, e, _, _, q⟩ => by rw [e, List.length_cons, List.length_cons, BegAll.len q]
theorem BegAll.up {h h' : Heap} (k : ∀ b o, h.get? b = some o → h'.get? b = some o) : ∀ {vs : List Value} {os : List Obj}, BegAll h vs os → BegAll h' vs os
  | [], os, e => e
  | _ :: vs, os, ⟨o, r, Hh, e, B, b, q⟩ => ⟨o, r, Hh, e, B, B.keeps _ _ b k, BegAll.up k q⟩
theorem pushAll_size : ∀ (os : List Obj) (h : Heap), (pushAll h os).objs.size = h.objs.size + os.length
  | [], h => rfl
  | o :: os, h => by rw [pushAll, pushAll_size os, Heap.size_push, List.length_cons]; omega
theorem pushAll_keep : ∀ (os : List Obj) (h : Heap) (b : Addr) (o : Obj), h.get? b = some o → (pushAll h os).get? b = some o
  | [], h, b, o, e => e
  | x :: os, h, b, o, e => pushAll_keep os _ b o (Heap.get?_push_of_some _ e)
theorem pushAll_get : ∀ (os : List Obj) (h : Heap) (j : Nat) (o : Obj), (∀ o ∈ os, o.isFreed = false) → os[j]? = some o → (pushAll h os).get? (h.objs.size + j) = some o
  | [], h, j, o, _, e => by simp at e
  | x :: os, h, 0, o, f, e => by
    simp at e
    subst e
    exact pushAll_keep os _ _ _ (Heap.get?_push_size _ (f x (by simp)))
  | x :: os, h, j + 1, o, f, e => by
    have q := pushAll_get os (h.push x) j o (fun o ho => f o (by simp [ho])) (by simpa using e)
    rw [Heap.size_push] at q
    rw [pushAll, show h.objs.size + (j + 1) = h.objs.size + 1 + j by omega]
    exact q
theorem pushAll_snoc : ∀ (os : List Obj) (h : Heap) (o : Obj), pushAll h (os ++ [o]) = (pushAll h os).push o
  | [], h, o => rfl
  | x :: os, h, o => by rw [List.cons_append, pushAll, pushAll, pushAll_snoc os]
theorem BegAll.free {h : Heap} : ∀ {vs : List Value} {os : List Obj}, BegAll h vs os → ∀ o ∈ os, o.isFreed = false
  | [], os, e, o, ho => by rw [show os = [] from e] at ho; cases ho
  | _ :: vs, os, ⟨x, r, Hh, e, B, b, q⟩, o, ho => by
    subst e
    rcases List.mem_cons.mp ho with rfl | ho
    · exact B.free
    · exact BegAll.free q o ho
section
variable {prog : Program} {w : World} {A : Around} {E : Value → Shared → Prop} { s : Shared }
def refsFrom (n : Nat) (k : Nat) : List Value := (List.range' n k).map Value.ref
theorem refs_snoc (n k : Nat) : refsFrom n (k + 1) = refsFrom n k ++ [.ref (n + k)] := by
  unfold refsFrom
  rw [List.range'_concat, List.map_append]
  simp
theorem iterAll_any {vs : List Value} {os : List Obj} {Q : List Value → Shared → Prop} (B : BegAll s.heap vs os)
    (h : Q (refsFrom s.heap.objs.size os.length) { s with heap := pushAll s.heap os }) : wpAny (model prog w) A (Builtin.SmallTypes.iterAll vs) Q E s := by
  obtain ⟨hp, g, d, tk, oss⟩ := s
  (unfold Builtin.SmallTypes.iterAll)
  refine wpAny_bind ?_
  refine wpAny_forIn_list _ (fun rest b s' => ∃ o1 o2, os = o1 ++ o2 ∧ BegAll hp rest o2 ∧ b = (refsFrom hp.objs.size o1.length).toArray ∧ s' = ⟨pushAll hp o1, g, d, tk, oss⟩) _ ?_ ?_ _ _ ⟨[], os, rfl, B, rfl, rfl⟩
  · rintro x rest b s1 ⟨o1, o2, eo, ⟨o, r, Hh, e2, Bx, bx, q⟩, rfl, rfl⟩
    subst e2
    refine (wpAny_bind (wpAny_holding ?_))
    refine Bx.iter prog w _ _ ⟨pushAll hp o1, g, d, tk, oss⟩ _ (Bx.keeps _ _ bx fun b o' e => pushAll_keep o1 _ b o' e) (wpAny_pure ?_)
    refine ⟨o1 ++ [o], r, by rw [eo]; simp, q, ?_, by rw [pushAll_snoc]⟩
    rw [List.length_append, List.length_singleton, refs_snoc, pushAll_size]
    simp
  · rintro b s1 ⟨o1, o2, eo, q, rfl, rfl⟩
    have e2 : o2 = [] := q
    subst e2
    have e1 : os = o1 := by rw [eo, List.append_nil]
    subst e1
    refine wpAny_pure ?_
    simpa using h

abbrev zN1 (h : Heap) (os : List Obj) : Heap := (pushAll h os).push { cls := .type "tuple", data := .seq (refsFrom h.objs.size os.length).toArray }
abbrev zN2 (h : Heap) (os : List Obj) : Heap := (zN1 h os).push { cls := .type "tuple", data := .seq ((refsFrom h.objs.size os.length).map fun _ => Value.none).toArray }
abbrev zN3 (h : Heap) (os : List Obj) : Heap := (zN2 h os).push { cls := .type "zip", data := .fields #[.none, .bool false, .bool false, .ref (pushAll h os).objs.size, .ref (zN1 h os).objs.size] }
theorem refs_len (n k : Nat) : (refsFrom n k).length = k := by simp [refsFrom]
theorem newTupleT {vs : List Value} {Q : Value → Shared → Prop} (hz : vs.length ≤ sizeLine) (h : Q (.ref s.heap.objs.size) { s with heap := s.heap.push { cls := .type "tuple", data := .seq vs.toArray } }) :
    wpAny (model prog w) A (newTuple vs) Q E s := wpAny_newTuple h hz
theorem meets_zip_newN {v : Value} {vs : List Value} {os : List Obj} (hz : (v :: vs).length ≤ sizeLine) :
    Meets (Builtin.«zip.__new__» ⟨.type "zip" :: v :: vs, []⟩) (fun _ R s => BegAll s.heap (v :: vs) os ∧
      R (.ok (.ret (.ref (zN2 s.heap os).objs.size))) { s with heap := zN3 s.heap os }) :=
  .of_wp fun prog w A R s => fun h => by
    obtain ⟨hp, g, d, tk, oss⟩ := s; obtain ⟨h1, h⟩ := h
    have hsub := sub_zip
    have hl := h1.len
    have q1 : ∀ {A' : Around} {E : Value → Shared → Prop} {Q : List Value → Shared → Prop}, Q (refsFrom hp.objs.size os.length) ⟨pushAll hp os, g, d, tk, oss⟩ → wpAny (model prog w) A' (Builtin.SmallTypes.iterAll (v :: vs)) Q E ⟨hp, g, d, tk, oss⟩ :=
      fun q => iterAll_any (s := ⟨hp, g, d, tk, oss⟩) h1 q
    have q2 : ∀ {A' : Around} {E : Value → Shared → Prop} {Q : Value → Shared → Prop}, Q (.ref (pushAll hp os).objs.size) ⟨zN1 hp os, g, d, tk, oss⟩ → wpAny (model prog w) A' (newTuple (refsFrom hp.objs.size os.length)) Q E ⟨pushAll hp os, g, d, tk, oss⟩ :=
      fun q => newTupleT (s := ⟨pushAll hp os, g, d, tk, oss⟩) (by rw [refs_len, hl]; exact hz) q
    have q3 : ∀ {A' : Around} {E : Value → Shared → Prop} {Q : Value → Shared → Prop}, Q (.ref (zN1 hp os).objs.size) ⟨zN2 hp os, g, d, tk, oss⟩ → wpAny (model prog w) A' (newTuple ((refsFrom hp.objs.size os.length).map fun _ => Value.none)) Q E ⟨zN1 hp os, g, d, tk, oss⟩ :=
      fun q => newTupleT (s := ⟨zN1 hp os, g, d, tk, oss⟩) (by rw [List.length_map, refs_len, hl]; exact hz) q
    wp_walk using q1, q2, q3
    exact ⟨_, rfl, h⟩
/-- its new cells -/
theorem zip_beginsN {v : Value} {vs : List Value} {os : List Obj} {Q : Value → Shared → Prop} (hz : (v :: vs).length ≤ sizeLine) (B : BegAll s.heap (v :: vs) os)
    (h : ∀ h', ZipO h' (s.heap.objs.size + os.length + 2) (s.heap.objs.size + os.length) (s.heap.objs.size + os.length + 1) .none false → TupN h' (s.heap.objs.size + os.length) (refsFrom s.heap.objs.size os.length) →
      TupN h' (s.heap.objs.size + os.length + 1) ((refsFrom s.heap.objs.size os.length).map fun _ => Value.none) → (∀ j o, os[j]? = some o → h'.get? (s.heap.objs.size + j) = some o) →
      (∀ c o, s.heap.get? c = some o → h'.get? c = some o) → Q (.ref (s.heap.objs.size + os.length + 2)) { s with heap := h' }) :
    wpAny (model prog w) A (call (.type "zip") (v :: vs)) Q E s := by
  refine callType_new F.called_zip (by decide) (typeCall_zipN _) (newCall_zipN _ _) (fun obj => initArgs_zipN obj _) F.entry_zip_new (meets_zip_newN (os := os) hz) ⟨B, ?_⟩
  have z0 := pushAll_size os s.heap
  have z1 : (zN1 s.heap os).objs.size = s.heap.objs.size + os.length + 1 := by rw [Heap.size_push, z0]
  have z2 : (zN2 s.heap os).objs.size = s.heap.objs.size + os.length + 2 := by rw [Heap.size_push, z1]
  have gZ : (zN3 s.heap os).get? (zN2 s.heap os).objs.size = some { cls := .type "zip", data := .fields #[.none, .bool false, .bool false, .ref (pushAll s.heap os).objs.size, .ref (zN1 s.heap os).objs.size] } := Heap.get?_push_size _ rfl
  have gO : (zN3 s.heap os).get? (zN1 s.heap os).objs.size = some { cls := .type "tuple", data := .seq ((refsFrom s.heap.objs.size os.length).map fun _ => Value.none).toArray } := Heap.get?_push_of_some _ (Heap.get?_push_size _ rfl)
  have gT : (zN3 s.heap os).get? (pushAll s.heap os).objs.size = some { cls := .type "tuple", data := .seq (refsFrom s.heap.objs.size os.length).toArray } := Heap.get?_push_of_some _ (Heap.get?_push_of_some _ (Heap.get?_push_size _ rfl))
  rw [z2, z1, z0] at gZ
  rw [z1] at gO
  rw [z0] at gT
  show _ ∧ _
  rw [z2]
  exact ⟨⟨_, gZ, rfl⟩, h _ gZ gT gO (fun j o e => Heap.get?_push_of_some _ (Heap.get?_push_of_some _ (Heap.get?_push_of_some _ (pushAll_get os _ j o B.free e)))) fun c o e => Heap.get?_push_of_some _ (Heap.get?_push_of_some _ (Heap.get?_push_of_some _ (pushAll_keep os _ c o e)))⟩
variable {z TI TO : Addr} {L : List ItZ} {i n : Nat}
theorem pyNext_zipN_item {own : Value} {f : Bool} {olds : List Value} {Q : Option Value → Shared → Prop} (S : ZSep z TI TO L) (D : ∀ d ∈ L, Draws prog w A.in1 d.it d.fp n d.P d.St) (hL : L ≠ []) (hlen : olds.length = L.length) (hsz : L.length ≤ sizeLine)
    (hz : ZipO s.heap z TI TO own f) (ho : own = .none ∨ ∃ a : Nat, own = rawInt a) (hTI : TupN s.heap TI (L.map fun d => .ref d.it)) (hTO : TupN s.heap TO olds) (st : ∀ d ∈ L, d.St i s.heap) (hlt : i < n)
    (hQ : ∀ xs h' tk own' f', All2 (fun (d : ItZ) x => d.P i x) L xs → (own' = .none ∨ ∃ a : Nat, own' = rawInt a) → ZipO h' z TI TO own' f' → (∃ olds', olds'.length = L.length ∧ TupN h' TO olds') → (∀ d ∈ L, d.St (i + 1) h') → TupN h' s.heap.objs.size xs → h'.objs.size = s.heap.objs.size + 1 →
      (∀ c o, c ≠ z → c ≠ TO → (∀ d ∈ L, c ≠ d.it) → s.heap.get? c = some o → h'.get? c = some o) → Q (some (.ref s.heap.objs.size)) { s with heap := h', toks := tk }) :
    wpAny (model prog w) A ((pyNext (.ref z))) Q E s := by
  have hT : (s.TypeIs (.ref z) "zip") := ⟨_, hz, rfl⟩
  unfold pyNext
  refine wpAny_bind (wpAny_attempt (wpAny_callSpecial?_slot (name := Str.ofString "__next__") hT F.slot_zip_next ?_))
  exact (wpAny_call_entry F.slot_zip_next hT F.entry_zip_next
      (zipN_next_item S D hL hlen hsz hz ho hTI hTO st hlt fun xs h' tk own' f' b1 b2 b3 b4 b5 b6 b7 b8 => wpAny_pure (hQ xs h' tk own' f' b1 b2 b3 b4 b5 b6 b7 b8)) (F.args_zip_next_1 _))
theorem pyNext_zipN_end {own : Value} {f : Bool} {olds : List Value} {Q : Option Value → Shared → Prop} (S : ZSep z TI TO L) (D : ∀ d ∈ L, Draws prog w A.in1 d.it d.fp n d.P d.St) (hL : L ≠ [])
    (hz : ZipO s.heap z TI TO own f) (ho : own = .none ∨ ∃ a : Nat, own = rawInt a) (hTI : TupN s.heap TI (L.map fun d => .ref d.it)) (hTO : TupN s.heap TO olds) (st : ∀ d ∈ L, d.St n s.heap)
    (hQ : ∀ h', (∀ c o, c ≠ z → c ≠ TO → (∀ d ∈ L, c ≠ d.it) → s.heap.get? c = some o → h'.get? c = some o) → Q none { s with heap := h' }) : wpAny (model prog w) A (pyNext (.ref z)) Q E s := by
  have hT : (s.TypeIs (.ref z) "zip") := ⟨_, hz, rfl⟩
  unfold pyNext
  refine wpAny_bind (wpAny_attempt (wpAny_callSpecial?_slot (name := Str.ofString "__next__") hT F.slot_zip_next ?_))
  refine wpAny_call_entry F.slot_zip_next hT F.entry_zip_next (zipN_next_end S D hL hz ho hTI hTO st fun h' e hk he => ?_) (F.args_zip_next_1 _)
  obtain ⟨o, ho, hc⟩ := he
  refine (wpAny_bind (wpAny_isInstance (T := "StopIteration") (b := true) ⟨o, ho, hc⟩ isSubtype_stop ?_))
  exact wpAny_pure (hQ _ hk)
end
end Vl
end
section
set_option maxRecDepth 100000
set_option autoImplicit false
/-! V0: tuples that are made, told as the objects they are (no dict of their own). -/
namespace Vl
open PySem PySem.Spec PyProof.Rows L2

/-- a new plain tuple -/
def nT (xs : List V) (H : Hp) (Q : VK) : Prop := ∀ (p : Addr) (o : Obj), H p = none → o.dict = none → Q (.ref p) (upd H p (.frz o (.tup xs)))
section
variable {X : Cx} {pins : List (Addr × Obj)} {s : Shared} {σ : L2.St} {H : Hp} {Q : VK}
theorem frz_ok {xs : List V} {uvs : List Value} {h : Heap} (iv : L2.Inv X pins σ H s) (z : xs.length ≤ sizeLine) (r : Vals xs uvs) (hk : ∀ b u, s.heap.get? b = some u → h.get? b = some u) (q : nT xs H Q) :
    EP X pins σ Q (.ref h.objs.size) { s with heap := h.push { cls := .type "tuple", data := .seq uvs.toArray } } := by
  have iv1 : L2.Inv X pins σ H { s with heap := h } := iv.kept (t' := s.toks) hk
  refine ⟨.ref h.objs.size, upd H h.objs.size (.frz { cls := .type "tuple", data := .seq uvs.toArray } (.tup xs)), iv1.laid (t' := s.toks) (fun b u e => Heap.get?_push_of_some _ e) (Nat.le_refl _) ?_, rfl, q _ _ (iv1.hok.fresh (Nat.le_refl _)) rfl⟩
  exact ⟨Heap.get?_push_size _ rfl, z, uvs, r, ⟨_, Heap.get?_push_size _ rfl, rfl, _, rfl⟩⟩
def tTupF (t : L2.TA) : TE := fun σ H Q => t σ H fun xs H1 => xs.length ≤ sizeLine ∧ nT xs H1 Q
theorem pe_tupF {es : List Expr} {t : L2.TA} {x1 : Nat} {pos : Pos} (h : PA X es t) : PE X (.Tuple es x1 pos) (tTupF t) := by
  refine ⟨fun pins s σ H Q iv sq0 => wpAny_Tuple_spliced (thn (h.run pos pins s σ H _ iv sq0) fun uvs s1 ⟨xs, H1, iv1, r, z, q⟩ => ⟨by rw [← r.length]; exact z, ?_⟩)⟩
  exact frz_ok iv1 z r (fun _ _ e => e) q
def rTupleOf (K : PySem.W.Frag) : List V → Hp → VK → Prop := fun xs H Q => ∃ p ws, xs = [.ref p] ∧ ((SqL K H p ws ∧ nT ws H Q) ∨ (SqT K H p ws ∧ Q (.ref p) H))
theorem call_tupF : CallR X (.type "tuple") (rTupleOf X.K) := by
  intro pins s σ H xs uvs Q iv r h
  obtain ⟨p, ws, rfl, h⟩ := h
  obtain ⟨u, rfl, rlx⟩ := vals1 r
  cases rlx
  rcases h with ⟨sq0, q⟩ | ⟨sq0, q⟩
  · obtain ⟨itz, rl0, plx, szz⟩ := iv.list sq0
    have lnn := rl0.length
    exact call_tuple_list plx.isList (fun h' kp => frz_ok iv szz rl0 kp q) (by simp only [List.size_toArray] <;> omega)
  · obtain ⟨itz, rl0, plx, szz⟩ := iv.tuple sq0
    exact call_tuple_same plx ⟨.ref p, H, iv, rfl, q⟩
def rCatF (K : PySem.W.Frag) : R2 := fun x y H Q => ∃ a b xs ws, x = .ref a ∧ y = .ref b ∧ SqT K H a xs ∧ SqT K H b ws ∧ xs.length + ws.length ≤ sizeLine ∧
  (xs = [] → Q (.ref b) H) ∧ (xs ≠ [] → ws = [] → Q (.ref a) H) ∧ (xs ≠ [] → ws ≠ [] → nT (xs ++ ws) H Q)
theorem op_catF : OpR X (binaryOp .Add) (rCatF X.K) := by
  intro pins s σ H x y v u Q iv rlx rly h
  obtain ⟨a, b, xs, ws, rfl, rfl, sqa, sqb, szz, k0, k1, k2⟩ := h
  by_cases nox : xs = []
  · exact op_catA pins s σ H _ _ v u Q iv rlx rly ⟨a, b, xs, ws, rfl, rfl, sqa, sqb, szz, k0, fun n => absurd nox n, fun n => absurd nox n⟩
  · cases rlx
    cases rly
    obtain ⟨itz, rl1, pl1, _⟩ := iv.tuple sqa
    obtain ⟨itw, rl2, pl2, _⟩ := iv.tuple sqb
    exact HT.cat_tup pl1 pl2 (fun z => nox (rl1.nil_iff.mp z)) (fun z => ⟨.ref a, H, iv, rfl, k1 nox (rl2.nil_iff.mp z)⟩)
      (fun z => frz_ok iv (by rw [List.length_append]; exact szz) (rl1.append rl2) (fun _ _ e => e) (k2 nox fun w => z (rl2.nil_iff.mpr w))) (by rw [← rl1.length, ← rl2.length]; exact szz)
def rSlF (K : PySem.W.Frag) : V → Option Int → Option Int → Hp → VK → Prop := fun x lo hi H Q => ∃ a xs, x = .ref a ∧ SqT K H a xs ∧
  (HT.sIx xs.length 0 lo = 0 ∧ HT.sIx xs.length xs.length hi = xs.length → Q (.ref a) H) ∧ (¬ (HT.sIx xs.length 0 lo = 0 ∧ HT.sIx xs.length xs.length hi = xs.length) → nT (cutV xs lo hi) H Q)
theorem sl_tupF : SlR X (rSlF X.K) := by
  intro pins s σ H x v vl vu lo hi sl Q iv rlx hs plx pu h
  obtain ⟨a, xs, rfl, nox, k1, k2⟩ := h
  by_cases wh : HT.sIx xs.length 0 lo = 0 ∧ HT.sIx xs.length xs.length hi = xs.length
  · exact sl_tupA pins s σ H _ v vl vu lo hi sl Q iv rlx hs plx pu ⟨a, xs, rfl, nox, k1, fun n => absurd wh n⟩
  · cases rlx
    obtain ⟨itz, r, tup, szz⟩ := iv.tuple nox
    have lnn : itz.toArray.size = xs.length := by rw [List.size_toArray]; exact r.length.symm
    refine ⟨"tuple", _, PyProof.Rows.slot_tuple_getitem.lookup, tup.typeIs, ?_⟩
    refine HT.getItem_tuple_cut tup hs plx pu (by rw [lnn]; exact wh) ?_ (by rw [lnn]; exact szz)
    rw [lnn]
    exact frz_ok iv (Nat.le_trans (cutV_length xs lo hi) szz) ((r.drop (HT.sIx xs.length 0 lo)).take (HT.sIx xs.length xs.length hi - HT.sIx xs.length 0 lo)) (fun _ _ e => e) (k2 wh)
end
end Vl
end
section
set_option maxRecDepth 100000
set_option maxHeartbeats 2000000
set_option autoImplicit false
/-! V0m: tuple * int, one and more. -/
namespace Vl
open PySem PySem.Spec PyProof.Rows L2

theorem tup_mul1 (l : Addr) (items : Array Value) (n : Nat) (dd : Option Addr) (sl : Array (Option Value)) (x : Int) (u : Tok) (c0 : (decide (x < -(2 ^ 63)) || decide (x ≥ 2 ^ 63)) = false) (c1 : (items.isEmpty || x == 1) = true) :
    Meets (Builtin.«tuple.__mul__» (⟨[.ref l, .int x u], []⟩)) (fun _ R s => s.heap.get? l = some { cls := .type "tuple", dict := dd, data := .seq items n, slots := sl } ∧ R (.ok (.ret (Value.ref l))) s) :=
  .of_wp fun prog w A R s => fun h => by
    obtain ⟨hp, g, d, tk, os⟩ := (s)
    obtain ⟨hl, h⟩ := h
    have f1 := AutoSeq1.idx_int
    (wp_walk using wpAny_loadPart' hl)
    repeat (first
      | (refine wpAny_ite_false (decide_eq_false (by rw [c0]; exact (Bool.false_ne_true))) ?_; wp_walk using wpAny_loadPart' hl)
      | (refine wpAny_ite_true (decide_eq_true c1) ?_; wp_walk using wpAny_loadPart' hl))
    exact ⟨_, rfl, h⟩
theorem tup_mul0 (l : Addr) (items : Array Value) (n : Nat) (dd : Option Addr) (sl : Array (Option Value)) (x : Int) (u : Tok) (c0 : (decide (x < -(2 ^ 63)) || decide (x ≥ 2 ^ 63)) = false) (c1 : (items.isEmpty || x == 1) = false) (c2 : (decide (x ≤ 0) || items.isEmpty) = true) :
    Meets (Builtin.«tuple.__mul__» (⟨[.ref l, .int x u], []⟩)) (fun _ R s => s.heap.get? l = some { cls := .type "tuple", dict := dd, data := .seq items n, slots := sl } ∧
      R (.ok (.ret (Value.ref s.heap.objs.size))) { s with heap := s.heap.push { cls := Value.type "tuple", data := Data.seq ([] : List Value).toArray }, toks := s.toks }) :=
  .of_wp fun prog w A R s => fun h => by
    obtain ⟨hp, g, d, tk, os⟩ := (s)
    obtain ⟨hl, h⟩ := h
    have f1 := AutoSeq1.idx_int
    (wp_walk using wpAny_loadPart' hl)
    repeat (first
      | (refine wpAny_ite_false (decide_eq_false (by rw [c0]; exact (Bool.false_ne_true))) ?_; wp_walk using wpAny_loadPart' hl)
      | (refine wpAny_ite_false (decide_eq_false (by rw [c1]; exact (Bool.false_ne_true))) ?_; wp_walk using wpAny_loadPart' hl)
      | (refine wpAny_ite_true (decide_eq_true c2) ?_; wp_walk using wpAny_loadPart' hl))
    exact ⟨_, rfl, h⟩
def rRepF (K : PySem.W.Frag) : R2 := fun x y H Q => ∃ l k xs, x = .ref l ∧ y = .int k ∧ SqT K H l xs ∧ -(2 ^ 63) ≤ k ∧ k < 2 ^ 63 ∧ xs.length * k.toNat ≤ 1000000 ∧
  ((xs = [] ∨ k = 1) → Q (.ref l) H) ∧ (xs ≠ [] → k ≤ 0 → nT [] H Q) ∧ (xs ≠ [] → 2 ≤ k → nT (List.replicate k.toNat xs).flatten H Q)
theorem op_repF {X : Cx} : OpR X (binaryOp .Mult) (rRepF X.K) := by
  intro pins s σ H x y; intro v u Q I rx ry h
  obtain ⟨l, k, xs, rfl, rfl, hT, h1, h2, hz, q1, q0, q2⟩ := h
  cases rx
  obtain ⟨t, rfl⟩ := ry
  obtain ⟨its, r, ⟨⟨cls, dd, data, sl⟩, ho, hc, n, hd⟩, hs⟩ := (I.tuple hT)
  simp only at hc hd
  subst hc hd
  have hle : (its.length = xs.length) := r.length.symm
  have c0 : ((decide (k < -(2 ^ 63)) || decide (k ≥ 2 ^ 63)) = false) := by
    (rw [decide_eq_false (by omega), decide_eq_false (by omega)] <;> exact rfl)
  refine wpAny_binaryOp_repeat_ref (T := "tuple") (U := "int") (by decide) ⟨_, ho, rfl⟩ (fun s' => typeIs_int s' k t) noFill_tuple_mul (F.fills_int_mul) F.slot_int_rmul repeat_tuple F.slot_int_index.lookup
    (call_meets F.slot_int_rmul (typeIs_int s k t) F.entry_int_rmul (F.args_int_rmul_2 _ _) (int_rmul_tuple k t l its.toArray n dd sl) ⟨ho, rfl, ⟨_, ho, rfl⟩, ?_⟩)
  by_cases hc1 : xs = [] ∨ k = 1
  · have c1 : (its.toArray.isEmpty || k == 1) = true := by
      rcases hc1 with rfl | rfl
      · have : its = [] := List.length_eq_zero_iff.mp (by rw [hle]; rfl)
        subst this; rfl
      · simp
    exact call_meets F.slot_tuple_mul ⟨_, ho, rfl⟩ F.entry_tuple_mul (F.args_tuple_mul_2 _ _) (tup_mul1 l its.toArray n dd sl k t c0 c1) ⟨ho, ⟨.ref l, H, I, rfl, q1 hc1⟩⟩
  · have hne : xs ≠ [] := fun z => hc1 (.inl z)
    have hk1 : k ≠ 1 := fun z => hc1 (.inr z)
    have hn : its ≠ [] := fun e => hne (List.length_eq_zero_iff.mp (by rw [← hle, e]; rfl))
    have hi : (its.toArray.isEmpty = false) := by
      cases its with
      | nil => exact absurd rfl hn
      | cons a b => rfl
    have c1 : ((its.toArray.isEmpty || k == 1) = false) := by
      rw [hi, Bool.false_or]
      exact beq_eq_false_iff_ne.mpr hk1
    by_cases hk : k ≤ 0
    · have c2 : (decide (k ≤ 0) || its.toArray.isEmpty) = true := by rw [decide_eq_true hk, Bool.true_or]
      exact call_meets F.slot_tuple_mul ⟨_, ho, rfl⟩ F.entry_tuple_mul (F.args_tuple_mul_2 _ _) (tup_mul0 l its.toArray n dd sl k t c0 c1 c2) ⟨ho, frz_ok I (Nat.zero_le _) .nil (fun _ _ e => e) (q0 hne hk)⟩
    · have c2 : (decide (k ≤ 0) || its.toArray.isEmpty) = false := by
        rw [hi, Bool.or_false]
        exact decide_eq_false hk
      have e1 : (k.toNat : Int) = k := Int.toNat_of_nonneg (by omega)
      have e2 : ((its.toArray.size : Nat) : Int) * k ≤ 1000000 := by
        rw [List.size_toArray, hle, ← e1, ← Int.natCast_mul]
        exact Int.ofNat_le.mpr hz
      have flen : ((List.replicate k.toNat its).flatten.length ≤ sizeLine) := by
        rw [PyProof.Rows.lm_len_rep_flat, hle, sizeLine_eq, Nat.mul_comm]
        omega
      have c4 : (Builtin.Tuple.tupleTooMany (((its.toArray.size : Nat) : Int) * k) = false) := by
        (unfold Builtin.Tuple.tupleTooMany)
        rw [sizeLine_eq]
        exact (decide_eq_false (by omega))
      refine call_meets F.slot_tuple_mul ⟨_, ho, rfl⟩ F.entry_tuple_mul (F.args_tuple_mul_2 _ _) (tuple_mulW l its.toArray n dd sl k t c0 c1 c2 (by omega) c4 (by rw [size_rep, List.size_toArray]; exact flen)) ⟨ho, ?_⟩
      rw [size_rep]
      exact frz_ok I (by rw [PyProof.Rows.lm_len_rep_flat, sizeLine_eq, Nat.mul_comm]; omega) (r.rep k.toNat) (fun _ _ e => e) (q2 hne (by omega))
end Vl
end
section
set_option maxRecDepth 100000
set_option autoImplicit false
/-! V1: values by content, what is owned, environments, posts. -/
namespace Vl
open PySem L2

abbrev D := PyData
/-- a list, a tuple of the written part -/
def KT (K : PySem.W.Frag) (a : Addr) (xs : List V) : Prop := ∃ (o : Obj) (its : Array Value) (n : Nat), K.lookup a = some o ∧ o.cls = .type "tuple" ∧ o.data = .seq its n ∧ its.size ≤ sizeLine ∧ Vals xs its.toList ∧ o.dict = none
abbrev AS := Addr → Prop
def LA (A : AS) (H : Hp) (a : Addr) (xs : List V) : Prop := H a = some (.lst xs) ∧ ¬ A a
def TA (K : PySem.W.Frag) (A : AS) (H : Hp) (a : Addr) (xs : List V) : Prop := (∃ o, H a = some (.frz o (.tup xs)) ∧ o.dict = none ∧ ¬ A a) ∨ KT K a xs
theorem LA.sq {K : PySem.W.Frag} {A : AS} {H : Hp} {a : Addr} {xs : List V} (h : LA A H a xs) : SqL K H a xs := .inl (.inl h.1)
theorem TA.sq {K : PySem.W.Frag} {A : AS} {H : Hp} {a : Addr} {xs : List V} (h : TA K A H a xs) : SqT K H a xs := h.elim (fun ⟨o, h, _⟩ => .inl (.inr ⟨o, h⟩)) fun ⟨o, its, n, h1, h2, h3, h4, h5, _⟩ => .inr ⟨o, its, n, h1, h2, h3, h4, h5⟩

def keyD : Key → D
  | .inl i => .int i
  | .inr s => .str s
/-- a dict of ints and texts -/
def DA (A : AS) (H : Hp) (a : Addr) (kv : List (Key × V)) : Prop := (∃ o, H a = some (.frz o (.dK kv))) ∧ ¬ A a
theorem DA.rd {A : AS} {H : Hp} {a : Addr} {kv : List (Key × V)} (h : DA A H a kv) : Rd H a (.dK kv) := .inr h.1
/-- an error: its class by name, its text if that is known -/
def errD (c : Str) (t : D) : D := .dict [(.none, .str c), (.none, t)]
def isErr : List (D × D) → Bool
  | (.none, _) :: _ => true
  | _ => false
mutual
/-- no error within -/
def neD : D → Bool
  | .list ds => neL ds
  | .tuple ds => neL ds
  | .dict kvs => !isErr kvs && neK kvs
  | _ => true
def neL : List D → Bool
  | [] => true
  | d :: ds => neD d && neL ds
def neK : List (D × D) → Bool
  | [] => true
  | (_, d) :: ds => neD d && neK ds
end
theorem neL_cons {d : D} {ds : List D} (h : neL (d :: ds) = true) : neD d = true ∧ neL ds = true := by
  rw [neL, Bool.and_eq_true] at h
  exact h
theorem neK_cons {k d : D} {ds : List (D × D)} (h : neK ((k, d) :: ds) = true) : neD d = true ∧ neK ds = true := by
  rw [neK, Bool.and_eq_true] at h
  exact h
theorem neD_dict {kvs : List (D × D)} (h : neD (.dict kvs) = true) : isErr kvs = false ∧ neK kvs = true := by
  rw [neD, Bool.and_eq_true, Bool.not_eq_true'] at h
  exact h
def ErrTx (A : AS) (H : Hp) (o : Obj) : D → Prop
  | .none => True
  | .str z => ∃ (vs : Array Value) (b : Addr) (ob : Obj), o.data = .fields vs ∧ vs[0]? = some (.ref b) ∧ H b = some (.frz ob (.tup [.str z])) ∧ ¬ A b
  | _ => False
def ErrR (K : PySem.W.Frag) (A : AS) (H : Hp) (a : Addr) (kvs : List (D × D)) : Prop :=
  ∃ (c : Str) (t : D) (o : Obj), kvs = [(.none, .str c), (.none, t)] ∧ H a = some (.frz o (.ext fun _ => True)) ∧ ¬ A a ∧ o.cls = .ref (He.ga K c) ∧ (∃ vs, o.data = .fields vs) ∧ o.dict = none ∧ ErrTx A H o t
mutual
def Rep (K : PySem.W.Frag) (A : AS) (H : Hp) : D → V → Prop
  | .none, v => v = .non
  | .bool b, v => v = .bl b
  | .int i, v => v = .int i
  | .str s, v => v = .str s
  | .list ds, v => ∃ a vs, v = .ref a ∧ LA A H a vs ∧ Reps K A H ds vs
  | .tuple ds, v => ∃ a vs, v = .ref a ∧ TA K A H a vs ∧ Reps K A H ds vs
  | .dict kvs, v => ∃ a, v = .ref a ∧ ((∃ kv, DA A H a kv ∧ RepD K A H kvs kv) ∨ ErrR K A H a kvs)
def Reps (K : PySem.W.Frag) (A : AS) (H : Hp) : List D → List V → Prop
  | [], vs => vs = []
  | d :: ds, vs => ∃ v r, vs = v :: r ∧ Rep K A H d v ∧ Reps K A H ds r
def RepD (K : PySem.W.Frag) (A : AS) (H : Hp) : List (D × D) → List (Key × V) → Prop
  | [], kv => kv = []
  | (k, d) :: ds, kv => ∃ q v r, kv = (q, v) :: r ∧ k = keyD q ∧ Rep K A H d v ∧ RepD K A H ds r
end

section
variable {K : PySem.W.Frag} {A A' : AS} {H H' : Hp}
/-- what stays of what may be read -/
def Nt (u : HO) : Prop := ∀ ps, u ≠ .tbl ps
theorem nt_lst {xs : List V} : Nt (.lst xs) := fun _ z => nomatch z
theorem nt_dK {xs : List (Key × V)} : Nt (.dK xs) := fun _ z => nomatch z
theorem nt_frz {o : Obj} {u : HO} : Nt (.frz o u) := fun _ z => nomatch z
def Stay (A A' : AS) (H H' : Hp) : Prop := ∀ a u, H a = some u → Nt u → ¬ A a → H' a = some u ∧ ¬ A' a
theorem LA.mono (m : Stay A A' H H') {a : Addr} {xs : List V} (h : LA A H a xs) : LA A' H' a xs := m a _ h.1 nt_lst h.2
theorem DA.mono (m : Stay A A' H H') {a : Addr} {xs : List (Key × V)} (h : DA A H a xs) : DA A' H' a xs := h.1.elim fun o e => ⟨⟨o, (m a _ e nt_frz h.2).1⟩, (m a _ e nt_frz h.2).2⟩
theorem TA.mono (m : Stay A A' H H') {a : Addr} {xs : List V} (h : TA K A H a xs) : TA K A' H' a xs := h.elim (fun ⟨o, h, d, n⟩ => .inl ⟨o, (m a _ h nt_frz n).1, d, (m a _ h nt_frz n).2⟩) .inr
theorem ErrTx.mono (m : Stay A A' H H') {o : Obj} : ∀ {t : D}, ErrTx A H o t → ErrTx A' H' o t
  | .none, _ => trivial
  | .str z, ⟨vs, b, ob, e, e2, h, n⟩ => ⟨vs, b, ob, e, e2, (m b _ h nt_frz n).1, (m b _ h nt_frz n).2⟩
  | .bool _, h => h.elim
  | .int _, h => h.elim
  | .list _, h => h.elim
  | .tuple _, h => h.elim
  | .dict _, h => h.elim
theorem ErrR.mono (m : Stay A A' H H') {a : Addr} {kvs : List (D × D)} (h : ErrR K A H a kvs) : ErrR K A' H' a kvs := by
  obtain ⟨c, t, o, e, ha, na, hc, hf, hd, ht⟩ := h
  exact ⟨c, t, o, e, (m a _ ha nt_frz na).1, (m a _ ha nt_frz na).2, hc, hf, hd, ht.mono m⟩
theorem ErrR.is {a : Addr} {kvs : List (D × D)} (h : ErrR K A H a kvs) : isErr kvs = true := by
  obtain ⟨c, t, o, e, _⟩ := h
  rw [e]; rfl
mutual
theorem Rep.mono (m : Stay A A' H H') : ∀ (d : D) (v : V), Rep K A H d v → Rep K A' H' d v
  | .none, _, h => h
  | .bool _, _, h => h
  | .int _, _, h => h
  | .str _, _, h => h
  | .list ds, _, ⟨a, vs, e, l, r⟩ => ⟨a, vs, e, l.mono m, Reps.mono m ds vs r⟩
  | .tuple ds, _, ⟨a, vs, e, l, r⟩ => ⟨a, vs, e, l.mono m, Reps.mono m ds vs r⟩
  | .dict ds, _, ⟨a, e, .inl ⟨vs, l, r⟩⟩ => ⟨a, e, .inl ⟨vs, l.mono m, RepD.mono m ds vs r⟩⟩
  | .dict ds, _, ⟨a, e, .inr h⟩ => ⟨a, e, .inr (h.mono m)⟩
theorem Reps.mono (m : Stay A A' H H') : ∀ (ds : List D) (vs : List V), Reps K A H ds vs → Reps K A' H' ds vs
  | [], _, h => h
  | d :: ds, _, ⟨v, r, e, h1, h2⟩ => ⟨v, r, e, Rep.mono m d v h1, Reps.mono m ds r h2⟩
theorem RepD.mono (m : Stay A A' H H') : ∀ (ds : List (D × D)) (vs : List (Key × V)), RepD K A H ds vs → RepD K A' H' ds vs
  | [], _, h => h
  | (k, d) :: ds, _, ⟨q, v, r, e, ek, h1, h2⟩ => ⟨q, v, r, e, ek, Rep.mono m d v h1, RepD.mono m ds r h2⟩
end
theorem RepD.plain {kvs : List (D × D)} {kv : List (Key × V)} (h : RepD K A H kvs kv) : isErr kvs = false := by
  cases kvs with
  | nil => rfl
  | cons p r =>
    obtain ⟨k, d⟩ := p
    obtain ⟨q, v, t, e, ek, _⟩ := h
    rw [ek]
    cases q <;> rfl
theorem Rep.dk {kvs : List (D × D)} {v : V} (h : Rep K A H (.dict kvs) v) (n : isErr kvs = false) : ∃ a kv, v = .ref a ∧ DA A H a kv ∧ RepD K A H kvs kv := by
  obtain ⟨a, e, ⟨kv, l, r⟩ | h⟩ := h
  · exact ⟨a, kv, e, l, r⟩
  · rw [h.is] at n; cases n
theorem Rep.ofD {kvs : List (D × D)} {a : Addr} {kv : List (Key × V)} (l : DA A H a kv) (r : RepD K A H kvs kv) : Rep K A H (.dict kvs) (.ref a) := ⟨a, rfl, .inl ⟨kv, l, r⟩⟩
theorem Reps.length : ∀ {ds : List D} {vs : List V}, Reps K A H ds vs → vs.length = ds.length
  | [], _, h => by rw [show _ = [] from h]; rfl
  | _ :: _, _, ⟨_, _, e, _, h⟩ => by rw [e, List.length_cons, List.length_cons, Reps.length h]
theorem Reps.get : ∀ {ds : List D} {vs : List V} {i : Nat} {v : V}, Reps K A H ds vs → vs[i]? = some v → ∃ d, ds[i]? = some d ∧ Rep K A H d v
  | [], _, _, _, h, e => by rw [show _ = [] from h] at e; simp at e
  | d :: ds, _, 0, v, ⟨x, r, e, h, _⟩, q => by subst e; simp at q; subst q; exact ⟨d, rfl, h⟩
  | d :: ds, _, i + 1, v, ⟨x, r, e, _, h⟩, q => by
    subst e
    obtain ⟨d', e', h'⟩ := Reps.get (i := i) h (by simpa using q)
    exact ⟨d', by simpa using e', h'⟩
theorem Reps.get' : ∀ {ds : List D} {vs : List V} {i : Nat} {d : D}, Reps K A H ds vs → ds[i]? = some d → ∃ v, vs[i]? = some v ∧ Rep K A H d v
  | [], _, _, _, h, e => by simp at e
  | _ :: ds, _, 0, d, ⟨x, r, e, h, _⟩, q => by subst e; simp at q; subst q; exact ⟨x, rfl, h⟩
  | _ :: ds, _, i + 1, d, ⟨x, r, e, _, h⟩, q => by
    subst e
    obtain ⟨v, e', h'⟩ := Reps.get' (i := i) h (by simpa using q)
    exact ⟨v, by simpa using e', h'⟩
theorem Reps.append : ∀ {ds es : List D} {vs us : List V}, Reps K A H ds vs → Reps K A H es us → Reps K A H (ds ++ es) (vs ++ us)
  | [], _, _, _, h, q => by rw [show _ = [] from h]; exact q
  | _ :: _, _, _, _, ⟨x, r, e, h, t⟩, q => by subst e; exact ⟨x, _, rfl, h, Reps.append t q⟩
theorem Reps.take : ∀ {ds : List D} {vs : List V} (n : Nat), Reps K A H ds vs → Reps K A H (ds.take n) (vs.take n)
  | _, _, 0, _ => rfl
  | [], _, _ + 1, h => by rw [show _ = [] from h]; rfl
  | _ :: _, _, n + 1, ⟨x, r, e, h, t⟩ => by subst e; exact ⟨x, _, rfl, h, Reps.take n t⟩
theorem Reps.drop : ∀ {ds : List D} {vs : List V} (n : Nat), Reps K A H ds vs → Reps K A H (ds.drop n) (vs.drop n)
  | _, _, 0, h => h
  | [], _, _ + 1, h => by rw [show _ = [] from h]; rfl
  | _ :: _, _, n + 1, ⟨x, r, e, h, t⟩ => by subst e; exact Reps.drop n t
theorem Reps.set {d : D} {v : V} (q : Rep K A H d v) : ∀ {ds : List D} {vs : List V} (n : Nat), Reps K A H ds vs → Reps K A H (ds.set n d) (vs.set n v)
  | [], _, _, h => by rw [show _ = [] from h]; rfl
  | _ :: _, _, 0, ⟨x, r, e, h, t⟩ => by subst e; exact ⟨v, r, rfl, q, t⟩
  | _ :: _, _, n + 1, ⟨x, r, e, h, t⟩ => by subst e; exact ⟨x, _, rfl, h, Reps.set q n t⟩
theorem Reps.one {d : D} {v : V} (h : Rep K A H d v) : Reps K A H [d] [v] := ⟨v, [], rfl, h, rfl⟩
theorem Reps.reverse : ∀ {ds : List D} {vs : List V}, Reps K A H ds vs → Reps K A H ds.reverse vs.reverse
  | [], _, h => by rw [show _ = [] from h]; rfl
  | _ :: _, _, ⟨x, r, e, h, t⟩ => by
    subst e
    rw [List.reverse_cons]; rw [List.reverse_cons]
    exact (Reps.reverse t).append (Reps.one h)
end

/-! ### the pen: the list of its cells, the turn, the stock -/
structure Pen where
  cells : List Int
  k : Int
  s : Int
  tb : List (Addr × Str)
/-- where the pen and its cells lie, if there is one; the tables of the code objects of lambdas, with their names -/
structure PL where
  pen : Option (Addr × Addr)
  tb : List (Addr × Str)
def Pn (pa : PL) (b : Addr) : Prop := ∃ c, pa.pen = some (b, c)
def PenOk (pa : PL) (H : Hp) (P : Pen) : Prop := (∀ p c, pa.pen = some (p, c) → p ≠ c ∧ H p = some (.lst [.ref c, .int P.k, .int P.s]) ∧ H c = some (.lst (P.cells.map V.int))) ∧ LamX.Tabs pa.tb H ∧ P.tb = pa.tb
/-- all but the pen and tables as it was -/
def HExt (pa : PL) (H H' : Hp) : Prop := ∀ b o, H b = some o → ¬ Pn pa b → Nt o → H' b = some o
theorem HExt.at {pa : PL} {H H' : Hp} (e : HExt pa H H') {b : Addr} {o : HO} (h : H b = some o) (n : ¬ Pn pa b) (t : Nt o := by exact nt_lst) : H' b = some o := e b o h n t
theorem HExt.refl (pa : PL) (H : Hp) : HExt pa H H := fun _ _ h _ _ => h
theorem HExt.trans {pa : PL} {H H1 H2 : Hp} (a : HExt pa H H1) (b : HExt pa H1 H2) : HExt pa H H2 := fun c o h n t => b c o (a c o h n t) n t
theorem HExt.of {pa : PL} {H H' : Hp} (h : Same H H') : HExt pa H H' := fun b o e _ _ => h b o e
/-- without the pen -/
def PL.bare (pa : PL) : PL := ⟨none, pa.tb⟩
theorem HExt.none {pa : PL} {H H' : Hp} (h : HExt pa.bare H H') : HExt pa H H' := fun b o e _ t => h b o e (fun ⟨_, z⟩ => nomatch z) t
theorem HExt.penOk {pa : PL} {H H' : Hp} {P P' : Pen} (h : HExt pa.bare H H') (p : PenOk pa H P) (q : PenOk pa.bare H' P') : PenOk pa H' P :=
  ⟨fun a c e => ⟨(p.1 a c e).1, h.at (p.1 a c e).2.1 (fun ⟨_, z⟩ => nomatch z), h.at (p.1 a c e).2.2 (fun ⟨_, z⟩ => nomatch z)⟩, q.2.1, p.2.2⟩
/-- nothing but a table may stand there -/
def New (H : Hp) (a : Addr) : Prop := ∀ o, H a = some o → ¬ Nt o
theorem New.of {H : Hp} {a : Addr} (h : H a = none) : New H a := fun o e => by rw [h] at e; cases e

/-- an object that is no table and no code object may change -/
def Free1 : Option HO → Prop
  | some (.tbl _) => False
  | some (.ext _) => False
  | _ => True
theorem tabs_upd {T : List (Addr × Str)} {H : Hp} {a : Addr} {o : HO} (t : LamX.Tabs T H) (h : Free1 (H a)) : LamX.Tabs T (upd H a o) := fun p hp => by
  obtain ⟨ps, h1, h2, h3⟩ := t p hp
  refine ⟨ps, ?_, h2, fun pos cv hc => ?_⟩
  · rw [upd_ne (fun z => by rw [← z, h1] at h; exact h)]; exact h1
  · obtain ⟨c, e1, e2⟩ := h3 pos cv hc
    refine ⟨c, e1, ?_⟩
    rw [upd_ne (fun z => by rw [← z, e2] at h; exact h)]; exact e2
/-! ### slots -/
inductive SV where
  | un
  | v (d : D)
  | own (ds : List D)
  | ownD (kvs : List (D × D))
  | pen
  | scr (ns : List Int)
  | fn (x : Str)
abbrev Env := List SV
/-- the script: a list that nobody writes -/
def ScrOk (K : PySem.W.Frag) (A : AS) (H : Hp) (v : V) (ns : List Int) : Prop := ∃ a, v = .ref a ∧ (((∃ ob, H a = some (.frz ob (.lst (ns.map V.int)))) ∧ ¬ A a) ∨
  ∃ (o : Obj) (its : Array Value) (n : Nat), K.lookup a = some o ∧ o.cls = .type "list" ∧ o.dict = none ∧ o.data = .seq its n ∧ its.size ≤ sizeLine ∧ Vals (ns.map V.int) its.toList)
theorem ScrOk.mono {K : PySem.W.Frag} {A A' : AS} {H H' : Hp} (m : Stay A A' H H') {v : V} {ns : List Int} (h : ScrOk K A H v ns) : ScrOk K A' H' v ns := by
  obtain ⟨a, e, ⟨⟨ob, h1⟩, h2⟩ | h⟩ := h
  · obtain ⟨q1, q2⟩ := m a _ h1 nt_frz h2
    exact ⟨a, e, .inl ⟨⟨ob, q1⟩, q2⟩⟩
  · exact ⟨a, e, .inr h⟩
theorem ScrOk.sq {K : PySem.W.Frag} {A : AS} {H : Hp} {v : V} {ns : List Int} (h : ScrOk K A H v ns) : ∃ a, v = .ref a ∧ SqL K H a (ns.map V.int) := by
  obtain ⟨a, e, ⟨⟨ob, h1⟩, h2⟩ | h⟩ := h
  · exact ⟨a, e, .inl (.inr ⟨ob, h1⟩)⟩
  · exact ⟨a, e, .inr h⟩
def SlotOk (K : PySem.W.Frag) (pa : PL) (A : AS) (H : Hp) (o : Option V) : SV → Prop
  | .un => True
  | .v d => ∃ x, o = some x ∧ Rep K A H d x
  | .own ds => ∃ a vs, o = some (.ref a) ∧ A a ∧ (∀ p c, pa.pen = some (p, c) → a ≠ p ∧ a ≠ c) ∧ H a = some (.lst vs) ∧ Reps K A H ds vs
  | .ownD ds => ∃ a kv, o = some (.ref a) ∧ A a ∧ (∀ p c, pa.pen = some (p, c) → a ≠ p ∧ a ≠ c) ∧ H a = some (.dK kv) ∧ RepD K A H ds kv
  | .pen => ∃ p c, pa.pen = some (p, c) ∧ o = some (.ref p)
  | .scr ns => ∃ x, o = some x ∧ ScrOk K A H x ns
  | .fn x => o = some (.ref (He.ga K x))

structure Wd where
  pa : PL
  H0 : Hp
  A0 : AS
  G : List (V × D)

/-- own dicts: no two alike, all new -/
structure DKs (H0 : Hp) (σ : L2.St) (env : Env) : Prop where
  inj : ∀ (i j : Nat) (ds es : List (D × D)) (a : Addr), i ≠ j → env[i]? = some (.ownD ds) → env[j]? = some (.ownD es) → σ[i]? = some (some (.ref a)) → σ[j]? ≠ some (some (.ref a))
  fresh : ∀ (i : Nat) (ds : List (D × D)) (a : Addr), env[i]? = some (.ownD ds) → σ[i]? = some (some (.ref a)) → New H0 a
theorem DKs.none {H0 : Hp} {σ : L2.St} {env : Env} (h : ∀ (i : Nat) (ds : List (D × D)), env[i]? = some (.ownD ds) → False) : DKs H0 σ env := ⟨fun i _ ds _ _ _ h1 => (h i ds h1).elim, fun i ds _ h1 => (h i ds h1).elim⟩
theorem set_atS {α : Type} {l : List α} {i j : Nat} {x y : α} (h : (l.set i x)[j]? = some y) : (i = j ∧ y = x) ∨ (i ≠ j ∧ l[j]? = some y) := by
  by_cases e : i = j
  · subst e
    have hl : i < l.length := by
      have := (List.getElem?_eq_some_iff.mp h).1
      rwa [List.length_set] at this
    rw [List.getElem?_set_self hl] at h
    exact .inl ⟨rfl, (Option.some.inj h).symm⟩
  · rw [List.getElem?_set_ne e] at h
    exact .inr ⟨e, h⟩
theorem DKs.set1 {H0 : Hp} {σ : L2.St} {env : Env} (k : DKs H0 σ env) (i : Nat) (o : Option V) (s : SV) (hs : ∀ ds, s ≠ .ownD ds) : DKs H0 (σ.set i o) (env.set i s) := by
  refine ⟨fun j l ds es a hn h1 h2 h3 => ?_, fun j ds a h1 h2 => ?_⟩
  · rcases set_atS h1 with ⟨_, e⟩ | ⟨ej, h1⟩
    · exact absurd e.symm (hs _)
    rcases set_atS h2 with ⟨_, e⟩ | ⟨el, h2⟩
    · exact absurd e.symm (hs _)
    rw [List.getElem?_set_ne ej] at h3
    rw [List.getElem?_set_ne el]
    exact k.inj j l ds es a hn h1 h2 h3
  · rcases set_atS h1 with ⟨_, e⟩ | ⟨ej, h1⟩
    · exact absurd e.symm (hs _)
    rw [List.getElem?_set_ne ej] at h2
    exact k.fresh j ds a h1 h2
theorem DKs.set0 {H0 : Hp} {σ : L2.St} {env : Env} (k : DKs H0 σ env) (i : Nat) (s : SV) (hs : ∀ ds, s ≠ .ownD ds) : DKs H0 σ (env.set i s) := by
  refine ⟨fun j l ds es a hn h1 h2 h3 => ?_, fun j ds a h1 h2 => ?_⟩
  · rcases set_atS h1 with ⟨_, e⟩ | ⟨ej, h1⟩
    · exact absurd e.symm (hs _)
    rcases set_atS h2 with ⟨_, e⟩ | ⟨el, h2⟩
    · exact absurd e.symm (hs _)
    exact k.inj j l ds es a hn h1 h2 h3
  · rcases set_atS h1 with ⟨_, e⟩ | ⟨ej, h1⟩
    · exact absurd e.symm (hs _)
    exact k.fresh j ds a h1 h2
structure EOk (K : PySem.W.Frag) (W : Wd) (A : AS) (σ : L2.St) (H : Hp) (env : Env) (P : Pen) : Prop where
  len : σ.length = env.length
  slot : ∀ (i : Nat) (o : Option V) (s : SV), σ[i]? = some o → env[i]? = some s → SlotOk K W.pa A H o s
  inj : ∀ (i j : Nat) (ds es : List D) (a : Addr), i ≠ j → env[i]? = some (.own ds) → env[j]? = some (.own es) → σ[i]? = some (some (.ref a)) → σ[j]? ≠ some (some (.ref a))
  fresh : ∀ (i : Nat) (ds : List D) (a : Addr), env[i]? = some (.own ds) → σ[i]? = some (some (.ref a)) → New W.H0 a
  sub : ∀ a, W.A0 a → A a
  a0 : ∀ a, W.A0 a → ∃ o, W.H0 a = some o ∧ Nt o
  trk : ∀ a, A a → ∃ o, H a = some o ∧ Nt o
  penA : ∀ p c, W.pa.pen = some (p, c) → A p ∧ A c
  pen : PenOk W.pa H P
  base : HExt W.pa W.H0 H
  keep : ∀ g ∈ W.G, Rep K A H g.2 g.1
  dk : DKs W.H0 σ env

section
variable {K : PySem.W.Frag} {W : Wd} {A : AS} {σ : L2.St} {H H' : Hp} {env : Env} {P P' : Pen}
theorem stay_ext (e : HExt W.pa H H') (pA : ∀ p c, W.pa.pen = some (p, c) → A p ∧ A c) : Stay A A H H' := fun a u r t n => by
  refine ⟨?_, n⟩
  have np : ¬ Pn W.pa a := fun ⟨c, z⟩ => n (pA _ _ z).1
  exact e.at r np t
/-- the heap has grown, the pen has moved -/
theorem EOk.ext (k : EOk K W A σ H env P) (e : HExt W.pa H H') (p : PenOk W.pa H' P') : EOk K W A σ H' env P' := by
  have m : Stay A A H H' := stay_ext e k.penA
  refine ⟨k.len, fun i o s h1 h2 => ?_, k.inj, k.fresh, k.sub, k.a0, fun a h => ?_, k.penA, p, k.base.trans e, fun g hg => Rep.mono m _ _ (k.keep g hg), k.dk⟩
  · have q := k.slot i o s h1 h2
    cases s with
    | un => trivial
    | v d => obtain ⟨x, e1, r⟩ := q; exact ⟨x, e1, Rep.mono m _ _ r⟩
    | own ds =>
      obtain ⟨a, vs, e1, ha, hp, hl, r⟩ := q
      exact ⟨a, vs, e1, ha, hp, e.at hl fun ⟨c, z⟩ => (hp _ _ z).1 rfl, Reps.mono m _ _ r⟩
    | ownD ds =>
      obtain ⟨a, vs, e1, ha, hp, hl, r⟩ := q
      exact ⟨a, vs, e1, ha, hp, e.at hl (fun ⟨c, z⟩ => (hp _ _ z).1 rfl) nt_dK, RepD.mono m _ _ r⟩
    | pen => exact q
    | scr ns => obtain ⟨x, e1, r⟩ := q; exact ⟨x, e1, r.mono m⟩
    | fn x => exact q
  · by_cases hp : Pn W.pa a
    · obtain ⟨c, z⟩ := hp
      exact ⟨_, (p.1 _ _ z).2.1, nt_lst⟩
    · obtain ⟨o, ho, ht⟩ := k.trk a h
      exact ⟨o, e a o ho hp ht, ht⟩
theorem EOk.rep (k : EOk K W A σ H env P) (e : HExt W.pa H H') {d : D} {v : V} (r : Rep K A H d v) : Rep K A H' d v := Rep.mono (stay_ext e k.penA) _ _ r
theorem EOk.reps (k : EOk K W A σ H env P) (e : HExt W.pa H H') {d : List D} {v : List V} (r : Reps K A H d v) : Reps K A H' d v := Reps.mono (stay_ext e k.penA) _ _ r
/-- with one more thing kept -/
theorem EOk.keeps (k : EOk K W A σ H env P) {d : D} {v : V} (r : Rep K A H d v) : EOk K { W with G := (v, d) :: W.G } A σ H env P :=
  ⟨k.len, k.slot, k.inj, k.fresh, k.sub, k.a0, k.trk, k.penA, k.pen, k.base, fun g hg => by
    rcases (List.mem_cons.mp hg) with rfl | hg
    · exact r
    · exact k.keep g hg, k.dk⟩
theorem EOk.unkeep {g : V × D} (k : EOk K { W with G := g :: W.G } A σ H env P) : EOk K W A σ H env P ∧ Rep K A H g.2 g.1 :=
  ⟨⟨k.len, k.slot, k.inj, k.fresh, k.sub, k.a0, k.trk, k.penA, k.pen, k.base, fun x hx => k.keep x (List.mem_cons_of_mem _ hx), k.dk⟩, k.keep g List.mem_cons_self⟩
end

/-! ### results -/
inductive R (α : Type) where
  | ok (a : α) (P : Pen)
  | ex (c : Str) (P : Pen)
  | no
abbrev M (α : Type) := Pen → R α
@[inline] def ret {α : Type} (a : α) : M α := fun P => .ok a P
def bnd {α β : Type} (m : M α) (f : α → M β) : M β := fun P => match m P with
  | .ok a P' => f a P'
  | .ex c P' => .ex c P'
  | .no => .no
def no {α : Type} : M α := fun _ => .no
def orNo {α : Type} : Option α → M α
  | some a => ret a
  | none => no
def raiseM {α : Type} (c : Str) : M α := fun P => .ex c P
instance : Monad M where
  pure := ret
  bind := bnd

/-- what an expression hands over: a value | one whose own place may be anybody's (but the pen's) | a new list -/
inductive Kd where
  | v | b | f
  deriving DecidableEq
def RepB (K : PySem.W.Frag) (pa : PL) (A : AS) (H : Hp) : D → V → Prop
  | .list ds, v => ∃ a vs, v = .ref a ∧ LA (Pn pa) H a vs ∧ Reps K A H ds vs
  | d, v => Rep K A H d v
/-- with one more place avoided -/
def ad (A : AS) (a : Addr) : AS := fun b => A b ∨ b = a
def rel (K : PySem.W.Frag) (pa : PL) (A : AS) (H H' : Hp) (d : D) (v : V) : Kd → Prop
  | .v => Rep K A H' d v
  | .b => RepB K pa A H' d v
  | .f => ∃ a vs ds, d = .list ds ∧ v = .ref a ∧ New H a ∧ H' a = some (.lst vs) ∧ Reps K (ad A a) H' ds vs

section
variable {K : PySem.W.Frag} {W : Wd} {A : AS} {σ : L2.St} {H H' H'' : Hp} {env : Env} {P P' : Pen} {d : D} {v : V}
theorem fresh_back (k : PenOk W.pa H P) (e : HExt W.pa H H') (p' : PenOk W.pa H' P') {a : Addr} (n : New H' a) : New H a := fun o q t => by
  by_cases hp : Pn W.pa a
  · obtain ⟨c, z⟩ := hp
    exact n _ (p'.1 _ _ z).2.1 nt_lst
  · exact n o (e a o q hp t) t
theorem rel_back {kd : Kd} (k : PenOk W.pa H P) (e : HExt W.pa H H') (p' : PenOk W.pa H' P') (r : rel K W.pa A H' H'' d v kd) : rel K W.pa A H H'' d v kd := by
  cases kd with
  | v => exact r
  | b => exact r
  | f =>
    obtain ⟨a, vs, ds, e1, e2, n, q⟩ := r
    exact ⟨a, vs, ds, e1, e2, fresh_back k e p' n, q⟩
theorem penOk_same {pa : PL} (s : Same H H') (p : PenOk pa H P) : PenOk pa H' P := ⟨fun a c e => ⟨(p.1 a c e).1, s _ _ (p.1 a c e).2.1, s _ _ (p.1 a c e).2.2⟩, p.2.1.ext s, p.2.2⟩
end

section
variable (K : PySem.W.Frag) (Ex : Str → Hp → Prop)
def PostG {α : Type} (pa : PL) (H : Hp) (r : R α) (Q : α → Hp → Prop) : Prop := match r with
  | .ok d P' => ∀ H', HExt pa H H' → PenOk pa H' P' → Q d H'
  | .ex c P' => ∀ H', HExt pa H H' → PenOk pa H' P' → Ex c H'
  | .no => False
def Sd (kd : Kd) (t : TE) (f : Env → M D) : Prop := ∀ W A σ H env P Q, EOk K W A σ H env P → PostG Ex W.pa H (f env P) (fun d H' => ∀ v, rel K W.pa A H H' d v kd → Q v H') → t σ H Q
def SdT (t : TT) (f : Env → M Bool) : Prop := ∀ W A σ H env P Q, EOk K W A σ H env P → PostG Ex W.pa H (f env P) Q → t σ H Q
def SdA (t : L2.TA) (f : Env → M (List D)) : Prop := ∀ W A σ H env P Q, EOk K W A σ H env P → PostG Ex W.pa H (f env P) (fun ds H' => ∀ vs, Reps K A H' ds vs → Q vs H') → t σ H Q
end
/-- an expression; a test; arguments -/
def XE (Ex : Str → Hp → Prop) (X : Cx) (kd : Kd) (e : Expr) (f : Env → M D) : Prop := ∃ t, PE X e t ∧ Sd X.K Ex kd t f
def XT (Ex : Str → Hp → Prop) (X : Cx) (e : Expr) (f : Env → M Bool) : Prop := ∃ t, PT X e t ∧ SdT X.K Ex t f
def XA (Ex : Str → Hp → Prop) (X : Cx) (es : List Expr) (f : Env → M (List D)) : Prop := ∃ t, PA X es t ∧ SdA X.K Ex t f

section
variable {K : PySem.W.Frag} {Ex : Str → Hp → Prop} {X : Cx} {e : Expr} {f : Env → M D} {pa : PL} {H : Hp}
theorem PostG.mono {α : Type} {r : R α} {Q Q' : α → Hp → Prop} (h : PostG Ex pa H r Q) (hq : ∀ a P' H', HExt pa H H' → PenOk pa H' P' → Q a H' → Q' a H') : PostG Ex pa H r Q' := by
  cases r with
  | ok d P' => exact fun H' e p => hq d P' H' e p (h H' e p)
  | ex c P' => exact h
  | no => exact h
/-- one step, then the rest: with what is known between -/
theorem PostG.bnd {α β : Type} {W : Wd} {A : AS} {σ : L2.St} {env : Env} {P : Pen} {m : M α} {g : α → M β} {Q : β → Hp → Prop} (k : EOk K W A σ H env P) (h : PostG Ex W.pa H (bnd m g P) Q) :
    PostG Ex W.pa H (m P) (fun a H1 => ∃ P1, HExt W.pa H H1 ∧ PenOk W.pa H1 P1 ∧ EOk K W A σ H1 env P1 ∧ PostG Ex W.pa H1 (g a P1) (fun b H2 => HExt W.pa H H2 → Q b H2)) := by
  unfold Vl.bnd at h
  cases hm : m P with
  | ok a P1 =>
    rw [hm] at h
    intro H1 e1 p1
    refine ⟨P1, e1, p1, k.ext e1 p1, ?_⟩
    change PostG Ex W.pa H (g a P1) Q at h
    cases hg : g a P1 with
    | ok b P2 => rw [hg] at h; exact fun H2 e2 p2 _ => h H2 (e1.trans e2) p2
    | ex c P2 => rw [hg] at h; exact fun H2 e2 p2 => h H2 (e1.trans e2) p2
    | no => rw [hg] at h; exact h
  | ex c P1 => rw [hm] at h; exact h
  | no => rw [hm] at h; exact h
theorem Rep.b {A : AS} {σ : L2.St} {W : Wd} {env : Env} {P : Pen} {d : D} {v : V} (k : EOk K W A σ H env P) (r : Rep K A H d v) : RepB K W.pa A H d v := by
  cases d with
  | list ds =>
    obtain ⟨a, vs, e, l, q⟩ := r
    exact ⟨a, vs, e, ⟨l.1, fun ⟨c, y⟩ => l.2 (k.penA _ _ y).1⟩, q⟩
  | _ => exact r
theorem RepB.ext {A : AS} {σ : L2.St} {W : Wd} {env : Env} {P : Pen} {H' : Hp} {d : D} {v : V} (k : EOk K W A σ H env P) (e : HExt W.pa H H') (r : RepB K W.pa A H d v) : RepB K W.pa A H' d v := by
  cases d with
  | list ds =>
    obtain ⟨a, vs, e1, l, q⟩ := r
    exact ⟨a, vs, e1, ⟨e.at l.1 l.2, l.2⟩, k.reps e q⟩
  | _ => exact k.rep e r
theorem rel_v {A : AS} {σ : L2.St} {W : Wd} {env : Env} {P : Pen} {H' : Hp} {d : D} {v : V} (k : EOk K W A σ H env P) (r : rel K W.pa A H H' d v .f) : Rep K A H' d v := by
  obtain ⟨a, vs, ds, rfl, rfl, n, h, q⟩ := r
  refine ⟨a, vs, rfl, ⟨h, fun z => ?_⟩, Reps.mono (fun b u e _ n => ⟨e, fun z => n (.inl z)⟩) _ _ q⟩
  obtain ⟨o, ho, ht⟩ := k.trk a z
  exact n o ho ht
theorem XE.v (h : XE Ex X .f e f) : XE Ex X .v e f := by
  obtain ⟨t, ht, q⟩ := h
  exact ⟨t, ht, fun W A σ H env P Q k p => q W A σ H env P Q k (p.mono fun d P' H' _ _ z v r => z v (rel_v k r))⟩
theorem XE.b (h : XE Ex X .v e f) : XE Ex X .b e f := by
  obtain ⟨t, ht, q⟩ := h
  exact ⟨t, ht, fun W A σ H env P Q k p => q W A σ H env P Q k (p.mono fun d P' H' e' p' z v r => z v (Rep.b (k.ext e' p') r))⟩
theorem XE.fb (h : XE Ex X .f e f) : XE Ex X .b e f := h.v.b
end
end Vl
end
section
set_option autoImplicit false
set_option maxRecDepth 100000
/-! V2: expressions. -/
namespace Vl
open PySem L2

theorem same_upd {H : Hp} {p : Addr} {o : HO} (h : H p = none) : Same H (upd H p o) := fun b x => fun e => by
  rw [upd_ne (ne_of_none e h)]
  exact e
theorem line_le {n : Nat} (h : n ≤ 16777216) : n ≤ sizeLine := by rw [sizeLine_eq]; exact h

section
variable {Ex : Str → Hp → Prop} {X : Cx} {W : Wd} {A : AS} {σ : L2.St} {H H' : Hp} {env : Env} {P P' : Pen} {K : PySem.W.Frag}
theorem EOk.newN (k : EOk K W A σ H env P) {p : Addr} (hp : New H p) : ¬ A p := fun z => by
  obtain ⟨o, ho, ht⟩ := k.trk p z
  exact hp o ho ht
theorem EOk.new (k : EOk K W A σ H env P) {p : Addr} (hp : H p = none) : ¬ A p := k.newN (.of hp)
theorem EOk.stayS (k : EOk K W A σ H env P) (s : Same H H') : EOk K W A σ H' env P := k.ext (HExt.of s) (penOk_same s k.pen)
theorem EOk.repN (k : EOk K W A σ H env P) (s : Same H H') {d : D} {v : V} (r : Rep K A H d v) : Rep K A H' d v := k.rep (HExt.of s) r
theorem EOk.repsN (k : EOk K W A σ H env P) (s : Same H H') {d : List D} {v : List V} (r : Reps K A H d v) : Reps K A H' d v := k.reps (HExt.of s) r
theorem EOk.repsO (k : EOk K W A σ H env P) {p : Addr} {o : HO} (hp : H p = none) {d : List D} {v : List V} (r : Reps K A H d v) : Reps K (ad A p) (upd H p o) d v := Reps.mono (fun b u e _ n => ⟨same_upd hp b u e, fun z => z.elim n fun z => by
  subst z
  rw [hp] at e; cases e⟩) _ _ r
/-- a new plain tuple of contents -/
theorem nT_rep (k : EOk K W A σ H env P) {ds : List D} {vs : List V} {Q : VK} (r : Reps K A H ds vs) (q : ∀ v H', Same H H' → Rep K A H' (.tuple ds) v → Q v H') : nT vs H Q := fun p o hp hd =>
  have s := same_upd (o := .frz o (.tup vs)) hp
  q _ _ s ⟨p, vs, rfl, .inl ⟨o, upd_same, hd, k.new hp⟩, k.repsN s r⟩
/-- what is in a slot -/
theorem EOk.at (k : EOk K W A σ H env P) {i : Nat} {s : SV} (h : env[i]? = some s) : ∃ o, σ[i]? = some o ∧ SlotOk K W.pa A H o s := by
  have hi : i < σ.length := by rw [k.len]; exact (List.getElem?_eq_some_iff.mp h).1
  exact ⟨σ[i], List.getElem?_eq_getElem hi, k.slot i _ s (List.getElem?_eq_getElem hi) h⟩
theorem post_ret {α : Type} {a : α} {pa : PL} {Q : α → Hp → Prop} (h : PostG Ex pa H (ret a P) Q) (s : Same H H') (p : PenOk pa H P) : Q a H' := h H' (HExt.of s) (penOk_same s p)
theorem post_here {α : Type} {a : α} {pa : PL} {Q : α → Hp → Prop} (h : PostG Ex pa H (ret a P) Q) (p : PenOk pa H P) : Q a H := h H (HExt.refl _ _) p
theorem post_orNo {α : Type} {a : Option α} {pa : PL} {Q : α → Hp → Prop} (h : PostG Ex pa H (orNo a P) Q) : ∃ d, a = some d ∧ PostG Ex pa H (ret d P) Q := by
  cases a with
  | some d => exact ⟨d, rfl, h⟩
  | none => exact h.elim
end

/-! ### names, constants -/
def dVar (i : Nat) : Env → M D := fun env => match env[i]? with
  | some (.v d) => ret d
  | _ => no
def bVar (i : Nat) : Env → M D := fun env => match env[i]? with
  | some (.v d) => ret d
  | some (.own ds) => ret (.list ds)
  | _ => no
def dC (d : D) : Env → M D := fun _ => ret d

section
variable {Ex : Str → Hp → Prop} {X : Cx} {pos : Pos} {x : Str}
theorem xv_sd {i : Nat} {K : PySem.W.Frag} : Sd K Ex .v (tVar i) (dVar i) := fun W A σ H env P Q k p => by
  unfold dVar at p
  cases h : env[i]? with
  | none => rw [h] at p; exact p.elim
  | some s =>
    rw [h] at p
    cases s with
    | v d =>
      obtain ⟨o, e, x, rfl, r⟩ := k.at h
      exact ⟨x, e, post_here p k.pen x r⟩
    | un => exact p.elim
    | own ds => exact p.elim
    | ownD ds => exact p.elim
    | pen => exact p.elim
    | scr _ => exact p.elim
    | fn _ => exact p.elim
theorem xb_sd {i : Nat} {K : PySem.W.Frag} : Sd K Ex .b (tVar i) (bVar i) := fun W A σ H env P Q k p => by
  unfold bVar at p
  cases h : env[i]? with
  | none => rw [h] at p; exact p.elim
  | some s =>
    rw [h] at p
    cases s with
    | v d =>
      obtain ⟨o, e, x, rfl, r⟩ := k.at h
      exact ⟨x, e, post_here p k.pen x (Rep.b k r)⟩
    | own ds =>
      obtain ⟨o, e, a, vs, rfl, ha, np, hl, r⟩ := k.at h
      exact ⟨.ref a, e, post_here p k.pen (.ref a) ⟨a, vs, rfl, ⟨hl, fun ⟨c, z⟩ => (np _ _ z).1 rfl⟩, r⟩⟩
    | ownD ds => exact p.elim
    | un => exact p.elim
    | pen => exact p.elim
    | scr _ => exact p.elim
    | fn _ => exact p.elim
theorem xv (i : Nat) (hN : X.N[i]? = some x := by rfl) (hv : Vis X.env.scope x := by first | exact Or.inl rfl | exact Or.inr (Or.inl rfl) | exact Or.inr (Or.inr rfl)) (hd : (x == ("__debug__" : Str)) = false := by decide)
    (hcd : (x == ("__classdict__" : Str)) = false := by decide) : XE Ex X .v (.Name x pos) (dVar i) := ⟨_, pe_var hN hv hd hcd, xv_sd⟩
theorem xb (i : Nat) (hN : X.N[i]? = some x := by rfl) (hv : Vis X.env.scope x := by first | exact Or.inl rfl | exact Or.inr (Or.inl rfl) | exact Or.inr (Or.inr rfl)) (hd : (x == ("__debug__" : Str)) = false := by decide)
    (hcd : (x == ("__classdict__" : Str)) = false := by decide) : XE Ex X .b (.Name x pos) (bVar i) := ⟨_, pe_var hN hv hd hcd, xb_sd⟩
theorem xc_sd {d : D} {v : V} {K : PySem.W.Frag} (h : ∀ A H, Rep K A H d v) : Sd K Ex .v (tC v) (dC d) := fun W A σ H env P Q k p => post_here p k.pen v (h A H)
theorem x_int {i : Int} {j} : XE Ex X .v (.Constant (.int i) j pos) (dC (.int i)) := ⟨_, pe_int, xc_sd fun _ _ => rfl⟩
theorem x_bl {b : Bool} {j} : XE Ex X .v (.Constant (.bool b) j pos) (dC (.bool b)) := ⟨_, pe_bl, xc_sd fun _ _ => rfl⟩
theorem x_non {j} : XE Ex X .v (.Constant .none j pos) (dC .none) := ⟨_, pe_non, xc_sd fun _ _ => rfl⟩
theorem x_str {s : Str} {j} : XE Ex X .v (.Constant (.str s) j pos) (dC (.str s)) := ⟨_, pe_str, xc_sd fun _ _ => rfl⟩
/-- a constant of the module -/
theorem x_glob {d : D} {v : V} {u : Value} (hm : X.mg x = some u) (r : RelV v u) (h : ∀ A H, Rep X.K A H d v) (hg : Gl X x := by rfl) (hd : (x == ("__debug__" : Str)) = false := by decide) : XE Ex X .v (.Name x pos) (dC d) := ⟨_, pe_glob hg hm r hd, xc_sd h⟩
end

/-! ### arguments, displays -/
def aNil : Env → M (List D) := fun _ => ret []
def aCons (f : Env → M D) (g : Env → M (List D)) : Env → M (List D) := fun env => bnd (f env) fun d => bnd (g env) fun ds => ret (d :: ds)
def dTup (f : Env → M (List D)) : Env → M D := fun env => bnd (f env) fun ds => if ds.length ≤ 16777216 then ret (.tuple ds) else no
def dLst (f : Env → M (List D)) : Env → M D := fun env => bnd (f env) fun ds => if ds.length ≤ 16777216 then ret (.list ds) else no
section
variable {Ex : Str → Hp → Prop} {X : Cx} {pos : Pos} {e : Expr} {es : List Expr} {f : Env → M D} {g : Env → M (List D)}
theorem xa_nil : XA Ex X [] aNil := ⟨_, pa_nil, fun W A σ H env P Q k p => post_here p k.pen [] rfl⟩
theorem xa_cons (h : XE Ex X .v e f) (h2 : XA Ex X es g) (hs : starEach (e :: es) X.env = (false, eval e X.env) :: starEach es X.env := by rfl) : XA Ex X (e :: es) (aCons f g) := by
  obtain ⟨t, ht, q⟩ := h
  obtain ⟨u, hu, q2⟩ := h2
  refine ⟨_, pa_cons ht hu hs, fun W A σ H env P Q k p => ?_⟩
  refine q W A σ H env P _ k ((PostG.bnd k p).mono ?_)
  rintro d _ H1 _ _ ⟨P1, e1, p1, k1, post⟩ v r
  refine q2 W A σ H1 env P1 _ k1 ((PostG.bnd k1 post).mono ?_)
  rintro ds _ H2 _ _ ⟨P2, e2, p2, k2, post2⟩ vs rs
  exact post_here post2 p2 e2 (e1.trans e2) (v :: vs) ⟨v, vs, rfl, k1.rep e2 r, rs⟩
theorem x_tup {c} (h : XA Ex X es g) : XE Ex X .v (.Tuple es c pos) (dTup g) := by
  obtain ⟨t, ht, q⟩ := h
  refine ⟨_, pe_tupF ht, fun W A σ H env P Q k p => ?_⟩
  refine q W A σ H env P _ k ((PostG.bnd k p).mono ?_)
  rintro ds _ H1 _ _ ⟨P1, e1, p1, k1, post⟩ vs r
  by_cases hl : ds.length ≤ 16777216
  · rw [if_pos hl] at post
    exact ⟨line_le (by rw [r.length]; exact hl), nT_rep k1 r fun v H2 s rv => post_ret post s p1 (e1.trans (HExt.of s)) v rv⟩
  · rw [if_neg hl] at post; exact post.elim
theorem x_lst (h : XA Ex X es g) : XE Ex X .f (.List es pos) (dLst g) := by
  obtain ⟨t, ht, q⟩ := h
  refine ⟨_, pe_lst ht, fun W A σ H env P Q k p => ?_⟩
  refine q W A σ H env P _ k ((PostG.bnd k p).mono ?_)
  rintro ds _ H1 _ _ ⟨P1, e1, p1, k1, post⟩ vs r
  by_cases hl : ds.length ≤ 16777216
  · rw [if_pos hl] at post
    refine ⟨line_le (by rw [r.length]; exact hl), fun a ha => ?_⟩
    have s := same_upd (o := .lst vs) ha
    exact post_ret post s p1 (e1.trans (HExt.of s)) (.ref a) ⟨a, vs, ds, rfl, rfl, fresh_back k.pen e1 p1 (.of ha), upd_same, k1.repsO ha r⟩
  · rw [if_neg hl] at post; exact post.elim
end

/-! ### operations on values -/
/-- a two-place operation: what r asks of two values is met where g tells an answer -/
def OpD (K : PySem.W.Frag) (kd : Kd) (r : R2) (g : D → D → Option D) : Prop := ∀ (W : Wd) (A : AS) (σ : L2.St) (H : Hp) (env : Env) (P : Pen) (x y : V) (dx dy d : D) (Q : VK), EOk K W A σ H env P → RepB K W.pa A H dx x → RepB K W.pa A H dy y → g dx dy = some d →
  (∀ v H', Same H H' → rel K W.pa A H H' d v kd → Q v H') → r x y H Q
def d2 (g : D → D → Option D) (f1 f2 : Env → M D) : Env → M D := fun env => bnd (f1 env) fun x => bnd (f2 env) fun y => orNo (g x y)
section
variable {Ex : Str → Hp → Prop} {X : Cx} {pos : Pos} {a b c : Expr} {fa fb fc : Env → M D} {kd : Kd}
theorem sd_op {K : PySem.W.Frag} {r : R2} {g : D → D → Option D} (hr : OpD K kd r g) {ta tb : TE} (ha : Sd K Ex .b ta fa) (hb : Sd K Ex .b tb fb) : Sd K Ex kd (tOp r ta tb) (d2 g fa fb) := fun W A σ H env P Q k p => by
  refine ha W A σ H env P _ k ((PostG.bnd k p).mono ?_)
  rintro dx _ H1 _ _ ⟨P1, e1, p1, k1, post⟩ x rx
  refine hb W A σ H1 env P1 _ k1 ((PostG.bnd k1 post).mono ?_)
  rintro dy _ H2 _ _ ⟨P2, e2, p2, k2, post2⟩ y ry
  obtain ⟨d, hd, post3⟩ := post_orNo post2
  refine hr W A σ H2 env P2 x y dx dy d Q k2 (RepB.ext k1 e2 rx) ry hd fun v H3 s hv => ?_
  exact post_ret post3 s p2 (e2.trans (HExt.of s)) (e1.trans (e2.trans (HExt.of s))) v (rel_back k.pen (e1.trans e2) p2 hv)
theorem x_op {op : Operator} {r : R2} {g : D → D → Option D} (ho : OpR X (binaryOp op) r) (hr : OpD X.K kd r g) (ha : XE Ex X .b a fa) (hb : XE Ex X .b b fb) : XE Ex X kd (.BinOp a op b pos) (d2 g fa fb) := by
  obtain ⟨ta, ha, qa⟩ := ha
  obtain ⟨tb, hb, qb⟩ := hb
  exact ⟨_, pe_op ho ha hb, sd_op hr qa qb⟩
theorem x_cmp {op : CmpOp} {r : R2} {g : D → D → Option D} (ho : OpR X (compareOp op) r) (hr : OpD X.K .v r g) (ha : XE Ex X .b a fa) (hb : XE Ex X .b b fb) (hm : behindInMarks op b = false) : XE Ex X .v (.Compare a [op] [b] pos) (d2 g fa fb) := by
  obtain ⟨ta, ha, qa⟩ := ha
  obtain ⟨tb, hb, qb⟩ := hb
  exact ⟨_, pe_cmpR ho ha hb hm, sd_op hr qa qb⟩
/-- a test that is a value's -/
def tV (f : Env → M D) : Env → M Bool := fun env => bnd (f env) fun
  | .bool b => ret b
  | _ => no
theorem sdT_test {K : PySem.W.Frag} {t : TE} (h : Sd K Ex .v t fa) : SdT K Ex (tTest t) (tV fa) := fun W A σ H env P Q k p => by
  refine h W A σ H env P _ k ((PostG.bnd k p).mono ?_)
  rintro d _ H1 _ _ ⟨P1, e1, p1, k1, post⟩ x r
  cases d with
  | bool b => exact ⟨b, r, post_here post p1 e1⟩
  | _ => exact post.elim
theorem xt_cmp {op : CmpOp} {r : R2} {g : D → D → Option D} (ho : OpR X (compareOp op) r) (hr : OpD X.K .v r g) (ha : XE Ex X .b a fa) (hb : XE Ex X .b b fb) (hm : behindInMarks op b = false) : XT Ex X (.Compare a [op] [b] pos) (tV (d2 g fa fb)) := by
  obtain ⟨ta, ha, qa⟩ := ha
  obtain ⟨tb, hb, qb⟩ := hb
  exact ⟨_, pt_cmpR ho ha hb hm, sdT_test (sd_op hr qa qb)⟩
end
end Vl
end
section
set_option autoImplicit false
set_option maxRecDepth 100000
/-! V3: the operations. -/
namespace Vl
open PySem L2

mutual
theorem Rep.dp {K : PySem.W.Frag} {A : AS} {H : Hp} : ∀ (d : D) (v : V), d.hasDict = false → Rep K A H d v → Dp K H v d
  | .none, _, _, h => by rw [show _ = V.non from h]; exact .non
  | .bool b, _, _, h => by rw [show _ = V.bl b from h]; exact .bl b
  | .int b, _, _, h => by rw [show _ = V.int b from h]; exact .int b
  | .str b, _, _, h => by rw [show _ = V.str b from h]; exact .str b
  | .list ds, _, n, ⟨a, vs, e, l, r⟩ => by rw [e]; exact .lst l.sq (Reps.dp ds vs n r)
  | .tuple ds, _, n, ⟨a, vs, e, l, r⟩ => by rw [e]; exact .tup l.sq (Reps.dp ds vs n r)
  | .dict _, _, n, h => by cases n
theorem Reps.dp {K : PySem.W.Frag} {A : AS} {H : Hp} : ∀ (ds : List D) (vs : List V), PyData.hasDictAll ds = false → Reps K A H ds vs → DpAll K H vs ds
  | [], _, _, h => by rw [show _ = [] from h]; exact .nil
  | d :: ds, _, n, ⟨v, r, e, h1, h2⟩ => by
    rw [e]
    have n' := Bool.or_eq_false_iff.mp (show (d.hasDict || PyData.hasDictAll ds) = false from n)
    exact .cons (Rep.dp d v n'.1 h1) (Reps.dp ds r n'.2 h2)
end
theorem RepB.dp {K : PySem.W.Frag} {pa : PL} {A : AS} {H : Hp} {d : D} {v : V} (h : RepB K pa A H d v) (n : d.hasDict = false) : Dp K H v d := by
  cases d with
  | list ds => obtain ⟨a, vs, rfl, l, r⟩ := h; exact .lst l.sq (Reps.dp ds vs n r)
  | _ => exact Rep.dp (A := A) _ _ n h
theorem shaped_nd {d : D} (h : SeqAt.shaped d = true) : d.hasDict = false := PyData.hasDict_of_canLay d (SeqAt.canLay_of_shaped h)

def lim : Nat := 16777216
def guardD (c : Bool) (d : D) : Option D := if c then some d else none
theorem guardD_some {c : Bool} {d e : D} (h : guardD c d = some e) : c = true ∧ d = e := by
  unfold guardD at h
  cases c with
  | true => exact ⟨rfl, Option.some.inj h⟩
  | false => cases h

def dAdd : D → D → Option D
  | .int i, .int j => some (.int (i + j))
  | .str a, .str b => guardD (decide (a.length + b.length ≤ 16777216)) (.str (a ++ b))
  | .tuple a, .tuple b => guardD (decide (a.length + b.length ≤ 16777216)) (.tuple (a ++ b))
  | .list a, .list b => guardD (decide (a.length + b.length ≤ 16777216)) (.list (a ++ b))
  | _, _ => none
def dCat : D → D → Option D
  | .list a, .list b => guardD (decide (a.length + b.length ≤ 16777216)) (.list (a ++ b))
  | _, _ => none
def dSub : D → D → Option D
  | .int i, .int j => some (.int (i - j))
  | _, _ => none
def dMul : D → D → Option D
  | .int i, .int j => guardD (decide ((-(2 ^ 64) < i ∧ i < 2 ^ 64) ∨ (-(2 ^ 64) < j ∧ j < 2 ^ 64))) (.int (i * j))
  | .str a, .int j => guardD (decide (0 ≤ j ∧ j ≤ 16777216 ∧ a.length * j.toNat ≤ 16777216)) (.str (Txt.mul a j))
  | .list xs, .int k => guardD (decide (-(2 ^ 63) ≤ k ∧ k < 2 ^ 63 ∧ xs.length * k.toNat ≤ 16777216)) (.list (List.replicate k.toNat xs).flatten)
  | .tuple xs, .int k => guardD (decide (-(2 ^ 63) ≤ k ∧ k < 2 ^ 63 ∧ xs.length * k.toNat ≤ 1000000)) (.tuple (List.replicate k.toNat xs).flatten)
  | _, _ => none
def dRep : D → D → Option D
  | .list xs, .int k => guardD (decide (-(2 ^ 63) ≤ k ∧ k < 2 ^ 63 ∧ xs.length * k.toNat ≤ 16777216)) (.list (List.replicate k.toNat xs).flatten)
  | _, _ => none
def dMod : D → D → Option D
  | .int i, .int j => guardD (decide (0 < j)) (.int (i % j))
  | _, _ => none
def dDiv : D → D → Option D
  | .int i, .int j => guardD (decide (0 < j ∧ j < 1073741824)) (.int (i / j))
  | _, _ => none
def dPow : D → D → Option D
  | .int i, .int j => guardD (decide (0 ≤ j ∧ j ≤ 1000000 ∧ i.natAbs < 2 ^ 64)) (.int (i ^ j.toNat))
  | _, _ => none
def dEq (x y : D) : Option D := guardD (SeqAt.shaped x && SeqAt.shaped y) (.bool (PyData.eqv x y))
def dNe (x y : D) : Option D := guardD (SeqAt.shaped x && SeqAt.shaped y) (.bool (!PyData.eqv x y))
def dLt : D → D → Option D
  | .int i, .int j => some (.bool (decide (i < j)))
  | .str a, .str b => some (.bool (decide (a.cps.toList < b.cps.toList)))
  | _, _ => none
def dLe : D → D → Option D
  | .int i, .int j => some (.bool (decide (i ≤ j)))
  | .str a, .str b => some (.bool (!decide (b.cps.toList < a.cps.toList)))
  | _, _ => none
def dGt (x y : D) : Option D := dLt y x
def dGe (x y : D) : Option D := dLe y x
def flatD : D → Bool
  | .bool _ | .none | .int _ | .str _ => true
  | _ => false
def dIn : D → D → Option D
  | .str a, .str b => some (.bool (!(Builtin.Str.occurrences b a 0 b.length 1).isEmpty))
  | x, .list ds => guardD (SeqAt.shaped x && SeqAt.shaped (.list ds)) (.bool (ds.any fun z => PyData.eqv z x))
  | x, .tuple ds => guardD (flatD x && ds.all flatD) (.bool (ds.any fun z => PyData.eqv z x))
  | _, _ => none
def notD : Option D → Option D
  | some (.bool c) => some (.bool (!c))
  | _ => none
def dNotIn (x y : D) : Option D := notD (dIn x y)
def isNoneD : D → Bool
  | .none => true
  | _ => false
def dIsNone : D → D → Option D
  | x, .none => some (.bool (isNoneD x))
  | .bool a, .bool b => some (.bool (decide (a = b)))
  | _, _ => none
def dIsNotNone (x y : D) : Option D := notD (dIsNone x y)

theorem OpD.or {K : PySem.W.Frag} {kd : Kd} {r r' : R2} {g : D → D → Option D}
    (h : ∀ (W : Wd) (A : AS) (σ : L2.St) (H : Hp) (env : Env) (P : Pen) (x y : V) (dx dy d : D) (Q : VK), EOk K W A σ H env P → RepB K W.pa A H dx x → RepB K W.pa A H dy y → g dx dy = some d →
      (∀ v H', Same H H' → rel K W.pa A H H' d v kd → Q v H') → r x y H Q ∨ r' x y H Q) : OpD K kd (fun x y H Q => r x y H Q ∨ r' x y H Q) g := h

section
variable {X : Cx} {K : PySem.W.Frag}
theorem str_of_RepB {pa : PL} {A : AS} {H : Hp} {s : Str} {v : V} (h : RepB K pa A H (.str s) v) : v = .str s := h
/-- + -/
theorem or_add : OpR X (binaryOp .Add) (fun x y H Q => (rI0 (fun i j => .int (i + j)) x y H Q) ∨ ((∃ i j, x = .str i ∧ y = .str j ∧ i.length + j.length ≤ sizeLine ∧ Q (.str (i ++ j)) H) ∨ (rCatF X.K x y H Q ∨ rCat x y H Q))) :=
  op_add.or (op_add_str.or (op_catF.or op_cat))
theorem od_add : OpD K .v (fun x y H Q => (rI0 (fun i j => .int (i + j)) x y H Q) ∨ ((∃ i j, x = .str i ∧ y = .str j ∧ i.length + j.length ≤ sizeLine ∧ Q (.str (i ++ j)) H) ∨ (rCatF K x y H Q ∨ rCat x y H Q))) dAdd := by
  intro W A σ H env P x y dx dy d Q k rx ry hg q
  cases dx with
  | int i =>
    cases dy with
    | int j =>
      cases hg
      exact .inl ⟨i, j, rx, ry, q _ H (Same.refl H) rfl⟩
    | _ => cases hg
  | str a =>
    cases dy with
    | str b =>
      obtain ⟨h, rfl⟩ := guardD_some hg
      exact .inr (.inl ⟨a, b, rx, ry, line_le (of_decide_eq_true h), q _ H (Same.refl H) rfl⟩)
    | _ => cases hg
  | tuple xs =>
    cases dy with
    | tuple ys =>
      obtain ⟨h, rfl⟩ := guardD_some hg
      have h := of_decide_eq_true h
      obtain ⟨a, vs, rfl, l, r⟩ := rx
      obtain ⟨b, us, rfl, l2, r2⟩ := ry
      refine .inr (.inr (.inl ⟨a, b, vs, us, rfl, rfl, l.sq, l2.sq, line_le (by rw [r.length, r2.length]; exact h), fun e => ?_, fun e1 e2 => ?_, fun _ _ => ?_⟩))
      · subst e
        have : xs = [] := by
          have := r.length
          exact List.length_eq_zero_iff.mp this.symm
        subst this
        exact q _ H (Same.refl H) ⟨b, us, rfl, l2, r2⟩
      · subst e2
        have : ys = [] := by
          have := r2.length
          exact List.length_eq_zero_iff.mp this.symm
        subst this
        exact q _ H (Same.refl H) ⟨a, vs, rfl, l, by rw [List.append_nil]; exact r⟩
      · exact nT_rep k (r.append r2) q
    | _ => cases hg
  | list xs =>
    cases dy with
    | list ys =>
      obtain ⟨h, rfl⟩ := guardD_some hg
      have h := of_decide_eq_true h
      obtain ⟨a, vs, rfl, l, r⟩ := rx
      obtain ⟨b, us, rfl, l2, r2⟩ := ry
      refine .inr (.inr (.inr ⟨a, b, vs, us, rfl, rfl, l.1, l2.1, line_le (by rw [r.length, r2.length]; exact h), fun p hp => ?_⟩))
      have s := same_upd (o := .lst (vs ++ us)) hp
      exact q _ _ s ⟨p, vs ++ us, rfl, ⟨upd_same, k.new hp⟩, k.repsN s (r.append r2)⟩
    | _ => cases hg
  | _ => cases hg
theorem od_cat : OpD K .f rCat dCat := by
  intro W A σ H env P x y dx dy d Q k rx ry hg q
  cases dx with
  | list xs =>
    cases dy with
    | list ys =>
      obtain ⟨h, rfl⟩ := guardD_some hg
      have h := of_decide_eq_true h
      obtain ⟨a, vs, rfl, l, r⟩ := rx
      obtain ⟨b, us, rfl, l2, r2⟩ := ry
      refine ⟨a, b, vs, us, rfl, rfl, l.1, l2.1, line_le (by rw [r.length, r2.length]; exact h), fun p hp => ?_⟩
      have s := same_upd (o := .lst (vs ++ us)) hp
      exact q _ _ s ⟨p, vs ++ us, _, rfl, rfl, .of hp, upd_same, k.repsO hp (r.append r2)⟩
    | _ => cases hg
  | _ => cases hg
theorem od_int {g : D → D → Option D} {r : R2} {C : Int → Int → Prop} {f : Int → Int → V}
    (hr : ∀ i j H Q, C i j → Q (f i j) H → r (.int i) (.int j) H Q)
    (hg : ∀ dx dy d, g dx dy = some d → ∃ i j, dx = .int i ∧ dy = .int j ∧ C i j ∧ ∀ A H, Rep K A H d (f i j)) : OpD K .v r g := by
  intro W A σ H env P x y dx dy d Q k rx ry h q
  obtain ⟨i, j, rfl, rfl, hc, hd⟩ := hg dx dy d h
  cases (show x = .int i from rx)
  cases (show y = .int j from ry)
  exact hr i j H Q hc (q _ H (Same.refl H) (hd A H))
theorem od_sub : OpD K .v (rI0 fun i j => .int (i - j)) dSub := od_int (C := fun _ _ => True) (f := fun i j => .int (i - j)) (fun i j H Q _ q => ⟨i, j, rfl, rfl, q⟩) fun dx dy d h => by
  cases dx with
  | int i => cases dy with
    | int j => cases h; exact ⟨i, j, rfl, rfl, trivial, fun _ _ => rfl⟩
    | _ => cases h
  | _ => cases h
theorem od_mod : OpD K .v (rI (fun _ j => 0 < j) fun i j => .int (i % j)) dMod := od_int (C := fun _ j => 0 < j) (f := fun i j => .int (i % j)) (fun i j H Q c q => ⟨i, j, rfl, rfl, c, q⟩) fun dx dy d h => by
  cases dx with
  | int i => cases dy with
    | int j => obtain ⟨c, rfl⟩ := guardD_some h; exact ⟨i, j, rfl, rfl, of_decide_eq_true c, fun _ _ => rfl⟩
    | _ => cases h
  | _ => cases h
theorem od_div : OpD K .v (rI CDiv fun i j => .int (i / j)) dDiv := od_int (C := CDiv) (f := fun i j => .int (i / j)) (fun i j H Q c q => ⟨i, j, rfl, rfl, c, q⟩) fun dx dy d h => by
  cases dx with
  | int i => cases dy with
    | int j => obtain ⟨c, rfl⟩ := guardD_some h; exact ⟨i, j, rfl, rfl, of_decide_eq_true (p := 0 < j ∧ j < 1073741824) c, fun _ _ => rfl⟩
    | _ => cases h
  | _ => cases h
theorem od_pow : OpD K .v (rI CPow fun i j => .int (i ^ j.toNat)) dPow := od_int (C := CPow) (f := fun i j => .int (i ^ j.toNat)) (fun i j H Q c q => ⟨i, j, rfl, rfl, c, q⟩) fun dx dy d h => by
  cases dx with
  | int i => cases dy with
    | int j => obtain ⟨c, rfl⟩ := guardD_some h; exact ⟨i, j, rfl, rfl, of_decide_eq_true (p := 0 ≤ j ∧ j ≤ 1000000 ∧ i.natAbs < 2 ^ 64) c, fun _ _ => rfl⟩
    | _ => cases h
  | _ => cases h
/-- * -/
def rMulS : R2 := fun x y H Q => ∃ z n, x = .str z ∧ y = .int n ∧ 0 ≤ n ∧ n ≤ 16777216 ∧ z.length * n.toNat ≤ 16777216 ∧ Q (.str (Txt.mul z n)) H
theorem op_mulS : OpR X (binaryOp .Mult) rMulS := by
  intro pins s σ H x y; intro v u Q I rx ry h
  obtain ⟨z, n, rfl, rfl, h0, h1, h2, q⟩ := h
  obtain ⟨t, rfl⟩ := rx
  obtain ⟨t2, rfl⟩ := ry
  refine SB.mul ⟨?_, fun a b c => ?_, fun a b => ?_⟩ fun t' k => ⟨.str (Txt.mul z n), H, I.tok k, ⟨t', rfl⟩, q⟩
  · rw [Bool.or_eq_false_iff]
    exact ⟨decide_eq_false (by omega), decide_eq_false (by omega)⟩
  · have e : (n.toNat : Int) = n := Int.toNat_of_nonneg h0
    have hz : (z.length : Int) * n ≤ 16777216 := by
      rw [← e, ← Int.natCast_mul]
      exact Int.ofNat_le.mpr h2
    have : (z.length : Int) ≤ 16777216 := by
      have : (z.length : Int) * 1 ≤ (z.length : Int) * n := Int.mul_le_mul_of_nonneg_left (by omega) (Int.natCast_nonneg _)
      omega
    have h5 : (16777216 : Int) ≤ (2 ^ 63 - 1) / n := by
      rw [Int.le_ediv_iff_mul_le (by omega)]
      have : (16777216 : Int) * n ≤ 16777216 * 16777216 := Int.mul_le_mul_of_nonneg_left h1 (by decide)
      exact Int.le_trans this (by decide)
    omega
  · refine decide_eq_false ?_
    rw [sizeLine_eq]
    omega
theorem Reps.rep {A : AS} {H : Hp} {ds : List D} {vs : List V} (r : Reps K A H ds vs) : ∀ n : Nat, Reps K A H (List.replicate n ds).flatten (List.replicate n vs).flatten
  | 0 => rfl
  | n + 1 => by
    rw [List.replicate_succ]; rw [List.replicate_succ, List.flatten_cons, List.flatten_cons]
    exact r.append (Reps.rep r n)
theorem or_mul : OpR X (binaryOp .Mult) (fun x y H Q => rI CMul (fun i j => .int (i * j)) x y H Q ∨ (rMulS x y H Q ∨ (rRep x y H Q ∨ rRepF X.K x y H Q))) := op_mul.or (op_mulS.or (op_rep.or op_repF))
theorem od_mul : OpD K .v (fun x y H Q => rI CMul (fun i j => .int (i * j)) x y H Q ∨ (rMulS x y H Q ∨ (rRep x y H Q ∨ rRepF K x y H Q))) dMul := by
  intro W A σ H env P x y dx dy d Q k rx ry hg q
  cases dy with
  | int n =>
    cases (show y = .int n from ry)
    cases dx with
    | int i =>
      obtain ⟨h, rfl⟩ := guardD_some hg
      exact .inl ⟨i, n, rx, rfl, of_decide_eq_true (p := (-(2 ^ 64) < i ∧ i < 2 ^ 64) ∨ (-(2 ^ 64) < n ∧ n < 2 ^ 64)) h, q _ H (Same.refl H) rfl⟩
    | str z =>
      obtain ⟨h, rfl⟩ := guardD_some hg
      have h := of_decide_eq_true h
      exact .inr (.inl ⟨z, n, rx, rfl, h.1, h.2.1, h.2.2, q _ H (Same.refl H) rfl⟩)
    | list xs =>
      obtain ⟨h, rfl⟩ := guardD_some hg
      have h := of_decide_eq_true h
      obtain ⟨a, vs, rfl, l, r⟩ := rx
      refine .inr (.inr (.inl ⟨a, n, vs, rfl, rfl, l.1, h.1, h.2.1, line_le (by rw [r.length]; exact h.2.2), fun p hp => ?_⟩))
      have s := same_upd (o := .lst (List.replicate n.toNat vs).flatten) hp
      exact q _ _ s ⟨p, _, rfl, ⟨upd_same, k.new hp⟩, k.repsN s (Reps.rep r _)⟩
    | tuple xs =>
      obtain ⟨h, rfl⟩ := guardD_some hg
      have h := of_decide_eq_true h
      obtain ⟨a, vs, rfl, l, r⟩ := rx
      refine .inr (.inr (.inr ⟨a, n, vs, rfl, rfl, l.sq, h.1, h.2.1, by rw [r.length]; exact h.2.2, fun z => ?_, fun _ z => ?_, fun _ _ => nT_rep k (Reps.rep r _) q⟩))
      · have e : (List.replicate n.toNat xs).flatten = xs := by
          rcases z with z | z
          · subst z
            have : xs = [] := List.length_eq_zero_iff.mp r.length.symm
            subst this
            simp
          · subst z
            simp
        refine q _ H (Same.refl H) ?_
        rw [e]
        exact ⟨a, vs, rfl, l, r⟩
      · have e : (List.replicate n.toNat xs).flatten = [] := by
          rw [Int.toNat_of_nonpos z]
          rfl
        refine nT_rep k (ds := []) rfl ?_
        rw [e] at q
        exact q
    | _ => cases hg
  | _ => cases dx <;> cases hg
theorem od_rep : OpD K .f rRep dRep := by
  intro W A σ H env P x y dx dy d Q k rx ry hg q
  cases dx with
  | list xs =>
    cases dy with
    | int n =>
      cases (show y = .int n from ry)
      obtain ⟨h, rfl⟩ := guardD_some hg
      have h := of_decide_eq_true h
      obtain ⟨a, vs, rfl, l, r⟩ := rx
      refine ⟨a, n, vs, rfl, rfl, l.1, h.1, h.2.1, line_le (by rw [r.length]; exact h.2.2), fun p hp => ?_⟩
      have s := same_upd (o := .lst (List.replicate n.toNat vs).flatten) hp
      exact q _ _ s ⟨p, _, _, rfl, rfl, .of hp, upd_same, k.repsO hp (Reps.rep r _)⟩
    | _ => cases hg
  | _ => cases hg

/-! comparisons -/
theorem od_eq : OpD K .v (rEqD K) dEq := by
  intro W A σ H env P x y dx dy d Q k rx ry hg q
  obtain ⟨h, rfl⟩ := guardD_some hg
  rw [Bool.and_eq_true] at h
  exact ⟨dx, dy, rx.dp (shaped_nd h.1), ry.dp (shaped_nd h.2), h.1, h.2, q _ H (Same.refl H) rfl⟩
theorem od_ne : OpD K .v (rNeD K) dNe := by
  intro W A σ H env P x y dx dy d Q k rx ry hg q
  obtain ⟨h, rfl⟩ := guardD_some hg
  rw [Bool.and_eq_true] at h
  exact ⟨dx, dy, rx.dp (shaped_nd h.1), ry.dp (shaped_nd h.2), h.1, h.2, q _ H (Same.refl H) rfl⟩
def rC2 (f : Int → Int → Bool) (g : Str → Str → Bool) : R2 := fun x y H Q => (rI0 (fun i j => .bl (f i j)) x y H Q) ∨ ∃ i j, x = .str i ∧ y = .str j ∧ Q (.bl (g i j)) H
theorem od_c2 {f : Int → Int → Bool} {g : Str → Str → Bool} {c : D → D → Option D}
    (hc : ∀ dx dy d, c dx dy = some d → (∃ i j, dx = .int i ∧ dy = .int j ∧ d = .bool (f i j)) ∨ ∃ i j, dx = .str i ∧ dy = .str j ∧ d = .bool (g i j)) : OpD K .v (rC2 f g) c := by
  intro W A σ H env P x y dx dy d Q k rx ry hg q
  rcases hc dx dy d hg with ⟨i, j, rfl, rfl, rfl⟩ | ⟨i, j, rfl, rfl, rfl⟩
  · exact .inl ⟨i, j, rx, ry, q _ H (Same.refl H) rfl⟩
  · exact .inr ⟨i, j, rx, ry, q _ H (Same.refl H) rfl⟩
theorem dLt_ways (dx dy d : D) (h : dLt dx dy = some d) : (∃ i j, dx = .int i ∧ dy = .int j ∧ d = .bool (decide (i < j))) ∨ ∃ i j, dx = .str i ∧ dy = .str j ∧ d = .bool (decide (i.cps.toList < j.cps.toList)) := by
  cases dx <;> cases dy <;> first | (cases h; exact .inl ⟨_, _, rfl, rfl, rfl⟩) | (cases h; exact .inr ⟨_, _, rfl, rfl, rfl⟩) | cases h
theorem dLe_ways (dx dy d : D) (h : dLe dx dy = some d) : (∃ i j, dx = .int i ∧ dy = .int j ∧ d = .bool (decide (i ≤ j))) ∨ ∃ i j, dx = .str i ∧ dy = .str j ∧ d = .bool (!decide (j.cps.toList < i.cps.toList)) := by
  cases dx <;> cases dy <;> first | (cases h; exact .inl ⟨_, _, rfl, rfl, rfl⟩) | (cases h; exact .inr ⟨_, _, rfl, rfl, rfl⟩) | cases h
theorem or_lt : OpR X (compareOp .Lt) (rC2 (fun i j => decide (i < j)) fun i j => decide (i.cps.toList < j.cps.toList)) := op_lt.or op_lt_str
theorem or_le : OpR X (compareOp .LtE) (rC2 (fun i j => decide (i ≤ j)) fun i j => !decide (j.cps.toList < i.cps.toList)) := op_le.or op_le_str
theorem or_gt : OpR X (compareOp .Gt) (rC2 (fun i j => decide (j < i)) fun i j => decide (j.cps.toList < i.cps.toList)) := op_gt.or op_gt_str
theorem or_ge : OpR X (compareOp .GtE) (rC2 (fun i j => decide (j ≤ i)) fun i j => !decide (i.cps.toList < j.cps.toList)) := op_ge.or op_ge_str
theorem od_lt : OpD K .v (rC2 (fun i j => decide (i < j)) fun i j => decide (i.cps.toList < j.cps.toList)) dLt := od_c2 dLt_ways
theorem od_le : OpD K .v (rC2 (fun i j => decide (i ≤ j)) fun i j => !decide (j.cps.toList < i.cps.toList)) dLe := od_c2 dLe_ways
theorem od_gt : OpD K .v (rC2 (fun i j => decide (j < i)) fun i j => decide (j.cps.toList < i.cps.toList)) dGt := od_c2 fun dx dy d h => by
  rcases dLt_ways dy dx d h with ⟨i, j, e1, e2, e3⟩ | ⟨i, j, e1, e2, e3⟩
  · exact .inl ⟨j, i, e2, e1, e3⟩
  · exact .inr ⟨j, i, e2, e1, e3⟩
theorem od_ge : OpD K .v (rC2 (fun i j => decide (j ≤ i)) fun i j => !decide (i.cps.toList < j.cps.toList)) dGe := od_c2 fun dx dy d h => by
  rcases dLe_ways dy dx d h with ⟨i, j, e1, e2, e3⟩ | ⟨i, j, e1, e2, e3⟩
  · exact .inl ⟨j, i, e2, e1, e3⟩
  · exact .inr ⟨j, i, e2, e1, e3⟩
end
end Vl
end
section
set_option autoImplicit false
set_option maxRecDepth 100000
/-! V4: in, is, tests, choices, items, slices. -/
namespace Vl
open PySem L2

theorem Reps.flat {K : PySem.W.Frag} {A : AS} {H : Hp} : ∀ {ds : List D} {vs : List V}, Reps K A H ds vs → ds.all flatD = true → vs.all flatV = true ∧ ∀ (d : D) (v : V), flatD d = true → Rep K A H d v → vs.any (fun y => eqV y v) = ds.any fun z => PyData.eqv z d
  | [], _, h, _ => by rw [show _ = [] from h]; exact ⟨rfl, fun _ _ _ _ => rfl⟩
  | e :: ds, _, ⟨x, r, q, h, t⟩, f => by
    subst q
    rw [List.all_cons] at f; rw [Bool.and_eq_true] at f
    obtain ⟨f1, f2⟩ := Reps.flat t f.2
    refine ⟨?_, fun d v fd rd => ?_⟩
    · rw [List.all_cons, f1, Bool.and_true]
      cases e <;> first | exact (Bool.false_ne_true f.1).elim | (cases (show x = _ from h); rfl)
    · rw [List.any_cons, List.any_cons, f2 d v fd rd]
      congr 1
      cases e <;> first | exact (Bool.false_ne_true f.1).elim | (cases (show x = _ from h); cases d <;> first | exact (Bool.false_ne_true fd).elim | (cases (show v = _ from rd); rfl))
theorem flatD_V {K : PySem.W.Frag} {pa : PL} {A : AS} {H : Hp} {d : D} {v : V} (f : flatD d = true) (h : RepB K pa A H d v) : flatV v = true ∧ Rep K A H d v := by
  cases d <;> first | exact (Bool.false_ne_true f).elim | (cases (show v = _ from h); exact ⟨rfl, rfl⟩)

section
variable {X : Cx} {K : PySem.W.Frag}
def rInA (K : PySem.W.Frag) : R2 := fun x y H Q => (∃ i j, x = .str i ∧ y = .str j ∧ Q (.bl (!(Builtin.Str.occurrences j i 0 j.length 1).isEmpty)) H) ∨ (rInD K x y H Q ∨ rIn K false x y H Q)
def rNotInA (K : PySem.W.Frag) : R2 := fun x y H Q => (∃ i j, x = .str i ∧ y = .str j ∧ Q (.bl (!(!(Builtin.Str.occurrences j i 0 j.length 1).isEmpty))) H) ∨ (rNotInD K x y H Q ∨ rIn K true x y H Q)
theorem or_in (hu : X.A.units + 65 < cLine) : OpR X (compareOp .In) (rInA X.K) := op_in_str.or ((op_inD hu).or op_in_seq)
theorem or_notin (hu : X.A.units + 65 < cLine) : OpR X (compareOp .NotIn) (rNotInA X.K) := op_notin_str.or ((op_notInD hu).or op_notIn_seq)
theorem dIn_ways {dx dy d : D} (h : dIn dx dy = some d) : (∃ a b, dx = .str a ∧ dy = .str b ∧ d = .bool (!(Builtin.Str.occurrences b a 0 b.length 1).isEmpty)) ∨
    (∃ ds, dy = .list ds ∧ SeqAt.shaped dx = true ∧ SeqAt.shaped (.list ds) = true ∧ d = .bool (ds.any fun z => PyData.eqv z dx)) ∨ (∃ ds, dy = .tuple ds ∧ flatD dx = true ∧ ds.all flatD = true ∧ d = .bool (ds.any fun z => PyData.eqv z dx)) := by
  cases dy with
  | str b => cases dx <;> first | (cases h; exact .inl ⟨_, _, rfl, rfl, rfl⟩) | cases h
  | list ds =>
    have h' : guardD (SeqAt.shaped dx && SeqAt.shaped (.list ds)) (.bool (ds.any fun z => PyData.eqv z dx)) = some d := by cases dx <;> exact h
    obtain ⟨c, rfl⟩ := guardD_some h'
    rw [Bool.and_eq_true] at c
    exact .inr (.inl ⟨ds, rfl, c.1, c.2, rfl⟩)
  | tuple ds =>
    have h' : guardD (flatD dx && ds.all flatD) (.bool (ds.any fun z => PyData.eqv z dx)) = some d := by cases dx <;> exact h
    obtain ⟨c, rfl⟩ := guardD_some h'
    rw [Bool.and_eq_true] at c
    exact .inr (.inr ⟨ds, rfl, c.1, c.2, rfl⟩)
  | _ => cases dx <;> cases h
theorem od_in : OpD K .v (rInA K) dIn := by
  intro W A σ H env P x y dx dy d Q k rx ry hg q
  rcases dIn_ways hg with ⟨a, b, rfl, rfl, rfl⟩ | ⟨ds, rfl, s1, s2, rfl⟩ | ⟨ds, rfl, s1, s2, rfl⟩
  · exact .inl ⟨a, b, rx, ry, q _ H (Same.refl H) rfl⟩
  · exact .inr (.inl ⟨dx, ds, rx.dp (shaped_nd s1), ry.dp (shaped_nd s2), s1, s2, q _ H (Same.refl H) rfl⟩)
  · obtain ⟨p, vs, rfl, l, r⟩ := ry
    obtain ⟨f1, f2⟩ := r.flat s2
    obtain ⟨f3, f4⟩ := flatD_V s1 rx
    refine .inr (.inr ⟨p, vs, rfl, .inr l.sq, f3, f1, ?_⟩)
    show Q (.bl (vs.any fun y => eqV y x)) H
    rw [f2 dx x s1 f4]
    exact q _ H (Same.refl H) rfl
theorem od_notin : OpD K .v (rNotInA K) dNotIn := by
  intro W A σ H env P x y dx dy d Q k rx ry hg q
  obtain ⟨b, hb, rfl⟩ : ∃ b, dIn dx dy = some (.bool b) ∧ d = .bool (!b) := by
    unfold dNotIn notD at hg
    split at hg
    · rename_i b e; cases hg; exact ⟨b, e, rfl⟩
    · cases hg
  rcases dIn_ways hb with ⟨a, b', rfl, rfl, e⟩ | ⟨ds, rfl, s1, s2, e⟩ | ⟨ds, rfl, s1, s2, e⟩
  · cases e; exact .inl ⟨a, b', rx, ry, q _ H (Same.refl H) rfl⟩
  · cases e; exact .inr (.inl ⟨dx, ds, rx.dp (shaped_nd s1), ry.dp (shaped_nd s2), s1, s2, q _ H (Same.refl H) rfl⟩)
  · cases e
    obtain ⟨p, vs, rfl, l, r⟩ := ry
    obtain ⟨f1, f2⟩ := r.flat s2
    obtain ⟨f3, f4⟩ := flatD_V s1 rx
    refine .inr (.inr ⟨p, vs, rfl, .inr l.sq, f3, f1, ?_⟩)
    show Q (.bl (!(vs.any fun y => eqV y x))) H
    rw [f2 dx x s1 f4]
    exact q _ H (Same.refl H) rfl
def rIsA : R2 := fun x y H Q => (y = .non ∧ Q (.bl (decide (x = .non))) H) ∨ ∃ a b, x = .bl a ∧ y = .bl b ∧ Q (.bl (decide (a = b))) H
def rIsNotA : R2 := fun x y H Q => (y = .non ∧ Q (.bl (!decide (x = .non))) H) ∨ ∃ a b, x = .bl a ∧ y = .bl b ∧ Q (.bl (!decide (a = b))) H
theorem or_is : OpR X (compareOp .Is) rIsA := op_isN.or op_is_bl
theorem or_isnot : OpR X (compareOp .IsNot) rIsNotA := op_notN.or op_isnot_bl
theorem non_iff {pa : PL} {A : AS} {H : Hp} {d : D} {v : V} (h : RepB K pa A H d v) : decide (v = V.non) = isNoneD d := by
  cases d with
  | none => cases (show v = _ from h); rfl
  | bool _ => cases (show v = _ from h); rfl
  | int _ => cases (show v = _ from h); rfl
  | str _ => cases (show v = _ from h); rfl
  | list _ => obtain ⟨a, vs, rfl, _⟩ := h; rfl
  | tuple _ => obtain ⟨a, vs, rfl, _⟩ := h; rfl
  | dict _ => obtain ⟨a, rfl, _⟩ := h; rfl
theorem dIs_ways {dx dy d : D} (h : dIsNone dx dy = some d) : (dy = .none ∧ d = .bool (isNoneD dx)) ∨ ∃ a b, dx = .bool a ∧ dy = .bool b ∧ d = .bool (decide (a = b)) := by
  cases dy with
  | none => cases dx <;> (cases h; exact .inl ⟨rfl, rfl⟩)
  | bool b => cases dx <;> first | (cases h; exact .inr ⟨_, _, rfl, rfl, rfl⟩) | cases h
  | _ => cases dx <;> cases h
theorem od_is : OpD K .v rIsA dIsNone := by
  intro W A σ H env P x y dx dy d Q k rx ry hg q
  rcases dIs_ways hg with ⟨rfl, rfl⟩ | ⟨a, b, rfl, rfl, rfl⟩
  · refine .inl ⟨ry, ?_⟩
    rw [non_iff rx]
    exact q _ H (Same.refl H) rfl
  · exact .inr ⟨a, b, rx, ry, q _ H (Same.refl H) rfl⟩
theorem od_isnot : OpD K .v rIsNotA dIsNotNone := by
  intro W A σ H env P x y dx dy d Q k rx ry hg q
  obtain ⟨b, hb, rfl⟩ : ∃ b, dIsNone dx dy = some (.bool b) ∧ d = .bool (!b) := by
    unfold dIsNotNone notD at hg
    split at hg
    · rename_i b e; cases hg; exact ⟨b, e, rfl⟩
    · cases hg
  rcases dIs_ways hb with ⟨rfl, e⟩ | ⟨a, b', rfl, rfl, e⟩
  · refine .inl ⟨ry, ?_⟩
    rw [non_iff rx]
    cases e
    exact q _ H (Same.refl H) rfl
  · cases e
    exact .inr ⟨a, b', rx, ry, q _ H (Same.refl H) rfl⟩
end

/-! ### tests -/
def XW (Ex : Str → Hp → Prop) (X : Cx) (e : Expr) (f : Env → M Bool) : Prop := ∃ t, PW X e t ∧ SdT X.K Ex t f
def mAnd (f g : Env → M Bool) : Env → M Bool := fun env => bnd (f env) fun b => if b then g env else ret false
def mOr (f g : Env → M Bool) : Env → M Bool := fun env => bnd (f env) fun b => if b then ret true else g env
def mNot (f : Env → M Bool) : Env → M Bool := fun env => bnd (f env) fun b => ret (!b)
def vAnd (f g : Env → M D) : Env → M D := fun env => bnd (f env) fun
  | .bool b => if b then g env else ret (.bool false)
  | _ => no
def vOr (f g : Env → M D) : Env → M D := fun env => bnd (f env) fun
  | .bool b => if b then ret (.bool true) else g env
  | _ => no
def vNot (f : Env → M D) : Env → M D := fun env => bnd (f env) fun
  | .bool b => ret (.bool (!b))
  | _ => no
def dTru : D → Option Bool
  | .none => some false
  | .bool b => some b
  | .int i => some (i != 0)
  | .str s => if s.length ≤ 16777216 then some ((s.length : Int) != 0) else none
  | .list xs => some (!xs.isEmpty)
  | .tuple xs => some (!xs.isEmpty)
  | .dict _ => none
def tTru (f : Env → M D) : Env → M Bool := fun env => bnd (f env) fun d => orNo (dTru d)
def vIf (c : Env → M Bool) (f g : Env → M D) : Env → M D := fun env => bnd (c env) fun b => if b then f env else g env
def dChain (g g' : D → D → Option D) (f1 f2 f3 : Env → M D) : Env → M D := fun env => bnd (f1 env) fun x => bnd (f2 env) fun y => bnd (orNo (g x y)) fun
  | .bool b => if b then bnd (f3 env) fun z => orNo (g' y z) else ret (.bool false)
  | _ => no
section
variable {Ex : Str → Hp → Prop} {X : Cx} {pos : Pos} {a b c e : Expr} {rest : List Expr} {f g h : Env → M Bool} {fa fb fc : Env → M D} {kd : Kd}
theorem XW.t (w : XW Ex X e f) : XT Ex X e f := let ⟨t, h, q⟩ := w; ⟨t, h.pt, q⟩
theorem xw_and1 (ha : XT Ex X a f) : XW Ex X (.BoolOp .And [a] pos) f := let ⟨t, h, q⟩ := ha; ⟨t, pw_and1 h, q⟩
theorem xw_or1 (ha : XT Ex X a f) : XW Ex X (.BoolOp .Or [a] pos) f := let ⟨t, h, q⟩ := ha; ⟨t, pw_or1 h, q⟩
theorem xw_and (ha : XT Ex X a f) (hb : XW Ex X (.BoolOp .And (b :: rest) pos) g) : XW Ex X (.BoolOp .And (a :: b :: rest) pos) (mAnd f g) := by
  obtain ⟨t, ht, q⟩ := ha
  obtain ⟨u, hu, q2⟩ := hb
  refine ⟨_, pw_and ht hu, fun W A σ H env P Q k p => ?_⟩
  refine q W A σ H env P _ k ((PostG.bnd k p).mono ?_)
  rintro d _ H1 _ _ ⟨P1, e1, p1, k1, post⟩
  cases d with
  | true => exact iteT (q2 W A σ H1 env P1 Q k1 (PostG.mono post fun _ _ _ e2 _ z => z (e1.trans e2)))
  | false => exact iteF (post_here post p1 e1)
theorem xw_or (ha : XT Ex X a f) (hb : XW Ex X (.BoolOp .Or (b :: rest) pos) g) : XW Ex X (.BoolOp .Or (a :: b :: rest) pos) (mOr f g) := by
  obtain ⟨t, ht, q⟩ := ha
  obtain ⟨u, hu, q2⟩ := hb
  refine ⟨_, pw_or ht hu, fun W A σ H env P Q k p => ?_⟩
  refine q W A σ H env P _ k ((PostG.bnd k p).mono ?_)
  rintro d _ H1 _ _ ⟨P1, e1, p1, k1, post⟩
  cases d with
  | false => exact iteF (q2 W A σ H1 env P1 Q k1 (PostG.mono post fun _ _ _ e2 _ z => z (e1.trans e2)))
  | true => exact iteT (post_here post p1 e1)
theorem xt_not (ha : XT Ex X a f) : XT Ex X (.UnaryOp .Not a pos) (mNot f) := by
  obtain ⟨t, ht, q⟩ := ha
  refine ⟨_, pt_not ht, fun W A σ H env P Q k p => ?_⟩
  refine q W A σ H env P _ k ((PostG.bnd k p).mono ?_)
  rintro d _ H1 _ _ ⟨P1, e1, p1, k1, post⟩
  exact post_here post p1 e1
theorem x_one {op} (ha : XE Ex X kd a fa) : XE Ex X kd (.BoolOp op [a] pos) fa := let ⟨t, h, q⟩ := ha; ⟨t, pe_one h, q⟩
theorem x_and (ha : XE Ex X .v a fa) (hb : XE Ex X .v (.BoolOp .And (b :: rest) pos) fb) : XE Ex X .v (.BoolOp .And (a :: b :: rest) pos) (vAnd fa fb) := by
  obtain ⟨t, ht, q⟩ := ha
  obtain ⟨u, hu, q2⟩ := hb
  refine ⟨_, pe_and ht hu, fun W A σ H env P Q k p => ?_⟩
  refine q W A σ H env P _ k ((PostG.bnd k p).mono ?_)
  rintro d _ H1 _ _ ⟨P1, e1, p1, k1, post⟩ x r
  cases d with
  | bool b =>
    refine ⟨b, r, ?_⟩
    cases b with
    | true => exact iteT (q2 W A σ H1 env P1 Q k1 (PostG.mono post fun _ _ _ e2 _ z => z (e1.trans e2)))
    | false => exact iteF (post_here post p1 e1 _ rfl)
  | _ => exact post.elim
theorem x_or (ha : XE Ex X .v a fa) (hb : XE Ex X .v (.BoolOp .Or (b :: rest) pos) fb) : XE Ex X .v (.BoolOp .Or (a :: b :: rest) pos) (vOr fa fb) := by
  obtain ⟨t, ht, q⟩ := ha
  obtain ⟨u, hu, q2⟩ := hb
  refine ⟨_, pe_or ht hu, fun W A σ H env P Q k p => ?_⟩
  refine q W A σ H env P _ k ((PostG.bnd k p).mono ?_)
  rintro d _ H1 _ _ ⟨P1, e1, p1, k1, post⟩ x r
  cases d with
  | bool b =>
    refine ⟨b, r, ?_⟩
    cases b with
    | false => exact iteF (q2 W A σ H1 env P1 Q k1 (PostG.mono post fun _ _ _ e2 _ z => z (e1.trans e2)))
    | true => exact iteT (post_here post p1 e1 _ rfl)
  | _ => exact post.elim
theorem x_not (ha : XE Ex X .v a fa) : XE Ex X .v (.UnaryOp .Not a pos) (vNot fa) := by
  obtain ⟨t, ht, q⟩ := ha
  refine ⟨_, pe_not ht, fun W A σ H env P Q k p => ?_⟩
  refine q W A σ H env P _ k ((PostG.bnd k p).mono ?_)
  rintro d _ H1 _ _ ⟨P1, e1, p1, k1, post⟩ x r
  cases d with
  | bool b => exact ⟨b, r, post_here post p1 e1 _ rfl⟩
  | _ => exact post.elim
theorem dTru_V {K : PySem.W.Frag} {pa : PL} {A : AS} {H : Hp} {d : D} {v : V} {k : Bool} (r : RepB K pa A H d v) (h : dTru d = some k) : TruV K v H k := by
  cases d with
  | none => cases (show v = _ from r); cases h; rfl
  | bool _ => cases (show v = _ from r); cases h; rfl
  | int _ => cases (show v = _ from r); cases h; rfl
  | str s =>
    cases (show v = _ from r)
    change (if s.length ≤ 16777216 then some ((s.length : Int) != 0) else none) = some k at h
    by_cases hl : s.length ≤ 16777216
    · rw [if_pos hl] at h; cases h; exact ⟨line_le hl, rfl⟩
    · rw [if_neg hl] at h; cases h
  | list xs =>
    obtain ⟨a, vs, rfl, l, q⟩ := r
    cases h
    refine .inl ⟨vs, l.sq, ?_⟩
    cases xs with
    | nil => cases (show vs = [] from q); rfl
    | cons x r => obtain ⟨_, _, rfl, _⟩ := q; rfl
  | tuple xs =>
    obtain ⟨a, vs, rfl, l, q⟩ := r
    cases h
    refine .inr (.inl ⟨vs, l.sq, ?_⟩)
    cases xs with
    | nil => cases (show vs = [] from q); rfl
    | cons x r => obtain ⟨_, _, rfl, _⟩ := q; rfl
  | dict _ => cases h
theorem xt_tru (ha : XE Ex X .b a fa) (he : ∀ whole, isTrue a X.env whole = (do let v ← whole; standAt a.pos; holding [v] (truthy v)) := by intro _; rfl) : XT Ex X a (tTru fa) := by
  obtain ⟨t, ht, q⟩ := ha
  refine ⟨_, pt_truth ht he, fun W A σ H env P Q k p => ?_⟩
  refine q W A σ H env P _ k ((PostG.bnd k p).mono ?_)
  rintro d _ H1 _ _ ⟨P1, e1, p1, k1, post⟩ x r
  obtain ⟨b, hb, post2⟩ := post_orNo post
  exact ⟨b, dTru_V r hb, post_here post2 p1 e1⟩
theorem x_if (hc : XT Ex X c f) (ha : XE Ex X kd a fa) (hb : XE Ex X kd b fb) : XE Ex X kd (.IfExp c a b pos) (vIf f fa fb) := by
  obtain ⟨t, ht, q⟩ := hc
  obtain ⟨u, hu, q1⟩ := ha
  obtain ⟨w, hw, q2⟩ := hb
  refine ⟨_, pe_ifExp ht hu hw, fun W A σ H env P Q k p => ?_⟩
  refine q W A σ H env P _ k ((PostG.bnd k p).mono ?_)
  rintro d _ H1 _ _ ⟨P1, e1, p1, k1, post⟩
  have go : ∀ {t : TE} {ff : Env → M D}, Sd X.K Ex kd t ff → PostG Ex W.pa H1 (ff env P1) (fun d H2 => HExt W.pa H H2 → ∀ v, rel X.K W.pa A H H2 d v kd → Q v H2) → t σ H1 Q := fun q1 post =>
    q1 W A σ H1 env P1 Q k1 (PostG.mono post fun d P' H' e2 p' z v r => z (e1.trans e2) v (rel_back k.pen e1 p1 r))
  cases d with
  | true => exact iteT (go q1 post)
  | false => exact iteF (go q2 post)
theorem sd_chain {K : PySem.W.Frag} {r r' : R2} {g g' : D → D → Option D} (hr : OpD K .v r g) (hr' : OpD K .v r' g') {ta tb tc : TE} (ha : Sd K Ex .b ta fa) (hb : Sd K Ex .b tb fb) (hc : Sd K Ex .b tc fc) : Sd K Ex .v (tChain r r' ta tb tc) (dChain g g' fa fb fc) := fun W A σ H env P Q k p => by
  refine ha W A σ H env P _ k ((PostG.bnd k p).mono ?_)
  rintro dx _ H1 _ _ ⟨P1, e1, p1, k1, post⟩ x rx
  refine hb W A σ H1 env P1 _ k1 ((PostG.bnd k1 post).mono ?_)
  rintro dy _ H2 _ _ ⟨P2, e2, p2, k2, post2⟩ y ry
  have post3 := PostG.bnd k2 post2
  obtain ⟨d, hd, post4⟩ := post_orNo post3
  refine hr W A σ H2 env P2 x y dx dy d _ k2 (RepB.ext k1 e2 rx) ry hd fun v H3 s hv => ?_
  obtain ⟨P3, e3, p3, k3, post5⟩ := post4 H3 (HExt.of s) (penOk_same s p2)
  cases d with
  | bool b =>
    refine ⟨b, hv, ?_⟩
    cases b with
    | false => exact iteF (post_here post5 p3 e3 (e2.trans e3) (e1.trans (e2.trans e3)) _ rfl)
    | true =>
      refine iteT (hc W A σ H3 env P3 _ k3 ((PostG.bnd k3 post5).mono ?_))
      rintro dz _ H4 _ _ ⟨P4, e4, p4, k4, post6⟩ z rz
      obtain ⟨d, hd, post7⟩ := post_orNo post6
      refine hr' W A σ H4 env P4 y z dy dz d Q k4 (RepB.ext k3 e4 (RepB.ext k2 e3 ry)) rz hd fun v H5 s5 hv => ?_
      have e5 := HExt.of (pa := W.pa) s5
      exact post_ret post7 s5 p4 (e4.trans e5) (e3.trans (e4.trans e5)) (e2.trans (e3.trans (e4.trans e5))) (e1.trans (e2.trans (e3.trans (e4.trans e5)))) v hv
  | _ => exact post5.elim
theorem x_chain {op op' : CmpOp} {r r' : R2} {g g' : D → D → Option D} (ho : OpR X (compareOp op) r) (ho' : OpR X (compareOp op') r') (hr : OpD X.K .v r g) (hr' : OpD X.K .v r' g') (ha : XE Ex X .b a fa) (hb : XE Ex X .b b fb) (hc : XE Ex X .b c fc)
    (hm : lastMarks [op, op'] [b, c] = false := by with_unfolding_all rfl) : XE Ex X .v (.Compare a [op, op'] [b, c] pos) (dChain g g' fa fb fc) := by
  obtain ⟨ta, ha, qa⟩ := ha
  obtain ⟨tb, hb, qb⟩ := hb
  obtain ⟨tc, hc, qc⟩ := hc
  exact ⟨_, pe_chain ho ho' ha hb hc hm, sd_chain hr hr' qa qb qc⟩
theorem xt_chain {op op' : CmpOp} {r r' : R2} {g g' : D → D → Option D} (ho : OpR X (compareOp op) r) (ho' : OpR X (compareOp op') r') (hr : OpD X.K .v r g) (hr' : OpD X.K .v r' g') (ha : XE Ex X .b a fa) (hb : XE Ex X .b b fb) (hc : XE Ex X .b c fc)
    (hm : lastMarks [op, op'] [b, c] = false := by with_unfolding_all rfl) : XT Ex X (.Compare a [op, op'] [b, c] pos) (tV (dChain g g' fa fb fc)) := by
  obtain ⟨ta, ha, qa⟩ := ha
  obtain ⟨tb, hb, qb⟩ := hb
  obtain ⟨tc, hc, qc⟩ := hc
  exact ⟨_, pt_chain ho ho' ha hb hc hm, sdT_test (sd_chain hr hr' qa qb qc)⟩
end
end Vl
end
section
set_option autoImplicit false
set_option maxRecDepth 100000
/-! V5: items, slices, built-ins. -/
namespace Vl
open PySem L2

/-! ### items and slices -/
def dIx : D → D → Option D
  | .list xs, .int i => atI xs i
  | .tuple xs, .int i => atI xs i
  | .str z, .int i => if z.length ≤ 16777216 then (atI z.cps.toList i).map fun c => .str ⟨#[c]⟩ else none
  | _, _ => none
theorem Reps.atI {K : PySem.W.Frag} {A : AS} {H : Hp} {ds : List D} {vs : List V} {i : Int} {d : D} (r : Reps K A H ds vs) (h : L2.atI ds i = some d) : ∃ v, L2.atI vs i = some v ∧ Rep K A H d v := by
  unfold L2.atI at h ⊢
  rw [r.length]
  cases hx : ixN ds.length i with
  | none => rw [hx] at h; cases h
  | some j =>
    rw [hx] at h
    obtain ⟨v, hv, rv⟩ := r.get' h
    exact ⟨v, hv, rv⟩
def cutD (xs : List D) (lo hi : Option Int) : List D := (xs.drop (HT.sIx xs.length 0 lo)).take (HT.sIx xs.length xs.length hi - HT.sIx xs.length 0 lo)
theorem Reps.cut {K : PySem.W.Frag} {A : AS} {H : Hp} {ds : List D} {vs : List V} (r : Reps K A H ds vs) (lo hi : Option Int) : Reps K A H (cutD ds lo hi) (cutV vs lo hi) := by
  unfold cutD cutV
  rw [r.length]
  exact (r.drop _).take _
def dSl (d : D) (lo hi : Option Int) : Option D := match d with
  | .list xs => some (.list (cutD xs lo hi))
  | .tuple xs => some (.tuple (cutD xs lo hi))
  | .str z => if z.length ≤ 16777216 then some (.str (cutS z lo hi)) else none
  | _ => none
/-- a bound of a slice -/
def dPart (f : Env → M D) : Env → M (Option Int) := fun env => bnd (f env) fun
  | .int i => ret (some i)
  | _ => no
def dNoPart : Env → M (Option Int) := fun _ => ret none
def dSlice (f : Env → M D) (lo hi : Env → M (Option Int)) : Env → M D := fun env => bnd (f env) fun d => bnd (lo env) fun l => bnd (hi env) fun h => orNo (dSl d l h)
def XO (Ex : Str → Hp → Prop) (X : Cx) (e : Option Expr) (f : Env → M (Option Int)) : Prop := ∃ t, PO X e t ∧ ∀ W A σ H env P Q, EOk X.K W A σ H env P → PostG Ex W.pa H (f env P) Q → t σ H Q
section
variable {Ex : Str → Hp → Prop} {X : Cx} {pos : Pos} {a b c e : Expr} {fa fb fc : Env → M D} {kd : Kd}
theorem od_ix {K : PySem.W.Frag} : OpD K .v (rIx K) dIx := by
  intro W A σ H env P x y dx dy d Q k rx ry hg q
  cases dy with
  | int i =>
    cases (show y = .int i from ry)
    cases dx with
    | list xs =>
      obtain ⟨p, vs, rfl, l, r⟩ := rx
      obtain ⟨v, hv, rv⟩ := r.atI hg
      exact .inl ⟨p, vs, i, v, rfl, rfl, l.sq, hv, q v H (Same.refl H) rv⟩
    | tuple xs =>
      obtain ⟨p, vs, rfl, l, r⟩ := rx
      obtain ⟨v, hv, rv⟩ := r.atI hg
      exact .inr (.inl ⟨p, vs, i, v, rfl, rfl, l.sq, hv, q v H (Same.refl H) rv⟩)
    | str z =>
      change (if z.length ≤ 16777216 then (L2.atI z.cps.toList i).map fun c => PyData.str ⟨#[c]⟩ else none) = some d at hg
      by_cases hl : z.length ≤ 16777216
      · rw [if_pos hl] at hg
        cases hc : L2.atI z.cps.toList i with
        | none => rw [hc] at hg; cases hg
        | some c =>
          rw [hc] at hg
          cases hg
          exact .inr (.inr ⟨z, i, c, rx, rfl, line_le hl, hc, q _ H (Same.refl H) rfl⟩)
      · rw [if_neg hl] at hg; cases hg
    | _ => cases hg
  | _ => cases dx <;> cases hg
theorem x_ix (ha : XE Ex X .b a fa) (hb : XE Ex X .b b fb) (hs : PlainIx b := by exact fun _ _ => rfl) : XE Ex X .v (.Subscript a b pos) (d2 dIx fa fb) := by
  obtain ⟨ta, ha, qa⟩ := ha
  obtain ⟨tb, hb, qb⟩ := hb
  exact ⟨_, pe_ix ix_seq ha hb hs, sd_op od_ix qa qb⟩
theorem xo_none : XO Ex X none dNoPart := ⟨_, po_none, fun W A σ H env P Q k p => post_here p k.pen⟩
theorem xo_some (h : XE Ex X .b e fa) : XO Ex X (some e) (dPart fa) := by
  obtain ⟨t, ht, q⟩ := h
  refine ⟨_, po_some ht, fun W A σ H env P Q k p => ?_⟩
  refine q W A σ H env P _ k ((PostG.bnd k p).mono ?_)
  rintro d _ H1 _ _ ⟨P1, e1, p1, k1, post⟩ x r
  cases d with
  | int i => exact ⟨i, r, post_here post p1 e1⟩
  | _ => exact post.elim
/-- what a slice asks of a value -/
def rSlAny (K : PySem.W.Frag) : V → Option Int → Option Int → Hp → VK → Prop := fun x lo hi H Q => rSlL K x lo hi H Q ∨ (rSlF K x lo hi H Q ∨ rSlS x lo hi H Q)
theorem cutV_all {xs : List V} {lo hi : Option Int} (h : HT.sIx xs.length 0 lo = 0 ∧ HT.sIx xs.length xs.length hi = xs.length) : cutV xs lo hi = xs := by
  unfold cutV
  rw [h.1, h.2, List.drop_zero, Nat.sub_zero, List.take_length]
theorem sl_any {K : PySem.W.Frag} (W : Wd) (A : AS) (σ : L2.St) (H : Hp) (env : Env) (P : Pen) (x : V) (dx d : D) (lo hi : Option Int) (Q : VK) (k : EOk K W A σ H env P) (rx : RepB K W.pa A H dx x) (hg : dSl dx lo hi = some d)
    (q : ∀ v H', Same H H' → Rep K A H' d v → Q v H') : rSlAny K x lo hi H Q := by
  cases dx with
  | list xs =>
    obtain ⟨p, vs, rfl, l, r⟩ := rx
    cases hg
    refine .inl ⟨p, vs, rfl, l.sq, fun p2 hp => ?_⟩
    have s := same_upd (o := .lst (cutV vs lo hi)) hp
    exact q _ _ s ⟨p2, _, rfl, ⟨upd_same, k.new hp⟩, k.repsN s (r.cut lo hi)⟩
  | tuple xs =>
    obtain ⟨p, vs, rfl, l, r⟩ := rx
    cases hg
    refine .inr (.inl ⟨p, vs, rfl, l.sq, fun z => ?_, fun _ => nT_rep k (r.cut lo hi) q⟩)
    have e := cutV_all z
    have r2 := r.cut lo hi
    rw [e] at r2
    exact q _ H (Same.refl H) ⟨p, vs, rfl, l, r2⟩
  | str z =>
    change (if z.length ≤ 16777216 then some (PyData.str (cutS z lo hi)) else none) = some d at hg
    by_cases hl : z.length ≤ 16777216
    · rw [if_pos hl] at hg
      cases hg
      exact .inr (.inr ⟨z, rx, line_le hl, q _ H (Same.refl H) rfl⟩)
    · rw [if_neg hl] at hg; cases hg
  | _ => cases hg
theorem x_slice {lo hi : Option Expr} {p2 : Pos} {fl fh : Env → M (Option Int)} (ha : XE Ex X .b e fa) (hl : XO Ex X lo fl) (hh : XO Ex X hi fh) : XE Ex X .v (.Subscript e (.Slice lo hi none p2) pos) (dSlice fa fl fh) := by
  obtain ⟨ta, ha, qa⟩ := ha
  obtain ⟨tl, hl, ql⟩ := hl
  obtain ⟨th, hh, qh⟩ := hh
  refine ⟨_, pe_slice (r := rSlAny X.K) (sl_list.or (sl_tupF.or sl_str)) ha hl hh, fun W A σ H env P Q k p => ?_⟩
  refine qa W A σ H env P _ k ((PostG.bnd k p).mono ?_)
  rintro d _ H1 _ _ ⟨P1, e1, p1, k1, post⟩ x r
  refine ql W A σ H1 env P1 _ k1 ((PostG.bnd k1 post).mono ?_)
  rintro l _ H2 _ _ ⟨P2, e2, p2, k2, post2⟩
  refine qh W A σ H2 env P2 _ k2 ((PostG.bnd k2 post2).mono ?_)
  rintro h _ H3 _ _ ⟨P3, e3, p3, k3, post3⟩
  obtain ⟨d', hd, post4⟩ := post_orNo post3
  refine sl_any W A σ H3 env P3 x d d' l h Q k3 (RepB.ext k2 e3 (RepB.ext k1 e2 r)) hd fun v H4 s rv => ?_
  exact post_ret post4 s p3 (e3.trans (HExt.of s)) (e2.trans (e3.trans (HExt.of s))) (e1.trans (e2.trans (e3.trans (HExt.of s)))) v rv
end

/-! ### arguments whose own places may be anybody's -/
def RepsB (K : PySem.W.Frag) (pa : PL) (A : AS) (H : Hp) : List D → List V → Prop
  | [], vs => vs = []
  | d :: ds, vs => ∃ v r, vs = v :: r ∧ RepB K pa A H d v ∧ RepsB K pa A H ds r
def XB (Ex : Str → Hp → Prop) (X : Cx) (es : List Expr) (f : Env → M (List D)) : Prop := ∃ t, PA X es t ∧ ∀ W A σ H env P Q, EOk X.K W A σ H env P → PostG Ex W.pa H (f env P) (fun ds H' => ∀ vs, RepsB X.K W.pa A H' ds vs → Q vs H') → t σ H Q
def CallD (K : PySem.W.Frag) (kd : Kd) (r : List V → Hp → VK → Prop) (g : List D → Option D) : Prop := ∀ (W : Wd) (A : AS) (σ : L2.St) (H : Hp) (env : Env) (P : Pen) (vs : List V) (ds : List D) (d : D) (Q : VK), EOk K W A σ H env P → RepsB K W.pa A H ds vs → g ds = some d →
  (∀ v H', Same H H' → rel K W.pa A H H' d v kd → Q v H') → r vs H Q
def dB (g : List D → Option D) (f : Env → M (List D)) : Env → M D := fun env => bnd (f env) fun ds => orNo (g ds)
section
variable {Ex : Str → Hp → Prop} {X : Cx} {pos p : Pos} {a b c e : Expr} {es : List Expr} {fa fb fc : Env → M D} {g : Env → M (List D)} {kd : Kd} {x : Str} {id T : String}
theorem RepsB.ext {K : PySem.W.Frag} {A : AS} {σ : L2.St} {W : Wd} {env : Env} {P : Pen} {H H' : Hp} (k : EOk K W A σ H env P) (e : HExt W.pa H H') : ∀ {ds : List D} {vs : List V}, RepsB K W.pa A H ds vs → RepsB K W.pa A H' ds vs
  | [], _, h => h
  | _ :: _, _, ⟨v, r, e1, h, t⟩ => ⟨v, r, e1, RepB.ext k e h, RepsB.ext k e t⟩
theorem xB_nil : XB Ex X [] aNil := ⟨_, pa_nil, fun W A σ H env P Q k p => post_here p k.pen [] rfl⟩
theorem xB_cons (h : XE Ex X .b e fa) (h2 : XB Ex X es g) (hs : starEach (e :: es) X.env = (false, eval e X.env) :: starEach es X.env := by rfl) : XB Ex X (e :: es) (aCons fa g) := by
  obtain ⟨t, ht, q⟩ := h
  obtain ⟨u, hu, q2⟩ := h2
  refine ⟨_, pa_cons ht hu hs, fun W A σ H env P Q k p => ?_⟩
  refine q W A σ H env P _ k ((PostG.bnd k p).mono ?_)
  rintro d _ H1 _ _ ⟨P1, e1, p1, k1, post⟩ v r
  refine q2 W A σ H1 env P1 _ k1 ((PostG.bnd k1 post).mono ?_)
  rintro ds _ H2 _ _ ⟨P2, e2, p2, k2, post2⟩ vs rs
  exact post_here post2 p2 e2 (e1.trans e2) (v :: vs) ⟨v, vs, rfl, RepB.ext k1 e2 r, rs⟩
theorem sd_B {t : L2.TA} {r : List V → Hp → VK → Prop} {gg : List D → Option D} (hr : CallD X.K kd r gg) (h : ∀ W A σ H env P Q, EOk X.K W A σ H env P → PostG Ex W.pa H (g env P) (fun ds H' => ∀ vs, RepsB X.K W.pa A H' ds vs → Q vs H') → t σ H Q) :
    Sd X.K Ex kd (tCB r t) (dB gg g) := fun W A σ H env P Q k p => by
  refine h W A σ H env P _ k ((PostG.bnd k p).mono ?_)
  rintro ds _ H1 _ _ ⟨P1, e1, p1, k1, post⟩ vs rs
  obtain ⟨d, hd, post2⟩ := post_orNo post
  refine hr W A σ H1 env P1 vs ds d Q k1 rs hd fun v H2 s hv => ?_
  exact post_ret post2 s p1 (e1.trans (HExt.of s)) v (rel_back k.pen e1 p1 hv)
theorem x_blt {r : List V → Hp → VK → Prop} {gg : List D → Option D} (hc : CallR X (.builtin id) r) (hr : CallD X.K kd r gg) (hm : X.mg x = none) (hv : bootBuiltins x = some (.builtin id)) (ha : XB Ex X (e :: es) g) (hg : Gl X x := by rfl) (hn : x ≠ "__name__" := by decide) (hdb : (x == ("__debug__" : Str)) = false := by decide)
    (he : starEach (e :: es) X.env = (false, eval e X.env) :: starEach es X.env := by rfl) (hpl : (backTo pos (starEach es X.env)).any (·.1) = false := by rfl) : XE Ex X kd (.Call (.Name x p) (e :: es) [] pos) (dB gg g) := by
  obtain ⟨t, ht, q⟩ := ha
  exact ⟨_, pe_callB hc hg hm hv ht hn hdb he hpl, sd_B hr q⟩
theorem x_bty {r : List V → Hp → VK → Prop} {gg : List D → Option D} (hc : CallR X (.type T) r) (hr : CallD X.K kd r gg) (hm : X.mg x = none) (hv : bootBuiltins x = some (.type T)) (ha : XB Ex X (e :: es) g) (hg : Gl X x := by rfl) (hn : x ≠ "__name__" := by decide) (hdb : (x == ("__debug__" : Str)) = false := by decide)
    (he : starEach (e :: es) X.env = (false, eval e X.env) :: starEach es X.env := by rfl) (hpl : (backTo pos (starEach es X.env)).any (·.1) = false := by rfl) : XE Ex X kd (.Call (.Name x p) (e :: es) [] pos) (dB gg g) := by
  obtain ⟨t, ht, q⟩ := ha
  exact ⟨_, pe_callTy hc hg hm hv ht hn hdb he hpl, sd_B hr q⟩
end

/-! ### the built-ins' answers -/
def gLen : List D → Option D
  | [.list xs] => some (.int xs.length)
  | [.tuple xs] => some (.int xs.length)
  | [.str z] => if z.length ≤ 16777216 then some (.int z.length) else none
  | _ => none
def gInt : List D → Option D
  | [.int i] => some (.int i)
  | [.bool b] => some (.int (if b then 1 else 0))
  | _ => none
def signD (c : Nat) : D := .str ⟨#[c]⟩
def gList : List D → Option D
  | [.list xs] => some (.list xs)
  | [.tuple xs] => some (.list xs)
  | [.str z] => if z.length ≤ 16777216 then some (.list (z.cps.toList.map signD)) else none
  | _ => none
def gTuple : List D → Option D
  | [.list xs] => some (.tuple xs)
  | [.tuple xs] => some (.tuple xs)
  | _ => none
def boolsOf : List D → Option (List Bool)
  | [] => some []
  | .bool b :: r => (boolsOf r).map (b :: ·)
  | _ => none
def gAll : List D → Option D
  | [.list xs] => (boolsOf xs).map fun bs => .bool (bs.all id)
  | _ => none
def gAny : List D → Option D
  | [.list xs] => (boolsOf xs).map fun bs => .bool (bs.any id)
  | _ => none
def gRepr : List D → Option D
  | [d] => if neD d = true ∧ d.showable = true ∧ d.depth ≤ 64 ∧ d.shown.length ≤ 16777216 then some (.str d.shown) else none
  | _ => none
section
variable {X : Cx} {K : PySem.W.Frag}
theorem one_arg {pa : PL} {A : AS} {H : Hp} {d : D} {vs : List V} (h : RepsB K pa A H [d] vs) : ∃ v, vs = [v] ∧ RepB K pa A H d v := by
  obtain ⟨v, r, rfl, h1, h2⟩ := h
  cases (show r = [] from h2)
  exact ⟨v, rfl, h1⟩
theorem cd_len : CallD K .v (fun xs H Q => ∃ x n, xs = [x] ∧ LenV K x H n ∧ Q (.int n) H) gLen := by
  intro W A σ H env P vs ds d Q k rs hg q
  match ds, rs, hg with
  | [d0], rs, hg =>
    obtain ⟨v, rfl, r⟩ := one_arg rs
    cases d0 with
    | list xs =>
      cases hg
      obtain ⟨a, vs, rfl, l, r⟩ := r
      exact ⟨_, vs.length, rfl, .inl ⟨vs, l.sq, rfl⟩, q _ H (Same.refl H) (by show V.int _ = V.int _; rw [r.length])⟩
    | tuple xs =>
      cases hg
      obtain ⟨a, vs, rfl, l, r⟩ := r
      exact ⟨_, vs.length, rfl, .inr ⟨vs, l.sq, rfl⟩, q _ H (Same.refl H) (by show V.int _ = V.int _; rw [r.length])⟩
    | str z =>
      change (if z.length ≤ 16777216 then some (PyData.int z.length) else none) = some d at hg
      by_cases hl : z.length ≤ 16777216
      · rw [if_pos hl] at hg
        cases hg
        cases (show v = .str z from r)
        exact ⟨_, z.length, rfl, ⟨line_le hl, rfl⟩, q _ H (Same.refl H) rfl⟩
      · rw [if_neg hl] at hg; cases hg
    | _ => cases hg
  | [], _, hg => cases hg
  | _ :: _ :: _, _, hg => simp [gLen] at hg
theorem cd_int : CallD K .v (fun xs H Q => (∃ i, xs = [.int i] ∧ Q (.int i) H) ∨ ∃ k, xs = [.bl k] ∧ Q (.int (if k then 1 else 0)) H) gInt := by
  intro W A σ H env P vs ds d Q k rs hg q
  match ds, rs, hg with
  | [d0], rs, hg =>
    obtain ⟨v, rfl, r⟩ := one_arg rs
    cases d0 with
    | int i => cases hg; cases (show v = .int i from r); exact .inl ⟨i, rfl, q _ H (Same.refl H) rfl⟩
    | bool b => cases hg; cases (show v = .bl b from r); exact .inr ⟨b, rfl, q _ H (Same.refl H) rfl⟩
    | _ => cases hg
  | [], _, hg => cases hg
  | _ :: _ :: _, _, hg => simp [gInt] at hg
end
end Vl
end
section
set_option autoImplicit false
set_option maxRecDepth 100000
/-! V5r: data, dicts among them, ads the model reads and shows them. -/
namespace Vl
open PySem L2

section
variable {X : Cx} {pins : List (Addr × Obj)} {σ : L2.St} {H : Hp} {s : Shared} {A : AS}
theorem key_rel {q : Key} {u : Value} (h : keyIs q u = true) : ∃ ads, Reads s.heap u (keyD q) ads := by
  rcases (keyIs_shape h) with ⟨i, t, rfl, rfl⟩ | ⟨x, t, rfl, rfl⟩
  · exact ⟨_, .int i t⟩
  · exact ⟨_, .str x t⟩
mutual
theorem Rep.reads (I : L2.Inv X pins σ H s) : ∀ (d : D) (v : V) (u : Value), Rep X.K A H d v → RelV v u → neD d = true → ∃ ads, Reads s.heap u d ads
  | .none, _, _, h, r, n => by
    cases (show _ = V.non from h)
    cases r
    exact ⟨_, .none⟩
  | .bool b, _, _, h, r, n => by
    cases (show _ = V.bl b from h)
    cases r
    exact ⟨_, .bool b⟩
  | .int i, _, _, h, r, n => by
    cases (show _ = V.int i from h)
    obtain ⟨t, rfl⟩ := r
    exact ⟨_, .int i t⟩
  | .str x, _, _, h, r, n => by
    cases (show _ = V.str x from h)
    obtain ⟨t, rfl⟩ := r
    exact ⟨_, .str x t⟩
  | .list ds, _, _, ⟨a, vs, e, l, q⟩, r, n => by
    subst e
    cases r
    obtain ⟨itz, rvz, ⟨o, n', ho, hc, _, hd⟩, _⟩ := I.list (l.sq (K := X.K))
    obtain ⟨ads, rds⟩ := Reps.reads I ds _ itz q rvz (by rw [neD] at n; exact n)
    exact ⟨_, .list ho hc hd rds⟩
  | .tuple ds, _, _, ⟨a, vs, e, l, q⟩, r, n => by
    subst e
    cases r
    obtain ⟨itz, rvz, ⟨o, ho, hc, n', hd⟩, _⟩ := I.tuple l.sq
    obtain ⟨ads, rds⟩ := Reps.reads I ds _ itz q rvz (by rw [neD] at n; exact n)
    exact ⟨_, .tuple ho hc hd rds⟩
  | .dict ds, _, _, h, r, nn => by
    obtain ⟨n1, n2⟩ := neD_dict nn
    obtain ⟨a, kv, e, l, q⟩ := h.dk n1
    subst e
    cases r
    obtain ⟨_, _, vs, rel, o, es, ep, ho, hc, hd, _, hp, _⟩ := dk_rd I.hok l.rd
    obtain ⟨ads, bds, h1, h2⟩ := RepD.reads I ds kv es.toList vs q rel hp n2
    exact ⟨_, .dict ho hc.1 hd h1 h2⟩
theorem Reps.reads (I : L2.Inv X pins σ H s) : ∀ (ds : List D) (vs : List V) (us : List Value), Reps X.K A H ds vs → Vals vs us → neL ds = true → ∃ ads, ReadsAll s.heap us ds ads
  | [], _, _, h, r, n => by
    cases (show _ = [] from h)
    cases r
    exact ⟨_, .nil⟩
  | d :: ds, _, _, ⟨v, t, e, h1, h2⟩, r, n => by
    subst e
    obtain ⟨n1, n2⟩ := neL_cons n
    cases r with
    | cons rl1 rl2 =>
      obtain ⟨ads, q1⟩ := Rep.reads I d _ _ h1 rl1 n1
      obtain ⟨bds, q2⟩ := Reps.reads I ds _ _ h2 rl2 n2
      exact ⟨_, .cons q1 q2⟩
theorem RepD.reads (I : L2.Inv X pins σ H s) : ∀ (ds : List (D × D)) (kv : List (Key × V)) (es : List DictEntry) (vs : List (Key × Value)), RepD X.K A H ds kv → KV kv vs → Pairs (mixKind X.prog X.w) es vs → neK ds = true →
    ∃ ads bds, ReadsAll s.heap (es.map (·.key)) (ds.map (·.1)) ads ∧ ReadsAll s.heap (es.map (·.val)) (ds.map (·.2)) bds
  | [], _, _, _, h, r, p, n => by
    cases (show _ = [] from h)
    cases r
    cases p
    exact ⟨_, _, .nil, .nil⟩
  | (k, d) :: ds, _, _, _, ⟨q, v, t, e, ek, h1, h2⟩, r, p, n => by
    subst e
    obtain ⟨n1, n2⟩ := neK_cons n
    cases r with
    | cons rl1 rl2 =>
      cases p with
      | cons p1 p2 p3 =>
        obtain ⟨ads, bds, q1, q2⟩ := RepD.reads I ds _ _ _ h2 rl2 p3 n2
        obtain ⟨cs, q3⟩ := Rep.reads I d v _ h1 rl1.2 n1
        obtain ⟨e1, e2⟩ := rl1
        simp only at e1
        subst e1
        obtain ⟨ds', q4⟩ := key_rel (s := s) p1
        rw [← ek] at q4
        rw [← p2] at q3
        exact ⟨_, _, .cons q4 q1, .cons q3 q2⟩
end
abbrev Rk (X : Cx) (h : Heap) (u : Value) (d : D) : Prop := ∃ bds, ReadAtMost h d.depth bds ∧ ReprK X.prog X.w bds h d.depth u d.shown
theorem rk_key {q : Key} {u : Value} (h : keyIs q u = true) (hs : (keyD q).showable = true) (hz : (keyD q).shown.length ≤ sizeLine) : Rk X s.heap u (keyD q) := by
  rcases (keyIs_shape h) with ⟨i, t, rfl, rfl⟩ | ⟨x, t, rfl, rfl⟩
  · exact ReprK.of_reads (.int i t) hs (fun z => nomatch z) hz
  · exact ReprK.of_reads (.str x t) hs (fun z => nomatch z) hz
theorem rk_app {d : D} {ds : List D} {u : Value} {us : List Value} (h1 : Rk X s.heap u d) (h2 : ∃ bds, ReadAtMost s.heap (PyData.depthAll ds) bds ∧ ReprAllK X.prog X.w bds s.heap (PyData.depthAll ds) us (PyData.shownAll ds)) :
    ∃ bds, ReadAtMost s.heap (PyData.depthAll (d :: ds)) bds ∧ ReprAllK X.prog X.w bds s.heap (PyData.depthAll (d :: ds)) (u :: us) (PyData.shownAll (d :: ds)) := by
  obtain ⟨b1, hb1, k1⟩ := h1
  obtain ⟨b2, hb2, k2⟩ := h2
  refine ⟨b1 ++ b2, (hb1.mono ?_).append (hb2.mono ?_), ?_⟩
  · simp only [PyData.depthAll]; exact Nat.le_max_left _ _
  · simp only [PyData.depthAll]; exact Nat.le_max_right _ _
  · simp only [PyData.shownAll, PyData.depthAll]
    exact .cons ((k1.more fun b rmo => List.mem_append_left _ rmo).level_le (Nat.le_max_left _ _)) (k2.more_le (fun b rmo => List.mem_append_right _ rmo) (Nat.le_max_right _ _))
mutual
theorem Rep.rk (I : L2.Inv X pins σ H s) : ∀ (d : D) (v : V) (u : Value), Rep X.K A H d v → RelV v u → neD d = true → d.showable = true → d.shown.length ≤ sizeLine → Rk X s.heap u d
  | .none, _, _, h, r, n, hs, hz => by
    cases (show _ = V.non from h)
    cases r
    exact ReprK.of_reads .none hs (fun z => nomatch z) hz
  | .bool b, _, _, h, r, n, hs, hz => by
    cases (show _ = V.bl b from h)
    cases r
    exact ReprK.of_reads (.bool b) hs (fun z => nomatch z) hz
  | .int i, _, _, h, r, n, hs, hz => by
    cases (show _ = V.int i from h)
    obtain ⟨t, rfl⟩ := r
    exact ReprK.of_reads (.int i t) hs (fun z => nomatch z) hz
  | .str x, _, _, h, r, n, hs, hz => by
    cases (show _ = V.str x from h)
    obtain ⟨t, rfl⟩ := r
    exact ReprK.of_reads (.str x t) hs (fun z => nomatch z) hz
  | .list ds, _, _, ⟨a, vs, e, l, q⟩, r, n, hs, hz => by
    subst e
    cases r
    have hzz : (listText (PyData.shownAll ds)).length ≤ sizeLine := by simpa only [PyData.shown] using hz
    obtain ⟨itz, rvz, ⟨o, n', ho, hc, _, hd⟩, _⟩ := I.list (l.sq (K := X.K))
    obtain ⟨ads, rds⟩ := Reps.reads I ds _ itz q rvz (by rw [neD] at n; exact n)
    obtain ⟨bds, rmo, rks⟩ := Reps.rk I ds _ itz q rvz (by rw [neD] at n; exact n) (by simpa [PyData.showable] using hs) fun t ht => Nat.le_trans (listText_mem_le ht) hzz
    have rdd : Reads s.heap (.ref a) (.list ds) _ := .list ho hc hd rds
    have nin : a ∉ bds := not_mem_of_deeper rdd (by simp only [PyData.depth]; omega) rmo
    refine ⟨a :: bds, ReadAtMost.cons rdd (by simp only [PyData.depth]; omega) rmo, ?_⟩
    simp only [PyData.shown, PyData.depth]
    cases itz with
    | nil =>
      cases rds
      simp only [listText_nil, PyData.shownAll]
      exact ReprK.listEmpty ho hc hd
    | cons x l => exact ReprK.list ho hc hd nin (by simpa using rks.length_eq) (fun i y e => rks.item i y (by simpa using e))
  | .tuple ds, _, _, ⟨a, vs, e, l, q⟩, r, n, hs, hz => by
    subst e
    cases r
    have hzz : (tupleText (PyData.shownAll ds)).length ≤ sizeLine := by simpa only [PyData.shown] using hz
    obtain ⟨itz, rvz, ⟨o, ho, hc, n', hd⟩, _⟩ := I.tuple l.sq
    obtain ⟨ads, rds⟩ := Reps.reads I ds _ itz q rvz (by rw [neD] at n; exact n)
    obtain ⟨bds, rmo, rks⟩ := Reps.rk I ds _ itz q rvz (by rw [neD] at n; exact n) (by simpa [PyData.showable] using hs) fun t ht => Nat.le_trans (tupleText_mem_le ht) hzz
    have rdd : Reads s.heap (.ref a) (.tuple ds) _ := .tuple ho hc hd rds
    have nin : a ∉ bds := not_mem_of_deeper rdd (by simp only [PyData.depth]; omega) rmo
    refine ⟨a :: bds, ReadAtMost.cons rdd (by simp only [PyData.depth]; omega) rmo, ?_⟩
    simp only [PyData.shown, PyData.depth]
    exact ReprK.tuple ho hc hd nin (by simpa using rks)
  | .dict ds, _, _, h, r, nn, hs, hz => by
    obtain ⟨n1, n2⟩ := neD_dict nn
    obtain ⟨a, kv, e, l, q⟩ := h.dk n1
    subst e
    cases r
    have hzz : (dictText (PyData.shownKv ds)).length ≤ sizeLine := by simpa only [PyData.shown] using hz
    obtain ⟨hs1, hs2⟩ := PyData.showableKv_split ds (by simpa [PyData.showable] using hs)
    obtain ⟨_, hsys, vs, rel, o, es, ep, ho, hc, hd, _, hp, _⟩ := dk_rd I.hok l.rd
    obtain ⟨ads, bds, h1, h2⟩ := RepD.reads I ds kv es.toList vs q rel hp n2
    obtain ⟨⟨b1, hb1, k1⟩, ⟨b2, hb2, k2⟩⟩ := RepD.rk I ds kv es.toList vs q rel hp n2 hs1 hs2
      (fun t ht => let ⟨p, hp, hl⟩ := PyData.shownKv_key_le ds t ht; Nat.le_trans hl (Nat.le_trans (dictText_mem_le hp) hzz))
      (fun t ht => let ⟨p, hp, hl⟩ := PyData.shownKv_val_le ds t ht; Nat.le_trans hl (Nat.le_trans (dictText_mem_le hp) hzz))
    have rdd : Reads s.heap (.ref a) (.dict ds) _ := .dict ho hc.1 hd h1 h2
    have rmo : ReadAtMost s.heap (PyData.depthKv ds) (b1 ++ b2) := (hb1.mono (PyData.depthAll_keys_le ds)).append (hb2.mono (PyData.depthAll_vals_le ds))
    have nin : a ∉ b1 ++ b2 := not_mem_of_deeper rdd (by simp only [PyData.depth]; omega) rmo
    refine ⟨a :: (b1 ++ b2), ReadAtMost.cons rdd (by simp only [PyData.depth]; omega) rmo, ?_⟩
    simp only [PyData.shown, PyData.shownKv_eq, PyData.depth]
    exact ReprK.dict ho hc.1 hd hsys nin (ReprEntriesK.of_two es.toList _ _
      (k1.more_le (fun b rmo => List.mem_append_left _ rmo) (PyData.depthAll_keys_le ds)) (k2.more_le (fun b rmo => List.mem_append_right _ rmo) (PyData.depthAll_vals_le ds)))
theorem Reps.rk (I : L2.Inv X pins σ H s) : ∀ (ds : List D) (vs : List V) (us : List Value), Reps X.K A H ds vs → Vals vs us → neL ds = true → PyData.showableAll ds = true → (∀ t ∈ PyData.shownAll ds, t.length ≤ sizeLine) →
    ∃ bds, ReadAtMost s.heap (PyData.depthAll ds) bds ∧ ReprAllK X.prog X.w bds s.heap (PyData.depthAll ds) us (PyData.shownAll ds)
  | [], _, _, h, r, _, _, _ => by
    cases (show _ = [] from h)
    cases r
    exact ⟨[], (fun _ h => nomatch h), by simp only [PyData.shownAll]; exact .nil⟩
  | d :: ds, _, _, ⟨v, t, e, h1, h2⟩, r, n, hs, hz => by
    subst e
    obtain ⟨n1, n2⟩ := neL_cons n
    have hss : d.showable = true ∧ PyData.showableAll ds = true := by simpa [PyData.showableAll] using hs
    cases r with
    | cons rl1 rl2 =>
      exact rk_app (Rep.rk I d _ _ h1 rl1 n1 hss.1 (hz _ (by simp only [PyData.shownAll]; exact List.mem_cons_self ..)))
        (Reps.rk I ds _ _ h2 rl2 n2 hss.2 fun t ht => hz t (by simp only [PyData.shownAll]; exact List.mem_cons_of_mem _ ht))
theorem RepD.rk (I : L2.Inv X pins σ H s) : ∀ (ds : List (D × D)) (kv : List (Key × V)) (es : List DictEntry) (vs : List (Key × Value)), RepD X.K A H ds kv → KV kv vs → Pairs (mixKind X.prog X.w) es vs → neK ds = true →
    PyData.showableAll (ds.map (·.1)) = true → PyData.showableAll (ds.map (·.2)) = true → (∀ t ∈ PyData.shownAll (ds.map (·.1)), t.length ≤ sizeLine) → (∀ t ∈ PyData.shownAll (ds.map (·.2)), t.length ≤ sizeLine) →
    (∃ bds, ReadAtMost s.heap (PyData.depthAll (ds.map (·.1))) bds ∧ ReprAllK X.prog X.w bds s.heap (PyData.depthAll (ds.map (·.1))) (es.map (·.key)) (PyData.shownAll (ds.map (·.1)))) ∧
    (∃ bds, ReadAtMost s.heap (PyData.depthAll (ds.map (·.2))) bds ∧ ReprAllK X.prog X.w bds s.heap (PyData.depthAll (ds.map (·.2))) (es.map (·.val)) (PyData.shownAll (ds.map (·.2))))
  | [], _, _, _, h, r, p, _, _, _, _, _ => by
    cases (show _ = [] from h)
    cases r
    cases p
    exact ⟨⟨[], (fun _ h => nomatch h), by simp only [List.map_nil, PyData.shownAll]; exact .nil⟩, ⟨[], (fun _ h => nomatch h), by simp only [List.map_nil, PyData.shownAll]; exact .nil⟩⟩
  | (k, d) :: ds, _, _, _, ⟨q, v, t, e, ek, h1, h2⟩, r, p, n, s1, s2, z1, z2 => by
    subst e
    obtain ⟨n1, n2⟩ := neK_cons n
    have s1' : k.showable = true ∧ PyData.showableAll (ds.map (·.1)) = true := by simpa [PyData.showableAll] using s1
    have s2' : d.showable = true ∧ PyData.showableAll (ds.map (·.2)) = true := by simpa [PyData.showableAll] using s2
    cases r with
    | cons rl1 rl2 =>
      cases p with
      | cons p1 p2 p3 =>
        obtain ⟨e1, e2⟩ := rl1
        simp only at e1
        subst e1
        obtain ⟨g1, g2⟩ := RepD.rk I ds _ _ _ h2 rl2 p3 n2 s1'.2 s2'.2 (fun t ht => z1 t (by simp only [List.map_cons, PyData.shownAll]; exact List.mem_cons_of_mem _ ht)) (fun t ht => z2 t (by simp only [List.map_cons, PyData.shownAll]; exact List.mem_cons_of_mem _ ht))
        refine ⟨rk_app ?_ g1, rk_app ?_ g2⟩
        · have hz := z1 k.shown (by simp only [List.map_cons, PyData.shownAll]; exact List.mem_cons_self ..)
          rw [ek] at hz s1' ⊢
          exact rk_key p1 s1'.1 hz
        · show Rk X s.heap (DictEntry.val _) d
          rw [p2]
          exact Rep.rk I d v _ h1 e2 n1 s2'.1 (z2 _ (by simp only [List.map_cons, PyData.shownAll]; exact List.mem_cons_self ..))
end
theorem Rep.shows (I : L2.Inv X pins σ H s) {d : D} {a : Addr} (h : Rep X.K A H d (.ref a)) (n : neD d = true) (hs : d.showable = true) (hz : d.shown.length ≤ sizeLine) : ∃ T idr, ShowsBy X.prog X.w s.heap a d T idr := by
  cases d with
  | none => exact nomatch (show V.ref a = V.non from h)
  | bool b => exact nomatch (show V.ref a = V.bl b from h)
  | int i => exact nomatch (show V.ref a = V.int i from h)
  | str x => exact nomatch (show V.ref a = V.str x from h)
  | list ds =>
    obtain ⟨_, vs, e, l, q⟩ := h
    cases e
    have hzz : (listText (PyData.shownAll ds)).length ≤ sizeLine := by simpa only [PyData.shown] using hz
    obtain ⟨itz, rvz, ⟨o, n', ho, hc, _, hd⟩, _⟩ := I.list (l.sq (K := X.K))
    obtain ⟨ads, rds⟩ := Reps.reads I ds _ itz q rvz (by rw [neD] at n; exact n)
    obtain ⟨bds, rmo, rks⟩ := Reps.rk I ds _ itz q rvz (by rw [neD] at n; exact n) (by simpa [PyData.showable] using hs) fun t ht => Nat.le_trans (listText_mem_le ht) hzz
    have nin : a ∉ bds := not_mem_of_deeper (.list ho hc hd rds) (by simp only [PyData.depth]; omega) rmo
    refine ⟨"list", "list.__repr__", F.slot_list_repr.toG, F.slot_list_str, F.slot_list_format, fun s hk0 => ⟨o, hk0 _ _ ho, hc⟩, fun A E s Q hg hu hk0 hQ => ?_⟩
    simp only [PyData.depth, id] at hu
    simp only [PyData.shown, id] at hQ
    cases itz with
    | nil =>
      cases rds
      simp only [listText_nil, PyData.shownAll] at hQ
      exact call_list_repr_empty ⟨o, hk0 _ _ ho, hc⟩ (hk0 _ _ ho) hd (hQ s.heap _ _ fun _ _ e => e)
    | cons x l => exact call_list_reprK ho hc hd nin (by simpa using rks.length_eq) (fun i y e => rks.item i y (by simpa using e)) hg (fun b _ => Clear.nil b) hu hk0 hQ hzz
  | tuple ds =>
    obtain ⟨_, vs, e, l, q⟩ := h
    cases e
    have hzz : (tupleText (PyData.shownAll ds)).length ≤ sizeLine := by simpa only [PyData.shown] using hz
    obtain ⟨itz, rvz, ⟨o, ho, hc, n', hd⟩, _⟩ := I.tuple l.sq
    obtain ⟨ads, rds⟩ := Reps.reads I ds _ itz q rvz (by rw [neD] at n; exact n)
    obtain ⟨bds, rmo, rks⟩ := Reps.rk I ds _ itz q rvz (by rw [neD] at n; exact n) (by simpa [PyData.showable] using hs) fun t ht => Nat.le_trans (tupleText_mem_le ht) hzz
    have nin : a ∉ bds := not_mem_of_deeper (.tuple ho hc hd rds) (by simp only [PyData.depth]; omega) rmo
    refine ⟨"tuple", "tuple.__repr__", F.slot_tuple_repr, F.slot_tuple_str, F.slot_tuple_format, fun s hk0 => ⟨o, hk0 _ _ ho, hc⟩, fun A E s Q hg hu hk0 hQ => ?_⟩
    simp only [PyData.depth, id] at hu
    simp only [PyData.shown, id] at hQ
    exact call_tuple_reprK ho hc hd nin (by simpa using rks) hg (fun b _ => Clear.nil b) hu hk0 hQ hzz
  | dict ds =>
    obtain ⟨n1, n2⟩ := neD_dict n
    obtain ⟨_, kv, e, l, q⟩ := h.dk n1
    cases e
    have hzz : (dictText (PyData.shownKv ds)).length ≤ sizeLine := by simpa only [PyData.shown] using hz
    obtain ⟨hs1, hs2⟩ := PyData.showableKv_split ds (by simpa [PyData.showable] using hs)
    obtain ⟨_, hsys, vs, rel, o, es, ep, ho, hc, hd, _, hp, _⟩ := dk_rd I.hok l.rd
    obtain ⟨ads, bds, h1, h2⟩ := RepD.reads I ds kv es.toList vs q rel hp n2
    obtain ⟨⟨b1, hb1, k1⟩, ⟨b2, hb2, k2⟩⟩ := RepD.rk I ds kv es.toList vs q rel hp n2 hs1 hs2
      (fun t ht => let ⟨p, hp, hl⟩ := PyData.shownKv_key_le ds t ht; Nat.le_trans hl (Nat.le_trans (dictText_mem_le hp) hzz))
      (fun t ht => let ⟨p, hp, hl⟩ := PyData.shownKv_val_le ds t ht; Nat.le_trans hl (Nat.le_trans (dictText_mem_le hp) hzz))
    have rmo : ReadAtMost s.heap (PyData.depthKv ds) (b1 ++ b2) := (hb1.mono (PyData.depthAll_keys_le ds)).append (hb2.mono (PyData.depthAll_vals_le ds))
    have nin : a ∉ b1 ++ b2 := not_mem_of_deeper (.dict ho hc.1 hd h1 h2) (by simp only [PyData.depth]; omega) rmo
    refine ⟨"dict", "dict.__repr__", F.slot_dict_repr, F.slot_dict_str, F.slot_dict_format, fun s hk0 => ⟨o, hk0 _ _ ho, hc.1⟩, fun A E s Q hg hu hk0 hQ => ?_⟩
    simp only [PyData.depth, id] at hu
    simp only [PyData.shownKv_eq, PyData.shown] at hQ
    exact call_dict_reprK ho hc.1 hd hsys nin (ReprEntriesK.of_two es.toList _ _
      (k1.more_le (fun b rmo => List.mem_append_left _ rmo) (PyData.depthAll_keys_le ds)) (k2.more_le (fun b rmo => List.mem_append_right _ rmo) (PyData.depthAll_vals_le ds))) hg (fun b _ => Clear.nil b) hu hk0 hQ (by rw [← PyData.shownKv_eq]; exact hzz)
/-- a list's own place may be anybody's -/
theorem RepB.rep {K : PySem.W.Frag} {pa : PL} {d : D} {v : V} (h : RepB K pa A H d v) : ∃ A', Rep K A' H d v := by
  cases d with
  | list ds =>
    obtain ⟨a, vs, e, l, q⟩ := h
    exact ⟨fun _ => False, a, vs, e, ⟨l.1, fun z => z⟩, Reps.mono (fun b u e _ n => ⟨e, fun z => z⟩) _ _ q⟩
  | _ => exact ⟨A, h⟩
end
end Vl
end
section
set_option autoImplicit false
set_option maxRecDepth 100000
/-! V6: list, tuple, all, any, repr, isinstance. -/
namespace Vl
open PySem L2

theorem paired_at {vs : List V} {us : List Value} (hl : vs.length = us.length) (h : ∀ (j : Nat) (x : V) (w : Value), vs[j]? = some x → us[j]? = some w → RelV x w) : Vals vs us := by
  induction vs generalizing us with
  | nil => cases us with
    | nil => exact .nil
    | cons _ _ => simp at hl
  | cons v vs ih => cases us with
    | nil => simp at hl
    | cons u us => exact .cons (h 0 v u rfl rfl) (ih (by simpa using hl) fun j x w h1 h2 => h (j + 1) x w (by simpa using h1) (by simpa using h2))
section
variable {X : Cx} {K : PySem.W.Frag}
/-- list(text) -/
def rListStr : List V → Hp → VK → Prop := fun xs H Q => ∃ z : Str, xs = [.str z] ∧ z.length ≤ 16777216 ∧ ∀ p, H p = none → Q (.ref p) (upd H p (.lst (z.cps.toList.map fun c => .str ⟨#[c]⟩)))
theorem call_liststr (hc : X.calm = true) : CallR X (.type "list") rListStr := by
  intro pins s σ H xs; intro us Q I r h
  obtain ⟨z, rfl, hz, q⟩ := h
  obtain ⟨u, rfl, t, rfl⟩ := (vals1 r)
  refine call_list_str (I.ok.hd hc) z t (hn := line_le hz) fun h' tk acc' c' hk hS hacc => ?_
  refine ⟨.ref s.heap.objs.size, upd H s.heap.objs.size (.lst (z.cps.toList.map fun c => .str ⟨#[c]⟩)), I.laid hk (Nat.le_refl _) (show ObjOk X.prog X.w _ _ _ (.lst _) from ⟨?_, acc'.toList, c', ?_, ?_⟩), rfl, q _ (I.hok.fresh (Nat.le_refl _))⟩
  · rw [List.length_map]; exact line_le hz
  · refine paired_at (by rw [List.length_map]; simp [hacc.1]) fun j x w h1 h2 => ?_
    obtain ⟨c, tk', e1, e2⟩ := hacc.2 j w (by rw [← Array.getElem?_toList]; exact h2)
    rw [List.getElem?_map, Array.getElem?_toList, e1] at h1
    cases h1
    exact ⟨tk', e2⟩
  · rw [hS]
def rListA (K : PySem.W.Frag) : List V → Hp → VK → Prop := fun xs H Q => (∃ p ys, xs = [.ref p] ∧ (SqL K H p ys ∨ SqT K H p ys) ∧ ∀ l, H l = none → Q (.ref l) (upd H l (.lst ys))) ∨ rListStr xs H Q
theorem cr_list (hc : X.calm = true) : CallR X (.type "list") (rListA X.K) := call_list_of.or (call_liststr hc)
theorem reps_signs {A : AS} {H : Hp} : ∀ l : List Nat, Reps K A H (l.map signD) (l.map fun c => V.str ⟨#[c]⟩)
  | [] => rfl
  | c :: l => ⟨_, _, rfl, rfl, reps_signs l⟩
theorem cd_list : CallD K .f (rListA K) gList := by
  intro W A σ H env P vs ds d Q k rs hg q
  match ds, rs, hg with
  | [d0], rs, hg =>
    obtain ⟨v, rfl, r⟩ := one_arg rs
    cases d0 with
    | list xs =>
      cases hg
      obtain ⟨a, vs, rfl, l, r⟩ := r
      refine .inl ⟨a, vs, rfl, .inl l.sq, fun p hp => ?_⟩
      have s := same_upd (o := .lst vs) hp
      exact q _ _ s ⟨p, vs, xs, rfl, rfl, .of hp, upd_same, k.repsO hp r⟩
    | tuple xs =>
      cases hg
      obtain ⟨a, vs, rfl, l, r⟩ := r
      refine .inl ⟨a, vs, rfl, .inr l.sq, fun p hp => ?_⟩
      have s := same_upd (o := .lst vs) hp
      exact q _ _ s ⟨p, vs, xs, rfl, rfl, .of hp, upd_same, k.repsO hp r⟩
    | str z =>
      change (if z.length ≤ 16777216 then some (PyData.list (z.cps.toList.map signD)) else none) = some d at hg
      by_cases hl : z.length ≤ 16777216
      · rw [if_pos hl] at hg
        cases hg
        cases (show v = .str z from r)
        refine .inr ⟨z, rfl, hl, fun p hp => ?_⟩
        exact q _ _ (same_upd hp) ⟨p, _, _, rfl, rfl, .of hp, upd_same, reps_signs _⟩
      · rw [if_neg hl] at hg; cases hg
    | _ => cases hg
  | [], _, hg => cases hg
  | _ :: _ :: _, _, hg => simp [gList] at hg
theorem cd_tuple : CallD K .v (rTupleOf K) gTuple := by
  intro W A σ H env P vs ds d Q k rs hg q
  match ds, rs, hg with
  | [d0], rs, hg =>
    obtain ⟨v, rfl, r⟩ := one_arg rs
    cases d0 with
    | list xs =>
      cases hg
      obtain ⟨a, vs, rfl, l, r⟩ := r
      exact ⟨a, vs, rfl, .inl ⟨l.sq, nT_rep k r q⟩⟩
    | tuple xs =>
      cases hg
      obtain ⟨a, vs, rfl, l, r⟩ := r
      exact ⟨a, vs, rfl, .inr ⟨l.sq, q _ H (Same.refl H) ⟨a, vs, rfl, l, r⟩⟩⟩
    | _ => cases hg
  | [], _, hg => cases hg
  | _ :: _ :: _, _, hg => simp [gTuple] at hg
theorem reps_bools {A : AS} {H : Hp} : ∀ {xs : List D} {vs : List V} {bs : List Bool}, Reps K A H xs vs → boolsOf xs = some bs → vs = bs.map V.bl
  | [], vs, bs, h, e => by cases e; exact h
  | x :: xs, vs, bs, ⟨v, r, e1, h, t⟩, e => by
    cases x with
    | bool b =>
      change (boolsOf xs).map (b :: ·) = some bs at e
      cases hb : boolsOf xs with
      | none => rw [hb] at e; cases e
      | some cs =>
        rw [hb] at e
        cases e
        rw [e1, List.map_cons, ← reps_bools t hb, show v = V.bl b from h]
    | _ => cases e
theorem cd_all : CallD K .v (rAll K) gAll := by
  intro W A σ H env P vs ds d Q k rs hg q
  match ds, rs, hg with
  | [d0], rs, hg =>
    obtain ⟨v, rfl, r⟩ := one_arg rs
    cases d0 with
    | list xs =>
      change (boolsOf xs).map _ = some d at hg
      cases hb : boolsOf xs with
      | none => rw [hb] at hg; cases hg
      | some bs =>
        rw [hb] at hg
        cases hg
        obtain ⟨a, vs, rfl, l, r⟩ := r
        rw [reps_bools r hb] at l
        exact ⟨a, bs, rfl, l.sq, q _ H (Same.refl H) rfl⟩
    | _ => cases hg
  | [], _, hg => cases hg
  | _ :: _ :: _, _, hg => simp [gAll] at hg
theorem cd_any : CallD K .v (rAny K) gAny := by
  intro W A σ H env P vs ds d Q k rs hg q
  match ds, rs, hg with
  | [d0], rs, hg =>
    obtain ⟨v, rfl, r⟩ := one_arg rs
    cases d0 with
    | list xs =>
      change (boolsOf xs).map _ = some d at hg
      cases hb : boolsOf xs with
      | none => rw [hb] at hg; cases hg
      | some bs =>
        rw [hb] at hg
        cases hg
        obtain ⟨a, vs, rfl, l, r⟩ := r
        rw [reps_bools r hb] at l
        exact ⟨a, bs, rfl, l.sq, q _ H (Same.refl H) rfl⟩
    | _ => cases hg
  | [], _, hg => cases hg
  | _ :: _ :: _, _, hg => simp [gAny] at hg
/-- repr of data -/
def rRepr (K : PySem.W.Frag) : List V → Hp → VK → Prop := fun xs H Q => ∃ v d A, xs = [v] ∧ Rep K A H d v ∧ neD d = true ∧ d.showable = true ∧ d.depth ≤ 64 ∧ d.shown.length ≤ 16777216 ∧ Q (.str d.shown) H
theorem cr_repr (hg : X.A.guards = some []) (hu : X.A.units + 65 < cLine) : CallR X (.builtin "repr") (rRepr X.K) := by
  intro pins s σ H xs; intro us Q I r h
  obtain ⟨v, d, A, rfl, hd, hne, hs, hdep, hl, q⟩ := h
  obtain ⟨u, rfl, rv⟩ := vals1 r
  cases d with
  | none => cases (show v = .non from hd); cases rv; exact P.repr_of_none ⟨.str _, H, I.tok _, ⟨_, rfl⟩, q⟩
  | bool b => cases (show v = .bl b from hd); cases rv; exact P.repr_of_bool ⟨.str _, H, I.tok _, ⟨_, rfl⟩, q⟩
  | int i => cases (show v = .int i from hd); obtain ⟨t, rfl⟩ := rv; exact P.repr_of_int (of_decide_eq_true hs) ⟨.str _, H, I.tok _, ⟨_, rfl⟩, q⟩
  | str x => cases (show v = .str x from hd); obtain ⟨t, rfl⟩ := rv; exact P.repr_of_str ⟨.str _, H, I.tok _, ⟨_, rfl⟩, q⟩ (line_le hl)
  | list ds | tuple ds | dict ds =>
    obtain ⟨a, rfl⟩ : ∃ a, v = .ref a := by
      first
        | (obtain ⟨a, _, e, _⟩ := id hd; exact ⟨a, e⟩)
        | (obtain ⟨a, e, _⟩ := id hd; exact ⟨a, e⟩)
    cases rv
    obtain ⟨T, idr, S⟩ := Rep.shows I hd hne hs (line_le hl)
    refine call_repr_slot (by omega) (S.typeIs s fun _ _ e => e) S.slotRepr (S.call X.A.in1 X.xe s _ hg (by show X.A.units + 1 + _ < cLine; omega) (fun _ _ e => e) fun h' u tk hk => ⟨_, _, rfl, ?_⟩)
    exact ⟨.str _, H, I.kept hk, ⟨u, rfl⟩, q⟩
theorem cd_repr : CallD K .v (rRepr K) gRepr := by
  intro W A σ H env P vs ds d Q k rs hg q
  match ds, rs, hg with
  | [d0], rs, hg =>
    obtain ⟨v, rfl, r⟩ := one_arg rs
    change (if neD d0 = true ∧ d0.showable = true ∧ d0.depth ≤ 64 ∧ d0.shown.length ≤ 16777216 then some (PyData.str d0.shown) else none) = some d at hg
    by_cases hc : neD d0 = true ∧ d0.showable = true ∧ d0.depth ≤ 64 ∧ d0.shown.length ≤ 16777216
    · rw [if_pos hc] at hg
      cases hg
      obtain ⟨A', r'⟩ := RepB.rep r
      exact ⟨v, d0, A', rfl, r', hc.1, hc.2.1, hc.2.2.1, hc.2.2.2, q _ H (Same.refl H) rfl⟩
    · rw [if_neg hc] at hg; cases hg
  | [], _, hg => cases hg
  | _ :: _ :: _, _, hg => simp [gRepr] at hg
end

/-! ### isinstance -/
def tyD : D → String
  | .none => "NoneType"
  | .bool _ => "bool"
  | .int _ => "int"
  | .str _ => "str"
  | .list _ => "list"
  | .tuple _ => "tuple"
  | .dict _ => "dict"
def tyM : D → String
  | .dict kvs => if isErr kvs = true then "?" else "dict"
  | d => tyD d
def topE : D → Bool
  | .dict kvs => isErr kvs
  | _ => false
theorem ty_of {K : PySem.W.Frag} {pa : PL} {A : AS} {H : Hp} {d : D} {v : V} (r : RepB K pa A H d v) (n : topE d = false) : TyX K H v (.type (tyD d)) := by
  cases d with
  | none => cases (show v = _ from r); exact .base .non
  | bool b => cases (show v = _ from r); exact .base (.bl b)
  | int i => cases (show v = _ from r); exact .base (.int i)
  | str z => cases (show v = _ from r); exact .base (.str z)
  | list xs => obtain ⟨a, vs, rfl, l, _⟩ := r; exact .base (.lst l.1)
  | tuple xs =>
    obtain ⟨a, vs, rfl, l, _⟩ := r
    rcases l with ⟨o, l, _⟩ | ⟨o, its, n, h1, h2, _⟩
    · exact .fTuple l
    · exact .kTuple h1 h2
  | dict kvs => obtain ⟨a, vs, rfl, l, _⟩ := Rep.dk (show Rep K A H (.dict kvs) v from r) n; exact l.1.elim fun _ e => .fDict e
/-- isinstance against a written class, against a written tuple of classes -/
def isD (T : String) (d : D) : Bool := tyD d == T || (T == "int" && tyD d == "bool")
def dIsi (T : String) (f : Env → M D) : Env → M D := fun env => bnd (f env) fun d => if topE d = true then no else ret (.bool (isD T d))
def dIsiT (Ts : List String) (f : Env → M D) : Env → M D := fun env => bnd (f env) fun d => if topE d = true then no else ret (.bool (Ts.any fun T => isD T d))
def tyNames : List String := ["int", "str", "bool", "list", "tuple", "dict"]
theorem kit_tab : ∀ t ∈ "NoneType" :: tyNames, ∀ T ∈ tyNames, kitB t T = some (t == T || (T == "int" && t == "bool")) := by decide +kernel
theorem tyD_mem (d : D) : tyD d ∈ "NoneType" :: tyNames := by cases d <;> simp [tyD, tyNames]
theorem kit_all {K : PySem.W.Frag} (d : D) (T : String) (h : T ∈ tyNames) : PySem.W.kitOne K (.type (tyD d)) (.type T) = some (isD T d) := kit_ty (kit_tab _ (tyD_mem d) T h)
theorem kit_any {K : PySem.W.Frag} (d : D) : ∀ Ts : List String, (∀ T ∈ Ts, T ∈ tyNames) → PySem.W.kitAny K (.type (tyD d)) (Ts.map Value.type) = some (Ts.any fun T => isD T d)
  | [], _ => kitAny_nil
  | T :: Ts, h => by
    rw [List.map_cons, List.any_cons]
    refine kitAny_cons (kit_all d T (h T List.mem_cons_self)) (fun e => ?_) fun e => ?_
    · rw [e, Bool.false_or]
      exact kit_any d Ts fun T hT => h T (List.mem_cons_of_mem _ hT)
    · rw [e, Bool.true_or]
section
variable {Ex : Str → Hp → Prop} {X : Cx} {pos p p2 : Pos} {e : Expr} {fa : Env → M D} {x c : Str} {T : String}
theorem x_isi (ha : XE Ex X .b e fa) (hT : T ∈ tyNames) (hm : X.mg x = none) (hv : bootBuiltins x = some (.builtin "isinstance")) (hmT : X.mg c = none) (hvT : bootBuiltins c = some (.type T)) (hg : Gl X x := by rfl) (hgT : Gl X c := by rfl) (hn : x ≠ "__name__" := by decide) (hnT : c ≠ "__name__" := by decide)
    (hdb : ((x == ("__debug__" : Str))) = false := by decide) (hdbT : (c == ("__debug__" : Str)) = false := by decide) (h1 : starEach [e, .Name c p2] X.env = (false, eval e X.env) :: starEach [.Name c p2] X.env := by rfl)
    (h2 : starEach [Expr.Name c p2] X.env = (false, eval (.Name c p2) X.env) :: starEach [] X.env := by rfl) (hpl : (backTo pos (starEach [Expr.Name c p2] X.env)).any (·.1) = false := by rfl) : XE Ex X .v (.Call (.Name x p) [e, .Name c p2] [] pos) (dIsi T fa) := by
  obtain ⟨t, ht, q⟩ := ha
  refine ⟨_, pe_callB call_isi hg hm hv (pa_cons ht (pa_cons (pe_bltn (v := .ty T) hgT hmT hvT rfl hnT hdbT) pa_nil h2) h1) hn hdb h1 hpl, fun W A σ H env P Q k p => ?_⟩
  refine q W A σ H env P _ k ((PostG.bnd k p).mono ?_)
  rintro d _ H1 _ _ ⟨P1, e1, p1, k1, post⟩ v r
  change PostG Ex W.pa H1 ((if topE d = true then no else ret (PyData.bool (isD T d))) P1) _ at post
  cases hn : topE d with
  | true => rw [if_pos hn] at post; exact post.elim
  | false =>
    rw [if_neg (by rw [hn]; exact Bool.false_ne_true)] at post
    exact ⟨v, .ty T, _, _, _, rfl, .ty T, ty_of r hn, kit_all d T hT, post_here post p1 e1 _ rfl⟩
end
end Vl
end
section
set_option autoImplicit false
set_option maxRecDepth 100000
/-! V7: statements. -/
namespace Vl
open PySem L2

inductive Fl where
  | nx (e : Env)
  | rt (d : D)
  | bk (e : Env)
  | ct (e : Env)
def PostS (K : PySem.W.Frag) (Ex : Str → Hp → Prop) (kd : Kd) (W : Wd) (r : R Fl) (De : Ends) : Prop := match r with
  | .ok (.nx env') P' => ∀ A σ H, EOk K W A σ H env' P' → De.nx σ H
  | .ok (.bk env') P' => ∀ A σ H, EOk K W A σ H env' P' → De.bk σ H
  | .ok (.ct env') P' => ∀ A σ H, EOk K W A σ H env' P' → De.ct σ H
  | .ok (.rt d) P' => ∀ v H', HExt W.pa W.H0 H' → PenOk W.pa H' P' → rel K W.pa W.A0 W.H0 H' d v kd → De.rt v H'
  | .ex c P' => ∀ H', HExt W.pa W.H0 H' → PenOk W.pa H' P' → Ex c H'
  | .no => False
def SdS (K : PySem.W.Frag) (Ex : Str → Hp → Prop) (kd : Kd) (t : TS) (f : Env → M Fl) : Prop := ∀ W A σ H env P De, EOk K W A σ H env P → PostS K Ex kd W (f env P) De → t De σ H
def XS (Ex : Str → Hp → Prop) (kd : Kd) (X : Cx) (st : Stmt) (f : Env → M Fl) : Prop := ∃ t, PS X st t ∧ SdS X.K Ex kd t f
def XSs (Ex : Str → Hp → Prop) (kd : Kd) (X : Cx) (st : List Stmt) (f : Env → M Fl) : Prop := ∃ t, PSs X st t ∧ SdS X.K Ex kd t f

/-- an expression inside a statement -/
theorem PostS.bnd {α : Type} {K : PySem.W.Frag} {Ex : Str → Hp → Prop} {kd : Kd} {W : Wd} {A : AS} {σ : L2.St} {H : Hp} {env : Env} {P : Pen} {m : M α} {g : α → M Fl} {De : Ends} (k : EOk K W A σ H env P) (h : PostS K Ex kd W (bnd m g P) De) :
    PostG Ex W.pa H (m P) (fun a H1 => ∃ P1, HExt W.pa H H1 ∧ PenOk W.pa H1 P1 ∧ EOk K W A σ H1 env P1 ∧ PostS K Ex kd W (g a P1) De) := by
  unfold Vl.bnd at h
  cases hm : m P with
  | ok a P1 => rw [hm] at h; exact fun H1 e1 p1 => ⟨P1, e1, p1, k.ext e1 p1, h⟩
  | ex c P1 => rw [hm] at h; exact fun H1 e1 p1 => h H1 (k.base.trans e1) p1
  | no => rw [hm] at h; exact h
/-- a statement ahead of statements -/
theorem PostS.bndS {K : PySem.W.Frag} {Ex : Str → Hp → Prop} {kd : Kd} {W : Wd} {r : R Fl} {De De' : Ends} (h : PostS K Ex kd W r De')
    (h1 : ∀ e P', r = .ok (.nx e) P' → ∀ A σ H, EOk K W A σ H e P' → De'.nx σ H → De.nx σ H) (h2 : De'.bk = De.bk) (h3 : De'.ct = De.ct) (h4 : De'.rt = De.rt) : PostS K Ex kd W r De := by
  cases r with
  | ok f P' => cases f with
    | nx e => exact fun A σ H k => h1 e P' rfl A σ H k (h A σ H k)
    | bk e => exact fun A σ H k => h2 ▸ h A σ H k
    | ct e => exact fun A σ H k => h3 ▸ h A σ H k
    | rt d => exact fun v H' e p r => h4 ▸ h v H' e p r
  | ex c P' => exact h
  | no => exact h

/-! ### slots stored -/
section
variable {K : PySem.W.Frag} {W : Wd} {A : AS} {σ : L2.St} {H : Hp} {env : Env} {P : Pen}
theorem EOk.setU (k : EOk K W A σ H env P) (i : Nat) (o : Option V) : EOk K W A (σ.set i o) H (env.set i .un) P := by
  refine ⟨by rw [List.length_set, List.length_set, k.len], fun j o' s h1 h2 => ?_, fun j l ds es a hn h1 h2 h3 => ?_, fun j ds a h1 h2 => ?_, k.sub, k.a0, k.trk, k.penA, k.pen, k.base, k.keep, k.dk.set1 _ _ _ (by intro _ z; cases z)⟩
  · by_cases e : i = j
    · subst e
      rw [List.getElem?_set] at h2
      split at h2
      · split at h2 <;> cases h2
        trivial
      · exact absurd rfl ‹_›
    · rw [List.getElem?_set_ne e] at h1 h2
      exact k.slot j o' s h1 h2
  · have ej : i ≠ j := fun e => by
      subst e
      rw [List.getElem?_set] at h1
      split at h1 <;> first | (split at h1 <;> cases h1) | exact absurd rfl ‹_›
    have el : i ≠ l := fun e => by
      subst e
      rw [List.getElem?_set] at h2
      split at h2 <;> first | (split at h2 <;> cases h2) | exact absurd rfl ‹_›
    rw [List.getElem?_set_ne ej] at h1 h3
    rw [List.getElem?_set_ne el] at h2 ⊢
    exact k.inj j l ds es a hn h1 h2 h3
  · have ej : i ≠ j := fun e => by
      subst e
      rw [List.getElem?_set] at h1
      split at h1 <;> first | (split at h1 <;> cases h1) | exact absurd rfl ‹_›
    rw [List.getElem?_set_ne ej] at h1 h2
    exact k.fresh j ds a h1 h2
theorem set_at {α : Type} {l : List α} {i j : Nat} {x y : α} (h : (l.set i x)[j]? = some y) : (i = j ∧ i < l.length ∧ y = x) ∨ (i ≠ j ∧ l[j]? = some y) := by
  by_cases e : i = j
  · subst e
    have hl : i < l.length := by
      have := (List.getElem?_eq_some_iff.mp h).1
      rwa [List.length_set] at this
    rw [List.getElem?_set_self hl] at h
    exact .inl ⟨rfl, hl, (Option.some.inj h).symm⟩
  · rw [List.getElem?_set_ne e] at h
    exact .inr ⟨e, h⟩
theorem EOk.setV (k : EOk K W A σ H env P) (i : Nat) {d : D} {v : V} (r : Rep K A H d v) : EOk K W A (σ.set i (some v)) H (env.set i (.v d)) P := by
  refine ⟨by rw [List.length_set, List.length_set, k.len], fun j o' s h1 h2 => ?_, fun j l ds es a hn h1 h2 h3 => ?_, fun j ds a h1 h2 => ?_, k.sub, k.a0, k.trk, k.penA, k.pen, k.base, k.keep, k.dk.set1 _ _ _ (by intro _ z; cases z)⟩
  · rcases set_at h2 with ⟨rfl, hl, rfl⟩ | ⟨e, h2⟩
    · rcases set_at h1 with ⟨_, _, rfl⟩ | ⟨e, _⟩
      · exact ⟨v, rfl, r⟩
      · exact absurd rfl e
    · rw [List.getElem?_set_ne e] at h1
      exact k.slot j o' s h1 h2
  · rcases set_at h1 with ⟨_, _, e⟩ | ⟨ej, h1⟩
    · cases e
    rcases set_at h2 with ⟨_, _, e⟩ | ⟨el, h2⟩
    · cases e
    rw [List.getElem?_set_ne ej] at h3
    rw [List.getElem?_set_ne el]
    exact k.inj j l ds es a hn h1 h2 h3
  · rcases set_at h1 with ⟨_, _, e⟩ | ⟨ej, h1⟩
    · cases e
    rw [List.getElem?_set_ne ej] at h2
    exact k.fresh j ds a h1 h2
theorem stay_sub {A' : AS} (h : ∀ a o, H a = some o → A' a → A a) : Stay A A' H H := fun a u e _ n => ⟨e, fun z => n (h a u e z)⟩
/-- a new list comes to stand in a slot as its own -/
theorem EOk.setO {H' : Hp} {P' : Pen} (k : EOk K W A σ H env P) (e : HExt W.pa H H') (p' : PenOk W.pa H' P') (i : Nat) {ds : List D} {vs : List V} {a : Addr} (hn : New H a) (hl : H' a = some (.lst vs)) (r : Reps K (ad A a) H' ds vs) :
    EOk K W (ad A a) (σ.set i (some (.ref a))) H' (env.set i (.own ds)) P' := by
  have k' := k.ext e p'
  have nA : ¬ A a := k.newN hn
  have st : Stay A (ad A a) H H' := fun b u h t n => ⟨(stay_ext e k.penA b u h t n).1, fun z => z.elim n fun z => by subst z; exact hn u h t⟩
  have h0 : New W.H0 a := fun o q t => by
    by_cases hp : Pn W.pa a
    · obtain ⟨c, z⟩ := hp
      exact absurd (k.penA _ _ z).1 nA
    · exact hn o (k.base a o q hp t) t
  have np : ∀ p c, W.pa.pen = some (p, c) → a ≠ p ∧ a ≠ c := fun p c z => ⟨fun y => nA (y ▸ (k.penA _ _ z).1), fun y => nA (y ▸ (k.penA _ _ z).2)⟩
  have old : ∀ (j : Nat) (es : List D) (b : Addr), env[j]? = some (SV.own es) → σ[j]? = some (some (V.ref b)) → b ≠ a := fun j es b h1 h2 z => by
    obtain ⟨o, e1, b', vs', e2, hb, _⟩ := k.at h1
    rw [e1] at h2
    cases h2
    cases e2
    exact nA (z ▸ hb)
  refine ⟨by rw [List.length_set, List.length_set, k.len], fun j o' s h1 h2 => ?_, fun j l es fs b hn' h1 h2 h3 => ?_, fun j es b h1 h2 => ?_, fun b z => .inl (k.sub b z), k.a0, fun b z => ?_, fun p c z => ⟨.inl (k.penA p c z).1, .inl (k.penA p c z).2⟩, p', k'.base, fun g hg => Rep.mono st _ _ (k.keep g hg), k.dk.set1 _ _ _ (by intro _ z; cases z)⟩
  · rcases set_at h2 with ⟨rfl, hl', rfl⟩ | ⟨ej, h2⟩
    · rcases set_at h1 with ⟨_, _, rfl⟩ | ⟨ej, _⟩
      · exact ⟨a, vs, rfl, .inr rfl, np, hl, r⟩
      · exact absurd rfl ej
    · rw [List.getElem?_set_ne ej] at h1
      have q := k.slot j o' s h1 h2
      cases s with
      | un => trivial
      | v d => obtain ⟨x, e1, r⟩ := q; exact ⟨x, e1, Rep.mono st _ _ r⟩
      | own es =>
        obtain ⟨b, us, e1, hb, hp, hl2, r2⟩ := q
        exact ⟨b, us, e1, .inl hb, hp, e.at hl2 fun ⟨c, z⟩ => (hp _ _ z).1 rfl, Reps.mono st _ _ r2⟩
      | ownD es =>
        obtain ⟨b, us, e1, hb, hp, hl2, r2⟩ := q
        exact ⟨b, us, e1, .inl hb, hp, e.at hl2 (fun ⟨c, z⟩ => (hp _ _ z).1 rfl) nt_dK, RepD.mono st _ _ r2⟩
      | pen => exact q
      | scr ns => obtain ⟨x, e1', r⟩ := q; exact ⟨x, e1', r.mono st⟩
      | fn x => exact q
  · rcases set_at h1 with ⟨rfl, hi, e1⟩ | ⟨ej, h1⟩
    · rcases set_at h2 with ⟨e2, _, _⟩ | ⟨el, h2⟩
      · exact absurd e2 hn'
      · rcases set_at h3 with ⟨_, _, e3⟩ | ⟨ej, _⟩
        · cases e3
          rw [List.getElem?_set_ne el]
          intro z
          exact old l fs a h2 z rfl
        · exact absurd rfl ej
    · rw [List.getElem?_set_ne ej] at h3
      rcases set_at h2 with ⟨rfl, hi, e2⟩ | ⟨el, h2⟩
      · intro z
        rcases set_at z with ⟨_, _, e3⟩ | ⟨el, _⟩
        · cases e3
          exact old j es a h1 h3 rfl
        · exact absurd rfl el
      · rw [List.getElem?_set_ne el]
        exact k.inj j l es fs b hn' h1 h2 h3
  · rcases set_at h1 with ⟨rfl, hi, e1⟩ | ⟨ej, h1⟩
    · rcases set_at h2 with ⟨_, _, e2⟩ | ⟨ej, _⟩
      · cases e2
        exact h0
      · exact absurd rfl ej
    · rw [List.getElem?_set_ne ej] at h2
      exact k.fresh j es b h1 h2
  · rcases z with z | z
    · exact k'.trk b z
    · exact ⟨_, z ▸ hl, nt_lst⟩
/-- an own list is changed -/
theorem EOk.write (k : EOk K W A σ H env P) {i : Nat} {ds es : List D} {a : Addr} {vs : List V} (he : env[i]? = some (.own ds)) (hs : σ[i]? = some (some (.ref a))) (r : Reps K A H es vs) :
    EOk K W A σ (upd H a (.lst vs)) (env.set i (.own es)) P := by
  obtain ⟨o, e1, b, us, e2, ha, np, hl, _⟩ := k.at he
  rw [e1] at hs
  cases hs
  cases e2
  have st : Stay A A H (upd H a (.lst vs)) := fun b u h _ n => ⟨(upd_ne (fun z => by subst z; exact n ha)).trans h, n⟩
  have nP : ∀ p c, W.pa.pen = some (p, c) → p ≠ a ∧ c ≠ a := fun p c z => ⟨fun y => (np p c z).1 y.symm, fun y => (np p c z).2 y.symm⟩
  refine ⟨by rw [List.length_set, k.len], fun j o' s h1 h2 => ?_, fun j l es' fs b hn' h1 h2 h3 => ?_, fun j es' b h1 h2 => ?_, k.sub, k.a0, fun b z => ?_, k.penA, ⟨fun p c z => ?_, tabs_upd k.pen.2.1 (by rw [hl]; trivial), k.pen.2.2⟩, fun b o h np' nt' => ?_, fun g hg => Rep.mono st _ _ (k.keep g hg), k.dk.set0 _ _ (by intro _ z; cases z)⟩
  · rcases set_at h2 with ⟨rfl, hi, rfl⟩ | ⟨ej, h2⟩
    · rw [e1] at h1
      cases h1
      exact ⟨a, vs, rfl, ha, np, upd_same, Reps.mono st _ _ r⟩
    · have q := k.slot j o' s h1 h2
      cases s with
      | un => trivial
      | v d => obtain ⟨x, e1, r⟩ := q; exact ⟨x, e1, Rep.mono st _ _ r⟩
      | own fs =>
        obtain ⟨b, us', e3, hb, hp, hl2, r2⟩ := q
        subst e3
        have hne : b ≠ a := fun z => by
          subst z
          exact k.inj i j ds fs b ej he h2 e1 h1
        exact ⟨b, us', rfl, hb, hp, by rw [upd_ne hne]; exact hl2, Reps.mono st _ _ r2⟩
      | ownD fs =>
        obtain ⟨b, us', e3, hb, hp, hl2, r2⟩ := q
        have hne : b ≠ a := fun z => by
          subst z
          rw [hl] at hl2; cases hl2
        exact ⟨b, us', e3, hb, hp, by rw [upd_ne hne]; exact hl2, RepD.mono st _ _ r2⟩
      | pen => exact q
      | scr ns => obtain ⟨x, e1', r⟩ := q; exact ⟨x, e1', r.mono st⟩
      | fn x => exact q
  · have g1 : ∃ es', env[j]? = some (.own es') := by
      rcases set_at h1 with ⟨rfl, _, _⟩ | ⟨_, h1⟩
      · exact ⟨_, he⟩
      · exact ⟨_, h1⟩
    have g2 : ∃ es', env[l]? = some (.own es') := by
      rcases set_at h2 with ⟨rfl, _, _⟩ | ⟨_, h2⟩
      · exact ⟨_, he⟩
      · exact ⟨_, h2⟩
    obtain ⟨x1, g1⟩ := g1
    obtain ⟨x2, g2⟩ := g2
    exact k.inj j l x1 x2 b hn' g1 g2 h3
  · rcases set_at h1 with ⟨rfl, _, _⟩ | ⟨_, h1⟩
    · exact k.fresh _ _ b he h2
    · exact k.fresh _ _ b h1 h2
  · by_cases hb : b = a
    · subst hb; exact ⟨_, upd_same, nt_lst⟩
    · rw [upd_ne hb]; exact k.trk b z
  · obtain ⟨q1, q2, q3⟩ := k.pen.1 p c z
    exact ⟨q1, by rw [upd_ne (nP p c z).1]; exact q2, by rw [upd_ne (nP p c z).2]; exact q3⟩
  · have hb : (b ≠ a) := fun z => by
      subst z
      exact k.fresh i ds b he e1 _ h nt'
    rw [upd_ne hb]
    exact k.base b o h np' nt'
/-- an own list is let go: from now on nobody's -/
theorem EOk.share (k : EOk K W A σ H env P) {i : Nat} {ds : List D} (he : env[i]? = some (.own ds)) : ∃ A', (∀ b, A' b → A b) ∧ EOk K W A' σ H (env.set i (.v (.list ds))) P := by
  obtain ⟨o, e1, a, us, rfl, ha, np, hl, r⟩ := k.at he
  refine ⟨fun b => A b ∧ b ≠ a, fun b z => z.1, ?_⟩
  have st : Stay A (fun b => A b ∧ b ≠ a) H H := fun b u h _ n => ⟨h, fun z => n z.1⟩
  refine ⟨by rw [List.length_set, k.len], fun j o' s h1 h2 => ?_, fun j l es' fs b hn' h1 h2 h3 => ?_, fun j es' b h1 h2 => ?_, fun b z => ⟨k.sub b z, fun y => ?_⟩, k.a0, fun b z => k.trk b z.1, fun p c z => ⟨⟨(k.penA p c z).1, (np p c z).1.symm⟩, (k.penA p c z).2, (np p c z).2.symm⟩, k.pen, k.base, fun g hg => Rep.mono st _ _ (k.keep g hg), k.dk.set0 _ _ (by intro _ z; cases z)⟩
  · rcases set_at h2 with ⟨rfl, hi, rfl⟩ | ⟨ej, h2⟩
    · rw [e1] at h1
      cases h1
      exact ⟨_, rfl, a, us, rfl, ⟨hl, fun z => z.2 rfl⟩, Reps.mono st _ _ r⟩
    · have q := k.slot j o' s h1 h2
      cases s with
      | un => trivial
      | v d => obtain ⟨x, e1, r⟩ := q; exact ⟨x, e1, Rep.mono st _ _ r⟩
      | own fs =>
        obtain ⟨b, us', rfl, hb, hp, hl2, r2⟩ := q
        refine ⟨b, us', rfl, ⟨hb, fun z => ?_⟩, hp, hl2, Reps.mono st _ _ r2⟩
        subst z
        exact k.inj i j ds fs b ej he h2 e1 h1
      | ownD fs =>
        obtain ⟨b, us', rfl, hb, hp, hl2, r2⟩ := q
        refine ⟨b, us', rfl, ⟨hb, fun z => ?_⟩, hp, hl2, RepD.mono st _ _ r2⟩
        subst z
        rw [hl] at hl2; cases hl2
      | pen => exact q
      | scr ns => obtain ⟨x, e1', r⟩ := q; exact ⟨x, e1', r.mono st⟩
      | fn x => exact q
  · rcases set_at h1 with ⟨_, _, z⟩ | ⟨_, h1⟩
    · cases z
    rcases set_at h2 with ⟨_, _, z⟩ | ⟨_, h2⟩
    · cases z
    exact k.inj j l es' fs b hn' h1 h2 h3
  · rcases set_at h1 with ⟨_, _, z⟩ | ⟨_, h1⟩
    · cases z
    exact k.fresh j es' b h1 h2
  · subst y
    obtain ⟨o, ho, ht⟩ := k.a0 b z
    exact k.fresh i ds b he e1 o ho ht
end

/-! ### statements -/
def sNil : Env → M Fl := fun env => ret (.nx env)
def sSeq (f g : Env → M Fl) : Env → M Fl := fun env => bnd (f env) fun
  | .nx e => g e
  | o => ret o
def sExpr (f : Env → M D) : Env → M Fl := fun env => bnd (f env) fun _ => ret (.nx env)
def sSet (i : Nat) (f : Env → M D) : Env → M Fl := fun env => bnd (f env) fun d => ret (.nx (env.set i (.v d)))
def sOwn (i : Nat) (f : Env → M D) : Env → M Fl := fun env => bnd (f env) fun
  | .list ds => ret (.nx (env.set i (.own ds)))
  | _ => no
def sRet (f : Env → M D) : Env → M Fl := fun env => bnd (f env) fun d => ret (.rt d)
def sRetN : Env → M Fl := fun _ => ret (.rt .none)
def sRetO (i : Nat) : Env → M Fl := fun env => match env[i]? with
  | some (.own ds) => ret (.rt (.list ds))
  | _ => no
def sIf (c : Env → M Bool) (f g : Env → M Fl) : Env → M Fl := fun env => bnd (c env) fun b => if b then f env else g env
def sBreak : Env → M Fl := fun env => ret (.bk env)
def sCont : Env → M Fl := fun env => ret (.ct env)
/-- a ghost: the own list of slot i is let go -/
def sShare (i : Nat) (f : Env → M Fl) : Env → M Fl := fun env => match env[i]? with
  | some (.own ds) => f (env.set i (.v (.list ds)))
  | _ => f env
section
variable {Ex : Str → Hp → Prop} {kd : Kd} {X : Cx} {pos pos' : Pos} {st : Stmt} {sts a b : List Stmt} {e c : Expr} {f g : Env → M Fl} {fa : Env → M D} {fc : Env → M Bool} {x : Str}
theorem xs_nil : XSs Ex kd X [] sNil := ⟨_, pss_nil, fun W A σ H env P De k p => p A σ H k⟩
theorem xs_pass : XS Ex kd X (.Pass pos) sNil := ⟨_, ps_pass, fun W A σ H env P De k p => p A σ H k⟩
theorem xs_break : XS Ex kd X (.Break pos) sBreak := ⟨_, ps_break, fun W A σ H env P De k p => p A σ H k⟩
theorem xs_cont : XS Ex kd X (.Continue pos) sCont := ⟨_, ps_continue, fun W A σ H env P De k p => p A σ H k⟩
theorem xs_cons (h : XS Ex kd X st f) (h2 : XSs Ex kd X sts g) : XSs Ex kd X (st :: sts) (sSeq f g) := by
  obtain ⟨t, ht, q⟩ := h
  obtain ⟨u, hu, q2⟩ := h2
  refine ⟨_, pss_cons ht hu, fun W A σ H env P De k p => ?_⟩
  refine q W A σ H env P _ k ?_
  unfold sSeq bnd at p
  cases hf : f env P with
  | ok o P' =>
    rw [hf] at p
    cases o with
    | nx e => exact fun A' σ' H' k' => q2 W A' σ' H' e P' De k' p
    | bk e => exact p
    | ct e => exact p
    | rt d => exact p
  | ex c P' => rw [hf] at p; exact p
  | no => rw [hf] at p; exact p
theorem xs_one (h : XS Ex kd X st f) : XSs Ex kd X [st] f := by
  obtain ⟨t, ht, q⟩ := h
  exact ⟨_, pss_one ht, q⟩
theorem xs_expr (h : XE Ex X .b e fa) (hs : swapsWith e none pos.line X.env = pure false := by rfl) : XS Ex kd X (.Expr e pos) (sExpr fa) := by
  obtain ⟨t, ht, q⟩ := h
  refine ⟨_, ps_expr ht hs, fun W A σ H env P De k p => ?_⟩
  refine q W A σ H env P _ k ((PostS.bnd k p).mono ?_)
  rintro d _ H1 _ _ ⟨P1, e1, p1, k1, post⟩ v r
  exact post A σ H1 k1
theorem xs_set (i : Nat) (hN : X.N.Nodup) (h : XE Ex X .v e fa) (hi : X.N[i]? = some x := by rfl) (hx : Loc X.env.scope x := by first | exact Or.inl rfl | exact Or.inr rfl) (hs : swapsWith e (some (.Name x pos')) pos.line X.env = pure false := by rfl)
    (hf : X.fn x = true ∨ X.env.scope.names.lookup x = some .local := by first | exact .inl rfl | exact .inr rfl | assumption) : XS Ex kd X (.Assign [.Name x pos'] e pos) (sSet i fa) := by
  obtain ⟨t, ht, q⟩ := h
  refine ⟨_, ps_set hN hi hx ht hs hf, fun W A σ H env P De k p => ?_⟩
  refine q W A σ H env P _ k ((PostS.bnd k p).mono ?_)
  rintro d _ H1 _ _ ⟨P1, e1, p1, k1, post⟩ v r
  exact post A _ H1 (k1.setV i r)
theorem xs_own (i : Nat) (hN : X.N.Nodup) (h : XE Ex X .f e fa) (hi : X.N[i]? = some x := by rfl) (hx : Loc X.env.scope x := by first | exact Or.inl rfl | exact Or.inr rfl) (hs : swapsWith e (some (.Name x pos')) pos.line X.env = pure false := by rfl)
    (hf : X.fn x = true ∨ X.env.scope.names.lookup x = some .local := by first | exact .inl rfl | exact .inr rfl | assumption) : XS Ex kd X (.Assign [.Name x pos'] e pos) (sOwn i fa) := by
  obtain ⟨t, ht, q⟩ := h
  refine ⟨_, ps_set hN hi hx ht hs hf, fun W A σ H env P De k p => ?_⟩
  refine q W A σ H env P _ k ((PostS.bnd k p).mono ?_)
  rintro d _ H1 _ _ ⟨P1, e1, p1, k1, post⟩ v ⟨a, vs, ds, rfl, rfl, hn, hl, r⟩
  exact post _ _ H1 (k.setO e1 p1 i hn hl r)
theorem stay_ret {K : PySem.W.Frag} {W : Wd} {A : AS} {σ : L2.St} {H : Hp} {env : Env} {P : Pen} {d : D} {v : V} (k : EOk K W A σ H env P) (r : Rep K A H d v) : Rep K W.A0 H d v := Rep.mono (fun a u e _ n => ⟨e, fun z => n (k.sub a z)⟩) _ _ r
theorem xs_ret (h : XE Ex X .v e fa) : XS Ex .v X (.Return (some e) pos) (sRet fa) := by
  obtain ⟨t, ht, q⟩ := h
  refine ⟨_, ps_ret ht, fun W A σ H env P De k p => ?_⟩
  refine q W A σ H env P _ k ((PostS.bnd k p).mono ?_)
  rintro d _ H1 _ _ ⟨P1, e1, p1, k1, post⟩ v r
  exact post v H1 k1.base p1 (stay_ret k1 r)
theorem xs_retF (h : XE Ex X .f e fa) : XS Ex .f X (.Return (some e) pos) (sRet fa) := by
  obtain ⟨t, ht, q⟩ := h
  refine ⟨_, ps_ret ht, fun W A σ H env P De k p => ?_⟩
  refine q W A σ H env P _ k ((PostS.bnd k p).mono ?_)
  rintro d _ H1 _ _ ⟨P1, e1, p1, k1, post⟩ v ⟨a, vs, ds, rfl, rfl, hn, hl, r⟩
  refine post _ H1 k1.base p1 ⟨a, vs, ds, rfl, rfl, ?_, hl, Reps.mono (fun b u e _ n => ⟨e, fun z => n (z.elim (fun z => .inl (k.sub b z)) .inr)⟩) _ _ r⟩
  intro o q0 t
  by_cases hp : Pn W.pa a
  · obtain ⟨c, z⟩ := hp
    exact absurd (k.penA _ _ z).1 (k.newN hn)
  · exact hn o (k.base a o q0 hp t) t
theorem xs_retN : XS Ex .v X (.Return none pos) sRetN := ⟨_, ps_retN, fun W A σ H env P De k p => p .non H k.base k.pen rfl⟩
theorem own_ret {K : PySem.W.Frag} {W : Wd} {A : AS} {σ : L2.St} {H : Hp} {env : Env} {P : Pen} {i : Nat} {ds : List D} (k : EOk K W A σ H env P) (h : env[i]? = some (.own ds)) :
    ∃ a, σ[i]? = some (some (.ref a)) ∧ rel K W.pa W.A0 W.H0 H (.list ds) (.ref a) .f ∧ rel K W.pa W.A0 W.H0 H (.list ds) (.ref a) .v := by
  obtain ⟨o, e, a, vs, rfl, ha, np, hl, r⟩ := k.at h
  have hf := k.fresh i ds a h e
  have n0 : ¬ W.A0 a := fun z => by
    obtain ⟨o, ho, ht⟩ := k.a0 a z
    exact hf o ho ht
  refine ⟨a, e, ⟨a, vs, ds, rfl, rfl, hf, hl, Reps.mono (fun b u e _ n => ⟨e, fun z => n (z.elim (k.sub b) fun z => z ▸ ha)⟩) _ _ r⟩, a, vs, rfl, ⟨hl, n0⟩, Reps.mono (fun b u e _ n => ⟨e, fun z => n (k.sub b z)⟩) _ _ r⟩
theorem xs_retO (i : Nat) (hkd : kd ≠ .b) (hN : X.N[i]? = some x := by rfl) (hv : Vis X.env.scope x := by first | exact Or.inl rfl | exact Or.inr (Or.inl rfl)) (hd : (x == ("__debug__" : Str)) = false := by decide)
    (hcd : (x == ("__classdict__" : Str)) = false := by decide) : XS Ex kd X (.Return (some (.Name x pos')) pos) (sRetO i) := by
  refine ⟨_, ps_ret (pe_var hN hv hd hcd), fun W A σ H env P De k p => ?_⟩
  unfold sRetO at p
  cases h : env[i]? with
  | none => rw [h] at p; exact p.elim
  | some s =>
    rw [h] at p
    cases s with
    | own ds =>
      obtain ⟨a, e, r1, r2⟩ := own_ret k h
      refine ⟨_, e, p _ H k.base k.pen ?_⟩
      cases kd with
      | v => exact r2
      | f => exact r1
      | b => exact absurd rfl hkd
    | v d => exact p.elim
    | ownD d => exact p.elim
    | un => exact p.elim
    | pen => exact p.elim
    | scr _ => exact p.elim
    | fn _ => exact p.elim
theorem xs_if (hc : XT Ex X c fc) (ha : XSs Ex kd X a f) (hb : XSs Ex kd X b g) : XS Ex kd X (.If c a b pos) (sIf fc f g) := by
  obtain ⟨t, ht, q⟩ := hc
  obtain ⟨u, hu, q1⟩ := ha
  obtain ⟨w, hw, q2⟩ := hb
  refine ⟨_, ps_if ht hu hw, fun W A σ H env P De k p => ?_⟩
  refine q W A σ H env P _ k ((PostS.bnd k p).mono ?_)
  rintro d _ H1 _ _ ⟨P1, e1, p1, k1, post⟩
  cases d with
  | true => exact iteT (q1 W A σ H1 env P1 De k1 post)
  | false => exact iteF (q2 W A σ H1 env P1 De k1 post)
theorem xs_share (i : Nat) (h : XSs Ex kd X sts f) : XSs Ex kd X sts (sShare i f) := by
  obtain ⟨t, ht, q⟩ := h
  refine ⟨t, ht, fun W A σ H env P De k p => ?_⟩
  unfold sShare at p
  cases he : env[i]? with
  | none => rw [he] at p; exact q W A σ H env P De k p
  | some s =>
    rw [he] at p
    cases s with
    | own ds =>
      obtain ⟨A', _, k'⟩ := k.share he
      exact q W A' σ H _ P De k' p
    | v d => exact q W A σ H env P De k p
    | ownD d => exact q W A σ H env P De k p
    | un => exact q W A σ H env P De k p
    | pen => exact q W A σ H env P De k p
    | scr ns => exact q W A σ H env P De k p
    | fn x => exact q W A σ H env P De k p
end
end Vl
end
section
set_option autoImplicit false
set_option maxRecDepth 100000
/-! V8: what is walked, for. -/
namespace Vl
open PySem L2

/-- how an iterator walks the contents ds, while gs are kept -/
def ItOk (K : PySem.W.Frag) (J : It) (gs : List (V × D)) (ds : List D) : Prop := ∀ W A σ H env P, EOk K W A σ H env P → (∀ g ∈ gs, Rep K A H g.2 g.1) →
  J.stop ds.length H ∧ (∀ i, i < ds.length → J.go i H) ∧ ∀ i x H', i < ds.length → J.yld i H x H' → Same H H' ∧ ∃ d, ds[i]? = some d ∧ Rep K A H' d x
def XI (Ex : Str → Hp → Prop) (X : Cx) (tg iter : Expr) (f : Env → M (List D)) : Prop := ∃ wi, PI X tg iter wi ∧ ∀ W A σ H env P R, EOk X.K W A σ H env P →
  PostG Ex W.pa H (f env P) (fun ds H1 => ∀ J gs, (∀ g ∈ gs, Rep X.K A H1 g.2 g.1) → ItOk X.K J gs ds → R J H1) → wi σ H R

/-- the slots sl alone differ -/
def Wp (sl : List Nat) (σ σ' : L2.St) : Prop := ∀ vs : List Nat, (∀ i ∈ sl, i ∈ vs) → wipe σ' vs = wipe σ vs
theorem wipe_set {i : Nat} {o : Option V} {σ : L2.St} : ∀ {vs : List Nat}, i ∈ vs → wipe (σ.set i o) vs = wipe σ vs
  | [], h => by simp at h
  | v :: vs, h => by
    unfold wipe
    by_cases e : i ∈ vs
    · rw [wipe_set e]
    · have ei : i = v := by simpa [e] using h
      subst ei
      have : ∀ (l : List Nat) (σ : L2.St), i ∉ l → wipe (σ.set i o) l = (wipe σ l).set i o := by
        intro l
        induction l with
        | nil => intro σ _; rfl
        | cons u l ih =>
          intro σ hn
          unfold wipe
          have h1 : i ≠ u := fun z => hn (by simp [z])
          have h2 : i ∉ l := fun z => hn (by simp [z])
          rw [ih σ h2, List.set_comm _ _ h1]
      rw [this vs σ e, List.set_set]
theorem Wp.refl (σ : L2.St) : Wp [] σ σ := fun _ _ => rfl
theorem Wp.set (i : Nat) (o : Option V) (σ : L2.St) : Wp [i] σ (σ.set i o) := fun vs h => wipe_set (h i List.mem_cons_self)
theorem Wp.trans {a b : List Nat} {σ σ1 σ2 : L2.St} (h : Wp a σ σ1) (h2 : Wp b σ1 σ2) : Wp (a ++ b) σ σ2 := fun vs hv => (h2 vs fun i hi => hv i (List.mem_append_right _ hi)).trans (h vs fun i hi => hv i (List.mem_append_left _ hi))
def XG (X : Cx) (tg : Expr) (sl : List Nat) (g : D → Env → Option Env) : Prop := ∃ t, PG X tg t ∧ ∀ W A σ H env P d x env' Q, EOk X.K W A σ H env P → Rep X.K A H d x → g d env = some env' → (∀ σ', Wp sl σ σ' → EOk X.K W A σ' H env' P → Q σ' H) → t x σ H Q
def XGs (X : Cx) (ts : List Expr) (sl : List Nat) (g : List D → Env → Option Env) : Prop := ∃ t, PGs X ts t ∧ ∀ W A σ H env P ds xs env' Q, EOk X.K W A σ H env P → Reps X.K A H ds xs → g ds env = some env' → (∀ σ', Wp sl σ σ' → EOk X.K W A σ' H env' P → Q σ' H) → t xs σ H Q
def tgName (i : Nat) : D → Env → Option Env := fun d env => some (env.set i (.v d))
def tgNil : List D → Env → Option Env := fun ds env => match ds with
  | [] => some env
  | _ => none
def tgCons (g : D → Env → Option Env) (h : List D → Env → Option Env) : List D → Env → Option Env := fun ds env => match ds with
  | d :: r => (g d env).bind fun e => h r e
  | [] => none
def tgTup (n : Nat) (g : List D → Env → Option Env) : D → Env → Option Env := fun d env => match d with
  | .tuple ds => if ds.length = n then g ds env else none
  | _ => none
section
variable {Ex : Str → Hp → Prop} {kd : Kd} {X : Cx} {pos : Pos} {tg : Expr} {ts : List Expr} {x : Str} {g : D → Env → Option Env} {h : List D → Env → Option Env}
theorem xg_name (i : Nat) (hN : X.N.Nodup) (hi : X.N[i]? = some x := by rfl) (hx : Loc X.env.scope x := by first | exact Or.inl rfl | exact Or.inr rfl) (hf : X.fn x = true ∨ X.env.scope.names.lookup x = some .local := by first | exact .inl rfl | exact .inr rfl | assumption) :
    XG X (.Name x pos) [i] (tgName i) := ⟨_, pg_name hN hi hx hf, fun W A σ H env P d x env' Q k r e q => by
  cases e
  exact q _ (Wp.set i _ σ) (k.setV i r)⟩
theorem xgs_nil : XGs X [] [] tgNil := ⟨_, pgs_nil, fun W A σ H env P ds xs env' Q k r e q => by
  cases ds with
  | nil => cases e; exact ⟨r, q _ (Wp.refl σ) k⟩
  | cons d ds => cases e⟩
theorem xgs_cons {sl sl' : List Nat} (h1 : XG X tg sl g) (h2 : XGs X ts sl' h) (hs : (assignEach (tg :: ts) X.env).map (·.2) = assign tg X.env :: (assignEach ts X.env).map (·.2) := by rfl) : XGs X (tg :: ts) (sl ++ sl') (tgCons g h) := by
  obtain ⟨t, ht, q1⟩ := h1
  obtain ⟨u, hu, q2⟩ := h2
  refine ⟨_, pgs_cons ht hu hs, fun W A σ H env P ds xs env' Q k r e q => ?_⟩
  cases ds with
  | nil => cases e
  | cons d ds =>
    obtain ⟨v, vs, rfl, r1, r2⟩ := r
    change (g d env).bind (fun e => h ds e) = some env' at e
    cases hg : g d env with
    | none => rw [hg] at e; cases e
    | some e1 =>
      rw [hg] at e
      refine ⟨v, vs, rfl, q1 W A σ H env P d v e1 _ k r1 hg fun σ' w' k' => ?_⟩
      exact q2 W A σ' H e1 P ds vs env' Q k' r2 e fun σ2 w2 k2 => q σ2 (w'.trans w2) k2
theorem xg_tup {kk : Nat} {sl : List Nat} (n : Nat) (hc : X.calm = true) (h1 : XGs X ts sl h) (hl : (assignEach ts X.env).length = n := by rfl) (hst : (assignEach ts X.env).findIdx? (·.1) = none := by rfl) : XG X (.Tuple ts kk pos) sl (tgTup n h) := by
  obtain ⟨t, ht, q1⟩ := h1
  refine ⟨_, pg_tup hc ht hl hst, fun W A σ H env P d x env' Q k r e q => ?_⟩
  cases d with
  | tuple ds =>
    obtain ⟨a, vs, rfl, l, rs⟩ := r
    change (if ds.length = n then h ds env else none) = some env' at e
    by_cases hn : ds.length = n
    · rw [if_pos hn] at e
      exact ⟨a, vs, rfl, l.sq, by rw [rs.length]; exact hn, q1 W A σ H env P ds vs env' Q k rs e q⟩
    · rw [if_neg hn] at e; cases e
  | _ => cases e
end

/-! ### for -/
def loopD (tg : D → Env → Option Env) (body : Env → M Fl) : List D → Env → M Fl
  | [], env => ret (.nx env)
  | d :: ds, env => match tg d env with
    | none => no
    | some e1 => bnd (body e1) fun
      | .nx e => loopD tg body ds e
      | .ct e => loopD tg body ds e
      | .bk e => ret (.nx e)
      | .rt d => ret (.rt d)
def sFor (it : Env → M (List D)) (tg : D → Env → Option Env) (body : Env → M Fl) : Env → M Fl := fun env => bnd (it env) fun ds => loopD tg body ds env
theorem EOk.keepsL {K : PySem.W.Frag} {W : Wd} {A : AS} {σ : L2.St} {H : Hp} {env : Env} {P : Pen} (k : EOk K W A σ H env P) (gs : List (V × D)) (h : ∀ g ∈ gs, Rep K A H g.2 g.1) : EOk K { W with G := gs ++ W.G } A σ H env P :=
  ⟨k.len, k.slot, k.inj, k.fresh, k.sub, k.a0, k.trk, k.penA, k.pen, k.base, fun g hg => (List.mem_append.mp hg).elim (h g) (k.keep g), k.dk⟩
theorem EOk.unkeepL {K : PySem.W.Frag} {W : Wd} {A : AS} {σ : L2.St} {H : Hp} {env : Env} {P : Pen} {gs : List (V × D)} (k : EOk K { W with G := gs ++ W.G } A σ H env P) : EOk K W A σ H env P ∧ ∀ g ∈ gs, Rep K A H g.2 g.1 :=
  ⟨⟨k.len, k.slot, k.inj, k.fresh, k.sub, k.a0, k.trk, k.penA, k.pen, k.base, fun g hg => k.keep g (List.mem_append_right _ hg), k.dk⟩, fun g hg => k.keep g (List.mem_append_left _ hg)⟩
section
variable {Ex : Str → Hp → Prop} {kd : Kd} {X : Cx} {pos : Pos} {tg iter : Expr} {body : List Stmt} {it : Env → M (List D)} {tgD : D → Env → Option Env} {f : Env → M Fl}
theorem xs_for (hp : PassesOwn (model X.prog X.w) X.A X.env X.xe) (hc : X.calm = true) {sl : List Nat} (hi : XI Ex X tg iter it) (hg : XG X tg sl tgD) (hb : XSs Ex kd X body f) (hs : ∀ x, foldedSetIterable iter X.env x = pure x := by intro _; rfl) :
    XS Ex kd X (.For tg iter body [] pos) (sFor it tgD f) := by
  obtain ⟨wi, hwi, qi⟩ := hi
  obtain ⟨g, hg, qg⟩ := hg
  obtain ⟨t, ht, qb⟩ := hb
  refine ⟨_, ps_for hp hc hwi hg ht hs, fun W A σ H env P De k p => ?_⟩
  refine qi W A σ H env P _ k ((PostS.bnd k p).mono ?_)
  rintro ds _ H1 _ _ ⟨P1, e1, p1, k1, post⟩ J gs hgs ok
  refine ⟨fun i m σ H => m = ds.length - i ∧ i ≤ ds.length ∧ ∃ A env P, EOk X.K { W with G := gs ++ W.G } A σ H env P ∧ PostS X.K Ex kd W (loopD tgD f (ds.drop i) env P) De, ⟨_, rfl, Nat.zero_le _, A, env, P1, k1.keepsL gs hgs, by rw [List.drop_zero]; exact post⟩, ?_⟩
  rintro i m σ2 H2 ⟨rfl, hi, A2, env2, P2, k2, post2⟩
  obtain ⟨ku, hr⟩ := k2.unkeepL
  obtain ⟨st, go, yl⟩ := ok W A2 σ2 H2 env2 P2 ku hr
  by_cases hlt : i < ds.length
  · refine .inr ⟨go i hlt, fun σ' H' => ∃ A env P, EOk X.K { W with G := gs ++ W.G } A σ' H' env P ∧ PostS X.K Ex kd W (loopD tgD f (ds.drop (i + 1)) env P) De, fun σ' H' q => ⟨ds.length - (i + 1), by omega, rfl, hlt, q⟩, fun x H3 hy => ?_⟩
    obtain ⟨sm, d, hd, rd⟩ := yl i x H3 hlt hy
    have ed : ds.drop i = d :: ds.drop (i + 1) := by
      rw [(List.drop_eq_getElem_cons hlt)]
      rw [List.getElem?_eq_getElem hlt] at hd
      rw [Option.some.inj hd]
    rw [ed] at post2
    unfold loopD at post2
    cases htg : tgD d env2 with
    | none => rw [htg] at post2; exact post2.elim
    | some e2 =>
      rw [htg] at post2
      have k3 := k2.stayS sm
      refine qg { W with G := gs ++ W.G } A2 σ2 H3 env2 P2 d x e2 _ k3 rd htg fun σ4 _ k4 => ?_
      refine qb { W with G := gs ++ W.G } A2 σ4 H3 e2 P2 _ k4 ?_
      change PostS X.K Ex kd W (bnd (f e2) _ P2) De at post2
      unfold bnd at post2
      cases hf : f e2 P2 with
      | ok o P' =>
        rw [hf] at post2
        cases o with
        | nx e => exact fun A' σ' H' k' => ⟨A', e, P', k', post2⟩
        | ct e => exact fun A' σ' H' k' => ⟨A', e, P', k', post2⟩
        | bk e => exact fun A' σ' H' k' => post2 A' σ' H' k'.unkeepL.1
        | rt d => exact post2
      | ex c P' => rw [hf] at post2; exact post2
      | no => rw [hf] at post2; exact post2
  · have ei : i = ds.length := by omega
    subst ei
    rw [List.drop_length] at post2
    exact .inl ⟨st, post2 A2 σ2 H2 ku⟩
end

/-! ### lists, tuples, texts; ranges -/
def signs (z : Str) : List D := z.cps.toList.map signD
def itD (f : Env → M D) : Env → M (List D) := fun env => bnd (f env) fun
  | .list ds => ret ds
  | .tuple ds => ret ds
  | .str z => ret (signs z)
  | _ => no
def iAny (K : PySem.W.Frag) (te : TE) : TI := fun σ H R => te σ H fun x H1 => (∃ a, x = .ref a ∧ (∃ xs, SqL K H1 a xs) ∧ R (Itl K a) H1) ∨ ((∃ a, x = .ref a ∧ (∃ xs, SqT K H1 a xs) ∧ R (Itt K a) H1) ∨ ∃ z, x = .str z ∧ R (Its z) H1)
theorem it_list {K : PySem.W.Frag} {a : Addr} {ds : List D} : ItOk K (Itl K a) [(.ref a, .list ds)] ds := fun W A σ H env P k hg => by
  obtain ⟨b, vs, e, l, r⟩ := hg _ List.mem_cons_self
  cases e
  refine ⟨⟨vs, l.sq, by rw [r.length]; exact Nat.le_refl _⟩, fun i hi => ?_, fun i x H' hi hy => ?_⟩
  · obtain ⟨v, hv, _⟩ := r.get' (List.getElem?_eq_getElem hi)
    exact ⟨vs, v, l.sq, hv⟩
  · obtain ⟨rfl, hx⟩ := hy
    exact ⟨Same.refl _, r.get (hx vs l.sq)⟩
theorem it_tup {K : PySem.W.Frag} {a : Addr} {ds : List D} : ItOk K (Itt K a) [(.ref a, .tuple ds)] ds := fun W A σ H env P k hg => by
  obtain ⟨b, vs, e, l, r⟩ := hg _ List.mem_cons_self
  cases e
  refine ⟨⟨vs, l.sq, by rw [r.length]; exact Nat.le_refl _⟩, fun i hi => ?_, fun i x H' hi hy => ?_⟩
  · obtain ⟨v, hv, _⟩ := r.get' (List.getElem?_eq_getElem hi)
    exact ⟨vs, v, l.sq, hv⟩
  · obtain ⟨rfl, hx⟩ := hy
    exact ⟨Same.refl _, r.get (hx vs l.sq)⟩
theorem it_str {K : PySem.W.Frag} {z : Str} : ItOk K (Its z) [] (signs z) := fun W A σ H env P k hg => by
  have hl : (signs z).length = z.cps.size := by simp [signs]
  refine ⟨by rw [hl]; exact Nat.le_refl _, fun i hi => by rw [hl] at hi; exact hi, fun i x H' hi hy => ?_⟩
  obtain ⟨rfl, c, hc, rfl⟩ := hy
  exact ⟨Same.refl _, signD c, by simp [signs, hc], rfl⟩
def rangeD (lo : Int) (n : Nat) : List D := (List.range n).map fun i => .int (lo + (i : Nat))
theorem it_range {K : PySem.W.Frag} {lo : Int} {n : Nat} : ItOk K (Itr lo n) [] (rangeD lo n) := fun W A σ H env P k hg => by
  have hl : (rangeD lo n).length = n := by simp [rangeD]
  refine ⟨by rw [hl]; exact Nat.le_refl _, fun i hi => by rw [hl] at hi; exact hi, fun i x H' hi hy => ?_⟩
  obtain ⟨rfl, rfl⟩ := hy
  rw [hl] at hi
  exact ⟨Same.refl _, .int (lo + (i : Nat)), by simp [rangeD, hi], rfl⟩
end Vl
end
section
set_option autoImplicit false
set_option maxRecDepth 100000
/-! V9: iterators over values, ranges; comprehensions. -/
namespace Vl
open PySem L2

section
variable {X : Cx} {tg e : Expr} {te : TE}
theorem pi_any (he : PE X e te) : PI X tg e (iAny X.K te) := by
  refine (⟨fun pins s σ H R I h => ?_⟩)
  refine thn (he.run pins s σ H _ I h) fun v s1 ⟨y, H1, I1, r1, q⟩ => ?_
  rcases q with ⟨a, rfl, ⟨xs, hq⟩, q⟩ | ⟨a, rfl, ⟨xs, hq⟩, q⟩ | ⟨z, rfl, q⟩
  · cases r1
    obtain ⟨its, rv, p, hz⟩ := (I1.list hq)
    exact wpAny_pyIter_list p.isList (pi_one (tk := s1.toks) I1 _ (turn_list a _) ⟨_, Heap.get?_push_size _ rfl, rfl, rfl⟩ q)
  · cases r1
    obtain ⟨its, rv, p, hz⟩ := (I1.tuple hq)
    exact wpAny_pyIter_tuple (show s1.heap.IsTuple a its.toArray from p) (pi_one (tk := s1.toks) I1 _ (turn_tuple a _) ⟨_, Heap.get?_push_size _ rfl, rfl, rfl⟩ q)
  · obtain ⟨t, rfl⟩ := r1
    cases ha : z.cps.all (· < 128)
    · exact wpAny_pyIter_wide ha (pi_one (tk := s1.toks) I1 _ (turn_str _ z t "str_iterator" (.inr rfl)) ⟨_, Heap.get?_push_size _ rfl, rfl, rfl⟩ q)
    · exact wpAny_pyIter_ascii ha (pi_one (tk := s1.toks) I1 _ (turn_str _ z t "str_ascii_iterator" (.inl rfl)) ⟨_, Heap.get?_push_size _ rfl, rfl, rfl⟩ q)
end
section
variable {Ex : Str → Hp → Prop} {X : Cx} {tg e : Expr} {fa : Env → M D} {pos p : Pos} {es : List Expr} {g : Env → M (List D)} {a b : Expr}
theorem xi_any (h : XE Ex X .v e fa) : XI Ex X tg e (itD fa) := by
  obtain ⟨t, ht, q⟩ := h
  refine ⟨_, pi_any ht, fun W A σ H env P R k p => ?_⟩
  refine q W A σ H env P _ k ((PostG.bnd k p).mono ?_)
  rintro d _ H1 _ _ ⟨P1, e1, p1, k1, post⟩ v r
  cases d with
  | list ds =>
    obtain ⟨a, vs, rfl, l, rs⟩ := id r
    exact .inl ⟨a, rfl, ⟨vs, l.sq⟩, post_here post p1 e1 _ [(.ref a, .list ds)] (fun g hg => by rcases List.mem_singleton.mp hg with rfl; exact r) it_list⟩
  | tuple ds =>
    obtain ⟨a, vs, rfl, l, rs⟩ := id r
    exact .inr (.inl ⟨a, rfl, ⟨vs, l.sq⟩, post_here post p1 e1 _ [(.ref a, .tuple ds)] (fun g hg => by rcases List.mem_singleton.mp hg with rfl; exact r) it_tup⟩)
  | str z => exact .inr (.inr ⟨z, r, post_here post p1 e1 _ [] (fun g hg => nomatch hg) it_str⟩)
  | _ => exact post.elim
def itR1 (g : Env → M (List D)) : Env → M (List D) := fun env => bnd (g env) fun
  | [.int j] => if -(2 ^ 62) ≤ j ∧ j < 2 ^ 62 then ret (rangeD 0 j.toNat) else no
  | _ => no
def itR2 (g : Env → M (List D)) : Env → M (List D) := fun env => bnd (g env) fun
  | [.int i, .int j] => if -(2 ^ 62) ≤ i ∧ i < 2 ^ 62 ∧ -(2 ^ 62) ≤ j ∧ j < 2 ^ 62 then ret (rangeD i (j - i).toNat) else no
  | _ => no
theorem xi_range1 (hm : X.mg "range" = none) (h : XB Ex X [a] g) (hg : Gl X "range" := by rfl) (hs : starEach [a] X.env = [(false, eval a X.env)] := by rfl) : XI Ex X tg (.Call (.Name "range" p) [a] [] pos) (itR1 g) := by
  obtain ⟨t, ht, q⟩ := h
  refine ⟨_, pi_range1 hg hm ht hs, fun W A σ H env P R k p => ?_⟩
  refine q W A σ H env P _ k ((PostG.bnd k p).mono ?_)
  rintro ds _ H1 _ _ ⟨P1, e1, p1, k1, post⟩ vs rs
  match ds, rs, post with
  | [d0], rs, post =>
    obtain ⟨v, rfl, r⟩ := one_arg rs
    cases d0 with
    | int j =>
      change PostG Ex W.pa H1 ((if -(2 ^ 62) ≤ j ∧ j < 2 ^ 62 then ret (rangeD 0 j.toNat) else no) P1) _ at post
      by_cases hj : -(2 ^ 62) ≤ j ∧ j < 2 ^ 62
      · rw [if_pos hj] at post
        cases (show v = .int j from r)
        exact ⟨j, rfl, hj.1, hj.2, post_here post p1 e1 _ [] (fun g hg => nomatch hg) it_range⟩
      · rw [if_neg hj] at post; exact post.elim
    | _ => exact post.elim
  | [], _, post => exact post.elim
  | d :: d2 :: r, _, post => cases d <;> exact post.elim
theorem xi_range2 (hm : X.mg "range" = none) (h : XB Ex X [a, b] g) (hg : Gl X "range" := by rfl) (hs : starEach [a, b] X.env = [(false, eval a X.env), (false, eval b X.env)] := by rfl) (hs2 : starEach [b] X.env = [(false, eval b X.env)] := by rfl) : XI Ex X tg (.Call (.Name "range" p) [a, b] [] pos) (itR2 g) := by
  obtain ⟨t, ht, q⟩ := h
  refine ⟨_, pi_range2 hg hm ht hs hs2, fun W A σ H env P R k p => ?_⟩
  refine q W A σ H env P _ k ((PostG.bnd k p).mono ?_)
  rintro ds _ H1 _ _ ⟨P1, e1, p1, k1, post⟩ vs rs
  match ds, rs, post with
  | [d0, d1], rs, post =>
    obtain ⟨v, r, rfl, r0, r1⟩ := rs
    obtain ⟨v1, rfl, r2⟩ := one_arg r1
    cases d0 with
    | int i =>
      cases d1 with
      | int j =>
        change PostG Ex W.pa H1 ((if -(2 ^ 62) ≤ i ∧ i < 2 ^ 62 ∧ -(2 ^ 62) ≤ j ∧ j < 2 ^ 62 then ret (rangeD i (j - i).toNat) else no) P1) _ at post
        by_cases hj : -(2 ^ 62) ≤ i ∧ i < 2 ^ 62 ∧ -(2 ^ 62) ≤ j ∧ j < 2 ^ 62
        · rw [if_pos hj] at post
          cases (show v = .int i from r0)
          cases (show v1 = .int j from r2)
          exact ⟨i, j, rfl, hj, post_here post p1 e1 _ [] (fun g hg => nomatch hg) it_range⟩
        · rw [if_neg hj] at post; exact post.elim
      | _ => exact post.elim
    | _ => cases d1 <;> exact post.elim
  | [], _, post => exact post.elim
  | [d0], _, post => cases d0 <;> exact post.elim
  | d0 :: d1 :: d2 :: r, _, post => cases d0 <;> first | exact post.elim | (cases d1 <;> exact post.elim)
end

/-! ### the reading that a denotation stands for -/
def TEof (K : PySem.W.Frag) (Ex : Str → Hp → Prop) (kd : Kd) (f : Env → M D) : TE := fun σ H Q => ∃ W A env P, EOk K W A σ H env P ∧ PostG Ex W.pa H (f env P) (fun d H' => ∀ v, rel K W.pa A H H' d v kd → Q v H')
def TTof (K : PySem.W.Frag) (Ex : Str → Hp → Prop) (f : Env → M Bool) : TT := fun σ H Q => ∃ W A env P, EOk K W A σ H env P ∧ PostG Ex W.pa H (f env P) Q
def TGof (K : PySem.W.Frag) (sl : List Nat) (g : D → Env → Option Env) : TG := fun x σ H Q => ∃ W A env P d env', EOk K W A σ H env P ∧ Rep K A H d x ∧ g d env = some env' ∧ ∀ σ', Wp sl σ σ' → EOk K W A σ' H env' P → Q σ' H
section
variable {Ex : Str → Hp → Prop} {X : Cx} {kd : Kd} {e : Expr} {fa : Env → M D} {fc : Env → M Bool} {sl : List Nat} {g : D → Env → Option Env}
theorem XE.can (h : XE Ex X kd e fa) : PE X e (TEof X.K Ex kd fa) := by
  obtain ⟨t, ht, q⟩ := h
  exact ⟨fun pins s σ H Q I ⟨W, A, env, P, k, p⟩ => ht.run pins s σ H Q I (q W A σ H env P Q k p)⟩
theorem XT.can (h : XT Ex X e fc) : PT X e (TTof X.K Ex fc) := by
  obtain ⟨t, ht, q⟩ := h
  exact ⟨fun pins s σ H Q I ⟨W, A, env, P, k, p⟩ => ht.run pins s σ H Q I (q W A σ H env P Q k p)⟩
theorem XG.can (h : XG X e sl g) : PG X e (TGof X.K sl g) := by
  obtain ⟨t, ht, q⟩ := h
  exact ⟨fun pins s σ H v u Q I r ⟨W, A, env, P, d, env', k, rd, e, z⟩ => ht.run pins s σ H v u Q I r (q W A σ H env P d v env' Q k rd e z)⟩
end
end Vl
end
section
set_option autoImplicit false
set_option maxRecDepth 100000
/-! V10: comprehensions. -/
namespace Vl
open PySem L2

section
variable {K : PySem.W.Frag} {W : Wd} {A : AS} {σ : L2.St} {H H' : Hp} {env : Env} {P P' : Pen}
/-- a new object that nobody holds is avoided -/
theorem EOk.avoid (k : EOk K W A σ H env P) {a : Addr} {o : HO} (hn : H a = none) (ht : Nt o := by exact nt_lst) : EOk K W (ad A a) σ (upd H a o) env P := by
  have s := same_upd (o := o) hn
  have st : Stay A (ad A a) H (upd H a o) := fun b u h _ n => ⟨s b u h, fun z => z.elim n fun z => by subst z; rw [hn] at h; cases h⟩
  refine ⟨k.len, fun j o' sv h1 h2 => ?_, k.inj, k.fresh, fun b z => .inl (k.sub b z), k.a0, fun b z => ?_, fun p c z => ⟨.inl (k.penA p c z).1, .inl (k.penA p c z).2⟩, penOk_same s k.pen, k.base.trans (HExt.of s), fun g hg => Rep.mono st _ _ (k.keep g hg), k.dk⟩
  · have q := k.slot j o' sv h1 h2
    cases sv with
    | un => trivial
    | v d => obtain ⟨x, e1, r⟩ := q; exact ⟨x, e1, Rep.mono st _ _ r⟩
    | own es =>
      obtain ⟨b, us, e1, hb, hp, hl2, r2⟩ := q
      exact ⟨b, us, e1, .inl hb, hp, s b _ hl2, Reps.mono st _ _ r2⟩
    | ownD es =>
      obtain ⟨b, us, e1, hb, hp, hl2, r2⟩ := q
      exact ⟨b, us, e1, .inl hb, hp, s b _ hl2, RepD.mono st _ _ r2⟩
    | pen => exact q
    | scr ns => obtain ⟨x, e1', r⟩ := q; exact ⟨x, e1', r.mono st⟩
    | fn x => exact q
  · rcases z with z | z
    · exact (k.stayS s).trk b z
    · exact ⟨o, z ▸ upd_same, ht⟩
/-- an avoided list that no slot holds is changed -/
theorem EOk.poke (k : EOk K W A σ H env P) {a : Addr} {o : HO} (ha : A a) (hfr : Free1 (H a)) (h0 : New W.H0 a) (np : ∀ p c, W.pa.pen = some (p, c) → a ≠ p ∧ a ≠ c) (ht : Nt o := by exact nt_lst) (hs : ∀ (i : Nat) (ds : List D), env[i]? = some (SV.own ds) → σ[i]? ≠ some (some (V.ref a))) (hs2 : (∃ vs, H a = some (.lst vs)) ∨ ∀ (i : Nat) (ds : List (D × D)), env[i]? = some (SV.ownD ds) → σ[i]? ≠ some (some (V.ref a))) :
    EOk K W A σ (upd H a o) env P ∧ Stay A A H (upd H a o) := by
  have st : Stay A A H (upd H a o) := fun b u h _ n => ⟨(upd_ne (fun z => by subst z; exact n ha)).trans h, n⟩
  refine ⟨⟨k.len, fun j o' sv h1 h2 => ?_, k.inj, k.fresh, k.sub, k.a0, fun b z => ?_, k.penA, ⟨fun p c z => ?_, tabs_upd k.pen.2.1 hfr, k.pen.2.2⟩, fun b u h n nt => ?_, fun g hg => Rep.mono st _ _ (k.keep g hg), k.dk⟩, st⟩
  · have q := k.slot j o' sv h1 h2
    cases sv with
    | un => trivial
    | v d => obtain ⟨x, e1, r⟩ := q; exact ⟨x, e1, Rep.mono st _ _ r⟩
    | own es =>
      obtain ⟨b, us, rfl, hb, hp, hl2, r2⟩ := q
      have hne : b ≠ a := fun z => by subst z; exact hs j es h2 h1
      exact ⟨b, us, rfl, hb, hp, by rw [upd_ne hne]; exact hl2, Reps.mono st _ _ r2⟩
    | ownD es =>
      obtain ⟨b, us, rfl, hb, hp, hl2, r2⟩ := q
      have hne : b ≠ a := fun z => by
        subst z
        rcases hs2 with ⟨_, e⟩ | hs2
        · rw [e] at hl2; cases hl2
        · exact hs2 j es h2 h1
      exact ⟨b, us, rfl, hb, hp, by rw [upd_ne hne]; exact hl2, RepD.mono st _ _ r2⟩
    | pen => exact q
    | scr ns => obtain ⟨x, e1', r⟩ := q; exact ⟨x, e1', r.mono st⟩
    | fn x => exact q
  · by_cases hb : b = a
    · subst hb; exact ⟨_, upd_same, ht⟩
    · rw [upd_ne hb]; exact k.trk b z
  · obtain ⟨q1, q2, q3⟩ := k.pen.1 p c z
    exact ⟨q1, by rw [upd_ne (np p c z).1.symm]; exact q2, by rw [upd_ne (np p c z).2.symm]; exact q3⟩
  · have hb : b ≠ a := fun z => by subst z; exact h0 u h nt
    rw [upd_ne hb]
    exact k.base b u h n nt
theorem EOk.none0 (k : EOk K W A σ H env P) {a : Addr} (hn : H a = none) : New W.H0 a ∧ ∀ p c, W.pa.pen = some (p, c) → a ≠ p ∧ a ≠ c := by
  have nA := k.new hn
  refine ⟨fun o q t => ?_, fun p c z => ⟨fun y => nA (y ▸ (k.penA _ _ z).1), fun y => nA (y ▸ (k.penA _ _ z).2)⟩⟩
  by_cases hp : Pn W.pa a
  · obtain ⟨c, z⟩ := hp
    exact absurd (k.penA _ _ z).1 nA
  · have h := k.base a o q hp t
    rw [hn] at h; cases h
def wipeE (env : Env) : List Nat → Env
  | [] => env
  | v :: vs => (wipeE env vs).set v .un
theorem EOk.wipe (k : EOk K W A σ H env P) : ∀ vs : List Nat, EOk K W A (L2.wipe σ vs) H (wipeE env vs) P
  | [] => k
  | v :: vs => (EOk.wipe k vs).setU v none
theorem wipe_mem {vs : List Nat} : ∀ {ws : List Nat} {σ : L2.St}, (∀ i ∈ ws, i ∈ vs) → L2.wipe (L2.wipe σ ws) vs = L2.wipe σ vs
  | [], _, _ => rfl
  | w :: ws, σ, h => by
    show L2.wipe ((L2.wipe σ ws).set w none) vs = _
    rw [wipe_set (h w List.mem_cons_self)]
    exact wipe_mem fun i hi => h i (List.mem_cons_of_mem _ hi)
end

def plainD : D → Bool
  | .none => true
  | .bool _ => true
  | .int _ => true
  | .str _ => true
  | _ => false
theorem plainD_rep {K : PySem.W.Frag} {pa : PL} {A A' : AS} {H H' : Hp} {d : D} {v : V} (hp : plainD d = true) (r : RepB K pa A H d v) : Rep K A' H' d v := by
  cases d with
  | none | bool _ | int _ | str _ => exact r
  | _ => cases hp

def noEx {α : Type} (m : M α) : M α := fun P => match m P with
  | .ex _ _ => .no
  | r => r
def compD (tg : D → Env → Option Env) (ts : Env → M Bool) (elt : Env → M D) : List D → Nat → Env → M (List D)
  | [], _, _ => ret []
  | d :: ds, n, env => match tg d env with
    | none => no
    | some e1 => bnd (noEx (ts e1)) fun b => if b then bnd (noEx (elt e1)) fun y => (if n < 16777216 then bnd (compD tg ts elt ds (n + 1) env) fun ys => ret (y :: ys) else no) else compD tg ts elt ds n env
def dComp (it : Env → M (List D)) (tg : D → Env → Option Env) (ts : Env → M Bool) (elt : Env → M D) (vs : List Nat) : Env → M D := fun env => bnd (it env) fun ds => bnd (compD tg ts elt ds 0 (wipeE env vs)) fun ys => ret (.list ys)
def Ex0 : Str → Hp → Prop := fun _ _ => False
theorem post_noEx {α : Type} {Ex : Str → Hp → Prop} {pa : PL} {H : Hp} {m : M α} {P : Pen} {Q : α → Hp → Prop} (h : PostG Ex pa H (noEx m P) Q) : PostG Ex0 pa H (m P) Q := by
  unfold noEx at h
  cases hm : m P with
  | ok a P1 => rw [hm] at h; exact h
  | ex c P1 => rw [hm] at h; exact h.elim
  | no => rw [hm] at h; exact h
theorem PostG.same {α : Type} {Ex : Str → Hp → Prop} {pa : PL} {H H' : Hp} {r : R α} {Q : α → Hp → Prop} (h : PostG Ex pa H r Q) (s : HExt pa H H') : PostG Ex pa H' r Q := by
  cases r with
  | ok a P1 => exact fun H2 e p => h H2 (s.trans e) p
  | ex c P1 => exact fun H2 e p => h H2 (s.trans e) p
  | no => exact h
def tsNil : Env → M Bool := fun _ => ret true
def XTs (Ex : Str → Hp → Prop) (X : Cx) (ifs : List Expr) (f : Env → M Bool) : Prop := ∃ t, PTs X ifs t ∧ SdT X.K Ex t f
section
variable {Ex : Str → Hp → Prop} {X : Cx} {tg elt iter c : Expr} {ifs : List Expr} {scope : Scope} {own : List (Str × Nat)} {pos : Pos} {it : Env → M (List D)} {gD : D → Env → Option Env} {fc : Env → M Bool} {fe : Env → M D} {sl : List Nat}
theorem xts_nil : XTs Ex X [] tsNil := ⟨_, pts_nil, fun W A σ H env P Q k p => post_here p k.pen⟩
theorem xts_one (h : XT Ex X c fc) : XTs Ex X [c] fc := by
  obtain ⟨t, ht, q⟩ := h
  exact ⟨_, pts_one ht, q⟩
theorem XTs.can (h : XTs Ex X ifs fc) : PTs X ifs (TTof X.K Ex fc) := by
  obtain ⟨t, ht, q⟩ := h
  exact ⟨fun pins s σ H Q I ⟨W, A, env, P, k, p⟩ => ht.run pins s σ H Q I (q W A σ H env P Q k p)⟩
theorem lc_sd {wi : TI} {vs : List Nat} (qi : ∀ W A σ H env P R, EOk X.K W A σ H env P → PostG Ex W.pa H (it env P) (fun ds H1 => ∀ J gs, (∀ g ∈ gs, Rep X.K A H1 g.2 g.1) → ItOk X.K J gs ds → R J H1) → wi σ H R) (hsl : ∀ i ∈ sl, i ∈ vs) :
    Sd X.K Ex .f (tLc wi (TGof X.K sl gD) (TTof X.K Ex0 fc) (TEof X.K Ex0 .v fe) vs) (dComp it gD fc fe vs) := fun W A σ H env P Q k p => by
  refine qi W A σ H env P _ k ((PostG.bnd k p).mono ?_)
  rintro ds _ H1 _ _ ⟨P1, e1, p1, k1, post⟩ J gs hgs okJ Dd hD
  have kw := ((k1.keepsL gs hgs).wipe vs)
  have k0 := kw.avoid (o := .lst []) hD
  obtain ⟨h00, hnp⟩ := kw.none0 hD
  have sD := same_upd (o := .lst []) hD
  have hown : ∀ (i : Nat) (es : List D), (wipeE env vs)[i]? = some (SV.own es) → (L2.wipe σ vs)[i]? ≠ some (some (V.ref Dd)) := fun i es h1 h2 => by
    obtain ⟨o, e1, b, us, e2, hb, _, hl, _⟩ := kw.at h1
    rw [e1] at h2; cases h2; cases e2
    rw [hD] at hl; cases hl
  have post0 : PostG Ex W.pa H1 (compD gD fc fe ds 0 (wipeE env vs) P1) (fun ys H2 => ∀ accv, H2 Dd = some (.lst accv) → Reps X.K (ad A Dd) H2 ys accv → Q (.ref Dd) H2) := by
    refine (PostG.bnd k1 post).mono ?_
    rintro ys P2 H2 e2 p2 ⟨P3, e3, p3, k3, post3⟩ accv ha hr
    exact post_here post3 p3 e3 (e1.trans e3) (.ref Dd) ⟨Dd, accv, ys, rfl, rfl, fresh_back k.pen e1 p1 (.of hD), ha, hr⟩
  refine ⟨fun i m H => m = ds.length - i ∧ i ≤ ds.length ∧ ∃ P acc accv, EOk X.K { W with G := gs ++ W.G } (ad A Dd) (L2.wipe σ vs) H (wipeE env vs) P ∧ HExt W.pa H1 H ∧ H Dd = some (.lst accv) ∧ Reps X.K (ad A Dd) H acc accv ∧
      PostG Ex W.pa H1 (compD gD fc fe (ds.drop i) acc.length (wipeE env vs) P) (fun ys H2 => ∀ accv, H2 Dd = some (.lst accv) → Reps X.K (ad A Dd) H2 (acc ++ ys) accv → Q (.ref Dd) H2),
    ⟨_, rfl, Nat.zero_le _, P1, [], [], k0, HExt.of sD, upd_same, rfl, by rw [List.drop_zero]; exact post0⟩, ?_⟩
  rintro i m H2 ⟨rfl, hi, P2, acc, accv, k2, eH, hDd, hacc, post2⟩
  obtain ⟨ku, hr⟩ := k2.unkeepL
  obtain ⟨st, go, yl⟩ := okJ W (ad A Dd) _ H2 _ P2 ku hr
  by_cases hlt : i < ds.length
  · refine .inr ⟨go i hlt, fun H' => ∃ P acc accv, EOk X.K { W with G := gs ++ W.G } (ad A Dd) (L2.wipe σ vs) H' (wipeE env vs) P ∧ HExt W.pa H1 H' ∧ H' Dd = some (.lst accv) ∧ Reps X.K (ad A Dd) H' acc accv ∧
        PostG Ex W.pa H1 (compD gD fc fe (ds.drop (i + 1)) acc.length (wipeE env vs) P) (fun ys H2 => ∀ accv, H2 Dd = some (.lst accv) → Reps X.K (ad A Dd) H2 (acc ++ ys) accv → Q (.ref Dd) H2),
      fun H' q => ⟨ds.length - (i + 1), by omega, rfl, hlt, q⟩, fun x H3 hy => ?_⟩
    obtain ⟨sm, d, hd, rd⟩ := yl i x H3 hlt hy
    have ed : ds.drop i = d :: ds.drop (i + 1) := by
      rw [(List.drop_eq_getElem_cons hlt)]
      rw [List.getElem?_eq_getElem hlt] at hd
      rw [Option.some.inj hd]
    rw [ed] at post2
    unfold compD at post2
    cases htg : gD d (wipeE env vs) with
    | none => rw [htg] at post2; exact post2.elim
    | some e2 =>
      rw [htg] at post2
      have k3 := k2.stayS sm
      have e3 := eH.trans (HExt.of (pa := W.pa) sm)
      change PostG Ex W.pa H1 (bnd (noEx (fc e2)) _ P2) _ at post2
      unfold bnd noEx at post2
      refine ⟨{ W with G := gs ++ W.G }, ad A Dd, wipeE env vs, P2, d, e2, k3, rd, htg, fun σ4 w4 k4 => ⟨?_, ?_⟩⟩
      · rw [w4 vs hsl, wipe_mem fun _ h => h]
      · cases hfc : fc e2 P2 with
        | no => rw [hfc] at post2; exact post2.elim
        | ex c P5 => rw [hfc] at post2; exact post2.elim
        | ok b P5 =>
          rw [hfc] at post2
          refine ⟨{ W with G := gs ++ W.G }, ad A Dd, e2, P2, k4, ?_⟩
          rw [hfc]
          intro H5 e5 p5
          have k5 := k4.ext e5 p5
          have kb5 := k3.ext e5 p5
          have hD5 : H5 Dd = some (.lst accv) := e5.at (sm _ _ hDd) fun ⟨c, z⟩ => (hnp _ _ z).1 rfl
          have hacc5 := k3.reps e5 (k2.repsN sm hacc)
          cases b with
          | false => exact iteF ⟨P5, acc, accv, kb5, e3.trans e5, hD5, hacc5, post2⟩
          | true =>
            change PostG Ex W.pa H1 (bnd (noEx (fe e2)) _ P5) _ at post2
            unfold bnd noEx at post2
            refine iteT ?_
            cases hfe : fe e2 P5 with
            | no => rw [hfe] at post2; exact post2.elim
            | ex c P6 => rw [hfe] at post2; exact post2.elim
            | ok y P6 =>
              rw [hfe] at post2
              refine ⟨{ W with G := gs ++ W.G }, ad A Dd, e2, P5, k5, ?_⟩
              rw [hfe]
              intro H6 e6 p6 v rv
              have kb6 := kb5.ext e6 p6
              have hD6 : H6 Dd = some (.lst accv) := e6.at hD5 fun ⟨c, z⟩ => (hnp _ _ z).1 rfl
              have hacc6 := kb5.reps e6 hacc5
              by_cases hn : acc.length < 16777216
              · dsimp only at post2
                rw [if_pos hn] at post2
                obtain ⟨kp, stp⟩ := kb6.poke (a := Dd) (o := .lst (accv ++ [v])) (.inr rfl) (by rw [hD6]; trivial) h00 hnp nt_lst hown (.inl ⟨_, hD6⟩)
                refine ⟨accv, hD6, by rw [hacc6.length, sizeLine_eq]; exact hn, P6, acc ++ [y], accv ++ [v], kp, fun b u hb nb nt => ?_, upd_same, Reps.mono stp _ _ (hacc6.append (Reps.one rv)), ?_⟩
                · have hbD : b ≠ Dd := fun z => by subst z; rw [hD] at hb; cases hb
                  rw [upd_ne hbD]
                  exact (e3.trans (e5.trans e6)) b u hb nb nt
                · rw [List.length_append]; rw [List.length_singleton]
                  change PostG Ex W.pa H1 (bnd _ _ P6) _ at post2
                  unfold bnd at post2
                  cases hr : compD gD fc fe (ds.drop (i + 1)) (acc.length + 1) (wipeE env vs) P6 with
                  | no => rw [hr] at post2; exact post2.elim
                  | ex c P7 => rw [hr] at post2; exact post2
                  | ok ys P7 =>
                    rw [hr] at post2
                    intro H7 e7 p7 accv7 h7 r7
                    exact post2 H7 e7 p7 accv7 h7 (by rw [List.append_assoc] at r7; exact r7)
              · dsimp only at post2
                rw [if_neg hn] at post2; exact post2.elim
  · have ei : i = ds.length := by omega
    subst ei
    rw [List.drop_length] at post2
    exact .inl ⟨st, post2 H2 eH k2.pen accv hDd (by rw [List.append_nil]; exact hacc)⟩
theorem x_lc (hc : X.calm = true) (hN : X.N.Nodup) (hi : XI Ex X tg iter it) (ok : BlkOk X.N X.env.scope scope own)
    (hg : ∀ (s : Shared) (H : Hp) (C : Addr) (cl : List (Str × Addr)) (fp : List Addr), XG (X.blk s H scope (compEnvC scope cl C X.env) fp) tg sl gD)
    (ht : ∀ (s : Shared) (H : Hp) (C : Addr) (cl : List (Str × Addr)) (fp : List Addr), XTs Ex0 (X.blk s H scope (compEnvC scope cl C X.env) fp) ifs fc)
    (he : ∀ (s : Shared) (H : Hp) (C : Addr) (cl : List (Str × Addr)) (fp : List Addr), XE Ex0 (X.blk s H scope (compEnvC scope cl C X.env) fp) .v elt fe)
    (hsl : ∀ i ∈ sl, i ∈ own.map (·.2) := by decide) (hs : ∀ x, foldedSetIterable iter X.env x = pure x := by intro _; rfl) :
    XE Ex X .f (.ListComp elt [⟨tg, iter, ifs, 0⟩] scope pos) (dComp it gD fc fe (own.map (·.2))) := by
  obtain ⟨wi, hwi, qi⟩ := hi
  exact ⟨_, pe_lc hc hN hwi ok (g := TGof X.K sl gD) (tt := TTof X.K Ex0 fc) (te := TEof X.K Ex0 .v fe) (fun s H C cl fp => (hg s H C cl fp).can) (fun s H C cl fp => (ht s H C cl fp).can) (fun s H C cl fp => (he s H C cl fp).can) hs, lc_sd qi hsl⟩
/-- here: name = [..] on one line, the name a local -/
theorem xs_setLc {kd : Kd} {y : Str} {py spos : Pos} (i : Nat) (hc : X.calm = true) (hN : X.N.Nodup) (hi : XI Ex X tg iter it) (ok : BlkOk X.N X.env.scope scope own)
    (hg : ∀ (s : Shared) (H : Hp) (C : Addr) (cl : List (Str × Addr)) (fp : List Addr), XG (X.blk s H scope (compEnvC scope cl C X.env) fp) tg sl gD)
    (ht : ∀ (s : Shared) (H : Hp) (C : Addr) (cl : List (Str × Addr)) (fp : List Addr), XTs Ex0 (X.blk s H scope (compEnvC scope cl C X.env) fp) ifs fc)
    (he : ∀ (s : Shared) (H : Hp) (C : Addr) (cl : List (Str × Addr)) (fp : List Addr), XE Ex0 (X.blk s H scope (compEnvC scope cl C X.env) fp) .v elt fe)
    (hsw : swapsWith (.ListComp elt [⟨tg, iter, ifs, 0⟩] scope pos) (some (.Name y py)) spos.line X.env = pure true) (hy : X.N[i]? = some y := by rfl) (hyl : X.env.scope.names.lookup y = some .local := by rfl)
    (hsl : ∀ i ∈ sl, i ∈ own.map (·.2) := by decide) (hs : ∀ x, foldedSetIterable iter X.env x = pure x := by intro _; rfl) :
    XS Ex kd X (.Assign [.Name y py] (.ListComp elt [⟨tg, iter, ifs, 0⟩] scope pos) spos) (sOwn i (dComp it gD fc fe (own.map (·.2)))) := by
  obtain ⟨wi, hwi, qi⟩ := hi
  refine ⟨_, ps_setLc hc hN hy hyl hsw hwi ok (g := TGof X.K sl gD) (tt := TTof X.K Ex0 fc) (te := TEof X.K Ex0 .v fe) (fun s H C cl fp => (hg s H C cl fp).can) (fun s H C cl fp => (ht s H C cl fp).can) (fun s H C cl fp => (he s H C cl fp).can) hs, fun W A σ H env P De k p => ?_⟩
  refine lc_sd qi hsl W A σ H env P _ k ((PostS.bnd k p).mono ?_)
  rintro d _ H1 _ _ ⟨P1, e1, p1, k1, post⟩ v ⟨a, vs, ds, rfl, rfl, hn, hl, r⟩
  exact post _ _ H1 (k.setO e1 p1 i hn hl r)
end
end Vl
end
section
set_option autoImplicit false
set_option maxRecDepth 100000
/-! V11: defs: contracts by denotations, calls. -/
namespace Vl
open PySem L2

/-- a def's promise; gd: only where no repr is running -/
structure FnG (P : Program) (w : World) (K : PySem.W.Frag) (mg : Str → Option Value) (base : Heap) (gd : Bool) (k : Nat) (f : Addr) (fd : FuncData) (ps : List Str) (sp : Sp) : Prop where
  len : ∀ us H Q E, sp us H Q E → us.length = ps.length
  run : ∀ (A : Around) (outer : List PySem.Env) (s : Shared) (H : Hp) (args : Args) (us : List Value) (vs : List V) (Q : VK) (E : XK), Room k A → (gd = true → A.guards = some []) → Env0 P w K mg base A outer s H → BindsTo s fd args (ps.zip us) → Vals vs us → sp vs H Q E →
    codeAny (model P w) A (.call (.ref f) args) (CR (L2.CX P w) outer P w H s Q E) s

/-- error classes by name -/
abbrev EC := Str → Addr
def xk (ec : EC) (Ex : Str → Hp → Prop) : XK := fun cls d H => ∃ c, cls = .ref (ec c) ∧ d = none ∧ Ex c H
def exOf (ec : EC) (E : XK) : Str → Hp → Prop := fun c H => E (.ref (ec c)) none H
theorem xk_exOf {ec : EC} {E : XK} {cls : Value} {d : Option Addr} {H : Hp} (h : xk ec (exOf ec E) cls d H) : E cls d H := by
  obtain ⟨c, rfl, rfl, h⟩ := h
  exact h
theorem passX0 {X : Cx} {ec : EC} : Passes (L2.CX X.prog X.w) X (xk ec Ex0) := fun _ _ _ _ _ _ _ h => by
  obtain ⟨_, _, _, _, _, _, _, _, _, _, _, _, c, _, _, z⟩ := h
  exact z.elim
theorem passX {X : Cx} {ec : EC} {E : XK} (tk : Takes X (fun cls d _ H => E cls d H)) : Passes (L2.CX X.prog X.w) X (xk ec (exOf ec E)) := passes_call tk fun _ _ _ _ h => xk_exOf h

/-! ### contracts -/
/-- the arguments stand: contents, or the pen -/
def ArgOk (K : PySem.W.Frag) (pa : PL) (A : AS) (H : Hp) : SV → V → Prop
  | .v d, x => Rep K A H d x
  | .pen, x => ∃ p c, pa.pen = some (p, c) ∧ x = .ref p
  | .scr ns, x => ScrOk K A H x ns
  | _, _ => False
def ArgsOk (K : PySem.W.Frag) (pa : PL) (A : AS) (H : Hp) : List SV → List V → Prop
  | [], vs => vs = []
  | s :: ss, vs => ∃ v r, vs = v :: r ∧ ArgOk K pa A H s v ∧ ArgsOk K pa A H ss r
def spG (K : PySem.W.Frag) (ec : EC) (kd : Kd) (n : Nat) (den : List SV → M D) : Sp := fun vs H Q E => vs.length = n ∧ ∃ pa A ss P, (∀ a, A a → ∃ o, H a = some o ∧ Nt o) ∧ (∀ p c, pa.pen = some (p, c) → A p ∧ A c) ∧ PenOk pa H P ∧ ArgsOk K pa A H ss vs ∧
  PostG (exOf ec E) pa H (den ss P) (fun d H' => ∀ v, rel K pa A H H' d v kd → Q v H')
def denOf (n : Nat) (body : Env → M Fl) : List SV → M D := fun ss P => match body (ss ++ List.replicate (n - ss.length) .un) P with
  | .ok (.rt d) P' => .ok d P'
  | .ok (.nx _) P' => .ok .none P'
  | .ok _ _ => .no
  | .ex c P' => .ex c P'
  | .no => .no

section
variable {K : PySem.W.Frag} {pa : PL} {A : AS} {H : Hp}
theorem ArgsOk.length : ∀ {ss : List SV} {vs : List V}, ArgsOk K pa A H ss vs → vs.length = ss.length
  | [], _, h => by rw [show _ = [] from h]; rfl
  | _ :: _, _, ⟨_, _, e, _, t⟩ => by rw [e, List.length_cons, List.length_cons, ArgsOk.length t]
theorem ArgsOk.get : ∀ {ss : List SV} {vs : List V} {i : Nat} {s : SV} {v : V}, ArgsOk K pa A H ss vs → ss[i]? = some s → vs[i]? = some v → ArgOk K pa A H s v
  | [], _, _, _, _, _, e, _ => by simp at e
  | s :: ss, _, 0, _, _, ⟨v, r, e, h, t⟩, e1, e2 => by subst e; simp at e1 e2; subst e1 e2; exact h
  | s :: ss, _, i + 1, _, _, ⟨v, r, e, h, t⟩, e1, e2 => by subst e; exact ArgsOk.get t (by simpa using e1) (by simpa using e2)
theorem ArgOk.slot {s : SV} {v : V} (h : ArgOk K pa A H s v) : SlotOk K pa A H (some v) s := by
  cases s with
  | v d => exact ⟨v, rfl, h⟩
  | pen => obtain ⟨p, c, e, rfl⟩ := h; exact ⟨p, c, e, rfl⟩
  | scr ns => exact ⟨v, rfl, h⟩
  | un => exact h.elim
  | fn _ => exact h.elim
  | own _ => exact h.elim
  | ownD _ => exact h.elim
theorem start_at {N : List Str} {vs : List V} {i : Nat} {o : Option V} (h : (L2.start N vs)[i]? = some o) : (∃ v, vs[i]? = some v ∧ o = some v) ∨ (vs.length ≤ i ∧ o = none) := by
  unfold L2.start at h
  by_cases hi : i < vs.length
  · rw [List.getElem?_append_left (by rw [List.length_map]; exact hi), List.getElem?_map, List.getElem?_eq_getElem hi] at h
    exact .inl ⟨_, List.getElem?_eq_getElem hi, (Option.some.inj h).symm⟩
  · rw [List.getElem?_append_right (by rw [List.length_map]; omega)] at h
    obtain ⟨h1, h2⟩ := List.getElem?_eq_some_iff.mp h
    rw [List.getElem_replicate] at h2
    exact .inr ⟨by omega, h2.symm⟩
/-- at a def's entry -/
theorem EOk.entry {N : List Str} {ss : List SV} {vs : List V} {P : Pen} (hA : ∀ a, A a → ∃ o, H a = some o ∧ Nt o) (hp : ∀ p c, pa.pen = some (p, c) → A p ∧ A c) (pk : PenOk pa H P) (r : ArgsOk K pa A H ss vs) (hl : vs.length ≤ N.length) :
    EOk K ⟨pa, H, A, []⟩ A (L2.start N vs) H (ss ++ List.replicate (N.length - ss.length) .un) P := by
  have e := r.length
  have own : ∀ (i : Nat) (ds : List D), (ss ++ List.replicate (N.length - ss.length) SV.un)[i]? = some (SV.own ds) → False := fun i ds h => by
    by_cases hi : i < ss.length
    · rw [List.getElem?_append_left hi] at h
      have hv : i < vs.length := by omega
      exact r.get h (List.getElem?_eq_getElem hv)
    · rw [List.getElem?_append_right (by omega)] at h
      obtain ⟨h1, h2⟩ := List.getElem?_eq_some_iff.mp h
      rw [List.getElem_replicate] at h2
      cases h2
  have ownD : ∀ (i : Nat) (ds : List (D × D)), (ss ++ List.replicate (N.length - ss.length) SV.un)[i]? = some (SV.ownD ds) → False := fun i ds h => by
    by_cases hi : i < ss.length
    · rw [List.getElem?_append_left hi] at h
      have hv : i < vs.length := by omega
      exact r.get h (List.getElem?_eq_getElem hv)
    · rw [List.getElem?_append_right (by omega)] at h
      obtain ⟨h1, h2⟩ := List.getElem?_eq_some_iff.mp h
      rw [List.getElem_replicate] at h2
      cases h2
  refine ⟨?_, fun i o s h1 h2 => ?_, fun i j ds es a _ h1 => (own i ds h1).elim, fun i ds a h1 => (own i ds h1).elim, fun _ h => h, hA, hA, hp, pk, HExt.refl _ _, fun g hg => (nomatch hg), .none ownD⟩
  · unfold L2.start
    rw [List.length_append, List.length_append, List.length_map, List.length_replicate, List.length_replicate, e]
  · rcases start_at h1 with ⟨v, hv, rfl⟩ | ⟨hi, rfl⟩
    · have hi : i < vs.length := (List.getElem?_eq_some_iff.mp hv).1
      rw [List.getElem?_append_left (by omega)] at h2
      exact (r.get h2 hv).slot
    · rw [List.getElem?_append_right (by omega)] at h2
      obtain ⟨h3, h4⟩ := List.getElem?_eq_some_iff.mp h2
      rw [List.getElem_replicate] at h4
      subst h4
      trivial
end

section
variable {P : Program} {w : World} {K : PySem.W.Frag} {mg : Str → Option Value} {base : Heap} {ec : EC}
/-- THE RULE for a def -/
theorem fnG_of {gd : Bool} {x qual : Str} {st : Stmt} {f : Addr} {fd : FuncData} {N ps : List Str} {k : Nat} {kd : Kd} {body : Env → M Fl} (F : Fun K x qual st f fd) (S : FnScope N ps (defScope st)) (hkd : kd = .v ∨ ∀ ss P0 e P', body (ss ++ List.replicate (N.length - ss.length) .un) P0 ≠ .ok (.nx e) P')
    (hb : ∀ (cdv : Value) (A : Around) (outer : List PySem.Env) (s : Shared) (H : Hp) (E : XK), Room k (A.deeper (PyProof.Rows.envOfC qual (defScope st) s.heap.objs.size f cdv)) → (gd = true → A.guards = some []) →
      XSs (exOf ec E) kd (cxOf (L2.CX P w) P w K mg base N qual (defScope st) f cdv A outer s H E) (defBody st) body) :
    FnG P w K mg base gd (k + 1) f fd ps (spG K ec kd ps.length (denOf N.length body)) := by
  refine ⟨fun vs H Q E h => h.1, fun A outer s H args us vs Q E hr hg e0 hbd rv hsp => ?_⟩
  obtain ⟨hl, pa, A0, ss, P0, hA, hp, pk, hargs, post⟩ := hsp
  obtain ⟨oc, od, kV, doc, pm, an, cdv, ct, osl, rfl, lk, hcd⟩ := (F.ex)
  refine LamX.run_ofS lk hcd S hr e0 hbd rv hl fun hr' => ?_
  obtain ⟨t, ht, q⟩ := hb cdv A outer s H E hr' hg
  have hpre : ps.length ≤ N.length := by
    have := congrArg List.length S.pre
    rw [List.length_take] at this
    omega
  refine ⟨t, ht, q ⟨pa, H, A0, []⟩ A0 _ H _ P0 _ (EOk.entry hA hp pk hargs (by omega)) ?_⟩
  unfold denOf at post
  cases hbody : body (ss ++ List.replicate (N.length - ss.length) .un) P0 with
  | ok o P' =>
    rw [hbody] at post
    cases o with
    | nx e =>
      rcases hkd with rfl | hne
      · exact fun A' σ' H' k' => post H' k'.base k'.pen .non rfl
      · exact absurd hbody (hne ss P0 e P')
    | rt d => exact fun v H' e p r => post H' e p v r
    | bk e => exact post.elim
    | ct e => exact post.elim
  | ex c P' => rw [hbody] at post; exact post
  | no => rw [hbody] at post; exact post
end

/-! ### calls -/
section
variable {gd : Bool} {X : Cx} {k : Nat} {f : Addr} {fd : FuncData} {ps : List Str} {sp : Sp} {E : XK} {x : Str} {p pos : Pos} {e : Expr} {es : List Expr} {t : L2.TA} {ec : EC}
theorem run_fnG {pins : List (Addr × Obj)} {σ : L2.St} {H : Hp} {s : Shared} {Q : VK} {us : List Value} {vs : List V} (F : FnG X.prog X.w X.K X.mg X.base gd k f fd ps sp) (hr : Room k X.A) (hg : gd = true → X.A.guards = some []) (hb : Binds X.K fd ps []) (hx : Passes (L2.CX X.prog X.w) X E)
    (I : Inv X pins σ H s) (r : Vals vs us) (h : sp vs H Q E) : wpAny (model X.prog X.w) X.A (call (.ref f) us) (EP X pins σ Q) X.xe s := by
  have hl : (us.length = ps.length) := by rw [← r.length]; exact F.len _ _ _ _ h
  have hbd := hb s us I.kIn (by rw [List.append_nil]; exact hl)
  rw [List.append_nil] at hbd
  refine wpAny_call (codeAny_mono (F.run X.A X.stack s H ⟨us, []⟩ us vs Q E hr hg I.env0 hbd r h) fun res s' hq => ?_)
  match res, hq with
  | .error e, hq => exact hx pins σ H s e s' I hq
  | .ok (.ret u), hq => exact I.after hq
  | .ok .next, hq => exact hq.elim
  | .ok .brk, hq => exact hq.elim
  | .ok .cont, hq => exact hq.elim
theorem pe_callG (F : FnG X.prog X.w X.K X.mg X.base gd k f fd ps sp) (hr : Room k X.A) (hgd : gd = true → X.A.guards = some []) (hm : X.mg x = some (.ref f)) (hk : PySem.W.keepIn X.K (.ref f) = true) (hb : Binds X.K fd ps []) (hx : Passes (L2.CX X.prog X.w) X E)
    (ha : PA X (e :: es) t) (hg : Gl X x := by rfl) (hdb : (x == ("__debug__" : Str)) = false := by decide) (he : starEach (e :: es) X.env = (false, eval e X.env) :: starEach es X.env := by rfl) (hpl : (backTo pos (starEach es X.env)).any (·.1) = false := by rfl) :
    PE X (.Call (.Name x p) (e :: es) [] pos) (tCall sp [] E t) := by
  refine ⟨fun pins s σ H Q I h => wpAny_Call_Name_kw (ld_glob I hg hm ?_ hdb)⟩
  refine PySem.W.callWith_K (h₀ := X.base) I.ok.mod.kin hk (thn (ha.run pos pins s σ H _ I h) fun us s1 ⟨vs, H1, I1, r, q⟩ => ⟨I1.kIn, run_fnG F hr hgd hb hx I1 r ?_⟩) he hpl
  have q' : sp (vs ++ []) H1 Q E := q
  rw [List.append_nil] at q'
  exact q'
theorem pe_callG0 (F : FnG X.prog X.w X.K X.mg X.base gd k f fd ps sp) (hr : Room k X.A) (hgd : gd = true → X.A.guards = some []) (hm : X.mg x = some (.ref f)) (hk : PySem.W.keepIn X.K (.ref f) = true) (hb : Binds X.K fd ps []) (hx : Passes (L2.CX X.prog X.w) X E)
    (hg : Gl X x := by rfl) (hdb : (x == ("__debug__" : Str)) = false := by decide) : PE X (.Call (.Name x p) [] [] pos) (tCall sp [] E tNil) :=
  ⟨fun pins s σ H Q I h => wpAny_Call_Name_kw (ld_glob I hg hm (PySem.W.callWith_K0 I.kIn hk (run_fnG (us := []) F hr hgd hb hx I .nil h)) hdb)⟩
end
/-- a def that has no pen -/
def dCall (n : Nat) (den : List SV → M D) (g : Env → M (List D)) : Env → M D := fun env => bnd (g env) fun ds => fun P => if ds.length = n then (match den (ds.map .v) P with
  | .ok d _ => .ok d P
  | .ex c _ => .ex c P
  | .no => .no) else .no
/-- a def whose first argument is the pen, in slot i -/
def dPen (i n : Nat) (den : List SV → M D) (g : Env → M (List D)) : Env → M D := fun env => match env[i]? with
  | some .pen => bnd (g env) fun ds => if ds.length + 1 = n then den (.pen :: ds.map .v) else no
  | _ => no
section
variable {gd : Bool} {Ex : Str → Hp → Prop} {X : Cx} {k : Nat} {f : Addr} {fd : FuncData} {ps : List Str} {kd : Kd} {x y : Str} {p pos py : Pos} {e : Expr} {es : List Expr} {ec : EC} {den : List SV → M D} {g : Env → M (List D)} {n : Nat}
theorem args_of {K : PySem.W.Frag} {pa : PL} {A : AS} {H : Hp} : ∀ {ds : List D} {vs : List V}, Reps K A H ds vs → ArgsOk K pa A H (ds.map .v) vs
  | [], _, h => h
  | _ :: _, _, ⟨v, r, e, h, t⟩ => ⟨v, r, e, h, args_of t⟩
theorem rel_none {K : PySem.W.Frag} {pa : PL} {A : AS} {H H' : Hp} {d : D} {v : V} (h : rel K pa.bare A H H' d v kd) (hkd : kd ≠ .b) : rel K pa A H H' d v kd := by
  cases kd with
  | v => exact h
  | f => exact h
  | b => exact absurd rfl hkd
theorem call_sp {W : Wd} {A : AS} {σ : L2.St} {H1 : Hp} {env : Env} {P1 : Pen} {Q : VK} {ds : List D} {vs : List V} (k1 : EOk X.K W A σ H1 env P1) (hkd : kd ≠ .b) (rs : Reps X.K A H1 ds vs)
    (post : PostG Ex W.pa H1 ((fun P => if ds.length = n then (match den (ds.map .v) P with
      | .ok d _ => R.ok d P
      | .ex c _ => .ex c P
      | .no => .no) else .no) P1) (fun d H' => ∀ v, rel X.K W.pa A H1 H' d v kd → Q v H')) : spG X.K ec kd n den vs H1 Q (xk ec Ex) := by
  dsimp only at post
  by_cases hn : ds.length = n
  · rw [if_pos hn] at post
    refine ⟨by rw [rs.length]; exact hn, W.pa.bare, A, ds.map .v, P1, k1.trk, (fun p c z => nomatch z), ⟨(fun p c z => nomatch z), k1.pen.2⟩, args_of rs, ?_⟩
    cases hd : den (ds.map .v) P1 with
    | ok d P' =>
      rw [hd] at post
      exact fun H' e pk v r => post H' (HExt.none e) (HExt.penOk e k1.pen pk) v (rel_none r hkd)
    | ex c P' =>
      rw [hd] at post
      exact fun H' e pk => ⟨c, rfl, rfl, post H' (HExt.none e) (HExt.penOk e k1.pen pk)⟩
    | no => rw [hd] at post; exact post.elim
  · rw [if_neg hn] at post; exact post.elim
theorem x_call (F : FnG X.prog X.w X.K X.mg X.base gd k f fd ps (spG X.K ec kd n den)) (hr : Room k X.A) (hgd : gd = true → X.A.guards = some []) (hm : X.mg x = some (.ref f)) (hk : PySem.W.keepIn X.K (.ref f) = true) (hb : Binds X.K fd ps []) (hx : Passes (L2.CX X.prog X.w) X (xk ec Ex))
    (ha : XA Ex X (e :: es) g) (hkd : kd ≠ .b := by decide) (hg : Gl X x := by rfl) (hdb : (x == ("__debug__" : Str)) = false := by decide) (he : starEach (e :: es) X.env = (false, eval e X.env) :: starEach es X.env := by rfl) (hpl : (backTo pos (starEach es X.env)).any (·.1) = false := by rfl) :
    XE Ex X kd (.Call (.Name x p) (e :: es) [] pos) (dCall n den g) := by
  obtain ⟨t, ht, q⟩ := ha
  refine ⟨_, pe_callG F hr hgd hm hk hb hx ht hg hdb he hpl, fun W A σ H env P Q k p => ?_⟩
  refine q W A σ H env P _ k ((PostG.bnd k p).mono ?_)
  rintro ds _ H1 _ _ ⟨P1, e1, p1, k1, post⟩ vs rs
  show spG X.K ec kd n den (vs ++ []) H1 Q (xk ec Ex)
  rw [List.append_nil]
  refine call_sp k1 hkd rs (post.mono fun d P' H' e2 _ z v r => z (e1.trans e2) v (rel_back k.pen e1 p1 r))
theorem x_call0 (F : FnG X.prog X.w X.K X.mg X.base gd k f fd ps (spG X.K ec kd n den)) (hr : Room k X.A) (hgd : gd = true → X.A.guards = some []) (hm : X.mg x = some (.ref f)) (hk : PySem.W.keepIn X.K (.ref f) = true) (hb : Binds X.K fd ps []) (hx : Passes (L2.CX X.prog X.w) X (xk ec Ex))
    (hkd : kd ≠ .b := by decide) (hg : Gl X x := by rfl) (hdb : (x == ("__debug__" : Str)) = false := by decide) : XE Ex X kd (.Call (.Name x p) [] [] pos) (dCall n den aNil) := by
  refine ⟨_, pe_callG0 F hr hgd hm hk hb hx hg hdb, fun W A σ H env P Q k p => ?_⟩
  show spG X.K ec kd n den ([] ++ []) H Q (xk ec Ex)
  exact call_sp (ds := []) k hkd rfl p
theorem x_pen (i : Nat) (F : FnG X.prog X.w X.K X.mg X.base gd k f fd ps (spG X.K ec kd n den)) (hr : Room k X.A) (hgd : gd = true → X.A.guards = some []) (hm : X.mg x = some (.ref f)) (hk : PySem.W.keepIn X.K (.ref f) = true) (hb : Binds X.K fd ps []) (hx : Passes (L2.CX X.prog X.w) X (xk ec Ex))
    (ha : XA Ex X es g) (hN : X.N[i]? = some y := by rfl) (hv : Vis X.env.scope y := by first | exact Or.inl rfl | exact Or.inr (Or.inl rfl) | exact Or.inr (Or.inr rfl)) (hd : (y == ("__debug__" : Str)) = false := by decide) (hcd : (y == ("__classdict__" : Str)) = false := by decide)
    (hkd : kd ≠ .b := by decide) (hg : Gl X x := by rfl) (hdb : (x == ("__debug__" : Str)) = false := by decide) (he : starEach (.Name y py :: es) X.env = (false, eval (.Name y py) X.env) :: starEach es X.env := by rfl) (hpl : (backTo pos (starEach es X.env)).any (·.1) = false := by rfl) :
    XE Ex X kd (.Call (.Name x p) (.Name y py :: es) [] pos) (dPen i n den g) := by
  obtain ⟨t, ht, q⟩ := ha
  refine ⟨_, pe_callG F hr hgd hm hk hb hx (pa_cons (pe_var hN hv hd hcd) ht he) hg hdb he hpl, fun W A σ H env P Q k p => ?_⟩
  unfold dPen at p
  cases h : env[i]? with
  | none => rw [h] at p; exact p.elim
  | some s =>
    rw [h] at p
    cases s with
    | pen =>
      obtain ⟨o, eo, pp, c, hpa, rfl⟩ := k.at h
      refine ⟨.ref pp, eo, ?_⟩
      refine q W A σ H env P _ k ((PostG.bnd k p).mono ?_)
      rintro ds _ H1 _ _ ⟨P1, e1, p1, k1, post⟩ vs rs
      show spG X.K ec kd n den ((.ref pp :: vs) ++ []) H1 Q (xk ec Ex)
      rw [List.append_nil]
      by_cases hn : ds.length + 1 = n
      · rw [if_pos hn] at post
        refine ⟨by rw [List.length_cons, rs.length]; exact hn, W.pa, A, .pen :: ds.map .v, P1, k1.trk, k1.penA, k1.pen, ⟨_, vs, rfl, ⟨pp, c, hpa, rfl⟩, args_of rs⟩, ?_⟩
        cases hd : den (.pen :: ds.map .v) P1 with
        | ok d P' =>
          rw [hd] at post
          exact fun H' e p v r => post H' e p (e1.trans e) v (rel_back k.pen e1 p1 r)
        | ex c P' =>
          rw [hd] at post
          exact fun H' e p => ⟨c, rfl, rfl, post H' e p⟩
        | no => rw [hd] at post; exact post.elim
      · rw [if_neg hn] at post; exact post.elim
    | v d => exact p.elim
    | un => exact p.elim
    | own ds => exact p.elim
    | ownD ds => exact p.elim
    | scr _ => exact p.elim
    | fn _ => exact p.elim
/-- a def that reads lists that are not handed over, its answer no list -/
def dCallB (n : Nat) (den : List SV → M D) (g : Env → M (List D)) : Env → M D := fun env => bnd (g env) fun ds => fun P => if ds.length = n then (match den (ds.map .v) P with
  | .ok d _ => if plainD d then .ok d P else .no
  | .ex c _ => .ex c P
  | .no => .no) else .no
theorem repsB_length {K : PySem.W.Frag} {pa : PL} {A : AS} {H : Hp} : ∀ {ds : List D} {vs : List V}, RepsB K pa A H ds vs → vs.length = ds.length
  | [], _, h => by rw [show _ = [] from h]; rfl
  | _ :: _, _, ⟨_, _, e, _, h⟩ => by rw [e, List.length_cons, List.length_cons, repsB_length h]
theorem repB_less {K : PySem.W.Frag} {pa : PL} {A : AS} {H : Hp} : ∀ {ds : List D} {vs : List V} (us : List V), RepsB K pa A H ds vs → (∀ v ∈ vs, v ∈ us) → ArgsOk K pa.bare (fun b => A b ∧ ∀ x ∈ us, x ≠ V.ref b) H (ds.map .v) vs
  | [], _, _, h, _ => h
  | d :: ds, _, us, ⟨v, r, e, h, t⟩, hm => by
    subst e
    have st : Stay A (fun b => A b ∧ ∀ x ∈ us, x ≠ V.ref b) H H := fun b u e _ n => ⟨e, fun z => n z.1⟩
    refine ⟨v, r, rfl, ?_, repB_less us t fun x hx => hm x (List.mem_cons_of_mem _ hx)⟩
    cases d with
    | list es =>
      obtain ⟨a, ws, rfl, l, q⟩ := h
      exact ⟨a, ws, rfl, ⟨l.1, fun z => z.2 _ (hm _ List.mem_cons_self) rfl⟩, Reps.mono st _ _ q⟩
    | none | bool _ | int _ | str _ | tuple _ | dict _ => exact Rep.mono st _ _ h
theorem x_callB (F : FnG X.prog X.w X.K X.mg X.base gd k f fd ps (spG X.K ec .v n den)) (hr : Room k X.A) (hgd : gd = true → X.A.guards = some []) (hm : X.mg x = some (.ref f)) (hk : PySem.W.keepIn X.K (.ref f) = true) (hb : Binds X.K fd ps []) (hx : Passes (L2.CX X.prog X.w) X (xk ec Ex))
    (ha : XB Ex X (e :: es) g) (hg : Gl X x := by rfl) (hdb : (x == ("__debug__" : Str)) = false := by decide) (he : starEach (e :: es) X.env = (false, eval e X.env) :: starEach es X.env := by rfl) (hpl : (backTo pos (starEach es X.env)).any (·.1) = false := by rfl) :
    XE Ex X .v (.Call (.Name x p) (e :: es) [] pos) (dCallB n den g) := by
  obtain ⟨t, ht, q⟩ := ha
  refine ⟨_, pe_callG F hr hgd hm hk hb hx ht hg hdb he hpl, fun W A σ H env P Q k p => ?_⟩
  refine q W A σ H env P _ k ((PostG.bnd k p).mono ?_)
  rintro ds _ H1 _ _ ⟨P1, e1, p1, k1, post⟩ vs rs
  show spG X.K ec .v n den (vs ++ []) H1 Q (xk ec Ex)
  rw [List.append_nil]
  by_cases hn : ds.length = n
  · rw [if_pos hn] at post
    refine ⟨by rw [repsB_length rs]; exact hn, W.pa.bare, fun b => A b ∧ ∀ x ∈ vs, x ≠ V.ref b, ds.map .v, P1, fun b hb => k1.trk b hb.1, (fun p c z => nomatch z), ⟨(fun p c z => nomatch z), k1.pen.2⟩, repB_less vs rs fun _ h => h, ?_⟩
    cases hd : den (ds.map .v) P1 with
    | ok d P' =>
      rw [hd] at post
      dsimp only at post
      by_cases hp : plainD d = true
      · rw [if_pos hp] at post
        exact fun H' e pk v r => post H' (HExt.none e) (HExt.penOk e k1.pen pk) (e1.trans (HExt.none e)) v (by cases d <;> first | exact (show Rep X.K _ H' _ v from r) | exact r | cases hp)
      · rw [if_neg hp] at post; exact post.elim
    | ex c P' =>
      rw [hd] at post
      exact fun H' e pk => ⟨c, rfl, rfl, post H' (HExt.none e) (HExt.penOk e k1.pen pk)⟩
    | no => rw [hd] at post; exact post.elim
  · rw [if_neg hn] at post; exact post.elim
end
end Vl
end
section
set_option autoImplicit false
set_option maxRecDepth 100000
/-! V12: assignments to several names, append, raise, methods. -/
namespace Vl
open PySem L2

def sAsg (f : Env → M D) (tg : D → Env → Option Env) : Env → M Fl := fun env => bnd (f env) fun d => match tg d env with
  | some e => ret (.nx e)
  | none => no
def sPar2 (i j : Nat) (f : Env → M (List D)) : Env → M Fl := fun env => bnd (f env) fun
  | [a, b] => ret (.nx ((env.set i (.v a)).set j (.v b)))
  | _ => no
def sPar3 (i j l : Nat) (f : Env → M (List D)) : Env → M Fl := fun env => bnd (f env) fun
  | [a, b, c] => ret (.nx (((env.set i (.v a)).set j (.v b)).set l (.v c)))
  | _ => no
def sApp (i : Nat) (f : Env → M D) : Env → M Fl := fun env => match env[i]? with
  | some (.own ds) => bnd (f env) fun d => if ds.length < 16777216 then ret (.nx (env.set i (.own (ds ++ [d])))) else no
  | _ => no
def sRaise (c : Str) : Env → M Fl := fun _ => raiseM c
section
variable {Ex : Str → Hp → Prop} {kd : Kd} {X : Cx} {pos : Pos} {tg e a b c : Expr} {es : List Expr} {fa : Env → M D} {g : Env → M (List D)} {gD : D → Env → Option Env} {x y z : Str} {sl : List Nat} {px py pz pt : Pos} {kt k2 : Nat} {pt2 : Pos}
theorem xs_asg (he : XE Ex X .v e fa) (hg : XG X tg sl gD) (hs : swapsWithSole [tg] e pos.line X.env = pure false := by rfl) (hw : swappedStores [tg] e X.env = pure none := by rfl) (h1 : (assignEach [tg] X.env).map (·.2) = [assign tg X.env] := by rfl) :
    XS Ex kd X (.Assign [tg] e pos) (sAsg fa gD) := by
  obtain ⟨t, ht, q⟩ := he
  obtain ⟨u, hu, qg⟩ := hg
  refine ⟨_, ps_asg ht hu hs hw h1, fun W A σ H env P De k p => ?_⟩
  refine q W A σ H env P _ k ((PostS.bnd k p).mono ?_)
  rintro d _ H1 _ _ ⟨P1, e1, p1, k1, post⟩ v r
  cases hd : gD d env with
  | none => rw [hd] at post; exact post.elim
  | some e' =>
    rw [hd] at post
    exact qg W A σ H1 env P1 d v e' _ k1 r hd fun σ' _ k' => post A σ' H1 k'
theorem xs_par2 (i j : Nat) (hc : X.calm = true) (hN : X.N.Nodup) (ha : XA Ex X [a, b] g) (hw : swappedStores [.Tuple [.Name x px, .Name y py] kt pt] (.Tuple [a, b] k2 pt2) X.env = pure (some [x, y])) (hi : X.N[i]? = some x := by rfl) (hj : X.N[j]? = some y := by rfl) (hij : i ≠ j := by decide)
    (hx : X.env.scope.names.lookup x = some .local := by rfl) (hy : X.env.scope.names.lookup y = some .local := by rfl) (hs : swapsWithSole [.Tuple [.Name x px, .Name y py] kt pt] (.Tuple [a, b] k2 pt2) pos.line X.env = pure false := by rfl) :
    XS Ex kd X (.Assign [.Tuple [.Name x px, .Name y py] kt pt] (.Tuple [a, b] k2 pt2) pos) (sPar2 i j g) := by
  obtain ⟨t, ht, q⟩ := ha
  refine ⟨_, ps_par hc hN hi hj hij hx hy ht hw hs, fun W A σ H env P De k p => ?_⟩
  refine q W A σ H env P _ k ((PostS.bnd k p).mono ?_)
  rintro ds _ H1 _ _ ⟨P1, e1, p1, k1, post⟩ vs rs
  match ds, rs, post with
  | [d1, d2], rs, post =>
    obtain ⟨v1, _, rfl, r1, v2, _, rfl, r2, h⟩ := rs
    cases (show _ = [] from h)
    exact ⟨v1, v2, rfl, post A _ H1 ((k1.setV i r1).setV j r2)⟩
  | [], _, post => exact post.elim
  | [_], _, post => exact post.elim
  | _ :: _ :: _ :: _, _, post => exact post.elim
theorem xs_par3 (i j l : Nat) (hc : X.calm = true) (hN : X.N.Nodup) (ha : XA Ex X [a, b, c] g) (hw : swappedStores [.Tuple [.Name x px, .Name y py, .Name z pz] kt pt] (.Tuple [a, b, c] k2 pt2) X.env = pure (some [x, y, z])) (hi : X.N[i]? = some x := by rfl) (hj : X.N[j]? = some y := by rfl) (hl : X.N[l]? = some z := by rfl)
    (hij : i ≠ j := by decide) (hil : i ≠ l := by decide) (hjl : j ≠ l := by decide) (hx : X.env.scope.names.lookup x = some .local := by rfl) (hy : X.env.scope.names.lookup y = some .local := by rfl) (hz : X.env.scope.names.lookup z = some .local := by rfl)
    (hs : swapsWithSole [.Tuple [.Name x px, .Name y py, .Name z pz] kt pt] (.Tuple [a, b, c] k2 pt2) pos.line X.env = pure false := by exact rfl) :
    XS Ex kd X (.Assign [.Tuple [.Name x px, .Name y py, .Name z pz] kt pt] (.Tuple [a, b, c] k2 pt2) pos) (sPar3 i j l g) := by
  obtain ⟨t, ht, q⟩ := ha
  refine ⟨_, ps_par3 hc hN hi hj hl hij hil hjl hx hy hz ht hw hs, fun W A σ H env P De k p => ?_⟩
  refine q W A σ H env P _ k ((PostS.bnd k p).mono ?_)
  rintro ds _ H1 _ _ ⟨P1, e1, p1, k1, post⟩ vs rs
  match ds, rs, post with
  | [d1, d2, d3], rs, post =>
    obtain ⟨v1, _, rfl, r1, v2, _, rfl, r2, v3, _, rfl, r3, h⟩ := rs
    cases (show _ = [] from h)
    exact ⟨v1, v2, v3, rfl, post A _ H1 (((k1.setV i r1).setV j r2).setV l r3)⟩
  | [], _, post => exact post.elim
  | [_], _, post => exact post.elim
  | [_, _], _, post => exact post.elim
  | _ :: _ :: _ :: _ :: _, _, post => exact post.elim
/-- x.append(e) -/
theorem xs_app (i : Nat) {apos cpos : Pos} (he : XE Ex X .v e fa) (hN : X.N[i]? = some x := by rfl) (hv : Vis X.env.scope x := by first | exact Or.inl rfl | exact Or.inr (Or.inl rfl) | exact Or.inr (Or.inr rfl)) (hd : (x == ("__debug__" : Str)) = false := by decide) (hcd : (x == ("__classdict__" : Str)) = false := by decide)
    (hbase : attributeBase (.Name x px) "append" X.env (eval (.Name x px) X.env) = eval (.Name x px) X.env := by rfl)
    (hfew : ((backTo cpos (starEach [e] X.env)).all (fun x => !x.1) && (backToKw cpos (keywordEach [] X.env)).all (fun x => x.1.isSome) && decide ([e].length + ([] : List Keyword).length + (if ([] : List Keyword).isEmpty then 0 else 1) < 30)) = true := by rfl)
    (hline : (apos.endLine == cpos.line) = true := by rfl) (hs : starEach [e] X.env = (false, eval e X.env) :: starEach [] X.env := by rfl) (hplain : (backTo cpos (starEach [] X.env)).any (·.1) = false := by rfl)
    (hsw : swapsWith (.Call (.Attribute (.Name x px) "append" apos) [e] [] cpos) none pos.line X.env = pure false := by rfl) :
    XS Ex kd X (.Expr (.Call (.Attribute (.Name x px) "append" apos) [e] [] cpos) pos) (sApp i fa) := by
  obtain ⟨t, ht, q⟩ := he
  refine ⟨_, ps_expr (pe_bm PySem.F.plainAttrs_list PySem.F.slot_list_append PySem.F.type_list_append mt_append (pe_var hN hv hd hcd) (pa_cons ht pa_nil hs) hbase hfew hline hs hplain) hsw, fun W A σ H env P De k p => ?_⟩
  unfold sApp at p
  cases h : env[i]? with
  | none => rw [h] at p; exact p.elim
  | some sv =>
    rw [h] at p
    cases sv with
    | own ds =>
      obtain ⟨o, eo, al, vs, rfl, ha, np, hl, rds⟩ := k.at h
      refine ⟨.ref al, eo, .inl ⟨rfl, vs, .inl (.inl hl)⟩, ?_⟩
      refine q W A σ H env P _ k ((PostS.bnd k p).mono ?_)
      rintro d _ H1 _ _ ⟨P1, e1, p1, k1, post⟩ v r
      by_cases hn : ds.length < 16777216
      · rw [if_pos hn] at post
        have hl1 : H1 al = some (.lst vs) := e1.at hl fun ⟨c, z⟩ => (np _ _ z).1 rfl
        refine ⟨al, vs, v, rfl, rfl, hl1, by rw [rds.length, sizeLine_eq]; exact hn, ?_⟩
        exact post A σ _ (k1.write h eo ((k.reps e1 rds).append (Reps.one r)))
      · rw [if_neg hn] at post; exact post.elim
    | ownD _ => exact p.elim
    | v d => exact p.elim
    | un => exact p.elim
    | pen => exact p.elim
    | scr _ => exact p.elim
    | fn _ => exact p.elim
/-- raise X('..') of an own class -/
theorem xs_raise {ec : EC} {E : XK} {C : Addr} {B newId initId : String} {bmB : List Value} {m : Str} {j : Nat} {p p2 rp : Pos} (c : Str) (hc : X.calm = true) (tk : Takes X (fun cls d _ H => E cls d H)) (F : ExcBaseFacts B newId initId bmB) (q : PySem.W.excIn X.K C bmB newId = true) (gC : X.mg x = some (.ref C)) (kC : PySem.W.keepIn X.K (.ref C) = true)
    (r : Raises X (.ref C)) (hcC : ec c = C) (hg : Gl X x := by rfl) (hdb : (x == ("__debug__" : Str)) = false := by decide) : XS (exOf ec E) kd X (.Raise (some (.Call (.Name x p) [.Constant (.str m) j p2] [] pos)) none rp) (sRaise c) := by
  refine ⟨_, ps_raise hc tk (pmk_own F q gC kC r hg hdb), fun W A σ H env P De k post => ?_⟩
  subst hcC
  exact post H k.base k.pen
end
end Vl
end
section
set_option autoImplicit false
set_option maxRecDepth 100000
/-! V13: methods of built-in values. -/
namespace Vl
open PySem L2

/-- the value is of that built-in type, with no dict of its own -/
def tyW (K : PySem.W.Frag) (T : String) (x : V) (H : Hp) : Prop := tyV K T x H ∨ (T = "tuple" ∧ ∃ p o xs, x = .ref p ∧ H p = some (.frz o (.tup xs)) ∧ o.dict = none) ∨ (T = "dict" ∧ ∃ p o kvs, x = .ref p ∧ H p = some (.frz o (.dK kvs)))
section
variable {X : Cx} {o e : Expr} {es : List Expr} {to : TE} {t : L2.TA} {name : Str} {apos cpos : Pos} {T id : String} {r : V → List V → Hp → VK → Prop}
theorem tyW_is {pins : List (Addr × Obj)} {σ : L2.St} {H : Hp} {s : Shared} {x : V} {v : Value} (I : L2.Inv X pins σ H s) (r : RelV x v) (ty : tyW X.K T x H) : s.TypeIs v T ∧ ∀ a, v = .ref a → ∃ ob, s.heap.get? a = some ob ∧ ob.dict = none := by
  rcases ty with ty | ⟨rfl, p, o, xs, rfl, h, hd⟩ | ⟨rfl, p, o, kvs, rfl, h⟩
  · exact tyV_is I r ty
  · cases r
    obtain ⟨e1, _, _, _, ob, e2, hc, _⟩ := (show ObjOk X.prog X.w H s.heap p (.frz o (.tup xs)) from I.hok p _ h)
    exact ⟨⟨ob, e2, hc⟩, fun a z => by cases z; exact ⟨o, e1, hd⟩⟩
  · cases r
    obtain ⟨_, e1, hx, _⟩ := I.frzK h
    exact ⟨⟨o, e1, hx.1⟩, fun a z => by cases z; exact ⟨o, e1, hx.2.1⟩⟩
def tBW0 (K : PySem.W.Frag) (T : String) (r : V → List V → Hp → VK → Prop) (to : TE) : TE := fun σ H Q => to σ H fun x H1 => tyW K T x H1 ∧ r x [] H1 Q
def tBW (K : PySem.W.Frag) (T : String) (r : V → List V → Hp → VK → Prop) (to : TE) (t : L2.TA) : TE := fun σ H Q => to σ H fun x H1 => tyW K T x H1 ∧ t σ H1 fun xs H2 => r x xs H2 Q
theorem pe_bw0 (pa : PlainAttrs T) (slot : Slot T name id) (hty : typeOf (.builtin id) = pure (.type "method_descriptor")) (hm : MtR X id r) (ho : PE X o to)
    (hbase : attributeBase o name X.env (eval o X.env) = eval o X.env := by rfl) (hline : (apos.endLine == cpos.line) = true := by rfl) : PE X (.Call (.Attribute o name apos) [] [] cpos) (tBW0 X.K T r to) := by
  refine ⟨fun pins s σ H Q I h => wpAny_Call_method0_late hbase hline (thn (ho.run pins s σ H _ I h) fun v s1 ⟨x, H1, I1, r1, ty, q1⟩ => ?_)⟩
  have hh := tyW_is I1 r1 ty
  exact ⟨T, id, pa, slot, hty, hh.1, hh.2, Calls.callWith_builtin rfl (PySem.evalArgs_none (hm pins s1 σ H1 x [] v [] Q I1 r1 .nil q1))⟩
theorem pe_bw (pa : PlainAttrs T) (slot : Slot T name id) (hty : typeOf (.builtin id) = pure (.type "method_descriptor")) (hm : MtR X id r) (ho : PE X o to) (ha : PA X (e :: es) t)
    (hbase : attributeBase o name X.env (eval o X.env) = eval o X.env := by exact rfl)
    (hfew : ((backTo cpos (starEach (e :: es) X.env)).all (fun x => !x.1) && (backToKw cpos (keywordEach [] X.env)).all (fun x => x.1.isSome) && decide ((e :: es).length + ([] : List Keyword).length + (if ([] : List Keyword).isEmpty then 0 else 1) < 30)) = true := by rfl)
    (hline : (apos.endLine == cpos.line) = true := by exact rfl) (hs : starEach (e :: es) X.env = (false, eval e X.env) :: starEach es X.env := by rfl) (hplain : (backTo cpos (starEach es X.env)).any (·.1) = false := by rfl) :
    PE X (.Call (.Attribute o name apos) (e :: es) [] cpos) (tBW X.K T r to t) := by
  refine ⟨fun pins s σ H Q I h => wpAny_Call_method_late hbase hfew hline rfl (thn (ho.run pins s σ H _ I h) fun v s1 ⟨x, H1, I1, r1, ty, q1⟩ => ?_)⟩
  have hh := tyW_is I1 r1 ty
  refine ⟨T, id, pa, slot, hty, hh.1, hh.2, ?_⟩
  have hA := (ha.run cpos pins s1 σ H1 _ I1 q1)
  rw [hs] at hA ⊢
  refine Calls.callWith_builtin (show (false || (backTo cpos (starEach es X.env)).any (·.1)) = false by rw [hplain]; rfl) (Calls.evalArgs_plain (thn hA fun us s2 ⟨vs, H2, I2, r2, q2⟩ => ?_))
  exact hm pins s2 σ H2 x vs v us Q I2 r1 r2 q2
end
def MethD (K : PySem.W.Frag) (kd : Kd) (r : V → List V → Hp → VK → Prop) (g : D → List D → Option D) : Prop := ∀ (W : Wd) (A : AS) (σ : L2.St) (H : Hp) (env : Env) (P : Pen) (x : V) (vs : List V) (dx : D) (ds : List D) (d : D) (Q : VK),
  EOk K W A σ H env P → RepB K W.pa A H dx x → RepsB K W.pa A H ds vs → g dx ds = some d → (∀ v H', Same H H' → rel K W.pa A H H' d v kd → Q v H') → r x vs H Q
def dMeth (T : String) (g : D → List D → Option D) (fo : Env → M D) (fs : Env → M (List D)) : Env → M D := fun env => bnd (fo env) fun dx => if tyM dx = T then bnd (fs env) fun ds => orNo (g dx ds) else no
section
variable {Ex : Str → Hp → Prop} {X : Cx} {o e : Expr} {es : List Expr} {fo : Env → M D} {fs : Env → M (List D)} {name : Str} {apos cpos : Pos} {T id : String} {r : V → List V → Hp → VK → Prop} {g : D → List D → Option D} {kd : Kd}
theorem ty_w' {K : PySem.W.Frag} {pa : PL} {A : AS} {H : Hp} {d : D} {x : V} (hT : T = "str" ∨ T = "list" ∨ T = "tuple" ∨ T = "dict") (h : tyM d = T) (rx : RepB K pa A H d x) : tyW K T x H := by
  cases d with
  | tuple xs =>
    obtain ⟨a, vs, rfl, l, _⟩ := rx
    rcases l with ⟨ob, h1, h2, _⟩ | ⟨ob, its, n, h1, h2, _, _, _, h6⟩
    · exact .inr (.inl ⟨h.symm, a, ob, vs, rfl, h1, h2⟩)
    · exact .inl (.inr (.inl ⟨h.symm, ob, h1, h2, h6⟩))
  | str z => cases (show x = _ from rx); exact .inl h.symm
  | list xs => obtain ⟨a, vs, rfl, l, _⟩ := rx; exact .inl (.inl ⟨h.symm, vs, l.sq⟩)
  | none => rcases hT with rfl | rfl | rfl | rfl <;> simp [tyM, tyD] at h
  | bool _ => rcases hT with rfl | rfl | rfl | rfl <;> simp [tyM, tyD] at h
  | int _ => rcases hT with rfl | rfl | rfl | rfl <;> simp [tyM, tyD] at h
  | dict kvs =>
    cases hn : isErr kvs with
    | true =>
      have h2 : T = "?" := by
        rw [← h]
        show (if isErr kvs = true then "?" else "dict") = "?"
        rw [if_pos hn]
      rcases hT with rfl | rfl | rfl | rfl <;> simp at h2
    | false =>
      have h2 : T = "dict" := by
        rw [← h]
        show (if isErr kvs = true then "?" else "dict") = "dict"
        rw [hn]; rfl
      obtain ⟨a, kv, rfl, l, _⟩ := Rep.dk (show Rep K A H (.dict kvs) x from rx) hn
      exact l.1.elim fun o e => .inr (.inr ⟨h2, a, o, kv, rfl, e⟩)
theorem x_meth (pa : PlainAttrs T) (slot : Slot T name id) (hty : typeOf (.builtin id) = pure (.type "method_descriptor")) (hm : MtR X id r) (hr : MethD X.K kd r g) (hT : T = "str" ∨ T = "list" ∨ T = "tuple" ∨ T = "dict") (ho : XE Ex X .b o fo) (ha : XB Ex X (e :: es) fs)
    (hbase : attributeBase o name X.env (eval o X.env) = eval o X.env := by exact rfl)
    (hfew : ((backTo cpos (starEach (e :: es) X.env)).all (fun x => !x.1) && (backToKw cpos (keywordEach [] X.env)).all (fun x => x.1.isSome) && decide ((e :: es).length + ([] : List Keyword).length + (if ([] : List Keyword).isEmpty then 0 else 1) < 30)) = true := by rfl)
    (hline : (apos.endLine == cpos.line) = true := by exact rfl) (hs : starEach (e :: es) X.env = (false, eval e X.env) :: starEach es X.env := by rfl) (hplain : (backTo cpos (starEach es X.env)).any (·.1) = false := by rfl) :
    XE Ex X kd (.Call (.Attribute o name apos) (e :: es) [] cpos) (dMeth T g fo fs) := by
  obtain ⟨to, hto, qo⟩ := ho
  obtain ⟨t, ht, q⟩ := ha
  refine ⟨_, pe_bw pa slot hty hm hto ht hbase hfew hline hs hplain, fun W A σ H env P Q k p => ?_⟩
  refine qo W A σ H env P _ k ((PostG.bnd k p).mono ?_)
  rintro dx _ H1 _ _ ⟨P1, e1, p1, k1, post⟩ x rx
  by_cases hd : tyM dx = T
  · rw [if_pos hd] at post
    refine ⟨ty_w' hT hd rx, ?_⟩
    refine q W A σ H1 env P1 _ k1 ((PostG.bnd k1 post).mono ?_)
    rintro ds _ H2 _ _ ⟨P2, e2, p2, k2, post2⟩ vs rs
    obtain ⟨d, hd, post3⟩ := post_orNo post2
    refine hr W A σ H2 env P2 x vs dx ds d Q k2 (RepB.ext k1 e2 rx) rs hd fun v H3 s hv => ?_
    exact post_ret post3 s p2 (e2.trans (HExt.of s)) (e1.trans (e2.trans (HExt.of s))) v (rel_back k.pen (e1.trans e2) p2 hv)
  · rw [if_neg hd] at post; exact post.elim
theorem x_meth0 (pa : PlainAttrs T) (slot : Slot T name id) (hty : typeOf (.builtin id) = pure (.type "method_descriptor")) (hm : MtR X id r) (hr : MethD X.K kd r g) (hT : T = "str" ∨ T = "list" ∨ T = "tuple" ∨ T = "dict") (ho : XE Ex X .b o fo)
    (hbase : attributeBase o name X.env (eval o X.env) = eval o X.env := by rfl) (hline : (apos.endLine == cpos.line) = true := by rfl) : XE Ex X kd (.Call (.Attribute o name apos) [] [] cpos) (dMeth T g fo aNil) := by
  obtain ⟨to, hto, qo⟩ := ho
  refine ⟨_, pe_bw0 pa slot hty hm hto hbase hline, fun W A σ H env P Q k p => ?_⟩
  refine qo W A σ H env P _ k ((PostG.bnd k p).mono ?_)
  rintro dx _ H1 _ _ ⟨P1, e1, p1, k1, post⟩ x rx
  by_cases hd : tyM dx = T
  · rw [if_pos hd] at post
    refine ⟨ty_w' hT hd rx, ?_⟩
    obtain ⟨d, hd, post3⟩ := post_orNo (show PostG Ex W.pa H1 (orNo (g dx []) P1) _ from post)
    refine hr W A σ H1 env P1 x [] dx [] d Q k1 rx rfl hd fun v H3 s hv => ?_
    exact post_ret post3 s p1 (e1.trans (HExt.of s)) v (rel_back k.pen e1 p1 hv)
  · rw [if_neg hd] at post; exact post.elim
end

/-! ### the methods' answers -/
def strsOf : List D → Option (List Str)
  | [] => some []
  | .str z :: r => (strsOf r).map (z :: ·)
  | _ => none
def mCount : D → List D → Option D
  | .str a, [.str b] => some (.int (Txt.count a b))
  | _, _ => none
def mFind : D → List D → Option D
  | .str a, [.str b] => some (.int (Txt.find a b))
  | _, _ => none
def mStarts : D → List D → Option D
  | .str a, [.str b] => some (.bool (Txt.startswith a b))
  | _, _ => none
def mUpper : D → List D → Option D
  | .str a, [] => if a.length ≤ 5592405 then some (.str (Txt.upper a)) else none
  | _, _ => none
def mJoin : D → List D → Option D
  | .str a, [.list ds] => (strsOf ds).bind fun ys => if (ys.map (·.length)).sum + ys.length * a.length ≤ 16777216 then some (.str (Txt.join a ys)) else none
  | .str a, [.tuple ds] => (strsOf ds).bind fun ys => if (ys.map (·.length)).sum + ys.length * a.length ≤ 16777216 then some (.str (Txt.join a ys)) else none
  | _, _ => none
def mCountS : D → List D → Option D
  | .list xs, [d] => if PyData.plainAll xs = true ∧ d.plain = true ∧ d.depth ≤ 60 then some (.int ((xs.countP fun y => PyData.eqv y d : Nat) : Int)) else none
  | .tuple xs, [d] => if PyData.plainAll xs = true ∧ d.plain = true ∧ d.depth ≤ 60 then some (.int ((xs.countP fun y => PyData.eqv y d : Nat) : Int)) else none
  | _, _ => none
section
variable {X : Cx} {K : PySem.W.Frag}
theorem reps_strs {A : AS} {H : Hp} : ∀ {xs : List D} {vs : List V} {ys : List Str}, Reps K A H xs vs → strsOf xs = some ys → vs = ys.map V.str
  | [], vs, ys, h, e => by cases e; exact h
  | x :: xs, vs, ys, ⟨v, r, e1, h, t⟩, e => by
    cases x with
    | str z =>
      change (strsOf xs).map (z :: ·) = some ys at e
      cases hb : strsOf xs with
      | none => rw [hb] at e; cases e
      | some cs =>
        rw [hb] at e
        cases e
        rw [e1, List.map_cons, ← reps_strs t hb, show v = V.str z from h]
    | _ => cases e
theorem md_str1 {r : V → List V → Hp → VK → Prop} {f : Str → Str → D} {g : D → List D → Option D} {fv : Str → Str → V} (hr : ∀ a b H Q, Q (fv a b) H → r (.str a) [.str b] H Q) (hf : ∀ A H a b, Rep K A H (f a b) (fv a b))
    (hg : ∀ dx ds d, g dx ds = some d → ∃ a b, dx = .str a ∧ ds = [.str b] ∧ d = f a b) : MethD K .v r g := by
  intro W A σ H env P x vs dx ds d Q k rx rs h q
  obtain ⟨a, b, rfl, rfl, rfl⟩ := hg dx ds d h
  cases (show x = .str a from rx)
  obtain ⟨v, rfl, rv⟩ := one_arg rs
  cases (show v = .str b from rv)
  exact hr a b H Q (q _ H (Same.refl H) (hf A H a b))
theorem md_count : MethD K .v (fun x xs H Q => ∃ a b, x = .str a ∧ xs = [.str b] ∧ Q (.int (Txt.count a b)) H) mCount := md_str1 (f := fun a b => .int (Txt.count a b)) (fv := fun a b => .int (Txt.count a b)) (fun a b H Q q => ⟨a, b, rfl, rfl, q⟩) (fun _ _ _ _ => rfl) fun dx ds d h => by
  cases dx with
  | str a => match ds, h with
    | [.str b], h => cases h; exact ⟨a, b, rfl, rfl, rfl⟩
  | _ => cases h
theorem md_find : MethD K .v (fun x xs H Q => ∃ a b, x = .str a ∧ xs = [.str b] ∧ Q (.int (Txt.find a b)) H) mFind := md_str1 (f := fun a b => .int (Txt.find a b)) (fv := fun a b => .int (Txt.find a b)) (fun a b H Q q => ⟨a, b, rfl, rfl, q⟩) (fun _ _ _ _ => rfl) fun dx ds d h => by
  cases dx with
  | str a => match ds, h with
    | [.str b], h => cases h; exact ⟨a, b, rfl, rfl, rfl⟩
  | _ => cases h
theorem md_upper : MethD K .v (fun x xs H Q => ∃ a, x = .str a ∧ xs = [] ∧ a.length ≤ 5592405 ∧ Q (.str (Txt.upper a)) H) mUpper := by
  intro W A σ H env P x vs dx ds d Q k rx rs h q
  cases dx with
  | str a =>
    match ds, rs, h with
    | [], rs, h =>
      change (if a.length ≤ 5592405 then some (PyData.str (Txt.upper a)) else none) = some d at h
      by_cases hl : a.length ≤ 5592405
      · rw [if_pos hl] at h
        cases h
        exact ⟨a, rx, rs, hl, q _ H (Same.refl H) rfl⟩
      · rw [if_neg hl] at h; cases h
    | _ :: _, _, h => cases h
  | _ => cases h
theorem md_join : MethD X.K .v (fun x xs H Q => ∃ a p, ∃ ys : List Str, x = .str a ∧ xs = [.ref p] ∧ (SqL X.K H p (ys.map V.str) ∨ SqT X.K H p (ys.map V.str)) ∧ (ys.map (·.length)).sum + ys.length * a.length ≤ 16777216 ∧ Q (.str (Txt.join a ys)) H) mJoin := by
  intro W A σ H env P x vs dx ds d Q k rx rs h q
  have fin : ∀ (a : Str) (xs : List D), ((strsOf xs).bind fun ys => if (ys.map (·.length)).sum + ys.length * a.length ≤ 16777216 then some (PyData.str (Txt.join a ys)) else none) = some d → ∃ ys, strsOf xs = some ys ∧ (ys.map (·.length)).sum + ys.length * a.length ≤ 16777216 ∧ d = .str (Txt.join a ys) := fun a xs h => by
    cases hs : strsOf xs with
    | none => (rw [hs] at h; cases h)
    | some ys =>
      rw [hs] at h
      change (if (ys.map (·.length)).sum + ys.length * a.length ≤ 16777216 then some (PyData.str (Txt.join a ys)) else none) = some d at h
      by_cases hl : (ys.map (·.length)).sum + ys.length * a.length ≤ 16777216
      · rw [if_pos hl] at h; cases h; exact ⟨ys, rfl, hl, rfl⟩
      · rw [if_neg hl] at h; cases h
  cases dx with
  | str a =>
    match ds, rs, h with
    | [d0], rs, h =>
      obtain ⟨v, rfl, rv⟩ := one_arg rs
      cases d0 with
      | list xs =>
        obtain ⟨ys, h1, h2, rfl⟩ := fin a xs h
        obtain ⟨p, vs, rfl, l, r⟩ := rv
        rw [reps_strs r h1] at l
        exact ⟨a, p, ys, rx, rfl, .inl l.sq, h2, q _ H (Same.refl H) rfl⟩
      | tuple xs =>
        obtain ⟨ys, h1, h2, rfl⟩ := fin a xs h
        obtain ⟨p, vs, rfl, l, r⟩ := rv
        rw [reps_strs r h1] at l
        exact ⟨a, p, ys, rx, rfl, .inr l.sq, h2, q _ H (Same.refl H) rfl⟩
      | _ => cases h
    | [], _, h => cases h
    | _ :: _ :: _, _, h => simp [mJoin] at h
  | _ => cases h
end
end Vl
end
section
set_option autoImplicit false
set_option maxRecDepth 100000
/-! V14: dicts: displays, get, item, in; written dicts of the module. -/
namespace Vl
open PySem L2

theorem dget_rd {H : Hp} {a : Addr} {kvs : List (Key × V)} {k : Key} (e : Rd H a (.dK kvs)) : DGet H a (kV k) (valV kvs k) := .inl ⟨kvs, k, e, rfl, rfl⟩
theorem upd_twice {H : Hp} {a : Addr} {x y : HO} : upd (upd H a x) a y = upd H a y := by
  funext b
  by_cases h : b = a
  · subst h; rw [upd_same, upd_same]
  · rw [upd_ne h, upd_ne h, upd_ne h]
/-- a new dict, locked for good -/
def tFrz (t : TE) : TE := fun σ H Q => t σ H fun v H1 => ∃ a kvs, v = .ref a ∧ H1 a = some (.dK kvs) ∧ ∀ o, Q v (upd H1 a (.frz o (.dK kvs)))
theorem pe_frz {X : Cx} {e : Expr} {t : TE} (h : PE X e t) : PE X e (tFrz t) := by
  refine (⟨fun pins s σ H Q I hw => ?_⟩)
  refine thn (h.run pins s σ H _ I hw) fun v s1 ⟨x, H1, I1, r, a, kvs, ex, ha, q⟩ => ?_
  obtain ⟨o, I2⟩ := I1.lock ha trivial
  exact ⟨x, _, I2, r, q o⟩

def keyOf : D → Option Key
  | .int i => some (.inl i)
  | .str s => some (.inr s)
  | _ => none
theorem keyOf_keyD (q : Key) : keyOf (keyD q) = some q := by cases q <;> rfl
theorem keyD_of {d : D} {q : Key} (h : keyOf d = some q) : d = keyD q := by
  cases d <;> first | (cases h; rfl) | cases h
def dGetK (kvs : List (D × D)) (q : Key) : Option D := (kvs.find? fun p => decide (keyOf p.1 = some q)).map (·.2)
def dPutK (kvs : List (D × D)) (q : Key) (d : D) : List (D × D) :=
  if (kvs.any fun p => decide (keyOf p.1 = some q)) = true then kvs.map (fun p => if keyOf p.1 = some q then (p.1, d) else p) else kvs ++ [(keyD q, d)]
def dMerge (kvs : List (D × D)) (more : List (Key × D)) : List (D × D) := more.foldl (fun acc p => dPutK acc p.1 p.2) kvs
section
variable {K : PySem.W.Frag} {A : AS} {H : Hp}
theorem keyOf_iff {k q : Key} : (keyOf (keyD k) = some q) ↔ k = q := by rw [keyOf_keyD]; exact ⟨fun h => Option.some.inj h, fun h => by rw [h]⟩
theorem RepD.val {q : Key} : ∀ {kvs : List (D × D)} {kv : List (Key × V)}, RepD K A H kvs kv → (∀ d, dGetK kvs q = some d → ∃ v, valV kv q = some v ∧ Rep K A H d v) ∧ (dGetK kvs q = none → valV kv q = none)
  | [], _, h => by
    cases (show _ = [] from h)
    exact ⟨fun d z => (nomatch z), fun _ => rfl⟩
  | (k, d) :: r, _, ⟨q', v, t, e, ek, h1, h2⟩ => by
    subst e
    subst ek
    have ih := RepD.val (q := q) h2
    by_cases hq : q' = q
    · have e1 : dGetK ((keyD q', d) :: r) q = some d := by
        unfold dGetK
        rw [List.find?_cons_of_pos (by simpa using keyOf_iff.mpr hq)]
        rfl
      rw [e1, valV_pos (p := (q', v)) hq]
      exact ⟨fun d' z => by cases z; exact ⟨v, rfl, h1⟩, fun z => nomatch z⟩
    · have e1 : dGetK ((keyD q', d) :: r) q = dGetK r q := by
        unfold dGetK
        rw [List.find?_cons_of_neg (by simpa using fun z => hq (keyOf_iff.mp z))]
      rw [e1, valV_neg (p := (q', v)) hq]
      exact ih
theorem RepD.any {q : Key} : ∀ {kvs : List (D × D)} {kv : List (Key × V)}, RepD K A H kvs kv → (kvs.any fun p => decide (keyOf p.1 = some q)) = kv.any fun p => decide (p.1 = q)
  | [], _, h => by cases (show _ = [] from h); rfl
  | (k, d) :: r, _, ⟨q', v, t, e, ek, h1, h2⟩ => by
    subst e
    subst ek
    rw [List.any_cons, List.any_cons, RepD.any h2]
    congr 1
    exact decide_eq_decide.mpr keyOf_iff
theorem RepD.repl {q : Key} {d : D} {v : V} (hd : Rep K A H d v) : ∀ {kvs : List (D × D)} {kv : List (Key × V)}, RepD K A H kvs kv →
    RepD K A H (kvs.map fun p => if keyOf p.1 = some q then (p.1, d) else p) (kv.map fun p => if p.1 = q then (p.1, v) else p)
  | [], _, h => by cases (show _ = [] from h); exact rfl
  | (k, d0) :: r, _, ⟨q', v0, t, e, ek, h1, h2⟩ => by
    subst e
    subst ek
    rw [List.map_cons]; rw [List.map_cons]
    by_cases hq : q' = q
    · rw [if_pos (keyOf_iff.mpr hq), if_pos (by simpa using hq)]
      exact ⟨q', v, _, rfl, rfl, hd, RepD.repl hd h2⟩
    · rw [if_neg (fun z => hq (keyOf_iff.mp z)), if_neg (by simpa using hq)]
      exact ⟨q', v0, _, rfl, rfl, h1, RepD.repl hd h2⟩
theorem RepD.snoc {q : Key} {d : D} {v : V} (hd : Rep K A H d v) : ∀ {kvs : List (D × D)} {kv : List (Key × V)}, RepD K A H kvs kv → RepD K A H (kvs ++ [(keyD q, d)]) (kv ++ [(q, v)])
  | [], _, h => by cases (show _ = [] from h); exact ⟨q, v, [], rfl, rfl, hd, rfl⟩
  | (k, d0) :: r, _, ⟨q', v0, t, e, ek, h1, h2⟩ => by
    subst e
    exact ⟨q', v0, _, rfl, ek, h1, RepD.snoc hd h2⟩
theorem RepD.put {q : Key} {d : D} {v : V} (hd : Rep K A H d v) {kvs : List (D × D)} {kv : List (Key × V)} (h : RepD K A H kvs kv) : RepD K A H (dPutK kvs q d) (putK kv q v) := by
  unfold dPutK putK
  rw [h.any]
  by_cases e : (kv.any fun p => decide (p.1 = q)) = true
  · rw [if_pos e, if_pos e]; exact RepD.repl hd h
  · rw [if_neg e, if_neg e]; exact RepD.snoc hd h
/-- pairs of a key and a value -/
def RepKs (K : PySem.W.Frag) (A : AS) (H : Hp) : List (Key × D) → List (Key × V) → Prop
  | [], kv => kv = []
  | (k, d) :: ds, kv => ∃ v r, kv = (k, v) :: r ∧ Rep K A H d v ∧ RepKs K A H ds r
theorem RepD.merge : ∀ {more : List (Key × D)} {ms : List (Key × V)} {kvs : List (D × D)} {kv : List (Key × V)}, RepKs K A H more ms → RepD K A H kvs kv → RepD K A H (dMerge kvs more) (mergeK kv ms)
  | [], _, _, _, h, q => by cases (show _ = [] from h); exact q
  | (k, d) :: r, _, _, _, ⟨v, t, e, h1, h2⟩, q => by
    subst e
    exact (show RepD K A H (dMerge (dPutK _ k d) r) (mergeK (putK _ k v) t) from RepD.merge h2 (RepD.put h1 q))
end

/-! ### displays -/
def RepPs (K : PySem.W.Frag) (A : AS) (H : Hp) : List (D × D) → List (V × V) → Prop
  | [], ps => ps = []
  | (k, d) :: ds, ps => ∃ x v r, ps = (x, v) :: r ∧ Rep K A H k x ∧ Rep K A H d v ∧ RepPs K A H ds r
def keysOf : List (D × D) → Option (List (Key × D))
  | [] => some []
  | (k, d) :: r => (keyOf k).bind fun q => (keysOf r).map fun t => (q, d) :: t
theorem rep_ps_keys {K : PySem.W.Frag} {A : AS} {H : Hp} : ∀ {ps : List (D × D)} {qs : List (V × V)} {ks : List (Key × D)}, RepPs K A H ps qs → keysOf ps = some ks → ∃ kv, qs = kv.map (fun p => (kV p.1, p.2)) ∧ RepKs K A H ks kv ∧ kv.length = ks.length
  | [], _, ks, h, e => by cases (show _ = [] from h); cases e; exact ⟨[], rfl, rfl, rfl⟩
  | (k, d) :: r, _, ks, ⟨x, v, t, ep, h1, h2, h3⟩, e => by
    subst ep
    obtain ⟨q, hq, e2⟩ := Option.bind_eq_some_iff.mp (show ((keyOf k).bind fun q => (keysOf r).map fun t => (q, d) :: t) = some ks from e)
    obtain ⟨t', ht, rfl⟩ := Option.map_eq_some_iff.mp e2
    obtain ⟨kv, rfl, g, gl⟩ := rep_ps_keys h3 ht
    have hx : x = kV q := by
      rw [keyD_of hq] at h1
      cases q <;> exact h1
    exact ⟨(q, v) :: kv, by rw [hx]; rfl, ⟨v, kv, rfl, h2, g⟩, by rw [List.length_cons, List.length_cons, gl]⟩
def pNil : Env → M (List (D × D)) := fun _ => ret []
def pCons (fk fv : Env → M D) (g : Env → M (List (D × D))) : Env → M (List (D × D)) := fun env => bnd (fk env) fun k => bnd (fv env) fun d => bnd (g env) fun ps => ret ((k, d) :: ps)
def dDisp (g : Env → M (List (D × D))) : Env → M D := fun env => bnd (g env) fun ps => match keysOf ps with
  | some ks => if ks.length ≤ 15 then ret (.dict (dMerge [] ks)) else no
  | none => no
def XP (Ex : Str → Hp → Prop) (X : Cx) (pos : Pos) (keys : List (Option Expr)) (values : List Expr) (g : Env → M (List (D × D))) : Prop := ∃ trs, PPs X pos keys values trs ∧
  ∀ W A σ H env P (Q : List (V × V) → Hp → Prop), EOk X.K W A σ H env P → PostG Ex W.pa H (g env P) (fun ps H' => ∀ qs, RepPs X.K A H' ps qs → Q qs H') → tPairs trs σ H Q
section
variable {Ex : Str → Hp → Prop} {X : Cx} {pos : Pos} {k v : Expr} {ks : List (Option Expr)} {vs : List Expr} {fk fv : Env → M D} {g : Env → M (List (D × D))}
theorem xp_nil : XP Ex X pos [] [] pNil := ⟨_, pps_nil, fun W A σ H env P Q k p => post_here p k.pen [] rfl⟩
theorem xp_cons (hk : XE Ex X .v k fk) (hv : XE Ex X .v v fv) (hg : XP Ex X pos ks vs g) : XP Ex X pos (some k :: ks) (v :: vs) (pCons fk fv g) := by
  obtain ⟨tk, htk, qk⟩ := hk
  obtain ⟨tv, htv, qv⟩ := hv
  obtain ⟨tr, htr, qr⟩ := hg
  refine ⟨_, pps_cons htk htv htr, fun W A σ H env P Q k p => ?_⟩
  refine qk W A σ H env P _ k ((PostG.bnd k p).mono ?_)
  rintro dk _ H1 _ _ ⟨P1, e1, p1, k1, post⟩ x rx
  refine qv W A σ H1 env P1 _ k1 ((PostG.bnd k1 post).mono ?_)
  rintro dv _ H2 _ _ ⟨P2, e2, p2, k2, post2⟩ y ry
  refine qr W A σ H2 env P2 _ k2 ((PostG.bnd k2 post2).mono ?_)
  rintro ps _ H3 _ _ ⟨P3, e3, p3, k3, post3⟩ qs rq
  exact post_here post3 p3 e3 (e2.trans e3) (e1.trans (e2.trans e3)) ((x, y) :: qs) ⟨x, y, qs, rfl, k2.rep e3 (k1.rep e2 rx), k2.rep e3 ry, rq⟩
theorem x_dict0 : XE Ex X .v (.Dict [] [] pos) (dC (.dict [])) := ⟨_, pe_frz pe_dnewK, fun W A σ H env P Q k p q hq => ⟨q, [], rfl, upd_same, fun o => by
  have s := same_upd (o := .frz o (.dK [])) hq
  rw [upd_twice]
  exact post_ret p s k.pen (.ref q) (Rep.ofD ⟨⟨o, upd_same⟩, k.new hq⟩ rfl)⟩⟩
theorem x_disp (hg : XP Ex X pos ks vs g) (hall : ks.all (·.isSome) = true := by rfl) (hl : ks.length = vs.length := by rfl) (h0 : ks ≠ [] := by simp) (h15 : ks.length ≤ 15 := by decide) : XE Ex X .v (.Dict ks vs pos) (dDisp g) := by
  obtain ⟨tr, htr, qr⟩ := hg
  refine ⟨_, pe_frz (pe_disp htr hall hl h0 h15), fun W A σ H env P Q k p a ha => ?_⟩
  have s := same_upd (o := .dK []) ha
  have k' := k.avoid (o := .dK []) ha nt_dK
  have hA := k.new ha
  obtain ⟨_, np⟩ := k.none0 ha
  unfold dDisp at p
  have pb := PostG.bnd k p
  refine qr W (ad A a) σ _ env P _ k' ?_
  cases hm : g env P with
  | no => rw [hm] at pb; exact pb
  | ex c P1 =>
    rw [hm] at pb
    exact fun H2 e2 p2 => pb H2 ((HExt.of s).trans e2) p2
  | ok ps P1 =>
    rw [hm] at pb
    intro H2 e2 p2 qs rq
    have h2 : H2 a = some (.dK []) := e2.at upd_same (fun ⟨c, z⟩ => (np _ _ z).1 rfl) nt_dK
    have st : ∀ o, Stay (ad A a) A H2 (upd H2 a o) := fun o b u h _ n => ⟨(upd_ne (fun z => n (.inr z))).trans h, fun z => n (.inl z)⟩
    have e3 : ∀ o, HExt W.pa H (upd H2 a o) := fun o b u h n nt => by
      have hb : b ≠ a := fun z => by subst z; rw [ha] at h; cases h
      rw [upd_ne hb]
      exact e2 b u (s b u h) n nt
    have p3 : ∀ o, PenOk W.pa (upd H2 a o) P1 := fun o => ⟨fun p c z => by
      obtain ⟨q1, q2, q3⟩ := p2.1 p c z
      exact ⟨q1, by rw [upd_ne (np p c z).1.symm]; exact q2, by rw [upd_ne (np p c z).2.symm]; exact q3⟩, tabs_upd p2.2.1 (by rw [h2]; trivial), p2.2.2⟩
    cases hk : keysOf ps with
    | none =>
      obtain ⟨P3, f1, f2, f3, f4⟩ := pb _ (e3 (.dK [])) (p3 _)
      rw [hk] at f4
      exact f4.elim
    | some kds =>
      obtain ⟨kv, rfl, rk, hlen⟩ := rep_ps_keys rq hk
      obtain ⟨P3, f1, f2, f3, f4⟩ := pb _ (e3 (.dK (mergeK [] kv))) (p3 _)
      rw [hk] at f4
      by_cases h15' : kds.length ≤ 15
      · refine ⟨h2, kv, rfl, by omega, a, _, rfl, upd_same, fun o => ?_⟩
        rw [upd_twice]
        obtain ⟨P3, f1, f2, f3, f4⟩ := pb _ (e3 (.frz o (.dK (mergeK [] kv)))) (p3 _)
        rw [hk] at f4
        simp only [if_pos h15'] at f4
        refine post_here f4 f2 f1 (.ref a) (Rep.ofD ⟨⟨o, upd_same⟩, hA⟩ ?_)
        exact RepD.mono (st _) _ _ (RepD.merge rk (show RepD X.K (ad A a) H2 [] [] from rfl))
      · simp only [if_neg h15'] at f4
        exact f4.elim
end

/-! ### get, item, in -/
def mGet : D → List D → Option D
  | .dict kvs, [k] => if isErr kvs = true then none else (keyOf k).map fun q => (dGetK kvs q).getD .none
  | .dict kvs, [k, d] => if isErr kvs = true then none else (keyOf k).bind fun q => if plainD d then some ((dGetK kvs q).getD d) else none
  | _, _ => none
def rGetD : V → List V → Hp → VK → Prop := fun x xs H Q => ∃ a y o, x = .ref a ∧ DGet H a y o ∧ ((xs = [y] ∧ Q (o.getD .non) H) ∨ ∃ d, xs = [y, d] ∧ Q (o.getD d) H)
def dItem : D → D → Option D
  | .dict kvs, k => (keyOf k).bind fun q => dGetK kvs q
  | _, _ => none
section
variable {X : Cx} {K : PySem.W.Frag}
theorem mr_get (hu : X.A.units + 1 < cLine) : MtR X "dict.get" rGetD := by
  intro pins s σ H x xs v us Q I rx r h
  obtain ⟨a, y, o, rfl, g, h⟩ := h
  cases (show v = .ref a from rx)
  rcases h with ⟨rfl, q⟩ | ⟨d, rfl, q⟩
  · obtain ⟨u, rfl, ru⟩ := vals1 r
    exact d_get1 hu I g ru fun w' s3 I3 rw' => ⟨_, H, I3, rw', q⟩
  · cases r with
    | cons r1 r2 =>
      obtain ⟨u, rfl, ru⟩ := vals1 r2
      exact d_get2 hu I g r1 ru fun w' s3 I3 rw' => ⟨_, H, I3, rw', q⟩
theorem key_V {pa : PL} {A : AS} {H : Hp} {k : D} {q : Key} {v : V} (h : keyOf k = some q) (r : RepB K pa A H k v) : v = kV q := by
  rw [keyD_of h] at r
  cases q <;> exact r
theorem md_get : MethD K .v rGetD mGet := by
  intro W A σ H env P x vs dx ds d Q k rx rs h q
  cases dx with
  | dict kvs =>
    match ds, rs, h with
    | [], _, h => cases h
    | [dk], rs, h =>
      cases hE : isErr kvs with
      | true => rw [show mGet (.dict kvs) [dk] = if isErr kvs = true then none else (keyOf dk).map fun q => (dGetK kvs q).getD .none from rfl, if_pos hE] at h; cases h
      | false =>
      rw [show mGet (.dict kvs) [dk] = if isErr kvs = true then none else (keyOf dk).map fun q => (dGetK kvs q).getD .none from rfl, if_neg (by rw [hE]; exact Bool.false_ne_true)] at h
      obtain ⟨a, kv, rfl, l, rd⟩ := Rep.dk (show Rep K A H (.dict kvs) x from rx) hE
      obtain ⟨v, rfl, rv⟩ := one_arg rs
      obtain ⟨qk, hk, rfl⟩ := Option.map_eq_some_iff.mp (show ((keyOf dk).map fun q => (dGetK kvs q).getD .none) = some d from h)
      cases key_V hk rv
      obtain ⟨g1, g2⟩ := RepD.val (q := qk) rd
      refine ⟨a, _, _, rfl, dget_rd l.rd, .inl ⟨rfl, ?_⟩⟩
      cases hg : dGetK kvs qk with
      | none => rw [g2 hg]; rw [hg] at q; exact q _ H (Same.refl H) rfl
      | some d0 => obtain ⟨v0, e0, r0⟩ := g1 d0 hg; rw [e0]; rw [hg] at q; exact q _ H (Same.refl H) r0
    | [dk, dd], rs, h =>
      cases hE : isErr kvs with
      | true => rw [show mGet (.dict kvs) [dk, dd] = if isErr kvs = true then none else (keyOf dk).bind fun q => if plainD dd then some ((dGetK kvs q).getD dd) else none from rfl, if_pos hE] at h; cases h
      | false =>
      rw [show mGet (.dict kvs) [dk, dd] = if isErr kvs = true then none else (keyOf dk).bind fun q => if plainD dd then some ((dGetK kvs q).getD dd) else none from rfl, if_neg (by rw [hE]; exact Bool.false_ne_true)] at h
      obtain ⟨a, kv, rfl, l, rd⟩ := Rep.dk (show Rep K A H (.dict kvs) x from rx) hE
      obtain ⟨v, t, rfl, rv, rs⟩ := rs
      obtain ⟨v2, rfl, rv2⟩ := one_arg rs
      obtain ⟨qk, hk, h2⟩ := Option.bind_eq_some_iff.mp (show ((keyOf dk).bind fun q => if plainD dd then some ((dGetK kvs q).getD dd) else none) = some d from h)
      by_cases hp : plainD dd = true
      · rw [if_pos hp] at h2
        cases h2
        cases key_V hk rv
        obtain ⟨g1, g2⟩ := RepD.val (q := qk) rd
        refine ⟨a, _, _, rfl, dget_rd l.rd, .inr ⟨v2, rfl, ?_⟩⟩
        cases hg : dGetK kvs qk with
        | none => rw [g2 hg]; rw [hg] at q; exact q _ H (Same.refl H) (plainD_rep hp rv2)
        | some d0 => obtain ⟨v0, e0, r0⟩ := g1 d0 hg; rw [e0]; rw [hg] at q; exact q _ H (Same.refl H) r0
      · rw [if_neg hp] at h2; cases h2
    | _ :: _ :: _ :: _, _, h => simp [mGet] at h
  | _ => cases h
end
end Vl
end
section
set_option autoImplicit false
set_option maxRecDepth 100000
/-! V15: items of dicts, in dicts; written dicts of the module by their names. -/
namespace Vl
open PySem L2 PySem.W PySem.Calls PyProof.Rows

def dIxA : D → D → Option D
  | .dict kvs, k => if isErr kvs = true then none else dItem (.dict kvs) k
  | x, k => dIx x k
def rIxDK : R2 := fun x y H Q => ∃ a v, x = .ref a ∧ DGet H a y (some v) ∧ Q v H
def rIxA (K : PySem.W.Frag) : R2 := fun x y H Q => rIx K x y H Q ∨ rIxDK x y H Q
def dInA : D → D → Option D
  | k, .dict kvs => if isErr kvs = true then none else (keyOf k).map fun q => .bool (dGetK kvs q).isSome
  | x, y => dIn x y
def dNotInA (x y : D) : Option D := match dInA x y with
  | some (.bool c) => some (.bool (!c))
  | _ => none
def rInDK : R2 := fun x y H Q => ∃ a o, y = .ref a ∧ DGet H a x o ∧ Q (.bl o.isSome) H
def rNotInDK : R2 := fun x y H Q => ∃ a o, y = .ref a ∧ DGet H a x o ∧ Q (.bl (!o.isSome)) H
section
variable {X : Cx} {K : PySem.W.Frag}
theorem ix_dk (hu : X.A.units + 1 < cLine) : IxR X rIxDK := by
  intro value slice pins s σ H x y; intro v u Q I rx ry h hs
  obtain ⟨a, v0, rfl, g, q⟩ := h
  obtain rfl : v = Value.ref a := (rx)
  exact tail_any (dict_typeIs I g) slot_dict_getitem.lookup (d_getItem hu I g ry fun w' s' I' rw' => ⟨v0, H, I', rw', q⟩) hs
theorem ix_any (hu : X.A.units + 1 < cLine) : IxR X (rIxA X.K) := fun value slice pins s σ H x y v u Q I rx ry h hs => h.elim (fun h => ix_seq value slice pins s σ H x y v u Q I rx ry h hs) fun h => ix_dk hu value slice pins s σ H x y v u Q I rx ry h hs
theorem od_ixA : OpD K .v (rIxA K) dIxA := by
  intro W A σ H env P x y dx dy d Q k rx ry hg q
  cases dx with
  | dict kvs =>
    cases hE : isErr kvs with
    | true => rw [show dIxA (.dict kvs) dy = if isErr kvs = true then none else dItem (.dict kvs) dy from rfl, if_pos hE] at hg; cases hg
    | false =>
    rw [show dIxA (.dict kvs) dy = if isErr kvs = true then none else dItem (.dict kvs) dy from rfl, if_neg (by rw [hE]; exact Bool.false_ne_true)] at hg
    obtain ⟨a, kv, rfl, l, rd⟩ := Rep.dk (show Rep K A H (.dict kvs) x from rx) hE
    obtain ⟨qk, hk, h2⟩ := Option.bind_eq_some_iff.mp (show ((keyOf dy).bind fun q => dGetK kvs q) = some d from hg)
    cases key_V hk ry
    obtain ⟨v0, e0, r0⟩ := (RepD.val (q := qk) rd).1 d h2
    refine .inr ⟨a, v0, rfl, ?_, q _ H (Same.refl H) r0⟩
    rw [← e0]
    exact dget_rd l.rd
  | none | bool _ | int _ | str _ | list _ | tuple _ => exact .inl (od_ix W A σ H env P x y _ dy d Q k rx ry hg q)
theorem op_inDK (hu : X.A.units + 1 < cLine) : OpR X (compareOp .In) rInDK := by
  intro pins s σ H x y; intro v u Q I rx ry h
  obtain ⟨a, o, rfl, g, q⟩ := h
  obtain rfl : u = Value.ref a := (ry)
  exact d_in hu I g rx fun s' I' => ⟨.bl o.isSome, H, I', rfl, q⟩
theorem op_notinDK (hu : X.A.units + 1 < cLine) : OpR X (compareOp .NotIn) rNotInDK := by
  intro pins s σ H x y; intro v u Q I rx ry h
  obtain ⟨a, o, rfl, g, q⟩ := h
  obtain rfl : u = Value.ref a := (ry)
  exact d_notIn hu I g rx fun s' I' => ⟨.bl (!o.isSome), H, I', rfl, q⟩
theorem or_inA (hu : X.A.units + 65 < cLine) : OpR X (compareOp .In) (fun x y H Q => rInA X.K x y H Q ∨ rInDK x y H Q) := (or_in hu).or (op_inDK (by omega))
theorem or_notinA (hu : X.A.units + 65 < cLine) : OpR X (compareOp .NotIn) (fun x y H Q => rNotInA X.K x y H Q ∨ rNotInDK x y H Q) := (or_notin hu).or (op_notinDK (by omega))
theorem in_dict {W : Wd} {A : AS} {σ : L2.St} {H : Hp} {env : Env} {P : Pen} {x y : V} {dx d : D} {kvs : List (D × D)} (rx : RepB K W.pa A H dx x) (ry : RepB K W.pa A H (.dict kvs) y) (hg : dInA dx (.dict kvs) = some d) :
    ∃ a o, y = .ref a ∧ DGet H a x o ∧ d = .bool o.isSome := by
  cases hE : isErr kvs with
  | true => rw [show dInA dx (.dict kvs) = if isErr kvs = true then none else (keyOf dx).map fun q => PyData.bool (dGetK kvs q).isSome from rfl, if_pos hE] at hg; cases hg
  | false =>
  rw [show dInA dx (.dict kvs) = if isErr kvs = true then none else (keyOf dx).map fun q => PyData.bool (dGetK kvs q).isSome from rfl, if_neg (by rw [hE]; exact Bool.false_ne_true)] at hg
  obtain ⟨a, kv, rfl, l, rd⟩ := Rep.dk (show Rep K A H (.dict kvs) y from ry) hE
  obtain ⟨qk, hk, rfl⟩ := Option.map_eq_some_iff.mp (show ((keyOf dx).map fun q => PyData.bool (dGetK kvs q).isSome) = some d from hg)
  cases key_V hk rx
  obtain ⟨g1, g2⟩ := RepD.val (q := qk) rd
  refine ⟨a, _, rfl, dget_rd l.rd, ?_⟩
  cases hg : dGetK kvs qk with
  | none => rw [g2 hg]; rfl
  | some d0 => obtain ⟨v0, e0, r0⟩ := g1 d0 hg; rw [e0]; rfl
theorem od_inA : OpD K .v (fun x y H Q => rInA K x y H Q ∨ rInDK x y H Q) dInA := by
  intro W A σ H env P x y dx dy d Q k rx ry hg q
  cases dy with
  | dict kvs =>
    obtain ⟨a, o, rfl, g, rfl⟩ := in_dict (W := W) (σ := σ) (env := env) (P := P) rx ry hg
    exact .inr ⟨a, o, rfl, g, q _ H (Same.refl H) rfl⟩
  | none | bool _ | int _ | str _ | list _ | tuple _ => exact .inl (od_in W A σ H env P x y dx _ d Q k rx ry hg q)
theorem od_notinA : OpD K .v (fun x y H Q => rNotInA K x y H Q ∨ rNotInDK x y H Q) dNotInA := by
  intro W A σ H env P x y dx dy d Q k rx ry hg q
  cases dy with
  | dict kvs =>
    unfold dNotInA at hg
    cases hi : dInA dx (.dict kvs) with
    | none => rw [hi] at hg; cases hg
    | some e =>
      obtain ⟨a, o, rfl, g, rfl⟩ := in_dict (W := W) (σ := σ) (env := env) (P := P) rx ry hi
      rw [hi] at hg
      cases hg
      exact .inr ⟨a, o, rfl, g, q _ H (Same.refl H) rfl⟩
  | none | bool _ | int _ | str _ | list _ | tuple _ =>
    refine .inl (od_notin W A σ H env P x y dx _ d Q k rx ry ?_ q)
    unfold dNotInA at hg
    unfold dNotIn notD
    exact hg
end
section
variable {Ex : Str → Hp → Prop} {X : Cx} {pos p : Pos} {a b : Expr} {fa fb : Env → M D}
theorem x_ixA (hu : X.A.units + 1 < cLine) (ha : XE Ex X .b a fa) (hb : XE Ex X .b b fb) (hs : PlainIx b := by exact fun _ _ => rfl) : XE Ex X .v (.Subscript a b pos) (d2 dIxA fa fb) := by
  obtain ⟨ta, ha, qa⟩ := ha
  obtain ⟨tb, hb, qb⟩ := hb
  exact ⟨_, pe_ix (ix_any hu) ha hb hs, sd_op od_ixA qa qb⟩
end

/-! ### written dicts of the module, by their names -/
/-- at d stands a written dict of these texts and values -/
structure TabIs (K : PySem.W.Frag) (w : World) (d : Addr) (tb : List (Str × D)) : Prop where
  is : ∃ es n, KDict K w d es n
  val : ∀ z, ∃ o, PySem.W.nsIn K d z = some o ∧ match tb.lookup z with
    | none => o = none
    | some c => ∃ u v, o = some u ∧ RelV v u ∧ ∀ A H, Rep K A H c v
def EnT (K : PySem.W.Frag) : List DictEntry → List (Str × D) → Prop
  | [], [] => True
  | e :: l, (z, c) :: tb => (∃ t v, e.key = .str z t ∧ RelV v e.val ∧ ∀ A H, Rep K A H c v) ∧ EnT K l tb
  | _, _ => False
theorem EnT.find {K : PySem.W.Frag} {z : Str} : ∀ {l : List DictEntry} {tb : List (Str × D)}, EnT K l tb → match tb.lookup z with
    | none => l.find? (·.key.isStr z) = none
    | some c => ∃ e v, l.find? (·.key.isStr z) = some e ∧ RelV v e.val ∧ ∀ A H, Rep K A H c v
  | [], [], _ => rfl
  | e :: l, (y, c) :: tb, ⟨⟨t, v, hk, r, h⟩, q⟩ => by
    rw [List.lookup_cons]
    by_cases hz : z = y
    · subst hz
      rw [beq_self_eq_true]
      refine ⟨e, v, List.find?_cons_of_pos ?_, r, h⟩
      rw [hk]; simp [Value.isStr]
    · have hb : (z == y) = false := by simpa using hz
      have hn : ¬ e.key.isStr z = true := by rw [hk]; simp [Value.isStr]; exact fun e => hz e.symm
      rw [hb, List.find?_cons_of_neg (p := fun x : DictEntry => x.key.isStr z) hn]
      exact EnT.find (z := z) q
theorem EnT.noRef {K : PySem.W.Frag} : ∀ {l : List DictEntry} {tb : List (Str × D)}, EnT K l tb → l.any (·.refKey) = false
  | [], [], _ => rfl
  | e :: l, (y, c) :: tb, ⟨⟨t, v, hk, r, h⟩, q⟩ => by
    rw [List.any_cons, EnT.noRef q, Bool.or_false]
    unfold DictEntry.refKey
    rw [hk]
theorem TabIs.of {K : PySem.W.Frag} {w : World} {d : Addr} {es : Array DictEntry} {n : Nat} {tb : List (Str × D)} (D : KDict K w d es n) (h : EnT K es.toList tb) : TabIs K w d tb := by
  refine ⟨⟨es, n, D⟩, fun z => ?_⟩
  unfold PySem.W.nsIn
  rw [D.at_]
  have f := EnT.find (z := z) h
  dsimp only
  cases hl : tb.lookup z with
  | none =>
    rw [hl] at f
    simp only at f
    rw [f, EnT.noRef h]
    exact ⟨none, rfl, rfl⟩
  | some c =>
    rw [hl] at f
    obtain ⟨e, v, f1, f2, f3⟩ := f
    rw [f1]
    exact ⟨some e.val, rfl, e.val, v, rfl, f2, f3⟩
def dKIn (tb : List (Str × D)) (f : Env → M D) : Env → M D := fun env => bnd (f env) fun
  | .str z => ret (.bool (tb.lookup z).isSome)
  | _ => no
def dKItem (tb : List (Str × D)) (f : Env → M D) : Env → M D := fun env => bnd (f env) fun
  | .str z => orNo (tb.lookup z)
  | _ => no
def dKGet (tb : List (Str × D)) (f : Env → M D) (g : Env → M D) : Env → M D := fun env => bnd (f env) fun
  | .str z => bnd (g env) fun d => ret ((tb.lookup z).getD d)
  | _ => no
section
variable {Ex : Str → Hp → Prop} {X : Cx} {pos p apos cpos : Pos} {a b : Expr} {fa fb : Env → M D} {N : Str} {d : Addr} {tb : List (Str × D)}
theorem TabIs.some {K : PySem.W.Frag} {w : World} (T : TabIs K w d tb) {z : Str} {c : D} (h : tb.lookup z = some c) : ∃ u v, PySem.W.nsIn K d z = some (some u) ∧ RelV v u ∧ ∀ A H, Rep K A H c v := by
  obtain ⟨o, h1, h2⟩ := T.val z
  rw [h] at h2
  obtain ⟨u, v, rfl, h3, h4⟩ := h2
  exact ⟨u, v, h1, h3, h4⟩
theorem TabIs.isSome {K : PySem.W.Frag} {w : World} (T : TabIs K w d tb) (z : Str) : ∃ r, PySem.W.nsIn K d z = .some r ∧ r.isSome = (tb.lookup z).isSome := by
  obtain ⟨o, h1, h2⟩ := T.val z
  refine ⟨o, h1, ?_⟩
  cases h : tb.lookup z with
  | none => rw [h] at h2; cases h2; rfl
  | some c => rw [h] at h2; obtain ⟨u, v, rfl, _⟩ := h2; rfl
theorem x_kin (T : TabIs X.K X.w d tb) (ha : XE Ex X .b a fa) (hm : X.mg N = .some (.ref d)) (hg : Gl X N := by rfl) (hd : (N == ("__debug__" : Str)) = false := by decide) (hb : behindInMarks .In (.Name N p) = false := by rfl) : XE Ex X .v (.Compare a [.In] [.Name N p] pos) (dKIn tb fa) := by
  obtain ⟨ta, hta, qa⟩ := ha
  obtain ⟨es, n, K⟩ := T.is
  refine ⟨_, pe_cmpR (op_in_kd K) hta (pe_glob (v := .ref d) hg hm rfl hd) hb, fun W A σ H env P Q k p => ?_⟩
  refine qa W A σ H env P _ k ((PostG.bnd k p).mono ?_)
  rintro dx _ H1 _ _ ⟨P1, e1, p1, k1, post⟩ x rx
  cases dx with
  | str z =>
    cases (show x = .str z from rx)
    obtain ⟨r, h1, h2⟩ := T.isSome z
    refine ⟨z, r, rfl, rfl, h1, ?_⟩
    rw [h2]
    exact post_here post p1 e1 _ rfl
  | _ => exact post.elim
theorem x_kix (T : TabIs X.K X.w d tb) (ha : XE Ex X .b a fa) (hm : X.mg N = .some (.ref d)) (hg : Gl X N := by rfl) (hd : (N == ("__debug__" : Str)) = false := by decide) (hs : PlainIx a := by exact fun _ _ => rfl) : XE Ex X .v (.Subscript (.Name N p) a pos) (dKItem tb fa) := by
  obtain ⟨ta, hta, qa⟩ := ha
  obtain ⟨es, n, K⟩ := T.is
  refine ⟨_, pe_ix ix_kdict (pe_glob (v := .ref d) hg hm rfl hd) hta hs, fun W A σ H env P Q k p => ?_⟩
  refine qa W A σ H env P _ k ((PostG.bnd k p).mono ?_)
  rintro dx _ H1 _ _ ⟨P1, e1, p1, k1, post⟩ x rx
  cases dx with
  | str z =>
    cases (show x = .str z from rx)
    cases h : tb.lookup z with
    | none => simp only [h] at post; exact post.elim
    | some c =>
      simp only [h] at post
      obtain ⟨u, v, h1, h2, h3⟩ := T.some h
      exact ⟨d, z, v, rfl, rfl, ⟨es, n, u, K.at_, K.lit, h1, h2⟩, post_here post p1 e1 v (h3 _ _)⟩
  | _ => exact post.elim
/-- what d.get(y, x) of a written dict gives -/
def rKGet (K : PySem.W.Frag) (d : Addr) : V → List V → Hp → VK → Prop := fun x xs H Q => ∃ z r o v, x = .ref d ∧ xs = [.str z, r] ∧ PySem.W.nsIn K d z = some o ∧ (match o with | none => v = r | .some u => RelV v u) ∧ Q v H
theorem mr_kget {es : Array DictEntry} {n : Nat} (K : KDict X.K X.w d es n) : MtR X "dict.get" (rKGet X.K d) := by
  intro pins s σ H x xs v us Q I rx r h
  obtain ⟨z, r0, o, v0, rfl, rfl, h1, h2, q⟩ := h
  cases (show v = .ref d from rx)
  cases r with
  | cons r1 r2 =>
    obtain ⟨u, rfl, ru⟩ := vals1 r2
    obtain ⟨t, rfl⟩ := r1
    have hm := PySem.W.mapOf_K (prog := X.prog) (w := X.w) I.kIn K.at_ K.lit
    refine call_meetsIn PySem.F.slot_dict_get hm.typeIs PySem.F.entry_dict_get (PySem.F.args_dict_get_3 _ _ _) (meets_dict_get_default (strKind X.prog X.w) d (strKind_is X.prog X.w z t) K.low u) ⟨_, hm, ?_⟩
    rw [PySem.W.find_K K.at_ h1]
    refine ⟨v0, H, I.tok _, ?_, q⟩
    cases o with
    | none => cases h2; exact ru
    | some u0 => exact h2
theorem kd_ty {pins : List (Addr × Obj)} {σ : L2.St} {H : Hp} {s : Shared} {es : Array DictEntry} {n : Nat} (K : KDict X.K X.w d es n) (I : L2.Inv X pins σ H s) : s.TypeIs (.ref d) "dict" ∧ ∀ a, Value.ref d = .ref a → ∃ ob, s.heap.get? a = some ob ∧ ob.dict = none :=
  ⟨kd_type K I, fun a z => by cases z; exact ⟨_, I.kIn _ _ K.at_, rfl⟩⟩
theorem pe_kmeth {to : TE} {t : L2.TA} {o e : Expr} {es : List Expr} {id : String} {name : Str} {r : V → List V → Hp → VK → Prop} {es0 : Array DictEntry} {n : Nat} (K : KDict X.K X.w d es0 n) (slot : Slot "dict" name id) (hty : typeOf (.builtin id) = pure (.type "method_descriptor")) (hm : MtR X id r) (ho : PE X o to) (ha : PA X (e :: es) t)
    (hbase : attributeBase o name X.env (eval o X.env) = eval o X.env := by exact rfl)
    (hfew : ((backTo cpos (starEach (e :: es) X.env)).all (fun x => !x.1) && (backToKw cpos (keywordEach [] X.env)).all (fun x => x.1.isSome) && decide ((e :: es).length + ([] : List Keyword).length + (if ([] : List Keyword).isEmpty then 0 else 1) < 30)) = true := by rfl)
    (hline : (apos.endLine == cpos.line) = true := by exact rfl) (hs : starEach (e :: es) X.env = (false, eval e X.env) :: starEach es X.env := by rfl) (hplain : (backTo cpos (starEach es X.env)).any (·.1) = false := by rfl) :
    PE X (.Call (.Attribute o name apos) (e :: es) [] cpos) (fun σ H Q => to σ H fun x H1 => x = .ref d ∧ t σ H1 fun xs H2 => r x xs H2 Q) := by
  refine ⟨fun pins s σ H Q I h => wpAny_Call_method_late hbase hfew hline rfl (thn (ho.run pins s σ H _ I h) fun v s1 ⟨x, H1, I1, r1, ex, q1⟩ => ?_)⟩
  subst ex
  obtain rfl : v = Value.ref d := r1
  have hh := kd_ty K I1
  refine ⟨"dict", id, PySem.F.plainAttrs_dict, slot, hty, hh.1, hh.2, ?_⟩
  have hA := (ha.run cpos pins s1 σ H1 _ I1 q1)
  rw [hs] at hA ⊢
  refine Calls.callWith_builtin (show (false || (backTo cpos (starEach es X.env)).any (·.1)) = false by rw [hplain]; rfl) (Calls.evalArgs_plain (thn hA fun us s2 ⟨vs, H2, I2, r2, q2⟩ => ?_))
  exact hm pins s2 σ H2 (.ref d) vs (.ref d) us Q I2 rfl r2 q2
theorem x_kget (T : TabIs X.K X.w d tb) (ha : XE Ex X .b a fa) (hb : XE Ex X .v b fb) (hm : X.mg N = .some (.ref d)) (hg : Gl X N := by rfl) (hd : (N == ("__debug__" : Str)) = false := by decide)
    (hbase : attributeBase (.Name N p) "get" X.env (eval (.Name N p) X.env) = eval (.Name N p) X.env := by rfl)
    (hfew : ((backTo cpos (starEach [a, b] X.env)).all (fun x => !x.1) && (backToKw cpos (keywordEach [] X.env)).all (fun x => x.1.isSome) && decide (([a, b] : List Expr).length + ([] : List Keyword).length + (if ([] : List Keyword).isEmpty then 0 else 1) < 30)) = true := by rfl)
    (hline : (apos.endLine == cpos.line) = true := by rfl) (hs : starEach [a, b] X.env = (false, eval a X.env) :: starEach [b] X.env := by rfl) (hs2 : starEach [b] X.env = (false, eval b X.env) :: starEach [] X.env := by rfl) (hplain : (backTo cpos (starEach [b] X.env)).any (·.1) = false := by rfl) :
    XE Ex X .v (.Call (.Attribute (.Name N p) "get" apos) [a, b] [] cpos) (dKGet tb fa fb) := by
  obtain ⟨ta, hta, qa⟩ := ha
  obtain ⟨tb', htb, qb⟩ := hb
  obtain ⟨es, n, K⟩ := T.is
  refine ⟨_, pe_kmeth K PySem.F.slot_dict_get PySem.F.type_dict_get (mr_kget K) (pe_glob (v := .ref d) hg hm rfl hd) (pa_cons hta (pa_cons htb pa_nil hs2) hs) hbase hfew hline hs hplain, fun W A σ H env P Q k p => ⟨rfl, ?_⟩⟩
  refine qa W A σ H env P _ k ((PostG.bnd k p).mono ?_)
  rintro dx _ H1 _ _ ⟨P1, e1, p1, k1, post⟩ x rx
  cases dx with
  | str z =>
    cases (show x = .str z from rx)
    refine qb W A σ H1 env P1 _ k1 ((PostG.bnd k1 post).mono ?_)
    rintro dy _ H2 _ _ ⟨P2, e2, p2, k2, post2⟩ y ry
    obtain ⟨o, h1, h2⟩ := T.val z
    cases h : tb.lookup z with
    | none =>
      rw [h] at h2 post2
      cases h2
      exact ⟨z, y, _, y, rfl, rfl, h1, rfl, post_here post2 p2 e2 (e1.trans e2) y ry⟩
    | some c =>
      rw [h] at h2 post2
      obtain ⟨u, v, rfl, h3, h4⟩ := h2
      exact ⟨z, y, _, v, rfl, rfl, h1, h3, post_here post2 p2 e2 (e1.trans e2) v (h4 _ _)⟩
  | _ => exact post.elim
end
end Vl
end
section
set_option autoImplicit false
set_option maxRecDepth 100000
/-! V16: xs[::-1]; isinstance with a written row of classes; methods whatever the receiver's type; count. -/
namespace Vl
open PySem L2 PySem.W PySem.Calls PyProof.Rows

section
variable {prog : Program} {w : World} {A : Around} {E : Value → Shared → Prop} { s : Shared }
theorem places_rev (n : Nat) : Builtin.Slice.slicePlaces ((n : Int) - 1) (-1) (-1) = n := by
  (unfold Builtin.Slice.slicePlaces)
  have h1 : (¬ ((-1 : Int) > 0)) := by decide
  simp only [h1, if_false]
  by_cases h : ((n : Int) - 1 > -1)
  · rw [if_pos h]
    have : ((n : Int) - 1 - -1 - 1) / (- -1) = (n : Int) - 1 := by
      rw [show (- -1 : Int) = 1 by decide, Int.ediv_one]; omega
    rw [this]; omega
  · rw [if_neg h]; omega
theorem sliceApplied_rev {sl : Addr} {vk : Value} {n : Nat} {Q : Int × Int × Nat → Shared → Prop} (slc : s.heap.IsSliceOf sl .none .none vk) (prt : IsPart vk (some (-1)))
    (h : Q ((n : Int) - 1, -1, n) s) : wpAny (model prog w) A (Builtin.Slice.sliceApplied (.ref sl) (pure (n : Int))) Q E s := by
  obtain ⟨osl, osg, osc, osd⟩ := id slc
  unfold Builtin.Slice.sliceApplied; unfold Builtin.Slice.sliceFields
  refine wpAny_bind (wpAny_bind (wpAny_field osg osd (x := .none) rfl (wpAny_bind (wpAny_field osg osd (x := .none) rfl (wpAny_bind (wpAny_field osg osd (x := vk) rfl (wpAny_pure ?_)))))))
  refine wpAny_bind (HT.slicePart_ prt ?_)
  show wpAny _ _ (if ((-1 : Int) == 0) = true then _ else _) _ _ s
  rw [if_neg (by decide)]
  refine wpAny_bind (HT.slicePart_ .none (wpAny_bind (HT.slicePart_ .none (wpAny_bind (wpAny_pure ?_)))))
  show wpAny _ _ (pure ((n : Int) - 1, (-1 : Int), Builtin.Slice.slicePlaces ((n : Int) - 1) (-1) (-1))) _ _ s
  rw [places_rev]
  exact wpAny_pure h
theorem pick_revT (xs : Array Value) : ((List.range xs.size).filterMap fun (k : Nat) => xs[((xs.size : Int) - 1 + (k : Int) * (-1)).toNat]?).toArray = xs.toList.reverse.toArray := by
  have h := krv_pick xs
  unfold slicePick at h
  rw [krv_bounds] at h
  have h' : ((sliceRange ((xs.size : Int) - 1) (-1) (-1)).filterMap (xs[·]?)).toArray = xs.toList.reverse.toArray := h
  rw [krv_sliceRange, List.filterMap_map] at h'
  rw [← h']
  congr 1
  have go : ∀ l : List Nat, (∀ k ∈ l, k < xs.size) → l.filterMap (fun (k : Nat) => xs[((xs.size : Int) - 1 + (k : Int) * (-1)).toNat]?) = l.filterMap ((fun x => xs[x]?) ∘ fun k => xs.size - 1 - k) := by
    intro l
    induction l with
    | nil => intro _; rfl
    | cons k l ih =>
      intro h
      have hk := h k List.mem_cons_self
      have e : ((xs.size : Int) - 1 + (k : Int) * (-1)).toNat = xs.size - 1 - k := by omega
      rw [List.filterMap_cons, List.filterMap_cons, ih fun j hj => h j (List.mem_cons_of_mem _ hj), e]
      rfl
  exact go _ fun k hk => List.mem_range.mp hk
theorem getItem_tuple_rev {t sl : Addr} {items : Array Value} {vk : Value} {Q : Value → Shared → Prop} (tup : IsTup s.heap t items) (slc : s.heap.IsSliceOf sl .none .none vk) (prt : IsPart vk (some (-1)))
    (h : Q (.ref s.heap.objs.size) { s with heap := s.heap.push { cls := .type "tuple", data := .seq items.toList.reverse.toArray } }) (hsz : items.size ≤ sizeLine) : wpAny (model prog w) A (getItem (.ref t) (.ref sl)) Q E s := by
  have takn : sizeOk (.seq items.toList.reverse.toArray) := by
    show items.toList.reverse.toArray.size ≤ sizeLine
    rw [List.size_toArray, List.length_reverse, Array.length_toList]
    exact hsz
  obtain ⟨osl, osg, osc, osd⟩ := id slc
  have tyS : s.TypeIs (.ref sl) "slice" := ⟨osl, osg, osc⟩
  unfold getItem
  (try with_reducible refine wpAny_holding ?_)
  (try refine wpAny_bind (wpAny_pure ?_))
  refine wpAny_bind (wpAny_sequenceKey tup.typeIs (by decide) ?_)
  refine wpAny_bind (wpAny_callSpecial?_slot (name := Str.ofString "__getitem__") tup.typeIs PyProof.Rows.slot_tuple_getitem
    (wpAny_call_entry PyProof.Rows.slot_tuple_getitem tup.typeIs entry_tuple_getitem ?_ (args_tuple_getitem _ _)))
  show (wpAny _ _ (Builtin.Tuple.tupleItemsOf (.ref t) >>= _) _ _ s)
  refine wpAny_bind (tupleItemsOf_ tup ?_)
  refine wpAny_bind (wpAny_typeOf tyS ?_)
  rw [if_pos (by decide)]
  refine wpAny_bind (sliceApplied_rev slc prt ?_)
  have nop : ¬ ((((items.size : Int) - 1) == 0 && (-1 : Int) == 1 && items.size == items.size) = true) := by
    intro q
    rw [Bool.and_eq_true] at q; rw [Bool.and_eq_true] at q
    exact absurd q.1.2 (by decide)
  show wpAny _ _ (if (((items.size : Int) - 1) == 0 && (-1 : Int) == 1 && items.size == items.size) = true then _ else _) _ _ s
  rw [if_neg nop, pick_revT]
  first
    | exact wpAny_bind (m := Builtin.Tuple.tupleExact _) (wpAny_newObj_type (wpAny_pure ⟨_, rfl, wpAny_pure h⟩) takn)
    | exact wpAny_bind (m := Builtin.Tuple.tupleExact _) (wpAny_newObj_type (wpAny_bind (wpAny_pure (wpAny_pure ⟨_, rfl, wpAny_pure h⟩))) takn)
    | exact wpAny_bind (wpAny_bind (m := Builtin.Tuple.tupleExact _) (wpAny_newObj_type (wpAny_pure (wpAny_pure ⟨_, rfl, wpAny_pure h⟩)) takn))
    | exact wpAny_bind (wpAny_bind (m := Builtin.Tuple.tupleExact _) (wpAny_newObj_type (wpAny_pure ⟨_, rfl, wpAny_pure h⟩) takn))
end

/-! ### xs[::-1] -/
def rRev (K : PySem.W.Frag) : V → Hp → VK → Prop := fun x H Q => (∃ a xs, x = .ref a ∧ SqL K H a xs ∧ ∀ p, H p = none → Q (.ref p) (upd H p (.lst xs.reverse))) ∨ (∃ a xs, x = .ref a ∧ SqT K H a xs ∧ nT xs.reverse H Q) ∨
  ∃ z : Str, x = .str z ∧ z.length ≤ sizeLine ∧ Q (.str (Txt.sliceBy z none none (-1, (0 : Tok)))) H
def dRev : D → Option D
  | .list xs => some (.list xs.reverse)
  | .tuple xs => some (.tuple xs.reverse)
  | .str z => if z.length ≤ 16777216 then some (.str (Txt.sliceBy z none none (-1, (0 : Tok)))) else none
  | _ => none
def d1 (g : D → Option D) (f : Env → M D) : Env → M D := fun env => bnd (f env) fun d => orNo (g d)
theorem sliceBy_tok (z : Str) (u : Tok) : Txt.sliceBy z none none (-1, u) = Txt.sliceBy z none none (-1, (0 : Tok)) := rfl
theorem pe_revA {X : Cx} {e : Expr} {te : TE} {k : Nat} {p1 p2 p3 pos : Pos} (he : PE X e te) : PE X (.Subscript e (.Slice none none (some (.UnaryOp .USub (.Constant (.int 1) k p1) p2)) p3) pos) (fun σ H Q => te σ H fun x H1 => rRev X.K x H1 Q) := by
  refine ⟨fun pins s σ H Q iv h => ?_⟩
  refine Subscript_ (thn (he.run pins s σ H _ iv h) fun v s1 ⟨x, H1, iv1, r1, q⟩ => ?_)
  have stp : PO X (some (.UnaryOp .USub (.Constant (.int 1) k p1) p2)) (tPart (tUn (rU fun i => .int (-i)) (tC (.int 1)))) := po_some (pe_un un_neg pe_int)
  refine wpAny_Slice (thn (po_none.run pins s1 σ H1 (fun o H2 => o = none ∧ H2 = H1) iv1 ⟨rfl, rfl⟩) fun vl s2 ⟨l, H2, iv2, pl, el, e2⟩ => ?_)
  subst el e2
  refine thn (po_none.run pins s2 σ H2 (fun o H3 => o = none ∧ H3 = H2) iv2 ⟨rfl, rfl⟩) fun vu s3 ⟨u, H3, iv3, pu, eu, e3⟩ => ?_
  subst eu e3
  refine thn (stp.run pins s3 σ H3 (fun o H4 => o = some (-1) ∧ H4 = H3) iv3 ⟨1, rfl, -1, rfl, rfl, rfl⟩) fun vs s4 ⟨o, H4, iv4, ps, eo, e4⟩ => ?_
  subst eo e4
  have iv5 : L2.Inv X pins σ H4 { s4 with heap := s4.heap.push { cls := .type "slice", data := .fields #[vl, vu, vs] } } := iv4.kept (t' := s4.toks) fun b ob q => Heap.get?_push_of_some _ q
  show wpAny (model X.prog X.w) X.A (subscriptTail e (.Slice none none (some (.UnaryOp .USub (.Constant (.int 1) k p1) p2)) p3) v (.ref s4.heap.objs.size)) (EP X pins σ Q) X.xe { s4 with heap := s4.heap.push { cls := .type "slice", data := .fields #[vl, vu, vs] } }
  cases pl
  cases pu
  rcases q with ⟨a, xs, rfl, hx, q⟩ | ⟨a, xs, rfl, hx, q⟩ | ⟨z, rfl, szz, q⟩
  · cases r1
    obtain ⟨itz, r, tup, szz⟩ := iv5.list hx
    have lnn := r.length
    refine tail_any (ops := [.ref a, .ref s4.heap.objs.size]) tup.isList.typeIs (PySem.slot_list_getitem.lookup) ?_ (by with_unfolding_all rfl)
    refine wpAny_getItem_list_slice tup.isList (Heap.IsSliceOf.new _ .none .none vs) .none .none ps (by decide) ?_ (by rw [List.size_toArray]; omega)
    rw [PySem.W.krv_pick]
    refine ⟨.ref _, _, iv5.laid (t' := s4.toks) (o := .lst xs.reverse) (fun b ob q => Heap.get?_push_of_some _ q) (Nat.le_refl _) ?_, rfl, q _ (iv5.hok.fresh (Nat.le_refl _))⟩
    exact ⟨by rw [List.length_reverse]; exact szz, _, 0, r.reverse, Heap.get?_push_size _ rfl⟩
  · cases r1
    obtain ⟨itz, r, tup, szz⟩ := iv5.tuple hx
    have lnn := r.length
    refine tail_any (ops := [.ref a, .ref s4.heap.objs.size]) tup.typeIs (PyProof.Rows.slot_tuple_getitem.lookup) ?_ (by with_unfolding_all rfl)
    refine getItem_tuple_rev tup (Heap.IsSliceOf.new _ .none .none vs) ps ?_ (by rw [List.size_toArray]; omega)
    exact frz_ok iv5 (by rw [List.length_reverse]; exact szz) r.reverse (fun _ _ e => e) q
  · obtain ⟨t, rfl⟩ := r1
    obtain ⟨l, rfl, hl⟩ := IsPart.raw ps
    obtain ⟨u, rfl⟩ : ∃ u, l = some ((-1 : Int), u) := by
      cases l with
      | none => cases hl
      | some j =>
        obtain ⟨j1, j2⟩ := j
        have e : j1 = (-1 : Int) := by simpa using hl
        exact ⟨j2, by rw [e]⟩
    obtain ⟨osl, osg, osc, osd⟩ := Heap.IsSliceOf.new s4.heap .none .none (partValue (some ((-1 : Int), u)))
    refine tail_any (ops := [.str z t, .ref s4.heap.objs.size]) (typeIs_str _ _ _) (PySem.F.slot_str_getitem.lookup) ?_ (by with_unfolding_all rfl)
    refine wpAny_getItem_str_slice (l := none) (u := none) (st := some (-1, u)) ⟨osl, osg, osc, osd⟩ rfl ?_
    have lnn : (Txt.sliceBy z none none (-1, u)).length ≤ sizeLine := by rw [step_rev_len]; exact szz
    rw [← sliceBy_tok z u] at q
    unfold Txt.sliceBy at q lnn
    unfold sliceMade
    by_cases c : (((some ((-1 : Int), u)).map (·.1)).getD 1 == 1 && (slicePicked z none none (some (-1, u))).length == z.length) = true
    · rw [if_pos c] at q ⊢
      exact ⟨.str z, H4, iv5, ⟨t, rfl⟩, q⟩
    · rw [if_neg c] at q lnn ⊢
      exact ⟨lnn, .str _, H4, iv5.tok _, ⟨_, rfl⟩, q⟩
section
variable {Ex : Str → Hp → Prop} {X : Cx} {e a : Expr} {f fa : Env → M D} {pos : Pos}
theorem x_rev {k : Nat} {p1 p2 p3 : Pos} (h : XE Ex X .b e f) : XE Ex X .v (.Subscript e (.Slice none none (some (.UnaryOp .USub (.Constant (.int 1) k p1) p2)) p3) pos) (d1 dRev f) := by
  obtain ⟨te, hte, qe⟩ := h
  refine ⟨_, pe_revA hte, fun W A σ H env P Q k p => ?_⟩
  refine qe W A σ H env P _ k ((PostG.bnd k p).mono ?_)
  rintro d _ H1 _ _ ⟨P1, e1, p1, k1, post⟩ x rx
  obtain ⟨d', hd, post2⟩ := post_orNo post
  cases d with
  | list xs =>
    cases hd
    obtain ⟨a, vs, rfl, l, r⟩ := rx
    refine .inl ⟨a, vs, rfl, l.sq, fun p hp => ?_⟩
    have s := same_upd (o := .lst vs.reverse) hp
    exact post_ret post2 s p1 (e1.trans (HExt.of s)) (.ref p) ⟨p, _, rfl, ⟨upd_same, k1.new hp⟩, k1.reps (HExt.of s) r.reverse⟩
  | tuple xs =>
    cases hd
    obtain ⟨a, vs, rfl, l, r⟩ := rx
    exact .inr (.inl ⟨a, vs, rfl, l.sq, nT_rep k1 r.reverse fun v H2 s rv => post_ret post2 s p1 (e1.trans (HExt.of s)) v rv⟩)
  | str z =>
    change (if z.length ≤ 16777216 then some (PyData.str (Txt.sliceBy z none none (-1, (0 : Tok)))) else none) = some d' at hd
    by_cases hl : z.length ≤ 16777216
    · rw [if_pos hl] at hd
      cases hd
      exact .inr (.inr ⟨z, rx, line_le hl, post_here post2 p1 e1 _ rfl⟩)
    · rw [if_neg hl] at hd; cases hd
  | _ => cases hd
end
end Vl
end
section
set_option autoImplicit false
set_option maxRecDepth 100000
/-! V17: isinstance with a written row of classes; methods whatever the receiver's type; count. -/
namespace Vl
open PySem L2 PySem.W PySem.Calls PyProof.Rows PySem.SeqAt

/-- built-in types, each by its name -/
def XTy (X : Cx) (es : List Expr) (Ts : List String) : Prop := ∃ t, PA X es t ∧ ∀ σ H Q, Q (Ts.map V.ty) H → t σ H Q
section
variable {Ex : Str → Hp → Prop} {X : Cx} {pos p p2 : Pos} {e : Expr} {es : List Expr} {fa : Env → M D} {x c : Str} {T : String} {Ts : List String}
theorem xty_nil : XTy X [] [] := ⟨_, pa_nil, fun σ H Q q => q⟩
theorem xty_cons (h : XTy X es Ts) (hmT : X.mg c = none) (hvT : bootBuiltins c = some (.type T)) (hgT : Gl X c := by rfl) (hnT : c ≠ "__name__" := by decide) (hdbT : (c == ("__debug__" : Str)) = false := by decide)
    (hs : starEach (.Name c p2 :: es) X.env = (false, eval (.Name c p2) X.env) :: starEach es X.env := by rfl) : XTy X (.Name c p2 :: es) (T :: Ts) := by
  obtain ⟨t, ht, q⟩ := h
  exact ⟨_, pa_cons (pe_bltn (v := .ty T) hgT hmT hvT rfl hnT hdbT) ht hs, fun σ H Q r => q σ H _ r⟩
theorem clsTys : ∀ Ts : List String, Paired ClsV (Ts.map V.ty) (Ts.map Value.type)
  | [] => .nil
  | T :: Ts => .cons (.ty T) (clsTys Ts)
theorem x_isiT {k : Nat} {tpos : Pos} (ha : XE Ex X .b e fa) (hes : XTy X es Ts) (hT : ∀ T ∈ Ts, T ∈ tyNames) (hl : Ts.length ≤ 16777216) (hm : X.mg x = none) (hv : bootBuiltins x = some (.builtin "isinstance")) (hg : Gl X x := by rfl) (hn : x ≠ "__name__" := by decide)
    (hdb : ((x == ("__debug__" : Str))) = false := by decide) (h1 : starEach [e, .Tuple es k tpos] X.env = (false, eval e X.env) :: starEach [.Tuple es k tpos] X.env := by rfl)
    (h2 : starEach [Expr.Tuple es k tpos] X.env = (false, eval (.Tuple es k tpos) X.env) :: starEach [] X.env := by rfl) (hpl : (backTo pos (starEach [Expr.Tuple es k tpos] X.env)).any (·.1) = false := by rfl) :
    XE Ex X .v (.Call (.Name x p) [e, .Tuple es k tpos] [] pos) (dIsiT Ts fa) := by
  obtain ⟨t, ht, q⟩ := ha
  obtain ⟨ts, hts, qs⟩ := hes
  refine ⟨_, pe_callB call_isiT hg hm hv (pa_cons ht (pa_cons (pe_tup hts) pa_nil h2) h1) hn hdb h1 hpl, fun W A σ H env P Q k p => ?_⟩
  refine q W A σ H env P _ k ((PostG.bnd k p).mono ?_)
  rintro d _ H1 _ _ ⟨P1, e1, p1, k1, post⟩ v r
  change PostG Ex W.pa H1 ((if topE d = true then no else ret (PyData.bool (Ts.any fun T => isD T d))) P1) _ at post
  cases hE : topE d with
  | true => rw [if_pos hE] at post; exact post.elim
  | false =>
  rw [if_neg (by rw [hE]; exact Bool.false_ne_true)] at post
  refine qs σ H1 _ ⟨line_le (by rw [List.length_map]; exact hl), fun a hn => ?_⟩
  have s := same_upd (o := .tup (Ts.map V.ty)) hn
  have r' : RepB X.K W.pa A (upd H1 a (.tup (Ts.map V.ty))) d v := RepB.ext k1 (HExt.of s) r
  exact ⟨v, a, _, _, _, _, rfl, upd_same, clsTys Ts, ty_of r' hE, kit_any d Ts hT, post_ret post s p1 (e1.trans (HExt.of s)) _ rfl⟩
end

/-! ### methods, the receiver's type found when it is there -/
structure Mt (X : Cx) (name : Str) (T : String) (r : V → List V → Hp → VK → Prop) : Prop where
  pa : PlainAttrs T
  ex : ∃ id, Slot T name id ∧ typeOf (.builtin id) = pure (.type "method_descriptor") ∧ MtR X id r
def tBA (X : Cx) (name : Str) (to : TE) (t : L2.TA) : TE := fun σ H Q => to σ H fun x H1 => ∃ T r, Mt X name T r ∧ tyW X.K T x H1 ∧ t σ H1 fun xs H2 => r x xs H2 Q
def tBA0 (X : Cx) (name : Str) (to : TE) : TE := fun σ H Q => to σ H fun x H1 => ∃ T r, Mt X name T r ∧ tyW X.K T x H1 ∧ r x [] H1 Q
section
variable {X : Cx} {o e : Expr} {es : List Expr} {to : TE} {t : L2.TA} {name : Str} {apos cpos : Pos}
theorem pe_ba0 (ho : PE X o to) (hbase : attributeBase o name X.env (eval o X.env) = eval o X.env := by rfl) (hline : (apos.endLine == cpos.line) = true := by rfl) : PE X (.Call (.Attribute o name apos) [] [] cpos) (tBA0 X name to) := by
  refine ⟨fun pins s σ H Q I h => wpAny_Call_method0_late hbase hline (thn (ho.run pins s σ H _ I h) fun v s1 ⟨x, H1, I1, r1, T, r, ⟨pa, id, slot, hty, hm⟩, ty, q1⟩ => ?_)⟩
  have hh := tyW_is I1 r1 ty
  exact ⟨T, id, pa, slot, hty, hh.1, hh.2, Calls.callWith_builtin rfl (PySem.evalArgs_none (hm pins s1 σ H1 x [] v [] Q I1 r1 .nil q1))⟩
theorem pe_ba (ho : PE X o to) (ha : PA X (e :: es) t)
    (hbase : attributeBase o name X.env (eval o X.env) = eval o X.env := by exact rfl)
    (hfew : ((backTo cpos (starEach (e :: es) X.env)).all (fun x => !x.1) && (backToKw cpos (keywordEach [] X.env)).all (fun x => x.1.isSome) && decide ((e :: es).length + ([] : List Keyword).length + (if ([] : List Keyword).isEmpty then 0 else 1) < 30)) = true := by rfl)
    (hline : (apos.endLine == cpos.line) = true := by exact rfl) (hs : starEach (e :: es) X.env = (false, eval e X.env) :: starEach es X.env := by rfl) (hplain : (backTo cpos (starEach es X.env)).any (·.1) = false := by rfl) :
    PE X (.Call (.Attribute o name apos) (e :: es) [] cpos) (tBA X name to t) := by
  refine ⟨fun pins s σ H Q I h => wpAny_Call_method_late hbase hfew hline rfl (thn (ho.run pins s σ H _ I h) fun v s1 ⟨x, H1, I1, r1, T, r, ⟨pa, id, slot, hty, hm⟩, ty, q1⟩ => ?_)⟩
  have hh := tyW_is I1 r1 ty
  refine ⟨T, id, pa, slot, hty, hh.1, hh.2, ?_⟩
  have hA := (ha.run cpos pins s1 σ H1 _ I1 q1)
  rw [hs] at hA ⊢
  refine Calls.callWith_builtin (show (false || (backTo cpos (starEach es X.env)).any (·.1)) = false by rw [hplain]; rfl) (Calls.evalArgs_plain (thn hA fun us s2 ⟨vs, H2, I2, r2, q2⟩ => ?_))
  exact hm pins s2 σ H2 x vs v us Q I2 r1 r2 q2
end
abbrev Ms := String → Option (D → List D → Option D)
def dMA (ms : Ms) (fo : Env → M D) (fs : Env → M (List D)) : Env → M D := fun env => bnd (fo env) fun dx => match ms (tyM dx) with
  | some g => bnd (fs env) fun ds => orNo (g dx ds)
  | none => no
/-- the methods of this name keep what the table says -/
def MsOk (X : Cx) (name : Str) (kd : Kd) (ms : Ms) : Prop := ∀ T g, ms T = some g → (T = "str" ∨ T = "list" ∨ T = "tuple" ∨ T = "dict") ∧ ∃ r, Mt X name T r ∧ MethD X.K kd r g
section
variable {Ex : Str → Hp → Prop} {X : Cx} {o e : Expr} {es : List Expr} {fo : Env → M D} {fs : Env → M (List D)} {name : Str} {apos cpos : Pos} {ms : Ms} {kd : Kd}
theorem x_ma (hm : MsOk X name kd ms) (ho : XE Ex X .b o fo) (ha : XB Ex X (e :: es) fs)
    (hbase : attributeBase o name X.env (eval o X.env) = eval o X.env := by exact rfl)
    (hfew : ((backTo cpos (starEach (e :: es) X.env)).all (fun x => !x.1) && (backToKw cpos (keywordEach [] X.env)).all (fun x => x.1.isSome) && decide ((e :: es).length + ([] : List Keyword).length + (if ([] : List Keyword).isEmpty then 0 else 1) < 30)) = true := by rfl)
    (hline : (apos.endLine == cpos.line) = true := by exact rfl) (hs : starEach (e :: es) X.env = (false, eval e X.env) :: starEach es X.env := by rfl) (hplain : (backTo cpos (starEach es X.env)).any (·.1) = false := by rfl) :
    XE Ex X kd (.Call (.Attribute o name apos) (e :: es) [] cpos) (dMA ms fo fs) := by
  obtain ⟨to, hto, qo⟩ := ho
  obtain ⟨t, ht, q⟩ := ha
  refine ⟨_, pe_ba hto ht hbase hfew hline hs hplain, fun W A σ H env P Q k p => ?_⟩
  refine qo W A σ H env P _ k ((PostG.bnd k p).mono ?_)
  rintro dx _ H1 _ _ ⟨P1, e1, p1, k1, post⟩ x rx
  cases hg : ms (tyM dx) with
  | none => rw [hg] at post; exact post.elim
  | some g =>
    rw [hg] at post
    obtain ⟨hT, r, hmt, hr⟩ := hm _ _ hg
    refine ⟨tyM dx, r, hmt, ty_w' hT rfl rx, ?_⟩
    refine q W A σ H1 env P1 _ k1 ((PostG.bnd k1 post).mono ?_)
    rintro ds _ H2 _ _ ⟨P2, e2, p2, k2, post2⟩ vs rs
    obtain ⟨d, hd, post3⟩ := post_orNo post2
    refine hr W A σ H2 env P2 x vs dx ds d Q k2 (RepB.ext k1 e2 rx) rs hd fun v H3 s hv => ?_
    exact post_ret post3 s p2 (e2.trans (HExt.of s)) (e1.trans (e2.trans (HExt.of s))) v (rel_back k.pen (e1.trans e2) p2 hv)
theorem x_ma0 (hm : MsOk X name kd ms) (ho : XE Ex X .b o fo)
    (hbase : attributeBase o name X.env (eval o X.env) = eval o X.env := by rfl) (hline : (apos.endLine == cpos.line) = true := by rfl) : XE Ex X kd (.Call (.Attribute o name apos) [] [] cpos) (dMA ms fo aNil) := by
  obtain ⟨to, hto, qo⟩ := ho
  refine ⟨_, pe_ba0 hto hbase hline, fun W A σ H env P Q k p => ?_⟩
  refine qo W A σ H env P _ k ((PostG.bnd k p).mono ?_)
  rintro dx _ H1 _ _ ⟨P1, e1, p1, k1, post⟩ x rx
  cases hg : ms (tyM dx) with
  | none => rw [hg] at post; exact post.elim
  | some g =>
    rw [hg] at post
    obtain ⟨hT, r, hmt, hr⟩ := hm _ _ hg
    refine ⟨tyM dx, r, hmt, ty_w' hT rfl rx, ?_⟩
    obtain ⟨d, hd, post3⟩ := post_orNo (show PostG Ex W.pa H1 (orNo (g dx []) P1) _ from post)
    refine hr W A σ H1 env P1 x [] dx [] d Q k1 rx rfl hd fun v H3 s hv => ?_
    exact post_ret post3 s p1 (e1.trans (HExt.of s)) v (rel_back k.pen e1 p1 hv)
end

/-! ### count of a list, of a tuple -/
def mCountL : D → List D → Option D
  | .list xs, [d] => if PyData.plainAll xs = true ∧ d.plain = true ∧ d.depth ≤ 60 then some (.int ((xs.countP fun y => PyData.eqv y d : Nat) : Int)) else none
  | _, _ => none
def mCountT : D → List D → Option D
  | .tuple xs, [d] => if PyData.plainAll xs = true ∧ d.plain = true ∧ d.depth ≤ 60 then some (.int ((xs.countP fun y => PyData.eqv y d : Nat) : Int)) else none
  | _, _ => none
def rCountS (K : PySem.W.Frag) (mk : List D → D) : V → List V → Hp → VK → Prop := fun x xs H Q => ∃ ds d y A A', xs = [y] ∧ Rep K A H (mk ds) x ∧ Rep K A' H d y ∧ PyData.plainAll ds = true ∧ d.plain = true ∧ d.depth ≤ 60 ∧
  Q (.int ((ds.countP fun y => PyData.eqv y d : Nat) : Int)) H
mutual
theorem ne_plain : ∀ d : D, d.plain = true → neD d = true
  | .none, _ => rfl
  | .bool _, _ => rfl
  | .int _, _ => rfl
  | .str _, _ => rfl
  | .list xs, h => by rw [neD]; exact ne_plainL xs h
  | .tuple xs, h => by rw [neD]; exact ne_plainL xs h
  | .dict _, h => nomatch h
theorem ne_plainL : ∀ ds : List D, PyData.plainAll ds = true → neL ds = true
  | [], _ => rfl
  | d :: ds, h => by
    have h2 : d.plain = true ∧ PyData.plainAll ds = true := Bool.and_eq_true _ _ ▸ (show (d.plain && PyData.plainAll ds) = true from h)
    rw [neL, ne_plain d h2.1, ne_plainL ds h2.2]
    rfl
end
section
variable {X : Cx} {K : PySem.W.Frag}
theorem mr_countL (hu : X.A.units + 65 < cLine) : MtR X "list.count" (rCountS X.K .list) := by
  intro pins s σ H x xs v us Q I rx r h
  obtain ⟨ds, d, y, A, A', rfl, hx, hy, h1, h2, h3, q⟩ := h
  obtain ⟨u, rfl, ru⟩ := (vals1 r)
  obtain ⟨a, vs, rfl, l, rs⟩ := hx
  cases rx
  obtain ⟨its, rv, pl, _⟩ := I.list (l.sq (K := X.K))
  obtain ⟨as, hr⟩ := Reps.reads I ds _ its rs rv (ne_plainL ds h1)
  obtain ⟨bs, hr2⟩ := Rep.reads I d _ _ hy ru (ne_plain d h2)
  exact count_list_data pl.isList hr hr2 h1 h2 (by omega) ⟨.int _, H, I.tok _, ⟨_, rfl⟩, q⟩
theorem mr_countT (hu : X.A.units + 65 < cLine) : MtR X "tuple.count" (rCountS X.K .tuple) := by
  intro pins s σ H x xs v us Q I rx r h
  obtain ⟨ds, d, y, A, A', rfl, hx, hy, h1, h2, h3, q⟩ := h
  obtain ⟨u, rfl, ru⟩ := (vals1 r)
  obtain ⟨a, vs, rfl, l, rs⟩ := hx
  cases rx
  obtain ⟨its, rv, pl, _⟩ := I.tuple l.sq
  obtain ⟨as, hr⟩ := Reps.reads I ds _ its rs rv (ne_plainL ds h1)
  obtain ⟨bs, hr2⟩ := Rep.reads I d _ _ hy ru (ne_plain d h2)
  exact count_tuple_data pl hr hr2 h1 h2 (by omega) ⟨.int _, H, I.tok _, ⟨_, rfl⟩, q⟩
theorem md_countL : MethD K .v (rCountS K .list) mCountL := by
  intro W A σ H env P x vs dx ds d Q k rx rs h q
  cases dx with
  | list xs =>
    match ds, rs, h with
    | [d0], rs, h =>
      obtain ⟨v, rfl, rv⟩ := one_arg rs
      change (if PyData.plainAll xs = true ∧ d0.plain = true ∧ d0.depth ≤ 60 then some (PyData.int ((xs.countP fun y => PyData.eqv y d0 : Nat) : Int)) else none) = some d at h
      by_cases hc : PyData.plainAll xs = true ∧ d0.plain = true ∧ d0.depth ≤ 60
      · rw [if_pos hc] at h
        cases h
        obtain ⟨A1, r1⟩ := RepB.rep rx
        obtain ⟨A2, r2⟩ := RepB.rep rv
        exact ⟨xs, d0, v, A1, A2, rfl, r1, r2, hc.1, hc.2.1, hc.2.2, q _ H (Same.refl H) rfl⟩
      · rw [if_neg hc] at h; cases h
    | [], _, h => cases h
    | _ :: _ :: _, _, h => simp [mCountL] at h
  | _ => cases h
theorem md_countT : MethD K .v (rCountS K .tuple) mCountT := by
  intro W A σ H env P x vs dx ds d Q k rx rs h q
  cases dx with
  | tuple xs =>
    match ds, rs, h with
    | [d0], rs, h =>
      obtain ⟨v, rfl, rv⟩ := one_arg rs
      change (if PyData.plainAll xs = true ∧ d0.plain = true ∧ d0.depth ≤ 60 then some (PyData.int ((xs.countP fun y => PyData.eqv y d0 : Nat) : Int)) else none) = some d at h
      by_cases hc : PyData.plainAll xs = true ∧ d0.plain = true ∧ d0.depth ≤ 60
      · rw [if_pos hc] at h
        cases h
        obtain ⟨A1, r1⟩ := RepB.rep rx
        obtain ⟨A2, r2⟩ := RepB.rep rv
        exact ⟨xs, d0, v, A1, A2, rfl, r1, r2, hc.1, hc.2.1, hc.2.2, q _ H (Same.refl H) rfl⟩
      · rw [if_neg hc] at h; cases h
    | [], _, h => cases h
    | _ :: _ :: _, _, h => simp [mCountT] at h
  | _ => cases h
end

/-! ### the tables, by the methods' names -/
def msCount : Ms := fun T => if T = "str" then some mCount else if T = "list" then some mCountL else if T = "tuple" then some mCountT else none
def msFind : Ms := fun T => if T = "str" then some mFind else none
def msUpper : Ms := fun T => if T = "str" then some mUpper else none
def msJoin : Ms := fun T => if T = "str" then some mJoin else none
def msGet : Ms := fun T => if T = "dict" then some mGet else none
section
variable {X : Cx}
theorem ms_one {name : Str} {kd : Kd} {T : String} {g : D → List D → Option D} {r : V → List V → Hp → VK → Prop} (hT : T = "str" ∨ T = "list" ∨ T = "tuple" ∨ T = "dict") (m : Mt X name T r) (h : MethD X.K kd r g) : MsOk X name kd (fun T' => if T' = T then some g else none) := fun T' g' e => by
  by_cases hh : T' = T
  · simp only [if_pos hh] at e; cases e; rw [hh]; exact ⟨hT, r, m, h⟩
  · simp only [if_neg hh] at e; cases e
theorem ms_count (hu : X.A.units + 65 < cLine) : MsOk X "count" .v msCount := fun T g e => by
  unfold msCount at e
  by_cases h1 : T = "str"
  · rw [if_pos h1] at e; cases e; subst h1; exact ⟨.inl rfl, _, ⟨F.plainAttrs_str, _, F.slot_str_count, F.type_str_count, mt_count⟩, md_count⟩
  · rw [if_neg h1] at e
    by_cases h2 : T = "list"
    · rw [if_pos h2] at e; cases e; subst h2; exact ⟨.inr (.inl rfl), _, ⟨F.plainAttrs_list, _, F.slot_list_count, F.type_list_count, mr_countL hu⟩, md_countL⟩
    · rw [if_neg h2] at e
      by_cases h3 : T = "tuple"
      · rw [if_pos h3] at e; cases e; subst h3; exact ⟨.inr (.inr (.inl rfl)), _, ⟨F.plainAttrs_tuple, _, F.slot_tuple_count, F.type_tuple_count, mr_countT hu⟩, md_countT⟩
      · rw [if_neg h3] at e; cases e
theorem ms_find : MsOk X "find" .v msFind := ms_one (.inl rfl) ⟨F.plainAttrs_str, _, F.slot_str_find, F.type_str_find, mt_find⟩ md_find
theorem ms_upper : MsOk X "upper" .v msUpper := ms_one (.inl rfl) ⟨F.plainAttrs_str, _, F.slot_str_upper, F.type_str_upper, mt_upper⟩ md_upper
theorem ms_join : MsOk X "join" .v msJoin := ms_one (.inl rfl) ⟨F.plainAttrs_str, _, F.slot_str_join, F.type_str_join, mt_join⟩ md_join
theorem ms_get (hu : X.A.units + 65 < cLine) : MsOk X "get" .v msGet := ms_one (.inr (.inr (.inr rfl))) ⟨F.plainAttrs_dict, _, F.slot_dict_get, F.type_dict_get, mr_get (by omega)⟩ md_get
end

/-! ### str(x) of an int, of a text -/
def gStr : List D → Option D
  | [.int i] => if i.natAbs.log2 < 1920 then some (.str (toString i)) else none
  | [.str a] => some (.str a)
  | _ => none
def rStrOf : List V → Hp → VK → Prop := fun xs H Q => (∃ i, xs = [.int i] ∧ i.natAbs.log2 < 1920 ∧ Q (.str (toString i)) H) ∨ ∃ a, xs = [.str a] ∧ Q (.str a) H
theorem cr_str {X : Cx} : CallR X (.type "str") rStrOf := call_str_int.or SkE.call_str_str
theorem cd_str {K : PySem.W.Frag} : CallD K .v rStrOf gStr := by
  intro W A σ H env P vs ds d Q k rs hg q
  match ds, rs, hg with
  | [d0], rs, hg =>
    obtain ⟨v, rfl, r⟩ := one_arg rs
    cases d0 with
    | int i =>
      change (if i.natAbs.log2 < 1920 then some (PyData.str (toString i)) else none) = some d at hg
      by_cases hc : i.natAbs.log2 < 1920
      · rw [if_pos hc] at hg; cases hg; cases (show v = .int i from r)
        exact .inl ⟨i, rfl, hc, q _ H (Same.refl H) rfl⟩
      · rw [if_neg hc] at hg; cases hg
    | str a => cases hg; cases (show v = .str a from r); exact .inr ⟨a, rfl, q _ H (Same.refl H) rfl⟩
    | _ => cases hg
  | [], _, hg => cases hg
  | _ :: _ :: _, _, hg => simp [gStr] at hg
end Vl
end
section
set_option autoImplicit false
set_option maxRecDepth 100000
/-! V18: enumerate over a list, a tuple, a text, from any count; the pairs told as the objects they are. -/
namespace Vl
open PySem L2 PySem.W PySem.Calls PyProof.Rows PySem.SeqAt

/-- what is walked -/
inductive SK where
  | l (a : Addr)
  | t (a : Addr)
  | s (z : Str) (t : Tok)
def SK.val : SK → Value
  | .l a => .ref a
  | .t a => .ref a
  | .s z tk => .str z tk
def SK.src (K : PySem.W.Frag) (H : Hp) : SK → List V → Prop
  | .l a, xs => SqL K H a xs
  | .t a, xs => SqT K H a xs
  | .s z _, xs => xs = z.cps.toList.map fun c => V.str ⟨#[c]⟩
def SK.at : SK → Addr → Nat → Heap → Prop
  | .l a, it, i, h => h.IsListIter it a i
  | .t a, it, i, h => h.IsTupleIter it a i
  | .s z tk, it, i, h => h.IsStrIter it (strIterType z) z tk i
def SK.obj : SK → Obj
  | .l a => { cls := .type "list_iterator", data := .fields #[.ref a, .int 0 0] }
  | .t a => { cls := .type "tuple_iterator", data := .fields #[.ref a, .int 0 0] }
  | .s z tk => { cls := .type (strIterType z), data := .fields #[.str z tk, .int 0 0] }
def SK.off : SK → Addr → Prop
  | .l a, c => c ≠ a
  | .t a, c => c ≠ a
  | .s _ _, _ => True
theorem SK.at_at {k : SK} {it : Addr} {i : Nat} {h h' : Heap} (sta : k.at it i h) (e : ∀ o, h.get? it = some o → h'.get? it = some o) : k.at it i h' := by
  cases k with
  | l a => exact (show h'.IsListIter it a i from Heap.IsListIter.at (show h.IsListIter it a i from sta) e)
  | t a => exact (show h'.IsTupleIter it a i from Heap.IsTupleIter.at (show h.IsTupleIter it a i from sta) e)
  | s z t => obtain ⟨o, outE, r⟩ := sta; exact ⟨o, e _ outE, r⟩
theorem SK.at_obj {k : SK} {it : Addr} {i : Nat} {h : Heap} (sta : k.at it i h) : ∃ o, h.get? it = some o ∧ ∀ v, o.data ≠ .cell v := by
  cases k with
  | l a => obtain ⟨o, e, c, d⟩ := sta; exact ⟨o, e, fun v z => by rw [d] at z; cases z⟩
  | t a => obtain ⟨o, e, c, d⟩ := sta; exact ⟨o, e, fun v z => by rw [d] at z; cases z⟩
  | s z t => obtain ⟨o, e, c, d⟩ := sta; exact ⟨o, e, fun v z => by rw [d] at z; cases z⟩
theorem vals_at {xs : List V} {uvs : List Value} {i : Nat} {v : Value} (r : Vals xs uvs) (h : uvs[i]? = some v) : ∃ x, xs[i]? = some x ∧ RelV x v := by
  have hi : i < xs.length := by
    rw [r.length]
    exact ((List.getElem?_eq_some_iff.mp h).1)
  obtain ⟨u, hu, rlu⟩ := r.get (List.getElem?_eq_getElem hi)
  rw [h] at hu
  cases hu
  exact ⟨_, List.getElem?_eq_getElem hi, rlu⟩
section
variable {X : Cx} {pins : List (Addr × Obj)} {σ : L2.St} {H : Hp} { s : Shared }
theorem SK.inj (iv : L2.Inv X pins σ H s) {k : SK} {xs ys : List V} (h : k.src X.K H xs) (h' : k.src X.K H ys) : xs = ys := by
  cases k with
  | l a => exact iv.list_inj h h'
  | t a => exact iv.tuple_inj h h'
  | s z t => exact Eq.trans h (Eq.symm h')
theorem SK.begins (iv : L2.Inv X pins σ H s) {k : SK} {xs : List V} (h : k.src X.K H xs) : ∃ Hh, Begins k.val k.obj Hh ∧ Hh s.heap ∧ ∀ h' : Heap, (h'.get? s.heap.objs.size = some k.obj) → k.at s.heap.objs.size 0 h' := by
  cases k with
  | l a =>
    obtain ⟨itz, rvz, p, _⟩ := iv.list h
    exact ⟨_, begins_list a itz.toArray, p.isList, fun h' e => ⟨_, e, rfl, rfl⟩⟩
  | t a =>
    obtain ⟨itz, rvz, p, _⟩ := iv.tuple h
    exact ⟨_, begins_tuple a itz.toArray, p, fun h' e => ⟨_, e, rfl, rfl⟩⟩
  | s z t => exact ⟨_, begins_text z t, trivial, fun h' e => ⟨_, e, rfl, rfl⟩⟩
structure SDr (X : Cx) (k : SK) (it : Addr) (xs : List V) (h : Heap) (fp : List Addr) (P : Nat → Value → Prop) (St : Nat → Heap → Prop) : Prop where
  d : Draws X.prog X.w X.A.in1 it fp xs.length P St
  mem : it ∈ fp
  out : ∀ c, c ≠ it → k.off c → c ∉ fp
  at_ : ∀ i h, St i h → k.at it i h
  sta : ∀ i, k.at it i h → St i h
  val : ∀ i v, P i v → ∃ x, xs[i]? = some x ∧ RelV x v
theorem SK.draws (iv : L2.Inv X pins σ H s) (clm : X.calm = true) {k : SK} {xs : List V} (h : k.src X.K H xs) (it : Addr) (outE : k.off it) : ∃ fp P St, SDr X k it xs s.heap fp P St := by
  have hh : X.A.in1.handled = none := iv.ok.hd clm
  cases k with
  | l a =>
    obtain ⟨itz, rvz, p, _⟩ := iv.list h
    have hl : itz.toArray.size = xs.length := by rw [List.size_toArray]; exact rvz.length.symm
    refine ⟨[it, a], fun i v => itz.toArray[i]? = some v, fun i h => h.IsListIter it a i ∧ h.IsList a itz.toArray, ?_⟩
    refine ⟨by rw [← hl]; exact Draws.list hh it a (Ne.symm outE) itz.toArray, by simp, fun c h1 h2 h3 => ?_, fun i h sta => sta.1, fun i sta => ⟨sta, p.isList⟩, fun i v hv => vals_at rvz (by simpa using hv)⟩
    have eqz : c = it ∨ c = a := by simpa using h3
    exact eqz.elim h1 h2
  | t a =>
    obtain ⟨itz, rvz, p, _⟩ := iv.tuple h
    have hl : itz.toArray.size = xs.length := by rw [List.size_toArray]; exact rvz.length.symm
    refine ⟨[it, a], fun i v => itz.toArray[i]? = some v, fun i h => h.IsTupleIter it a i ∧ h.IsTuple a itz.toArray, ?_⟩
    refine ⟨by rw [← hl]; exact Draws.tuple hh it a (Ne.symm outE) itz.toArray, by simp, fun c h1 h2 h3 => ?_, fun i h sta => sta.1, fun i sta => ⟨sta, p⟩, fun i v hv => vals_at rvz (by simpa using hv)⟩
    have eqz : c = it ∨ c = a := by simpa using h3
    exact eqz.elim h1 h2
  | s z t =>
    cases h
    refine ⟨[it], fun i v => ∃ c u, z.cps[i]? = some c ∧ v = .str ⟨#[c]⟩ u, fun i h => h.IsStrIter it (strIterType z) z t i, ?_⟩
    refine ⟨by rw [show (z.cps.toList.map fun c => V.str ⟨#[c]⟩).length = z.cps.size by simp]; exact Draws.text hh it z t, by simp, fun c h1 h2 h3 => h1 (by simpa using h3), fun i h sta => sta, fun i sta => sta, fun i v hv => ?_⟩
    obtain ⟨c, u, h1, rfl⟩ := hv
    exact ⟨.str ⟨#[c]⟩, by simp [h1], u, rfl⟩
end

/-! ### enumerate -/
def Itw (K : PySem.W.Frag) (k : SK) (c : Int) : It :=
  ⟨fun i H => ∃ xs, k.src K H xs ∧ i < xs.length, fun i H v H' => ∃ T o x, v = .ref T ∧ H T = none ∧ o.dict = none ∧ H' = upd H T (.frz o (.tup [.int (c + (i : Nat)), x])) ∧ ∀ xs, k.src K H xs → xs[i]? = some x, fun i H => ∃ xs, k.src K H xs ∧ xs.length = i⟩
theorem turn_enumF {P : Program} {w : World} {K : PySem.W.Frag} {elts : List Expr} {kk : Nat} {tpos : Pos} (k : SK) (c : Int) (e it : Addr) (he1 : k.off e) (he2 : k.off it) (hne : e ≠ it) :
    Turn P w K (.Tuple elts kk tpos) (Itw K k c) [e, it] e (fun i h => (∃ old, IsEnum h e it (c + ((i : Nat) : Int)) old) ∧ k.at it i h) where
  mem := by simp
  obj := fun i h sta b hb => by
    obtain ⟨⟨old, he⟩, hi⟩ := sta
    have eqz : b = e ∨ b = it := by simpa using hb
    rcases eqz with z | z
    · rw [z]; exact ⟨_, he, fun _ q => nomatch q⟩
    · rw [z]; exact SK.at_obj hi
  keep := fun i h h' sta kp => let ⟨⟨old, he⟩, hi⟩ := sta; ⟨⟨old, kp e (by simp) _ he⟩, SK.at_at hi fun o q => kp it (by simp) o q⟩
  item := by
    intro X hP wlk hK clm i pins s σ H E iv fpo sta goH
    subst hP wlk hK
    obtain ⟨⟨old, he⟩, hit⟩ := sta
    obtain ⟨xs, srq, atx⟩ := goH
    obtain ⟨fp, Pp, St, D⟩ := SK.draws iv clm srq it he2
    have ltE : e < s.heap.objs.size := Heap.lt_size he
    have ltI : it < s.heap.objs.size := by obtain ⟨_, q, _⟩ := SK.at_obj hit; exact Heap.lt_size q
    refine wpAny_pyNext_enum_itemC D.d he (D.sta i hit) atx hne (D.out e hne he1) fun u h' tk hp outE itA hT szh kpt => ?_
    obtain ⟨x, hxs, rlu⟩ := D.val i u hp
    refine ⟨_, rfl, wpAny_letOwnedTupleGo_enum (s := { s with heap := h', toks := tk + 1 }) outE fun h'' enA sbu => ?_⟩
    have tyo : h''.get? s.heap.objs.size = some { cls := .type "tuple", data := .seq #[.int (c + (i : Nat)) tk, u] } := (sbu.2 _ (Nat.ne_of_gt ltE)).trans hT
    have neu : ObjOk X.prog X.w (upd H s.heap.objs.size (.frz { cls := .type "tuple", data := .seq #[.int (c + (i : Nat)) tk, u] } (.tup [.int (c + (i : Nat)), x]))) h'' s.heap.objs.size (.frz { cls := .type "tuple", data := .seq #[.int (c + (i : Nat)) tk, u] } (.tup [.int (c + (i : Nat)), x])) :=
      ⟨tyo, by show 2 ≤ sizeLine; decide, [.int (c + (i : Nat)) tk, u], .cons ⟨_, rfl⟩ (.cons rlu .nil), ⟨_, tyo, rfl, _, rfl⟩⟩
    have iv1 : L2.Inv X pins σ _ { s with heap := h'', toks := tk + 1 } :=
      iv.turnedNew (ch := [e, it]) (fun b ob hb q => (sbu.2 b (fun z => hb (by simp [z]))).trans (kpt b ob (fun z => hb (by simp [z])) (fun z => hb (by simp [z])) q)) fpo (Nat.le_refl _) neu
    refine ⟨.ref s.heap.objs.size, _, iv1, rfl, ⟨_, _, x, rfl, iv.hok.fresh (Nat.le_refl _), rfl, rfl, fun ys hy => by rw [SK.inj iv hy srq]; exact hxs⟩, ⟨⟨u, ?_⟩, SK.at_at (D.at_ _ _ itA) fun o q => (sbu.2 it (Ne.symm hne)).trans q⟩, fun b hb => ?_⟩
    · have e1 : c + ((i + 1 : Nat) : Int) = c + (i : Int) + 1 := by omega
      rw [e1]; exact enA
    · have hb' : (b < s.heap.objs.size) := by
        have eqz : b = e ∨ b = it := by simpa using hb
        rcases eqz with z | z
        · rw [z]; exact ltE
        · rw [z]; exact ltI
      rw [(upd_ne (Nat.ne_of_lt hb'))]
      exact (fpo b hb).1
  done := by
    intro X hP wlk hK clm i pins s σ H E iv fpo sta goH
    subst hP wlk hK
    obtain ⟨⟨old, he⟩, hit⟩ := sta
    obtain ⟨xs, srq, atx⟩ := goH
    obtain ⟨fp, Pp, St, D⟩ := SK.draws iv clm srq it he2
    obtain ⟨f0, f1, f2, f3, f4, f5⟩ := fpo it (by simp)
    exact wpAny_pyNext_enum_endD D.d he (by rw [atx]; exact D.sta i hit) fun h' eb => ⟨rfl, iv.turned (t' := s.toks) (fun b o hb q => eb b o hb q) f0 f1 f3 f4 f5⟩
  self := fun A i s Q E sta h => let ⟨⟨_, he⟩, _⟩ := sta; wpAny_pyIter_enum he h
/-- a value that may be walked, by itz kind -/
inductive K3 where
  | l | t | s
def SrcV (K : PySem.W.Frag) (H : Hp) (x : V) (xs : List V) : K3 → Prop
  | .l => ∃ a, x = .ref a ∧ SqL K H a xs
  | .t => ∃ a, x = .ref a ∧ SqT K H a xs
  | .s => ∃ z : Str, x = .str z ∧ xs = z.cps.toList.map fun c => V.str ⟨#[c]⟩
def SkV (k : SK) (x : V) : K3 → Prop
  | .l => ∃ a, k = .l a ∧ x = .ref a
  | .t => ∃ a, k = .t a ∧ x = .ref a
  | .s => ∃ z t, k = .s z t ∧ x = .str z
section
variable {X : Cx} {pins : List (Addr × Obj)} {σ : L2.St} {H : Hp} { s : Shared }
theorem SrcV.kindV (iv : L2.Inv X pins σ H s) {x : V} {xs : List V} {v : Value} {κ : K3} (h : SrcV X.K H x xs κ) (r : RelV x v) : ∃ k : SK, k.val = v ∧ SkV k x κ ∧ k.src X.K H xs ∧ (∀ c, s.heap.objs.size ≤ c → k.off c) := by
  cases κ with
  | l =>
    obtain ⟨a, rfl, h⟩ := h
    cases r
    obtain ⟨itz, rvz, p, _⟩ := iv.list h
    obtain ⟨o, outE, _⟩ := p.isList
    exact ⟨.l a, rfl, ⟨a, rfl, rfl⟩, h, fun c clm e => Nat.not_le_of_lt (Heap.lt_size outE) (e ▸ clm)⟩
  | t =>
    obtain ⟨a, rfl, h⟩ := h
    cases r
    obtain ⟨itz, rvz, ⟨o, outE, _⟩, _⟩ := iv.tuple h
    exact ⟨.t a, rfl, ⟨a, rfl, rfl⟩, h, fun c clm e => Nat.not_le_of_lt (Heap.lt_size outE) (e ▸ clm)⟩
  | s =>
    obtain ⟨z, rfl, h⟩ := h
    obtain ⟨t, rfl⟩ := r
    exact ⟨.s z t, rfl, ⟨z, t, rfl, rfl⟩, h, fun _ _ => trivial⟩
theorem enum_come (iv : L2.Inv X pins σ H s) {k : SK} {xs : List V} {c : Int} {elts : List Expr} {kk : Nat} {tpos : Pos} {R : It → Hp → Prop} (h : k.src X.K H xs) (offK : ∀ c, s.heap.objs.size ≤ c → k.off c) (q : R (Itw X.K k c) H) {h' : Heap}
    (he : IsEnum h' (s.heap.objs.size + 1) s.heap.objs.size c .none) (outE : k.at s.heap.objs.size 0 h') (kpt : ∀ b o, s.heap.get? b = some o → h'.get? b = some o) : PIE X pins σ (.Tuple elts kk tpos) R (.ref (s.heap.objs.size + 1)) { s with heap := h' } := by
  have iv2 : L2.Inv X pins σ H { s with heap := h' } := iv.kept (t' := s.toks) kpt
  refine ⟨s.heap.objs.size + 1, [s.heap.objs.size + 1, s.heap.objs.size], _, _, H, rfl, iv2, turn_enumF k c (s.heap.objs.size + 1) s.heap.objs.size (offK _ (Nat.le_succ _)) (offK _ (Nat.le_refl _)) (Nat.succ_ne_self _), ⟨⟨.none, ?_⟩, outE⟩, fun b hb => ?_, q⟩
  · rw [show c + ((0 : Nat) : Int) = c by omega]; exact he
  · have eqz : b = s.heap.objs.size + 1 ∨ b = s.heap.objs.size := by simpa using hb
    have leb : s.heap.objs.size ≤ b := by
      rcases eqz with z | z
      · (rw [z]; exact Nat.le_add_right _ _)
      · rw [z]; exact Nat.le_refl _
    exact iv.fpOk leb (iv.hok.fresh leb)
end
set_option maxHeartbeats 1000000 in
theorem meets_enum1 {v : Value} {o : Obj} {H : Heap → Prop} (B : Begins v o H) :
    Meets (Builtin.«enumerate.__new__» ⟨[.type "enumerate", v], []⟩) (fun _ R s => H s.heap ∧
      R (.ok (.ret (.ref (s.heap.push o).objs.size))) { s with heap := (s.heap.push o).push { cls := .type "enumerate", data := .fields #[.none, .bool false, .ref s.heap.objs.size, rawInt 0, .none, .none] } }) :=
  .of_wp fun prog w A R s => fun h => by
    obtain ⟨hp, g, d, tk, os⟩ := s; obtain ⟨h1, h⟩ := (h)
    have subE := sub_enumerate
    have qq1 : ∀ {A' : Around} {E : Value → Shared → Prop} {Q : Value → Shared → Prop}, Q (.ref hp.objs.size) ⟨hp.push o, g, d, tk, os⟩ → wpAny (model prog w) A' (pyIter v) Q E ⟨hp, g, d, tk, os⟩ :=
      fun q => (B.iter prog w _ _ ⟨hp, g, d, tk, os⟩ _ h1 q)
    wp_walk using qq1
    refine wpAny_stack_any fun sta => wpAny_pure ?_
    split
    · rename_i c _ _ _ _ _
      cases ((c == Value.type "enumerate"))
      · wp_walk using qq1
        exact ⟨_, rfl, h⟩
      · wp_walk using qq1
        exact ⟨_, rfl, h⟩
    · wp_walk using qq1
      exact ⟨_, rfl, h⟩
section
variable {prog : Program} {w : World} {A : Around} {E : Value → Shared → Prop} { s : Shared }
theorem enum_begins1 {v : Value} {o : Obj} {H : Heap → Prop} {Q : Value → Shared → Prop} (B : Begins v o H) (h1 : H s.heap)
    (h : ∀ h', IsEnum h' (s.heap.objs.size + 1) s.heap.objs.size 0 .none → h'.get? s.heap.objs.size = some o → h'.objs.size = s.heap.objs.size + 2 →
      (∀ b ob, s.heap.get? b = some ob → h'.get? b = some ob) → Q (.ref (s.heap.objs.size + 1)) { s with heap := h' }) :
    wpAny (model prog w) A (call (.type "enumerate") [v]) Q E s := by
  refine callType_new F.called_enumerate (by decide) (F.typeCall_enumerate_1 _) (F.newCall_enumerate_1 _) (fun obj => F.args_object_init_2 obj _) F.entry_enumerate_new (meets_enum1 B) ⟨h1, ?_⟩
  have hz : ((s.heap.push o).objs.size = s.heap.objs.size + 1) := Heap.size_push ..
  show _ ∧ _
  rw [hz]
  have he : IsEnum ((s.heap.push o).push { cls := .type "enumerate", data := .fields #[.none, .bool false, .ref s.heap.objs.size, rawInt 0, .none, .none] }) (s.heap.objs.size + 1) s.heap.objs.size 0 .none := by
    have := Heap.get?_push_size (s.heap.push o) (o := { cls := .type "enumerate", data := .fields #[.none, .bool false, .ref s.heap.objs.size, rawInt 0, .none, .none] }) rfl
    rw [hz] at this; exact this
  refine (⟨⟨_, he, rfl⟩, h _ he (Heap.get?_push_of_some _ (Heap.get?_push_size _ B.free)) (by rw [Heap.size_push, hz]) fun b o x => Heap.get?_push_of_some _ (Heap.get?_push_of_some _ x)⟩)
end
/-- the keywords' values, then the call of a built-in class -/
theorem callWith_typeKw {M : Model} {A : Around} {E : Value → Shared → Prop} {s : Shared} {env : PySem.Env} {pos : Pos} {T : String} {e : Expr} {rest : List Expr} {kws : List Keyword} {Q : Value → Shared → Prop}
    (h : wpAny M A (spliced (backTo pos (starEach (e :: rest) env))) (fun vvs s₁ => wpAny M A (evalAll ((backToKw pos (keywordEach kws env)).map (·.2)))
      (fun kvs s₂ => wpAny M A (call (.type T) vvs (((backToKw pos (keywordEach kws env)).filterMap (·.1)).zip kvs)) Q E s₂) E s₁) E s)
    (he : backTo pos (starEach (e :: rest) env) = (false, eval e env) :: backTo pos (starEach rest env) := by exact rfl)
    (hplain : (backTo pos (starEach (e :: rest) env)).any (·.1) = false := by exact rfl)
    (hall : (backToKw pos (keywordEach kws env)).all (·.1.isSome) = true := by exact rfl)
    (hkw : (backToKw pos (keywordEach kws env)).any (·.1.isNone) = false := by exact rfl) :
    wpAny M A (callWith pos (.type T) [] (backTo pos (starEach (e :: rest) env)) (backToKw pos (keywordEach kws env))) Q E s := by
  unfold callWith
  rw [he] at h
  have h' : wpAny M A (evalArgs (.type T) true (backTo pos (starEach (e :: rest) env)) (backToKw pos (keywordEach kws env))) (fun a s₁ => wpAny M A (call (.type T) ([] ++ a.pos) a.kw) Q E s₁) E s := by
    rw [he]
    exact evalArgs_kwB hall h
  refine wpAny_bind (wpAny_holding (wpAny_mono h' (fun a s₁ h₁ => wpAny_bind (wpAny_standAt ?_)) fun _ _ x => x))
  simp only [hkw, Bool.or_false, hplain]
  refine (wpAny_bind (wpAny_pure ?_))
  exact (wpAny_bind (wpAny_mono h₁ (fun r s₂ hr => wpAny_bind (wpAny_holding (wpAny_point (wpAny_pure hr)))) fun _ _ x => x))
def iEnum1 (K : PySem.W.Frag) (t : L2.TA) : TI := fun σ H R => t σ H fun vvs H1 => ∃ x xs κ, vvs = [x] ∧ SrcV K H1 x xs κ ∧ ∀ k, SkV k x κ → R (Itw K k 0) H1
def iEnumS (K : PySem.W.Frag) (t tk : L2.TA) : TI := fun σ H R => t σ H fun vvs H1 => tk σ H1 fun zs H2 => ∃ x xs κ c, vvs = [x] ∧ zs = [.int c] ∧ SrcV K H2 x xs κ ∧ -(2 ^ 63) ≤ c ∧ c < 2 ^ 63 ∧ ∀ k, SkV k x κ → R (Itw K k c) H2
theorem pi_enum1 {X : Cx} {e : Expr} {ta : L2.TA} {p pos tpos : Pos} {elts : List Expr} {kk : Nat} (goH : Gl X "enumerate") (mgE : X.mg "enumerate" = none) (ha : PA X [e] ta) (hs : starEach [e] X.env = [(false, eval e X.env)] := by rfl) :
    PI X (.Tuple elts kk tpos) (.Call (.Name "enumerate" p) [e] [] pos) (iEnum1 X.K ta) := by
  refine ⟨fun pins s σ H R iv h => ?_⟩
  refine Call_ (ld_blt iv goH mgE boot_enumerate (PyProof.Rows.callWith_type1 (thn (ha.run pos pins s σ H _ iv h) fun uvs s1 ⟨vvs, H1, iv1, rl1, qq1⟩ => ?_) hs rfl))
  obtain ⟨x, xs, κ, ex, srq, q⟩ := qq1
  subst ex
  obtain ⟨u, rfl, rlu⟩ := vals1 rl1
  obtain ⟨k, rfl, kpt, hsrc, offK⟩ := SrcV.kindV iv1 srq rlu
  obtain ⟨Hh, B, hB, hat⟩ := SK.begins iv1 hsrc
  exact enum_begins1 B hB fun h' he outE hz hkp => wpAny_pyIter_enum he (enum_come iv1 hsrc offK (q k kpt) he (hat h' outE) hkp)
theorem pi_enumS {X : Cx} {e : Expr} {ta tk : L2.TA} {p pos tpos : Pos} {elts : List Expr} {kk : Nat} {kws : List Keyword} (goH : Gl X "enumerate") (mgE : X.mg "enumerate" = none) (ha : PA X [e] ta) (kpt : PK X kws tk)
    (he : backTo pos (starEach [e] X.env) = (false, eval e X.env) :: backTo pos (starEach [] X.env) := by rfl) (hpl : (backTo pos (starEach [e] X.env)).any (·.1) = false := by rfl)
    (hall : (backToKw pos (keywordEach kws X.env)).all (·.1.isSome) = true := by rfl) (hnone : (backToKw pos (keywordEach kws X.env)).any (·.1.isNone) = false := by rfl) (hks : (backToKw pos (keywordEach kws X.env)).filterMap (·.1) = [Str.ofString "start"] := by rfl) :
    PI X (.Tuple elts kk tpos) (.Call (.Name "enumerate" p) [e] kws pos) (iEnumS X.K ta tk) := by
  refine ⟨fun pins s σ H R iv h => ?_⟩
  refine wpAny_Call_Name_kw (ld_blt iv goH mgE boot_enumerate ?_)
  refine callWith_typeKw (thn (ha.run pos pins s σ H _ iv h) fun uvs s1 ⟨vvs, H1, iv1, rl1, qq1⟩ => thn (kpt.run pos pins s1 σ H1 _ iv1 qq1) fun ws s2 ⟨zs, H2, iv2, r2, q2⟩ => ?_) he hpl hall hnone
  rw [hks]
  obtain ⟨x, xs, κ, c, ex, ez, srq, h0, h1, q⟩ := q2
  subst ex
  subst ez
  obtain ⟨u, rfl, rlu⟩ := vals1 rl1
  obtain ⟨w', rfl, rw'⟩ := vals1 r2
  obtain ⟨t, rfl⟩ := rw'
  obtain ⟨k, rfl, kpt, hsrc, offK⟩ := SrcV.kindV iv2 srq rlu
  obtain ⟨Hh, B, hB, hat⟩ := SK.begins iv2 hsrc
  exact enum_begins_start B hB h0 h1 fun h' he outE hz hkp => wpAny_pyIter_enum he (enum_come iv2 hsrc offK (q k kpt) he (hat h' outE) hkp)
/-- pairs of a count and an item -/
def enumD : Int → List D → List D
  | _, [] => []
  | c, d :: r => .tuple [.int c, d] :: enumD (c + 1) r
theorem enumD_len : ∀ (ds : List D) (c : Int), (enumD c ds).length = ds.length
  | [], _ => rfl
  | _ :: r, c => by rw [enumD, List.length_cons, List.length_cons, enumD_len r]
theorem enumD_get : ∀ (ds : List D) (c : Int) (i : Nat) (d : D), ds[i]? = some d → (enumD c ds)[i]? = some (.tuple [.int (c + (i : Nat)), d])
  | [], _, _, _, h => by (simp at h)
  | x :: r, c, 0, d, h => by
    simp at h
    subst h
    simp [enumD]
  | x :: r, c, i + 1, d, h => by
    have := enumD_get r (c + 1) i d (by simpa using h)
    rw [enumD, List.getElem?_cons_succ, this, show c + 1 + ((i : Nat) : Int) = c + ((i + 1 : Nat) : Int) by omega]
/-- the contents of a walked thing -/
def walkD : D → Option (List D)
  | .list ds => some ds
  | .tuple ds => some ds
  | .str z => some (signs z)
  | _ => none
def k3 : D → K3
  | .list _ => .l
  | .tuple _ => .t
  | _ => .s
theorem walk_src {K : PySem.W.Frag} {A : AS} {H : Hp} {d : D} {v : V} {ds : List D} (h : walkD d = some ds) (r : Rep K A H d v) : ∃ xs, SrcV K H v xs (k3 d) := by
  cases d with
  | list es => cases h; obtain ⟨a, vvs, rfl, l, q⟩ := r; exact ⟨vvs, a, rfl, l.sq⟩
  | tuple es => cases h; obtain ⟨a, vvs, rfl, l, q⟩ := r; exact ⟨vvs, a, rfl, l.sq⟩
  | str z => cases h; exact ⟨_, z, r, rfl⟩
  | _ => cases h
theorem walk_sk {K : PySem.W.Frag} {A : AS} {H : Hp} {d : D} {v : V} {ds : List D} {k : SK} (h : walkD d = some ds) (kpt : SkV k v (k3 d)) (r : Rep K A H d v) : ∃ ys, k.src K H ys ∧ Reps K A H ds ys := by
  cases d with
  | list es =>
    cases h
    obtain ⟨a, vvs, e, l, q⟩ := r
    obtain ⟨b, rfl, rfl⟩ := kpt
    cases e
    exact ⟨vvs, l.sq, q⟩
  | tuple es =>
    cases h
    obtain ⟨a, vvs, e, l, q⟩ := r
    obtain ⟨b, rfl, rfl⟩ := kpt
    cases e
    exact ⟨vvs, l.sq, q⟩
  | str z =>
    cases h
    obtain ⟨z', t, rfl, rfl⟩ := kpt
    cases (show V.str z' = V.str z from r)
    exact ⟨_, rfl, reps_signs _⟩
  | _ => cases h
theorem it_enum {K : PySem.W.Frag} {d : D} {v : V} {ds : List D} {k : SK} {c : Int} (h : walkD d = some ds) (kpt : SkV k v (k3 d)) : ItOk K (Itw K k c) [(v, d)] (enumD c ds) := fun W A σ H env P k0 goH => by
  obtain ⟨ys, h1, h2⟩ := walk_sk h kpt (goH _ List.mem_cons_self)
  refine ⟨⟨ys, h1, by rw [h2.length, enumD_len]⟩, fun i hi => ⟨ys, h1, by rw [h2.length]; rw [enumD_len] at hi; exact hi⟩, fun i x H' hi hy => ?_⟩
  obtain ⟨T, o, y, rfl, hT, outE, rfl, hy⟩ := hy
  obtain ⟨d', hd', rd'⟩ := h2.get (hy ys h1)
  have s := same_upd (o := .frz o (.tup [.int (c + (i : Nat)), y])) hT
  refine ⟨s, _, enumD_get ds c i d' hd', T, _, rfl, .inl ⟨o, upd_same, outE, k0.new hT⟩, .int (c + (i : Nat)), [y], rfl, rfl, y, [], rfl, ?_, rfl⟩
  exact k0.rep (HExt.of s) rd'
def itW (f : Env → M D) (g : List D → M (List D)) : Env → M (List D) := fun env => bnd (f env) fun d => bnd (orNo (walkD d)) g
def itE1 (f : Env → M D) : Env → M (List D) := fun env => bnd (f env) fun d => bnd (orNo (walkD d)) fun ds => ret (enumD 0 ds)
def itES (f g : Env → M D) : Env → M (List D) := fun env => bnd (f env) fun d => bnd (g env) fun
  | .int c => if -(2 ^ 63) ≤ c ∧ c < 2 ^ 63 then bnd (orNo (walkD d)) fun ds => ret (enumD c ds) else no
  | _ => no
section
variable {Ex : Str → Hp → Prop} {X : Cx} {e e2 : Expr} {fa fb : Env → M D} {pos p tpos kpos : Pos} {elts : List Expr} {kk : Nat}
theorem xi_enum1 (mgE : X.mg "enumerate" = none) (ha : XE Ex X .v e fa) (goH : Gl X "enumerate" := by rfl) (hs : starEach [e] X.env = [(false, eval e X.env)] := by rfl) : XI Ex X (.Tuple elts kk tpos) (.Call (.Name "enumerate" p) [e] [] pos) (itE1 fa) := by
  obtain ⟨t, ht, q⟩ := ha
  refine ⟨_, pi_enum1 goH mgE (pa_cons ht pa_nil (by rw [hs]; rfl)) hs, fun W A σ H env P R k p => ?_⟩
  refine q W A σ H env P _ k ((PostG.bnd k p).mono ?_)
  rintro d _ H1 _ _ ⟨P1, e1, p1, k1, post⟩ v r
  cases wlk : walkD d with
  | none => rw [wlk] at post; exact post.elim
  | some ds =>
    rw [wlk] at post
    obtain ⟨xs, hs⟩ := walk_src wlk r
    exact ⟨v, xs, k3 d, rfl, hs, fun k kpt => post_here (a := enumD 0 ds) post p1 e1 _ [(v, d)] (fun g goH => by rcases List.mem_singleton.mp goH with rfl; exact r) (it_enum wlk kpt)⟩
theorem xi_enumS (mgE : X.mg "enumerate" = none) (ha : XE Ex X .v e fa) (hb : XE Ex X .v e2 fb) (goH : Gl X "enumerate" := by rfl) (hs : starEach [e] X.env = [(false, eval e X.env)] := by rfl)
    (he : backTo pos (starEach [e] X.env) = (false, eval e X.env) :: backTo pos (starEach [] X.env) := by rfl) (hpl : (backTo pos (starEach [e] X.env)).any (·.1) = false := by rfl)
    (hall : (backToKw pos (keywordEach [⟨some "start", e2, kpos⟩] X.env)).all (·.1.isSome) = true := by rfl) (hnone : (backToKw pos (keywordEach [⟨some "start", e2, kpos⟩] X.env)).any (·.1.isNone) = false := by rfl) (hks : (backToKw pos (keywordEach [⟨some "start", e2, kpos⟩] X.env)).filterMap (·.1) = [Str.ofString "start"] := by rfl) :
    XI Ex X (.Tuple elts kk tpos) (.Call (.Name "enumerate" p) [e] [⟨some "start", e2, kpos⟩] pos) (itES fa fb) := by
  obtain ⟨t, ht, q⟩ := ha
  obtain ⟨t2, ht2, q2⟩ := hb
  refine ⟨_, pi_enumS goH mgE (pa_cons ht pa_nil (by rw [hs]; rfl)) (pk_cons ht2 pk_nil) he hpl hall hnone hks, fun W A σ H env P R k p => ?_⟩
  refine q W A σ H env P _ k ((PostG.bnd k p).mono ?_)
  rintro d _ H1 _ _ ⟨P1, e1, p1, k1, post⟩ v r
  refine q2 W A σ H1 env P1 _ k1 ((PostG.bnd k1 post).mono ?_)
  rintro dc _ H2 _ _ ⟨P2, e2, p2, k2, post2⟩ v2 r2
  cases dc with
  | int c =>
    change PostG Ex W.pa H2 ((if -(2 ^ 63) ≤ c ∧ c < 2 ^ 63 then bnd (orNo (walkD d)) fun ds => ret (enumD c ds) else no) P2) _ at post2
    by_cases bnd0 : -(2 ^ 63) ≤ c ∧ c < 2 ^ 63
    · rw [if_pos bnd0] at post2
      cases (show v2 = .int c from r2)
      cases wlk : walkD d with
      | none => rw [wlk] at post2; exact post2.elim
      | some ds =>
        rw [wlk] at post2
        have r' := k1.rep e2 r
        obtain ⟨xs, hs⟩ := walk_src wlk r'
        exact ⟨v, xs, k3 d, c, rfl, rfl, hs, bnd0.1, bnd0.2, fun k kpt => post_here (a := enumD c ds) post2 p2 e2 (e1.trans e2) _ [(v, d)] (fun g goH => by rcases List.mem_singleton.mp goH with rfl; exact r') (it_enum wlk kpt)⟩
    · rw [if_neg bnd0] at post2; exact post2.elim
  | _ => exact post2.elim
end
end Vl
end
section
set_option autoImplicit false
set_option maxRecDepth 100000
/-! V19: zip of two, each a list, a tuple, a text. -/
namespace Vl
open PySem L2 PySem.W PySem.Calls PyProof.Rows PySem.SeqAt

structure Cells (z TI TO i1 i2 : Addr) (k1 k2 : SK) : Prop where
  TIz : TI ≠ z
  TOz : TO ≠ z
  TITO : TI ≠ TO
  TIi1 : TI ≠ i1
  TIi2 : TI ≠ i2
  zi1 : z ≠ i1
  zi2 : z ≠ i2
  TOi1 : TO ≠ i1
  TOi2 : TO ≠ i2
  i12 : i1 ≠ i2
  o1 : ∀ c ∈ [z, TI, TO, i1, i2], k1.off c
  o2 : ∀ c ∈ [z, TI, TO, i1, i2], k2.off c
theorem Cells.sep {X : Cx} {z TI TO i1 i2 : Addr} {k1 k2 : SK} {xs ys : List V} {h : Heap} {fp1 fp2 : List Addr} {P1 P2 : Nat → Value → Prop} {St1 St2 : Nat → Heap → Prop} (c : Cells z TI TO i1 i2 k1 k2) (D1 : SDr X k1 i1 xs h fp1 P1 St1) (D2 : SDr X k2 i2 ys h fp2 P2 St2) :
    ZipSep2 z TI TO i1 i2 fp1 fp2 :=
  { TIz := c.TIz, TOz := c.TOz, TITO := c.TITO, TIi1 := c.TIi1, mem1 := D1.mem, zf1 := D1.out _ c.zi1 (c.o1 _ (by simp)), Tf1 := D1.out _ c.TOi1 (c.o1 _ (by simp)),
    TIi2 := c.TIi2, mem2 := D2.mem, zf2 := D2.out _ c.zi2 (c.o2 _ (by simp)), Tf2 := D2.out _ c.TOi2 (c.o2 _ (by simp)),
    sep1_2 := D2.out _ c.i12 (c.o2 _ (by simp)), sep2_1 := D1.out _ (Ne.symm c.i12) (c.o1 _ (by simp)) }
def Itzz (K : PySem.W.Frag) (k1 k2 : SK) : It :=
  ⟨fun i H => ∃ xs ys, k1.src K H xs ∧ k2.src K H ys ∧ i < xs.length ∧ i < ys.length,
    fun i H v H' => ∃ T o x y, v = .ref T ∧ H T = none ∧ o.dict = none ∧ H' = upd H T (.frz o (.tup [x, y])) ∧ (∀ xs, k1.src K H xs → xs[i]? = some x) ∧ ∀ ys, k2.src K H ys → ys[i]? = some y,
    fun i H => ∃ xs ys, k1.src K H xs ∧ k2.src K H ys ∧ i = min xs.length ys.length⟩
theorem turn_zipF {P : Program} {w : World} {K : PySem.W.Frag} {elts : List Expr} {kk : Nat} {tpos : Pos} {k1 k2 : SK} {z TI TO i1 i2 : Addr} (C : Cells z TI TO i1 i2 k1 k2) :
    Turn P w K (.Tuple elts kk tpos) (Itzz K k1 k2) [z, TI, TO, i1, i2] z (fun i h => IsZip h z TI TO .none ∧ IsTupOf2 h TI (.ref i1) (.ref i2) ∧ (∃ a1 a2, IsTupOf2 h TO a1 a2) ∧ k1.at i1 i h ∧ k2.at i2 i h) where
  mem := by simp
  obj := fun i h sta c clm => by
    obtain ⟨hz, tiH, ⟨x, y, toH⟩, h1, h2⟩ := sta
    have eqz : c = z ∨ c = TI ∨ c = TO ∨ c = i1 ∨ c = i2 := by simpa using clm
    rcases eqz with q | q | q | q | q
    · rw [q]; exact ⟨_, hz, fun _ q => nomatch q⟩
    · rw [q]; exact ⟨_, tiH, fun v q => nomatch q⟩
    · rw [q]; exact ⟨_, toH, fun v q => nomatch q⟩
    · rw [q]; exact SK.at_obj h1
    · rw [q]; exact SK.at_obj h2
  keep := fun i h h' sta k => by
    obtain ⟨hz, tiH, ⟨x, y, toH⟩, h1, h2⟩ := sta
    exact ⟨k z (by simp) _ hz, k TI (by simp) _ tiH, ⟨x, y, k TO (by simp) _ toH⟩, SK.at_at h1 fun o q => k i1 (by simp) o q, SK.at_at h2 fun o q => k i2 (by simp) o q⟩
  item := by
    intro X hP hw hK clm i pins s σ H E iv fpo sta goH
    subst hP hw hK
    obtain ⟨hz, tiH, ⟨x0, y0, toH⟩, h1, h2⟩ := sta
    obtain ⟨xs, ys, sqx, sqy, atx, aty⟩ := goH
    obtain ⟨fp1, P1, St1, D1⟩ := SK.draws iv clm sqx i1 (C.o1 _ (by simp))
    obtain ⟨fp2, P2, St2, D2⟩ := SK.draws iv clm sqy i2 (C.o2 _ (by simp))
    have hlt : ∀ b ∈ [z, TI, TO, i1, i2], b < s.heap.objs.size := fun c clm => by
      have eqz : c = z ∨ c = TI ∨ c = TO ∨ c = i1 ∨ c = i2 := by simpa using clm
      rcases eqz with q | q | q | q | q
      · rw [q]; exact Heap.lt_size hz
      · rw [q]; exact Heap.lt_size tiH
      · rw [q]; exact Heap.lt_size toH
      · rw [q]; obtain ⟨_, e, _⟩ := SK.at_obj h1; exact Heap.lt_size e
      · rw [q]; obtain ⟨_, e, _⟩ := SK.at_obj h2; exact Heap.lt_size e
    have ltZ : z < s.heap.objs.size := hlt z (by simp)
    refine wpAny_pyNext_zipD2_item (C.sep D1 D2) D1.d D2.d hz tiH toH (D1.sta i h1) (D2.sta i h2) atx aty fun u u2 h' tk hp1 hp2 zA TO' st1 st2 hT szh kpt => ?_
    obtain ⟨x, gx, rlu⟩ := D1.val i u hp1
    obtain ⟨y, gy, rlw⟩ := D2.val i u2 hp2
    refine ⟨_, rfl, wpAny_letOwnedTupleGo_zip (s := { s with heap := h', toks := tk }) zA fun h'' zB sbu => ?_⟩
    have tyo : h''.get? s.heap.objs.size = some { cls := .type "tuple", data := .seq #[u, u2] } := (sbu.2 _ (Nat.ne_of_gt ltZ)).trans hT
    have neu : ObjOk X.prog X.w (upd H s.heap.objs.size (.frz { cls := .type "tuple", data := .seq #[u, u2] } (.tup [x, y]))) h'' s.heap.objs.size (.frz { cls := .type "tuple", data := .seq #[u, u2] } (.tup [x, y])) :=
      ⟨tyo, by show 2 ≤ sizeLine; decide, [u, u2], .cons rlu (.cons rlw .nil), ⟨_, tyo, rfl, _, rfl⟩⟩
    have iv1 : L2.Inv X pins σ _ { s with heap := h'', toks := tk } :=
      iv.turnedNew (ch := [z, TI, TO, i1, i2]) (fun c o hb q => (sbu.2 c (fun q' => hb (by simp [q']))).trans (kpt c o (fun q' => hb (by simp [q'])) (fun q' => hb (by simp [q'])) (fun q' => hb (by simp [q'])) (fun q' => hb (by simp [q'])) q)) fpo (Nat.le_refl _) neu
    refine ⟨.ref s.heap.objs.size, _, iv1, rfl, ⟨_, _, x, y, rfl, iv.hok.fresh (Nat.le_refl _), rfl, rfl, fun l hl => by rw [SK.inj iv hl sqx]; exact gx, fun l hl => by rw [SK.inj iv hl sqy]; exact gy⟩, ⟨zB, ?_, ⟨u, u2, ?_⟩, ?_, ?_⟩, fun c hcm => ?_⟩
    · exact (sbu.2 _ C.TIz).trans (kpt _ _ C.TIz C.TITO C.TIi1 C.TIi2 tiH)
    · exact (sbu.2 _ C.TOz).trans TO'
    · exact SK.at_at (D1.at_ _ _ st1) fun o q => (sbu.2 _ (Ne.symm C.zi1)).trans q
    · exact SK.at_at (D2.at_ _ _ st2) fun o q => (sbu.2 _ (Ne.symm C.zi2)).trans q
    · rw [upd_ne (Nat.ne_of_lt (hlt c hcm))]
      exact (fpo c hcm).1
  done := by
    intro X hP hw hK clm i pins s σ H E iv fpo sta goH
    subst hP hw hK
    obtain ⟨hz, tiH, ⟨x0, y0, toH⟩, h1, h2⟩ := sta
    obtain ⟨xs, ys, sqx, sqy, hi⟩ := goH
    obtain ⟨fp1, P1, St1, D1⟩ := SK.draws iv clm sqx i1 (C.o1 _ (by simp))
    obtain ⟨fp2, P2, St2, D2⟩ := SK.draws iv clm sqy i2 (C.o2 _ (by simp))
    refine wpAny_pyNext_zipD2_end (C.sep D1 D2) D1.d D2.d hz tiH toH (D1.sta i h1) (D2.sta i h2) (by omega) (by omega) (by omega) fun h' tk kpt => ⟨rfl, ?_⟩
    exact iv.turnedL (ch := [z, TI, TO, i1, i2]) (fun c o hb q => kpt c o (fun q' => hb (by simp [q'])) (fun q' => hb (by simp [q'])) (fun q' => hb (by simp [q'])) (fun q' => hb (by simp [q'])) q) fpo
  self := fun A i s Q E sta h => wpAny_pyIter_zip sta.1 h

theorem SrcV.mono {K : PySem.W.Frag} {H : Hp} {x : V} {xs : List V} {κ : K3} (h : SrcV K H x xs κ) : SrcV K H x xs κ := h
def iZip2 (K : PySem.W.Frag) (t : L2.TA) : TI := fun σ H R => t σ H fun vvs H1 => ∃ x y xs ys κ1 κ2, vvs = [x, y] ∧ SrcV K H1 x xs κ1 ∧ SrcV K H1 y ys κ2 ∧ ∀ k1 k2, SkV k1 x κ1 → SkV k2 y κ2 → R (Itzz K k1 k2) H1
theorem cells_new (N : Nat) {k1 k2 : SK} (h1 : ∀ c, N ≤ c → k1.off c) (h2 : ∀ c, N ≤ c → k2.off c) : Cells (N + 4) (N + 2) (N + 3) N (N + 1) k1 k2 := by
  have go : ∀ c ∈ [N + 4, N + 2, N + 3, N, N + 1], N ≤ c := fun c clm => by
    have eqz : c = N + 4 ∨ c = N + 2 ∨ c = N + 3 ∨ c = N ∨ c = N + 1 := by simpa using clm
    omega
  exact ⟨by show (N + 2 : Nat) ≠ N + 4; omega, by show (N + 3 : Nat) ≠ N + 4; omega, by show (N + 2 : Nat) ≠ N + 3; omega, by show (N + 2 : Nat) ≠ N; omega, by show (N + 2 : Nat) ≠ N + 1; omega, by show (N + 4 : Nat) ≠ N; omega,
    by show (N + 4 : Nat) ≠ N + 1; omega, by show (N + 3 : Nat) ≠ N; omega, by show (N + 3 : Nat) ≠ N + 1; omega, by show (N : Nat) ≠ N + 1; omega, fun c clm => h1 c (go c clm), fun c clm => h2 c (go c clm)⟩
theorem SK.begins1 {X : Cx} {pins : List (Addr × Obj)} {σ : L2.St} {H : Hp} {s : Shared} (iv : L2.Inv X pins σ H s) {k : SK} {xs : List V} (h : k.src X.K H xs) : ∃ Hh, Begins k.val k.obj Hh ∧ Hh s.heap ∧ ∀ (h' : Heap) (it : Addr), (h'.get? it = some k.obj) → k.at it 0 h' := by
  cases k with
  | l a =>
    obtain ⟨its, rv, p, _⟩ := iv.list h
    exact ⟨_, begins_list a its.toArray, p.isList, fun h' it e => ⟨_, e, rfl, rfl⟩⟩
  | t a =>
    obtain ⟨its, rv, p, _⟩ := iv.tuple h
    exact ⟨_, begins_tuple a its.toArray, p, fun h' it e => ⟨_, e, rfl, rfl⟩⟩
  | s z t => exact ⟨_, begins_text z t, trivial, fun h' it e => ⟨_, e, rfl, rfl⟩⟩
theorem pi_zip2 {X : Cx} {e f : Expr} {ta : L2.TA} {p pos tpos : Pos} {elts : List Expr} {kk : Nat} (goH : Gl X "zip") (mgE : X.mg "zip" = none) (ha : PA X [e, f] ta) (hs : starEach [e, f] X.env = (false, eval e X.env) :: starEach [f] X.env := by rfl)
    (hpl : (backTo pos (starEach [f] X.env)).any (·.1) = false := by rfl) :
    PI X (.Tuple elts kk tpos) (.Call (.Name "zip" p) [e, f] [] pos) (iZip2 X.K ta) := by
  refine ⟨fun pins s σ H R iv h => ?_⟩
  refine Call_ (ld_blt iv goH mgE boot_zip (PyProof.Rows.callWith_type1 (thn (ha.run pos pins s σ H _ iv h) fun uvs s1 ⟨vvs, H1, iv1, rl1, qq1⟩ => ?_) hs hpl))
  obtain ⟨x, y, xs, ys, κ1, κ2, ex, hq1, hq2, q⟩ := qq1
  subst ex
  obtain ⟨u, u2, rfl, rlu, rlw⟩ := vals2 rl1
  obtain ⟨k1, rfl, hk1, hs1, off1⟩ := SrcV.kindV iv1 hq1 rlu
  obtain ⟨k2, rfl, hk2, hs2, off2⟩ := SrcV.kindV iv1 hq2 rlw
  obtain ⟨Hh1, B1, hB1, hat1⟩ := SK.begins1 iv1 hs1
  obtain ⟨Hh2, B2, hB2, hat2⟩ := SK.begins1 iv1 hs2
  refine zip_begins2 B1 B2 hB1 hB2 fun h' hz tiH toH ho1 ho2 szh kpt => wpAny_pyIter_zip hz ?_
  have iv2 : L2.Inv X pins σ H1 { s1 with heap := h' } := iv1.kept (t' := s1.toks) kpt
  refine ⟨s1.heap.objs.size + 4, [s1.heap.objs.size + 4, s1.heap.objs.size + 2, s1.heap.objs.size + 3, s1.heap.objs.size, s1.heap.objs.size + 1], _, _, H1, rfl, iv2, turn_zipF (cells_new s1.heap.objs.size off1 off2), ⟨hz, tiH, ⟨_, _, toH⟩, hat1 _ _ ho1, hat2 _ _ ho2⟩, fun c clm => ?_, q k1 k2 hk1 hk2⟩
  have leb : s1.heap.objs.size ≤ c := by
    have eqz : c = s1.heap.objs.size + 4 ∨ c = s1.heap.objs.size + 2 ∨ c = s1.heap.objs.size + 3 ∨ c = s1.heap.objs.size ∨ c = s1.heap.objs.size + 1 := by simpa using clm
    rcases eqz with z | z | z | z | z <;> rw [z] <;> first | exact Nat.le_refl _ | exact Nat.le_add_right _ _
  exact iv1.fpOk leb (iv1.hok.fresh leb)
/-- pairs of items -/
def zipD : List D → List D → List D
  | a :: r, b :: t => .tuple [a, b] :: zipD r t
  | _, _ => []
theorem zipD_len : ∀ (as bs : List D), (zipD as bs).length = min as.length bs.length
  | [], _ => by simp [zipD]
  | _ :: _, [] => by simp [zipD]
  | a :: r, b :: t => by rw [zipD, List.length_cons, zipD_len r t, List.length_cons, List.length_cons]; omega
theorem zipD_get : ∀ (as bs : List D) (i : Nat) (a b : D), as[i]? = some a → bs[i]? = some b → (zipD as bs)[i]? = some (.tuple [a, b])
  | [], _, _, _, _, h, _ => by (simp at h)
  | _ :: _, [], _, _, _, _, h => by (simp at h)
  | x :: r, y :: t, 0, a, b, h, h2 => by
    simp at h h2
    subst h h2
    simp [zipD]
  | x :: r, y :: t, i + 1, a, b, h, h2 => by
    rw [zipD, List.getElem?_cons_succ]
    exact zipD_get r t i a b (by simpa using h) (by simpa using h2)
theorem it_zip {K : PySem.W.Frag} {d1 d2 : D} {v1 v2 : V} {as bs : List D} {k1 k2 : SK} (h1 : walkD d1 = some as) (h2 : walkD d2 = some bs) (hk1 : SkV k1 v1 (k3 d1)) (hk2 : SkV k2 v2 (k3 d2)) : ItOk K (Itzz K k1 k2) [(v1, d1), (v2, d2)] (zipD as bs) := fun W A σ H env P k0 goH => by
  obtain ⟨xs, s1, rl1⟩ := walk_sk h1 hk1 (goH (v1, d1) (by simp))
  obtain ⟨ys, s2, r2⟩ := walk_sk h2 hk2 (goH (v2, d2) (by simp))
  have e1 := rl1.length
  have e2 := r2.length
  refine ⟨⟨xs, ys, s1, s2, by rw [e1, e2, zipD_len]⟩, fun i hi => ?_, fun i x H' hi aty => ?_⟩
  · rw [zipD_len] at hi
    exact ⟨xs, ys, s1, s2, by omega, by omega⟩
  · obtain ⟨T, o, a, b, rfl, hT, ho, rfl, ha, hb⟩ := aty
    obtain ⟨da, hda, rda⟩ := rl1.get (ha xs s1)
    obtain ⟨db, hdb, rdb⟩ := r2.get (hb ys s2)
    have s := same_upd (o := .frz o (.tup [a, b])) hT
    refine ⟨s, _, zipD_get as bs i da db hda hdb, T, _, rfl, .inl ⟨o, upd_same, ho, k0.new hT⟩, a, [b], rfl, k0.rep (HExt.of s) rda, b, [], rfl, k0.rep (HExt.of s) rdb, rfl⟩
def itZ2 (g : Env → M (List D)) : Env → M (List D) := fun env => bnd (g env) fun
  | [a, b] => bnd (orNo (walkD a)) fun as => bnd (orNo (walkD b)) fun bs => ret (zipD as bs)
  | _ => no
theorem xi_zip2 {Ex : Str → Hp → Prop} {X : Cx} {e f : Expr} {g : Env → M (List D)} {pos p tpos : Pos} {elts : List Expr} {kk : Nat} (mgE : X.mg "zip" = none) (ha : XA Ex X [e, f] g) (goH : Gl X "zip" := by rfl) (hs : starEach [e, f] X.env = (false, eval e X.env) :: starEach [f] X.env := by rfl)
    (hpl : (backTo pos (starEach [f] X.env)).any (·.1) = false := by rfl) : XI Ex X (.Tuple elts kk tpos) (.Call (.Name "zip" p) [e, f] [] pos) (itZ2 g) := by
  obtain ⟨t, ht, q⟩ := ha
  refine ⟨_, pi_zip2 goH mgE ht hs hpl, fun W A σ H env P R k p => ?_⟩
  refine q W A σ H env P _ k ((PostG.bnd k p).mono ?_)
  rintro ds _ H1 _ _ ⟨P1, e1, p1, k1, post⟩ vvs rs
  match ds, rs, post with
  | [d1, d2], rs, post =>
    obtain ⟨v1, r, rfl, rl1, rs⟩ := rs
    obtain ⟨v2, r', rfl, r2, rs⟩ := rs
    cases (show r' = [] from rs)
    cases hw1 : walkD d1 with
    | none => simp only [hw1] at post; exact post.elim
    | some as =>
      cases hw2 : walkD d2 with
      | none => simp only [hw1, hw2] at post; exact post.elim
      | some bs =>
        simp only [hw1, hw2] at post
        obtain ⟨xs, hs1⟩ := walk_src hw1 rl1
        obtain ⟨ys, hs2⟩ := walk_src hw2 r2
        have hgs : ∀ g ∈ [(v1, d1), (v2, d2)], Rep X.K A H1 g.2 g.1 := fun g goH => by
          rcases List.mem_cons.mp goH with rfl | goH
          · exact rl1
          · rcases List.mem_singleton.mp goH with rfl
            exact r2
        exact ⟨v1, v2, xs, ys, k3 d1, k3 d2, rfl, hs1, hs2, fun j1 j2 hj1 hj2 => post_here (a := zipD as bs) post p1 e1 _ [(v1, d1), (v2, d2)] hgs (it_zip hw1 hw2 hj1 hj2)⟩
  | [], _, post => exact post.elim
  | [_], _, post => exact post.elim
  | _ :: _ :: _ :: _, _, post => exact post.elim
end Vl
end
section
set_option autoImplicit false
set_option maxRecDepth 100000
set_option maxHeartbeats 2000000
/-! V20: several except clauses with names; a lambda handed to a def that tells the word of its error. -/
namespace Vl
open PySem PySem.Spec PyProof.Rows L2

abbrev Cl := Value × Nat × (Addr → Value → Option Addr → TS)
/-- the name's slot goes, however the suite ends -/
def Ends.wo (D : Ends) (i : Nat) : Ends := { nx := fun σ' H' => D.nx (σ'.set i none) H', rt := D.rt, bk := fun σ' H' => D.bk (σ'.set i none) H', ct := fun σ' H' => D.ct (σ'.set i none) H' }
def wManyA (K : PySem.W.Frag) (Wout : WX) (D : Ends) : List Cl → WX
  | [] => Wout
  | (c, i, ts) :: r => fun cls d σ H => ∃ b, PySem.W.exmOne K cls c = some b ∧ (b = true → ∀ a, H a = none → ts a cls d (Ends.wo D i) (σ.set i (some (.ref a))) H) ∧ (b = false → wManyA K Wout D r cls d σ H)
inductive HdsA (X : Cx) : List ExceptHandler → List Cl → Prop
  | nil : HdsA X [] []
  | cons {x n : Str} {c : Value} {i : Nat} {ts : Addr → Value → Option Addr → TS} {b₀ : Stmt} {suite : List Stmt} {np pos' : Pos} {hds : List ExceptHandler} {l : List Cl} (hi : X.N[i]? = some n) (hln : X.env.kindOf n = some .local) (hc : Names X x c)
      (hsu : ∀ (a : Addr) (oe : Obj) (cls : Value) (d : Option Addr) (pn : List (Addr × Obj)), Zc cls d oe → (∃ vs, oe.data = .fields vs) → PSs (X.suite a ((a, oe) :: pn)) (b₀ :: suite) (ts a cls d)) (r : HdsA X hds l) :
      HdsA X (.ExceptHandler (some (.Name x np)) (some n) (b₀ :: suite) pos' :: hds) ((c, i, ts) :: l)
section
variable {X : Cx} {body : List Stmt} {h₀ : ExceptHandler} {hds : List ExceptHandler} {l : List Cl} {pos : Pos} {tb : WX → TS} {Wout : WX}
theorem ps_try_manyA (hs : X.stack = X.env :: X.outer) (hf : X.env.frame = some X.env.locals) (hN : X.N.Nodup) (tk : Takes X Wout)
    (hb : ∀ (W : WX) (pn : List (Addr × Obj)) (xe : Value → Shared → Prop), Takes (X.tr pn xe) W → PassesOwn (model X.prog X.w) X.A X.env xe → PSs (X.tr pn xe) body ((tb W)))
    (hh : HdsA X (h₀ :: hds) l) : PS X (.Try body (h₀ :: hds) [] [] pos) (fun D σ H => tb (wManyA X.K Wout D l) D σ H) := by
  refine (⟨fun pins s σ H D I h => ?_⟩)
  have okX := I.ok
  have fr0 : X.A.frames = some (X.env :: X.outer) := by rw [okX.frames, hs]
  refine wpAny_Try_except ?_
  refine wpAny_mono ((hb (wManyA X.K Wout D l) (X.pn ++ pins) (fun e s₁ => wpAny (model X.prog X.w) X.A (noteFrame e X.env) (fun _ s₂ => wpAny (model X.prog X.w) X.A (setFlight e none) (fun _ s₃ =>
    wpAny (model X.prog X.w) X.A (handleBy e X.env (h₀ :: hds)) (SP X pins D) X.xe s₃) X.xe s₂) X.xe s₁) (fun u s' xx => ?_) PassesOwn.looking).run [] s σ H D (I.toTry _) h) (fun f s1 aft => ?_) (fun e s1 he => he)
  · obtain ⟨a, B, sZ, pins', σ', H', cls, d, rfl, ivA, nB, ri, skB, nA, osX, agX, w⟩ := xx
    have ivB : L2.Inv X pins σ' H' sZ := ivA.ofTry okX
    have skA : Sky B (X.env :: X.outer) a (Zc cls d) X.env.locals s'.heap := by rw [← hs]; exact skB
    show (wpAny (model X.prog X.w) X.A (noteFrame (.ref a) X.env) _ _ _)
    refine Sky.land Zc.steady fr0 hf skA fun g3 ld3 ri3 => ?_
    have iv3 : L2.Inv X pins σ' H' { s' with heap := g3 } := ivB.landed nB ld3.1 (ri.trans ri3) osX agX
    obtain ⟨ob3, fs3, at3, cz3, dt3⟩ := ld3.there
    have offF : ∀ {h : Heap} {o : Obj} {vs : Array Value}, h.FunFrames B (X.env :: X.outer) → h.get? a = some o → o.data = .fields vs → a ∉ frs (X.env :: X.outer) := fun {h o vs} ff e dd hm => by
      obtain ⟨_, o', e', hnf⟩ := (ff.mem hm)
      rw [e] at e'; cases e'
      exact hnf _ dd
    have nofF := offF ld3.2.2.1 at3 dt3
    have neL : a ≠ X.env.locals := fun z => nofF (List.mem_filterMap.mpr ⟨X.env, List.mem_cons_self, by rw [hf, z]⟩)
    have neF : a ∉ X.fs := fun hm => by
      obtain ⟨e, he, q⟩ := (List.mem_filterMap.mp hm)
      exact nofF (List.mem_filterMap.mpr ⟨e, List.mem_cons_of_mem _ he, q⟩)
    have su3 := iv3.suite at3 dt3 nA neL neF
    have go : ∀ {hds' : List ExceptHandler} {l' : List Cl}, HdsA X hds' l' → wManyA X.K Wout D l' cls d σ' H' →
        wpAny (model X.prog X.w) X.A (handleBy (.ref a) X.env hds') (SP X pins D) X.xe { s' with heap := g3 } := by
      intro hds' l' hk
      induction hk with
      | nil =>
        intro w
        refine wpAny_handleBy_nil ?_
        obtain ⟨k1, k2, k3, oe, vs, T, oT, ts', he, hz, hd, h1, hr⟩ := id ld3
        unfold PySem.passOn
        refine (wpAny_bind (wpAny_field he hd h1 ?_))
        rw [(if_neg (show ¬ ((Value.ref T == Value.none) = true) from by simp))]
        have fin : wpAny (model X.prog X.w) X.A (setFlight (.ref a) X.env.frame) (fun _ s4 => wpAny (model X.prog X.w) X.A (throw (.ref a) : Sem Flow) (SP X pins D) X.xe s4) X.xe { s' with heap := g3 } := by
          rw [hf]
          refine HandSPX.setFlight_upZ ld3 fun g4 hh4 ri4 => wpAny_throw (tk _ _ ?_)
          exact ⟨a, B, sZ, pins, σ', H', cls, d, rfl, ivB, nB, (ri.trans ri3).trans ri4, .inr (.inr (by rw [hs]; exact hh4)), nA, osX, agX, w⟩
        first
          | exact (wpAny_bind (wpAny_pure (wpAny_bind fin)))
          | exact wpAny_bind fin
      | @cons x n c i ts b₀ suite np pos' hds2 l2 hi hln hc hsu r ih =>
        intro w
        obtain ⟨b, tb1, ys, nn⟩ := w
        have lc0 : Loc X.env.scope n := .inl hln
        refine wpAny_handleBy_cons (codeAny_handlers_test ?_) (by (intro q; cases q))
        have lkT : PySem.W.Looks (model X.prog X.w) g3 (typeOf (.ref a)) cls := fun A Q E s k q => wpAny_typeOf_ref (k _ _ at3) (by rw [cz3.1]; exact q)
        have lkM := PySem.W.exm_one (M := model X.prog X.w) (iv3.kIn) lkT tb1
        have test : ∀ {Q : Value → Shared → Prop} {E : Value → Shared → Prop}, Q c { s' with heap := g3 } → wpAny (model X.prog X.w) (X.A.mark (some (.ref a))) (eval (.Name x np) X.env) Q E { s' with heap := g3 } := fun {Q E} q => by
          obtain ⟨hg, hdbg, hm | ⟨hm, hv, hnn⟩⟩ := (hc)
          · exact ld_glob (X := X.suite a ((a, ob3) :: (X.pn ++ pins))) su3 hg hm q hdbg
          · exact ld_blt (X := X.suite a ((a, ob3) :: (X.pn ++ pins))) su3 hg hm hv q hnn hdbg
        refine test (lkM.here ?_)
        cases b with
        | true =>
          refine (codeAny_handlers_suite_as ?_)
          refine HandSPX.lands_againZ ld3 fun g4 ld4 ri4 => ?_
          have iv4 : L2.Inv X pins σ' H' { s' with heap := g4 } := ivB.landed nB ld4.1 ((ri.trans ri3).trans ri4) osX agX
          obtain ⟨ob4, fs4, at4, cz4, dt4⟩ := ld4.there
          have su4 := iv4.suite at4 dt4 nA neL neF
          refine store_ok (X := X.suite a ((a, ob4) :: (X.pn ++ pins))) (v := .ref a) su4 hN hi lc0 rfl (fun s5 S5 => ?_) (.inr hln)
          refine wpAny_mono ((hsu a ob4 cls d (X.pn ++ pins) cz4 ⟨_, dt4⟩).run [] s5 _ H' _ S5 (ys rfl a nA)) (fun f t6 aft => ?_) (fun _ _ z => False.elim z)
          have fin6 : ∀ {σ6 : L2.St} {H6 : Hp} {Q : Shared → Prop}, L2.Inv (X.suite a ((a, ob4) :: (X.pn ++ pins))) [] σ6 H6 t6 → (∀ t7, L2.Inv X pins (σ6.set i none) H6 t7 → Q t7) →
              wpAny (model X.prog X.w) X.A (do bindName X.env n .none; unbindBehindTheSuite X.env n pos') (fun _ t7 => Q t7) X.xe t6 := fun {σ6 H6 Q} su6 hq => gone_ok (su6.unsuite okX) hN hi hln hq
          cases f with
          | next =>
            obtain ⟨σ6, H6, su6, r6x⟩ := aft
            exact fin6 su6 fun t7 iv7 => ⟨_, _, iv7, r6x⟩
          | brk =>
            obtain ⟨σ6, H6, su6, r6x⟩ := aft
            exact fin6 su6 fun t7 iv7 => ⟨_, _, iv7, r6x⟩
          | cont =>
            obtain ⟨σ6, H6, su6, r6x⟩ := aft
            exact fin6 su6 fun t7 iv7 => ⟨_, _, iv7, r6x⟩
          | ret u =>
            obtain ⟨v6, σ6, H6, su6, r6, r6x⟩ := aft
            exact fin6 su6 fun t7 iv7 => ⟨_, _, _, iv7, r6, r6x⟩
        | false =>
          show (wpAny _ X.A (handleBy (.ref a) X.env hds2) _ _ _)
          exact ih (nn rfl)
    exact go hh w
  · cases f with
    | next =>
      obtain ⟨σ', H', ivA, q⟩ := aft
      exact wpAny_execs_nil ⟨σ', H', ivA.ofTry okX, q⟩
    | brk =>
      obtain ⟨σ', H', ivA, q⟩ := aft
      exact ⟨σ', H', ivA.ofTry okX, q⟩
    | cont =>
      obtain ⟨σ', H', ivA, q⟩ := aft
      exact ⟨σ', H', ivA.ofTry okX, q⟩
    | ret u =>
      obtain ⟨v, σ', H', ivA, r, q⟩ := aft
      exact ⟨v, σ', H', ivA.ofTry okX, r, q⟩
end
end Vl
end
section
set_option autoImplicit false
set_option maxRecDepth 100000
/-! V21: the def that tells the word of the error of a lambda; its call. -/
namespace Vl
open PySem PySem.Spec L2 LamX

/-- which word the clauses tell of an exception of the class cls -/
def wWord (K : PySem.W.Frag) (Q : VK) (cls : Value) (H' : Hp) : List (Addr × Str) → Prop
  | [] => False
  | (a, w) :: r => ∃ b, PySem.W.exmOne K cls (.ref a) = some b ∧ (b = true → Q (.str w) H') ∧ (b = false → wWord K Q cls H' r)
def TTw (K : PySem.W.Frag) (cw : List (Addr × Str)) (last : Str) : (XK → Hp → VK → Prop) → Hp → VK → Prop := fun tl H Q => tl (fun cls _ H' => wWord K Q cls H' cw) H fun _ H' => Q (.str last) H'
/-- the clauses as they stand: class, name, word -/
inductive HdW (sg : Scope) (mg : Str → Option Value) (Ng : List Str) : List ExceptHandler → List (Addr × Str) → Prop
  | nil : HdW sg mg Ng [] []
  | cons {x n w : Str} {i : Nat} {a : Addr} {j : Nat} {np p5 p6 p7 : Pos} {hds : List ExceptHandler} {l : List (Addr × Str)} (hi : Ng[i]? = some n) (hln : sg.names.lookup n = some .local) (hge : sg.names.lookup x = some .globalImplicit) (hme : mg x = some (.ref a))
      (hde : (x == ("__debug__" : Str)) = false) (r : HdW sg mg Ng hds l) : HdW sg mg Ng (.ExceptHandler (some (.Name x np)) (some n) [.Return (some (.Constant (.str w) j p5)) p6] p7 :: hds) ((a, w) :: l)
theorem HdW.as {X : Cx} {sg : Scope} {Ng : List Str} (hN : X.N = Ng) (hs : X.env.scope = sg) : ∀ {hds : List ExceptHandler} {cw : List (Addr × Str)}, HdW sg X.mg Ng hds cw →
    ∃ l : List Cl, HdsA X hds l ∧ ∀ (D : Ends) (cls : Value) (d : Option Addr) (σ : L2.St) (H : Hp), wWord X.K D.rt cls H cw → wManyA X.K (fun _ _ _ _ => False) D l cls d σ H
  | _, _, .nil => ⟨[], .nil, fun D cls d σ H h => h⟩
  | _, _, .cons (x := x) (n := n) (w := w) (i := i) (a := a) hi hln hge hme hde r => by
    obtain ⟨l, h1, h2⟩ := HdW.as hN hs r
    refine ⟨(.ref a, i, fun _ _ _ => tRet (tC (.str w))) :: l, .cons (by rw [hN]; exact hi) (by subst hs; exact hln) ⟨by subst hs; exact hge, hde, .inl hme⟩ (fun b oe cls d pn _ _ => pss_one (ps_ret pe_str)) h1, fun D cls d σ H h => ?_⟩
    obtain ⟨b, e1, e2, e3⟩ := h
    exact ⟨b, e1, fun hb c _ => e2 hb, fun hb => h2 D cls d σ H (e3 hb)⟩
theorem word_gives {X : Cx} {Ng : List Str} {x a q last : Str} {sg : Scope} {g : Addr} {cdg : Value} {hds : List ExceptHandler} {h₀ : ExceptHandler} {cw : List (Addr × Str)} {j : Nat} {p1 p2 p3 p4 p5 p6 : Pos} (hh : HdW sg X.mg Ng (h₀ :: hds) cw) (hnd : Ng.Nodup) (h0 : ∀ f : Addr, (L2.start Ng [V.ref f])[0]? = some (some (V.ref f)))
    : GivesTo X Ng x sg g cdg [.Try [.Expr (.Call (.Name a p1) [] [] p2) p3] (h₀ :: hds) [] [] p4, .Return (some (.Constant (.str last) j p5)) p6] a q (TTw X.K cw last) := by
  intro f c' s H Q tl act hc h
  obtain ⟨l, hl, hw⟩ := HdW.as (X := (cxOf C8.CX0 X.prog X.w X.K X.mg X.base Ng x sg g cdg X.A X.stack s H C8.E0).nox) rfl rfl hh
  refine ⟨_, pss_cons (ps_try_manyA (X := (cxOf C8.CX0 X.prog X.w X.K X.mg X.base Ng x sg g cdg X.A X.stack s H C8.E0).nox)
      (tb := fun W D σ H => ∃ Ech : XK, (∀ cls d σ' H', Ech cls d H' → W cls d σ' H') ∧ σ[0]? = some (some (.ref f)) ∧ H c' = some (CodeO c' q) ∧ tl Ech H fun _ H' => D.nx σ H')
      rfl rfl hnd LamX.takes0 (fun W pn xe tk _ => ?_) hl) (pss_one (ps_ret pe_str)), ?_⟩
  · refine (⟨fun pins s' σ H' D I h' => ?_⟩)
    obtain ⟨Ech, hW, h1, h2, h3⟩ := (h')
    have hp := (act W pn xe Ech p1 p2 tk hW)
    exact (pss_one (ps_expr (pos := p3) hp)).run pins s' σ H' D I ⟨h1, h2, h3⟩
  · exact ⟨fun cls _ H' => wWord X.K Q cls H' cw, fun cls d σ' H' z => hw _ cls d σ' H' z, h0 f, hc, h⟩

/-- the word of the error of a lambda's body: last, if there is none; isa: which error classes are which, by their names -/
def dWord (T : List (Addr × Str)) (isa : Str → Str → Bool) (cw : List (Str × Str)) (last : Str) (f : Env → M D) : Env → M D := fun env P => if P.tb = T then (match f env P with
  | .ok _ P' => .ok (.str last) P'
  | .ex c P' => (match cw.find? fun p => isa c p.1 with
    | some p => .ok (.str p.2) P'
    | none => .no)
  | .no => .no) else .no
/-- the clauses' classes by their addresses -/
def cwOf (ec : EC) (cw : List (Str × Str)) : List (Addr × Str) := cw.map fun p => (ec p.1, p.2)
theorem wWord_of {K : PySem.W.Frag} {ec : EC} {isa : Str → Str → Bool} {Q : VK} {c : Str} {H : Hp} : ∀ {cw : List (Str × Str)} {p : Str × Str}, (∀ q ∈ cw, PySem.W.exmOne K (.ref (ec c)) (.ref (ec q.1)) = some (isa c q.1)) → (cw.find? fun p => isa c p.1) = some p → Q (.str p.2) H → wWord K Q (.ref (ec c)) H (cwOf ec cw)
  | [], _, _, h, _ => nomatch h
  | (a, w) :: r, p, hi, h, q => by
    refine ⟨isa c a, hi _ List.mem_cons_self, fun e => ?_, fun e => ?_⟩
    · rw [List.find?_cons_of_pos (by simpa using e)] at h
      cases h
      exact q
    · rw [List.find?_cons_of_neg (by simpa using e)] at h
      exact wWord_of (fun q hq => hi q (List.mem_cons_of_mem _ hq)) h q
theorem ext_of {pa : PL} {H H1 : Hp} (e : ExtN H H1) : HExt pa H H1 := fun b o h _ t => e b o h t
section
variable {X : Cx} {Ex0 : Str → Hp → Prop} {T : List (Addr × Str)} {x a last : Str} {g c P : Addr} {k : Nat} {pg : Arguments} {bg : List Stmt} {sg : Scope} {dV kV doc pm cdv ct oc : Value} {an od : Option Addr} {osl : Array (Option Value)} {Ng : List Str}
  {params : Arguments} {body : Expr} {scope : Scope} {p lpos pos : Pos} {kd : Kd} {fb : Env → M D} {ec : EC} {isa : Str → Str → Bool} {cw : List (Str × Str)}
theorem x_word (hi : ∀ c, (∃ q ∈ cw, isa c q.1 = true) → ∀ q ∈ cw, PySem.W.exmOne X.K (.ref (ec c)) (.ref (ec q.1)) = some (isa c q.1)) (hg : Gl X x) (hm : X.mg x = some (.ref g)) (hk : PySem.W.keepIn X.K (.ref g) = true)
    (lk : (X.K.lookup g) = some ⟨oc, od, .func (PySem.W.fnOf x x pg bg sg dV kV doc pm an cdv ct), osl⟩) (hcg : PySem.W.codeIn X.K cdv x = true) (hb : L2.Binds X.K (PySem.W.fnOf x x pg bg sg dV kV doc pm an cdv ct) [a] []) (Sg : FnScope Ng [a] sg) (hNg : Ng[0]? = some a) (hva : Vis sg a)
    (hG : GivesTo X Ng x sg g cdv bg a (X.env.qual ++ "<lambda>") (TTw X.K (cwOf ec cw) last))
    (TB : TabB X.base X.mg c P) (hcode : (X.env.code) = .ref c) (hmT : (P, X.env.qual ++ "<lambda>") ∈ T) (hu : ∀ p ∈ T, p.1 = P → p.2 = X.env.qual ++ "<lambda>") (hr : Room (k + 2) X.A) (L : LamS X.env.scope scope) (hdef : defaultsOf params X.env = ([], []))
    (hbind : ∀ (q : Str) (cl : List (Str × Addr)) (pm cv ctv : Value), bindArgs (PySem.W.kla_fn "<lambda>" q params body scope cl pm cv ctv) (⟨[], []⟩) = pure [])
    (hbody : ∀ (A : Around) (outer : List PySem.Env) (s : Shared) (H : Hp) (E : XK) (f c' : Addr), Room k (A.deeper (lamEnv X scope s.heap.objs.size f c')) → XE (exOf ec E) (lamCx X A outer s H E scope f c') kd body fb)
    (hdb : ((x == ("__debug__" : Str))) = false := by decide) (hd : (a == ("__debug__" : Str)) = false := by decide) (hcd : (a == ("__classdict__" : Str)) = false := by decide) :
    XE Ex0 X .v (.Call (.Name x p) [.Lambda params body scope lpos] [] pos) (dWord T isa cw last fb) := by
  refine ⟨_, pe_lamcall (t := fun E => TEof X.K (exOf ec E) kd fb) hg hm hk lk hcg hb Sg hNg hva hG TB hcode hmT hu hr L hdef hbind (fun A outer s H E f c' hr2 => (hbody A outer s H E f c' hr2).can) hdb hd hcd, fun W A σ H env P0 Q k0 post => ?_⟩
  unfold dWord at post
  by_cases hT : P0.tb = T
  · rw [if_pos hT] at post
    have tT : W.pa.tb = T := k0.pen.2.2.symm.trans hT
    refine ⟨by rw [← tT]; exact k0.pen.2.1, fun H1 eN t1 => ?_⟩
    have e1 : HExt W.pa H H1 := ext_of eN
    have p1 : PenOk W.pa H1 P0 := ⟨fun a c z => by
      obtain ⟨q1, q2, q3⟩ := k0.pen.1 a c z
      exact ⟨q1, eN _ _ q2 nt_lst, eN _ _ q3 nt_lst⟩, by rw [tT]; exact t1, k0.pen.2.2⟩
    have k1 := k0.ext e1 p1
    show TEof X.K (exOf ec fun cls _ H' => wWord X.K Q cls H' (cwOf ec cw)) kd fb σ H1 fun _ H' => Q (.str last) H'
    refine ⟨W, A, env, P0, k1, ?_⟩
    cases hf : fb env P0 with
    | ok d P' =>
      rw [hf] at post
      exact fun H' e2 p2 v r => post H' (e1.trans e2) p2 (.str last) rfl
    | ex cn P' =>
      rw [hf] at post
      cases hfd : cw.find? fun p => isa cn p.1 with
      | none => simp only [hfd] at post; exact post.elim
      | some pr =>
        simp only [hfd] at post
        exact fun H' e2 p2 => wWord_of (hi cn ⟨pr, List.mem_of_find?_eq_some hfd, by simpa using List.find?_some hfd⟩) hfd (post H' (e1.trans e2) p2 (.str pr.2) rfl)
    | no => rw [hf] at post; exact post.elim
  · rw [if_neg hT] at post; exact post.elim
end
end Vl
end
section
set_option autoImplicit false
set_option maxRecDepth 100000
/-! V22: small rules that printed derivations name. -/
namespace Vl
open PySem L2
section
variable {Ex : Str → Hp → Prop} {X : Cx} {pos p2 : Pos} {x : Str}
theorem x_gInt {i : Int} (h : ∃ t, X.mg x = some (.int i t)) (hg : Gl X x := by rfl) (hd : (x == ("__debug__" : Str)) = false := by decide) : XE Ex X .v (.Name x pos) (dC (.int i)) := by
  obtain ⟨t, h⟩ := h
  exact x_glob (v := .int i) h ⟨t, rfl⟩ (fun _ _ => rfl) hg hd
theorem x_gStr {z : Str} (h : ∃ t, X.mg x = some (.str z t)) (hg : Gl X x := by rfl) (hd : (x == ("__debug__" : Str)) = false := by decide) : XE Ex X .v (.Name x pos) (dC (.str z)) := by
  obtain ⟨t, h⟩ := h
  exact x_glob (v := .str z) h ⟨t, rfl⟩ (fun _ _ => rfl) hg hd
theorem x_neg {i : Int} {j : Nat} : XE Ex X .v (.UnaryOp .USub (.Constant (.int i) j p2) pos) (dC (.int (-i))) :=
  ⟨_, pe_un un_neg pe_int, fun W A σ H env P Q k p => ⟨i, rfl, post_here p k.pen (.int (-i)) rfl⟩⟩
end
section
variable {Ex : Str → Hp → Prop} {X : Cx} {pos p : Pos} {a : Expr} {fa : Env → M D} {N : Str} {d : Addr} {tb : List (Str × D)}
theorem xt_kin (T : TabIs X.K X.w d tb) (ha : XE Ex X .b a fa) (hm : X.mg N = some (.ref d)) (hg : Gl X N := by rfl) (hd : (N == ("__debug__" : Str)) = false := by decide) (hb : behindInMarks .In (.Name N p) = false := by rfl) : XT Ex X (.Compare a [.In] [.Name N p] pos) (tV (dKIn tb fa)) := by
  obtain ⟨ta, hta, qa⟩ := ha
  obtain ⟨es, n, K⟩ := T.is
  refine ⟨_, pt_cmpR (op_in_kd K) hta (pe_glob (v := .ref d) hg hm rfl hd) hb, sdT_test fun W A σ H env P Q k p => ?_⟩
  refine qa W A σ H env P _ k ((PostG.bnd k p).mono ?_)
  rintro dx _ H1 _ _ ⟨P1, e1, p1, k1, post⟩ x rx
  cases dx with
  | str z =>
    cases (show x = .str z from rx)
    obtain ⟨r, h1, h2⟩ := T.isSome z
    refine ⟨z, r, rfl, rfl, h1, ?_⟩
    rw [h2]
    exact post_here post p1 e1 _ rfl
  | _ => exact post.elim
end
theorem roomU {k : Nat} {A : Around} (hr : Room k A) : A.units + 65 < cLine := by have := hr.un; omega
theorem roomU0 {k : Nat} {A : Around} (hr : Room k A) : A.units + 64 < cLine := by have := hr.un; omega
theorem roomU1 {k : Nat} {A : Around} (hr : Room k A) : A.units + 1 < cLine := by have := hr.un; omega
end Vl
end
section
set_option autoImplicit false
set_option maxRecDepth 100000
/-! V23: the pen's parts read and stored; a def without fuel. -/
namespace Vl
open PySem L2

/-- pen[1], pen[2] -/
def dPenK (i : Nat) : Env → M D := fun env P => match env[i]? with
  | some .pen => .ok (.int P.k) P
  | _ => .no
def dPenS (i : Nat) : Env → M D := fun env P => match env[i]? with
  | some .pen => .ok (.int P.s) P
  | _ => .no
/-- pen[0] -/
def dPenC (i : Nat) : Env → M D := fun env P => match env[i]? with
  | some .pen => .ok (.list (P.cells.map PyData.int)) P
  | _ => .no
def sPenK (i : Nat) (f : Env → M D) : Env → M Fl := fun env => bnd (f env) fun d => fun P => match env[i]?, d with
  | some .pen, .int k => .ok (.nx env) { P with k := k }
  | _, _ => .no
def sPenS (i : Nat) (f : Env → M D) : Env → M Fl := fun env => bnd (f env) fun d => fun P => match env[i]?, d with
  | some .pen, .int k => .ok (.nx env) { P with s := k }
  | _, _ => .no
theorem reps_ints {K : PySem.W.Frag} {A : AS} {H : Hp} : ∀ l : List Int, Reps K A H (l.map PyData.int) (l.map V.int)
  | [] => rfl
  | i :: l => ⟨_, _, rfl, rfl, reps_ints l⟩
section
variable {Ex : Str → Hp → Prop} {X : Cx} {pos p p2 p3 : Pos} {x : Str} {e : Expr} {fa : Env → M D} {kd : Kd}
theorem penAt {K : PySem.W.Frag} {W : Wd} {A : AS} {σ : L2.St} {H : Hp} {env : Env} {P : Pen} {i : Nat} (k : EOk K W A σ H env P) (h : env[i]? = some .pen) :
    ∃ a c, W.pa.pen = some (a, c) ∧ σ[i]? = some (some (.ref a)) ∧ a ≠ c ∧ H a = some (.lst [.ref c, .int P.k, .int P.s]) ∧ H c = some (.lst (P.cells.map V.int)) := by
  obtain ⟨o, e, a, c, hp, rfl⟩ := k.at h
  obtain ⟨h1, h2, h3⟩ := k.pen.1 a c hp
  exact ⟨a, c, hp, e, h1, h2, h3⟩
theorem pe_part {i : Nat} {j : Int} {t : Nat} (hN : X.N[i]? = some x) (hv : Vis X.env.scope x) (hd : (x == ("__debug__" : Str)) = false) (hcd : (x == ("__classdict__" : Str)) = false) :
    PE X (.Subscript (.Name x p) (.Constant (.int j) t p2) pos) (tOp (rIx X.K) (tVar i) (tC (.int j))) := pe_ix ix_seq (pe_var hN hv hd hcd) pe_int fun _ _ => rfl
theorem x_penK (i : Nat) {t : Nat} (hN : X.N[i]? = some x := by rfl) (hv : Vis X.env.scope x := by first | exact Or.inl rfl | exact Or.inr (Or.inl rfl) | exact Or.inr (Or.inr rfl)) (hd : (x == ("__debug__" : Str)) = false := by decide) (hcd : (x == ("__classdict__" : Str)) = false := by decide) :
    XE Ex X .v (.Subscript (.Name x p) (.Constant (.int 1) t p2) pos) (dPenK i) := by
  refine ⟨_, pe_part hN hv hd hcd, fun W A σ H env P Q k post => ?_⟩
  unfold dPenK at post
  cases h : env[i]? with
  | none => rw [h] at post; exact post.elim
  | some s => cases s with
    | pen =>
      rw [h] at post
      obtain ⟨a, c, hp, e, h1, h2, h3⟩ := penAt k h
      exact ⟨.ref a, e, .inl ⟨a, _, 1, .int P.k, rfl, rfl, .inl (.inl h2), rfl, post_here (a := PyData.int P.k) post k.pen _ rfl⟩⟩
    | _ => rw [h] at post; exact post.elim
theorem x_penS (i : Nat) {t : Nat} (hN : X.N[i]? = some x := by rfl) (hv : Vis X.env.scope x := by first | exact Or.inl rfl | exact Or.inr (Or.inl rfl) | exact Or.inr (Or.inr rfl)) (hd : (x == ("__debug__" : Str)) = false := by decide) (hcd : (x == ("__classdict__" : Str)) = false := by decide) :
    XE Ex X .v (.Subscript (.Name x p) (.Constant (.int 2) t p2) pos) (dPenS i) := by
  refine ⟨_, pe_part hN hv hd hcd, fun W A σ H env P Q k post => ?_⟩
  unfold dPenS at post
  cases h : env[i]? with
  | none => rw [h] at post; exact post.elim
  | some s => cases s with
    | pen =>
      rw [h] at post
      obtain ⟨a, c, hp, e, h1, h2, h3⟩ := penAt k h
      exact ⟨.ref a, e, .inl ⟨a, _, 2, .int P.s, rfl, rfl, .inl (.inl h2), rfl, post_here (a := PyData.int P.s) post k.pen _ rfl⟩⟩
    | _ => rw [h] at post; exact post.elim
theorem x_penC (i : Nat) {t : Nat} (hN : X.N[i]? = some x := by rfl) (hv : Vis X.env.scope x := by first | exact Or.inl rfl | exact Or.inr (Or.inl rfl) | exact Or.inr (Or.inr rfl)) (hd : (x == ("__debug__" : Str)) = false := by decide) (hcd : (x == ("__classdict__" : Str)) = false := by decide) :
    XE Ex X .b (.Subscript (.Name x p) (.Constant (.int 0) t p2) pos) (dPenC i) := by
  refine ⟨_, pe_part hN hv hd hcd, fun W A σ H env P Q k post => ?_⟩
  unfold dPenC at post
  cases h : env[i]? with
  | none => rw [h] at post; exact post.elim
  | some s => cases s with
    | pen =>
      rw [h] at post
      obtain ⟨a, c, hp, e, h1, h2, h3⟩ := penAt k h
      refine ⟨.ref a, e, .inl ⟨a, _, 0, .ref c, rfl, rfl, .inl (.inl h2), rfl, post_here (a := PyData.list (P.cells.map PyData.int)) post k.pen _ ⟨c, _, rfl, ⟨h3, fun ⟨c', z⟩ => ?_⟩, reps_ints _⟩⟩⟩
      rw [hp] at z
      cases z
      exact h1 rfl
    | _ => rw [h] at post; exact post.elim
end
section
variable {K : PySem.W.Frag} {W : Wd} {A : AS} {σ : L2.St} {H : Hp} {env : Env} {P : Pen}
/-- the pen's list is written -/
theorem EOk.penW (k : EOk K W A σ H env P) {a c : Addr} (hp : W.pa.pen = some (a, c)) (P' : Pen) (hc : P'.cells = P.cells) (ht : P'.tb = P.tb) : EOk K W A σ (upd H a (.lst [.ref c, .int P'.k, .int P'.s])) env P' := by
  obtain ⟨h1, h2, h3⟩ := k.pen.1 a c hp
  refine k.ext (fun b o h n _ => (upd_ne fun z => n ⟨c, by rw [z]; exact hp⟩).trans h) ⟨fun a' c' z => ?_, tabs_upd k.pen.2.1 (by rw [h2]; trivial), ht.trans k.pen.2.2⟩
  rw [hp] at z
  cases z
  exact ⟨h1, upd_same, by rw [upd_ne (Ne.symm h1), hc]; exact h3⟩
end
section
variable {Ex : Str → Hp → Prop} {X : Cx} {pos p p2 p3 : Pos} {x : Str} {e : Expr} {fa : Env → M D} {kd : Kd}
theorem xs_penK (i : Nat) {t : Nat} (he : XE Ex X .v e fa) (hN : X.N[i]? = some x := by rfl) (hv : Vis X.env.scope x := by first | exact Or.inl rfl | exact Or.inr (Or.inl rfl) | exact Or.inr (Or.inr rfl)) (hd : (x == ("__debug__" : Str)) = false := by decide) (hcd : (x == ("__classdict__" : Str)) = false := by decide)
    (hs : swapsWithSole [.Subscript (.Name x p) (.Constant (.int 1) t p2) p3] e pos.line X.env = pure false := by rfl) (hw : swappedStores [.Subscript (.Name x p) (.Constant (.int 1) t p2) p3] e X.env = pure none := by rfl)
    (h1 : (assignEach [.Subscript (.Name x p) (.Constant (.int 1) t p2) p3] X.env).map (·.2) = [assign (.Subscript (.Name x p) (.Constant (.int 1) t p2) p3) X.env] := by rfl) : XS Ex kd X (.Assign [.Subscript (.Name x p) (.Constant (.int 1) t p2) p3] e pos) (sPenK i fa) := by
  obtain ⟨te, hte, q⟩ := he
  refine ⟨_, ps_asg hte (pg_sub (pe_var hN hv hd hcd) pe_int set_list) hs hw h1, fun W A σ H env P De k post => ?_⟩
  refine q W A σ H env P _ k ((PostS.bnd k post).mono ?_)
  rintro d _ H1 _ _ ⟨P1, e1, p1, k1, post⟩ v r
  cases h : env[i]? with
  | none => rw [h] at post; exact post.elim
  | some s => cases s with
    | pen =>
      rw [h] at post
      cases d with
      | int m =>
        cases (show v = .int m from r)
        obtain ⟨a, c, hp, eo, n1, n2, n3⟩ := penAt k1 h
        refine ⟨.ref a, eo, a, _, 1, 1, rfl, rfl, n2, rfl, ?_⟩
        exact post _ _ _ (k1.penW hp { P1 with k := m } rfl rfl)
      | _ => exact post.elim
    | _ => rw [h] at post; exact post.elim
theorem xs_penS (i : Nat) {t : Nat} (he : XE Ex X .v e fa) (hN : X.N[i]? = some x := by rfl) (hv : Vis X.env.scope x := by first | exact Or.inl rfl | exact Or.inr (Or.inl rfl) | exact Or.inr (Or.inr rfl)) (hd : (x == ("__debug__" : Str)) = false := by decide) (hcd : (x == ("__classdict__" : Str)) = false := by decide)
    (hs : swapsWithSole [.Subscript (.Name x p) (.Constant (.int 2) t p2) p3] e pos.line X.env = pure false := by rfl) (hw : swappedStores [.Subscript (.Name x p) (.Constant (.int 2) t p2) p3] e X.env = pure none := by rfl)
    (h1 : (assignEach [.Subscript (.Name x p) (.Constant (.int 2) t p2) p3] X.env).map (·.2) = [assign (.Subscript (.Name x p) (.Constant (.int 2) t p2) p3) X.env] := by rfl) : XS Ex kd X (.Assign [.Subscript (.Name x p) (.Constant (.int 2) t p2) p3] e pos) (sPenS i fa) := by
  obtain ⟨te, hte, q⟩ := he
  refine ⟨_, ps_asg hte (pg_sub (pe_var hN hv hd hcd) pe_int set_list) hs hw h1, fun W A σ H env P De k post => ?_⟩
  refine q W A σ H env P _ k ((PostS.bnd k post).mono ?_)
  rintro d _ H1 _ _ ⟨P1, e1, p1, k1, post⟩ v r
  cases h : env[i]? with
  | none => rw [h] at post; exact post.elim
  | some s => cases s with
    | pen =>
      rw [h] at post
      cases d with
      | int m =>
        cases (show v = .int m from r)
        obtain ⟨a, c, hp, eo, n1, n2, n3⟩ := penAt k1 h
        refine ⟨.ref a, eo, a, _, 2, 2, rfl, rfl, n2, rfl, ?_⟩
        exact post _ _ _ (k1.penW hp { P1 with s := m } rfl rfl)
      | _ => exact post.elim
    | _ => rw [h] at post; exact post.elim
/-- xs[i] = e, xs an own list -/
def dSetAt (ds : List D) (i : Int) (d : D) : Option (List D) := (ixN ds.length i).map fun j => ds.set j d
def sSetAt (i : Nat) (fa fi : Env → M D) : Env → M Fl := fun env => bnd (fa env) fun d => match env[i]? with
  | some (.own ds) => bnd (fi env) fun
    | .int j => bnd (orNo (dSetAt ds j d)) fun es => ret (.nx (env.set i (.own es)))
    | _ => no
  | _ => no
theorem xs_setAt {e2 : Expr} {fi : Env → M D} (i : Nat) (he : XE Ex X .v e fa) (hi : XE Ex X .v e2 fi) (hN : X.N[i]? = some x := by rfl) (hv : Vis X.env.scope x := by first | exact Or.inl rfl | exact Or.inr (Or.inl rfl) | exact Or.inr (Or.inr rfl)) (hd : (x == ("__debug__" : Str)) = false := by decide) (hcd : (x == ("__classdict__" : Str)) = false := by decide)
    (ha : ∀ v, assign (.Subscript (.Name x p) e2 p3) X.env v = (do
      let ov ← holding [v] (eval (.Name x p) X.env)
      let iv ← holding [v, ov] (eval e2 X.env)
      standAt p3
      (holding [v, ov, iv] (setItem ov iv v))
      release [v, ov, iv] []) := by intro _; rfl)
    (hs : swapsWithSole [.Subscript (.Name x p) e2 p3] e pos.line X.env = pure false := by rfl) (hw : swappedStores [.Subscript (.Name x p) e2 p3] e X.env = pure none := by rfl)
    (h1 : (assignEach [.Subscript (.Name x p) e2 p3] X.env).map (·.2) = [assign (.Subscript (.Name x p) e2 p3) X.env] := by rfl) : XS Ex kd X (.Assign [.Subscript (.Name x p) e2 p3] e pos) (sSetAt i fa fi) := by
  obtain ⟨te, hte, q⟩ := he
  obtain ⟨ti, hti, q2⟩ := hi
  refine ⟨_, ps_asg hte (pg_sub (pe_var hN hv hd hcd) hti set_list ha) hs hw h1, fun W A σ H env P De k post => ?_⟩
  refine q W A σ H env P _ k ((PostS.bnd k post).mono ?_)
  rintro d _ H1 _ _ ⟨P1, e1, p1, k1, post⟩ v r
  cases h : env[i]? with
  | none => rw [h] at post; exact post.elim
  | some sv => cases sv with
    | own ds =>
      rw [h] at post
      obtain ⟨o, eo, a, vs, rfl, _, _, _, _⟩ := k1.at h
      refine ⟨.ref a, eo, q2 W A σ H1 env P1 _ k1 ((PostS.bnd k1 post).mono ?_)⟩
      rintro dj _ H2 _ _ ⟨P2, e2', p2', k2, post2⟩ y ry
      cases dj with
      | int j =>
        cases (show y = .int j from ry)
        obtain ⟨o2, eo2, a2, vs2, e3, _, _, hl2, r2⟩ := k2.at h
        rw [eo] at eo2
        cases eo2
        cases e3
        cases hd2 : dSetAt ds j d with
        | none => simp only [hd2] at post2; exact post2.elim
        | some es =>
          simp only [hd2] at post2
          obtain ⟨n, hn, rfl⟩ := Option.map_eq_some_iff.mp (show (ixN ds.length j).map (fun n => ds.set n d) = some es from hd2)
          refine ⟨a, vs2, j, n, rfl, rfl, hl2, by rw [r2.length]; exact hn, ?_⟩
          exact post2 _ _ _ (k2.write h eo (Reps.set (k1.rep e2' r) n r2))
      | _ => exact post2.elim
    | _ => rw [h] at post; exact post.elim
end
/-- a def of which nothing is promised -/
theorem fnG_no {P : Program} {w : World} {K : PySem.W.Frag} {mg : Str → Option Value} {base : Heap} {gd : Bool} {k n : Nat} {f : Addr} {fd : FuncData} {ps : List Str} {ec : EC} {kd : Kd} (hn : ps.length = n) : FnG P w K mg base gd k f fd ps (spG K ec kd n fun _ _ => .no) :=
  ⟨fun vs H Q E h => h.1.trans hn.symm, fun A outer s H args us vs Q E hr hg e0 hb rv h => by
    obtain ⟨_, _, _, _, _, _, _, _, _, z⟩ := h
    exact z.elim⟩
end Vl
end
section
set_option autoImplicit false
set_option maxRecDepth 100000
/-! V24: the script's slices; an own list let go within a statement. -/
namespace Vl
open PySem L2
def dScr (i : Nat) (fl fh : Env → M (Option Int)) : Env → M D := fun env => match env[i]? with
  | some (.scr ns) => bnd (fl env) fun l => bnd (fh env) fun h => ret (.list (cutD (ns.map PyData.int) l h))
  | _ => no
section
variable {Ex : Str → Hp → Prop} {X : Cx} {pos p p2 : Pos} {x : Str} {lo hi : Option Expr} {fl fh : Env → M (Option Int)}
theorem x_scr (i : Nat) (hl : XO Ex X lo fl) (hh : XO Ex X hi fh) (hN : X.N[i]? = some x := by rfl) (hv : Vis X.env.scope x := by first | exact Or.inl rfl | exact Or.inr (Or.inl rfl) | exact Or.inr (Or.inr rfl)) (hd : (x == ("__debug__" : Str)) = false := by decide) (hcd : (x == ("__classdict__" : Str)) = false := by decide) :
    XE Ex X .f (.Subscript (.Name x p) (.Slice lo hi none p2) pos) (dScr i fl fh) := by
  obtain ⟨tl, htl, ql⟩ := hl
  obtain ⟨th, hth, qh⟩ := hh
  refine ⟨_, pe_slice sl_list (pe_var hN hv hd hcd) htl hth, fun W A σ H env P Q k post => ?_⟩
  unfold dScr at post
  cases h : env[i]? with
  | none => rw [h] at post; exact post.elim
  | some s => cases s with
    | scr ns =>
      rw [h] at post
      obtain ⟨o, e, xv, rfl, r⟩ := k.at h
      refine ⟨xv, e, ql W A σ H env P _ k ((PostG.bnd k post).mono ?_)⟩
      rintro l _ H1 _ _ ⟨P1, e1, p1, k1, post1⟩
      refine qh W A σ H1 env P1 _ k1 ((PostG.bnd k1 post1).mono ?_)
      rintro u _ H2 _ _ ⟨P2, e2, p2', k2, post2⟩
      obtain ⟨o2, eo2, xv2, rfl, r2⟩ := k2.at h
      rw [e] at eo2
      cases eo2
      obtain ⟨a, rfl, sq⟩ := r2.sq
      refine ⟨a, _, rfl, sq, fun q hq => ?_⟩
      have s := same_upd (o := .lst (cutV (ns.map V.int) l u)) hq
      exact post_ret post2 s p2' (e2.trans (HExt.of s)) (e1.trans (e2.trans (HExt.of s))) (.ref q) ⟨q, _, _, rfl, rfl, fresh_back k.pen (e1.trans e2) p2' (.of hq), upd_same, (reps_ints (K := X.K) (A := ad A q) (H := upd H2 q (.lst (cutV (ns.map V.int) l u))) ns).cut l u⟩
    | _ => rw [h] at post; exact post.elim
end
end Vl
end
section
set_option autoImplicit false
set_option maxRecDepth 100000
/-! V25: bits of integers; sums. -/
namespace Vl
open PySem L2

def dShl : D → D → Option D
  | .int i, .int j => guardD (decide (0 ≤ j ∧ j ≤ 1000000 ∧ i.natAbs < 2 ^ 64)) (.int (i * 2 ^ j.toNat))
  | _, _ => none
def dShr : D → D → Option D
  | .int i, .int j => guardD (decide (0 ≤ j)) (.int (i / 2 ^ j.toNat))
  | _, _ => none
def dBand : D → D → Option D
  | .int i, .int j => some (.int (Builtin.bitAnd i j))
  | _, _ => none
def dBor : D → D → Option D
  | .int i, .int j => some (.int (Builtin.bitOr i j))
  | _, _ => none
def intsOf : List D → Option (List Int)
  | [] => some []
  | .int i :: r => (intsOf r).map (i :: ·)
  | _ => none
def gSum : List D → Option D
  | [.list xs] => (intsOf xs).map fun ns => .int ns.sum
  | _ => none
section
variable {X : Cx} {K : PySem.W.Frag}
theorem od_shl : OpD K .v (rI CPow fun i j => .int (i * 2 ^ j.toNat)) dShl := od_int (C := CPow) (f := fun i j => .int (i * 2 ^ j.toNat)) (fun i j H Q c q => ⟨i, j, rfl, rfl, c, q⟩) fun dx dy d h => by
  cases dx with
  | int i => cases dy with
    | int j => obtain ⟨c, rfl⟩ := guardD_some h; exact ⟨i, j, rfl, rfl, of_decide_eq_true (p := 0 ≤ j ∧ j ≤ 1000000 ∧ i.natAbs < 2 ^ 64) c, fun _ _ => rfl⟩
    | _ => cases h
  | _ => cases h
theorem od_shr : OpD K .v (rI (fun _ j => 0 ≤ j) fun i j => .int (i / 2 ^ j.toNat)) dShr := od_int (C := fun _ j => 0 ≤ j) (f := fun i j => .int (i / 2 ^ j.toNat)) (fun i j H Q c q => ⟨i, j, rfl, rfl, c, q⟩) fun dx dy d h => by
  cases dx with
  | int i => cases dy with
    | int j => obtain ⟨c, rfl⟩ := guardD_some h; exact ⟨i, j, rfl, rfl, of_decide_eq_true c, fun _ _ => rfl⟩
    | _ => cases h
  | _ => cases h
theorem od_band : OpD K .v (rI0 fun i j => .int (Builtin.bitAnd i j)) dBand := od_int (C := fun _ _ => True) (f := fun i j => .int (Builtin.bitAnd i j)) (fun i j H Q _ q => ⟨i, j, rfl, rfl, q⟩) fun dx dy d h => by
  cases dx with
  | int i => cases dy with
    | int j => cases h; exact ⟨i, j, rfl, rfl, trivial, fun _ _ => rfl⟩
    | _ => cases h
  | _ => cases h
theorem od_bor : OpD K .v (rI0 fun i j => .int (Builtin.bitOr i j)) dBor := od_int (C := fun _ _ => True) (f := fun i j => .int (Builtin.bitOr i j)) (fun i j H Q _ q => ⟨i, j, rfl, rfl, q⟩) fun dx dy d h => by
  cases dx with
  | int i => cases dy with
    | int j => cases h; exact ⟨i, j, rfl, rfl, trivial, fun _ _ => rfl⟩
    | _ => cases h
  | _ => cases h
theorem reps_intsO {A : AS} {H : Hp} : ∀ {xs : List D} {vs : List V} {ns : List Int}, Reps K A H xs vs → intsOf xs = some ns → vs = ns.map V.int
  | [], vs, ns, h, e => by cases e; exact h
  | x :: xs, vs, ns, ⟨v, r, e1, h, t⟩, e => by
    cases x with
    | int b =>
      change (intsOf xs).map (b :: ·) = some ns at e
      cases hb : intsOf xs with
      | none => rw [hb] at e; cases e
      | some cs =>
        rw [hb] at e
        cases e
        rw [e1, List.map_cons, ← reps_intsO t hb, show v = V.int b from h]
    | _ => cases e
theorem cd_sum : CallD K .v (rSum K) gSum := by
  intro W A σ H env P vs ds d Q k rs hg q
  match ds, rs, hg with
  | [d0], rs, hg =>
    obtain ⟨v, rfl, r⟩ := one_arg rs
    cases d0 with
    | list xs =>
      change (intsOf xs).map _ = some d at hg
      cases hb : intsOf xs with
      | none => rw [hb] at hg; cases hg
      | some ns =>
        rw [hb] at hg
        cases hg
        obtain ⟨a, vs, rfl, l, r⟩ := r
        rw [reps_intsO r hb] at l
        exact ⟨a, ns, rfl, l.sq, q _ H (Same.refl H) rfl⟩
    | _ => cases hg
  | [], _, hg => cases hg
  | _ :: _ :: _, _, hg => simp [gSum] at hg
end

/-! ### calls with borrowed lists, whose answer holds no list -/
mutual
def noL : D → Bool
  | .list _ => false
  | .dict _ => false
  | .tuple ds => noLs ds
  | _ => true
def noLs : List D → Bool
  | [] => true
  | d :: ds => noL d && noLs ds
end
mutual
theorem noL_rep {K : PySem.W.Frag} {A A' : AS} {H : Hp} (h : ∀ b, A b → A' b ∨ ∃ vs, H b = some (.lst vs)) : ∀ (d : D) (v : V), noL d = true → Rep K A' H d v → Rep K A H d v
  | .none, _, _, r => r
  | .bool _, _, _, r => r
  | .int _, _, _, r => r
  | .str _, _, _, r => r
  | .list _, _, f, _ => nomatch f
  | .dict _, _, f, _ => nomatch f
  | .tuple ds, _, f, ⟨a, vs, e, l, q⟩ => ⟨a, vs, e, l.elim (fun ⟨o, h1, h2, h3⟩ => .inl ⟨o, h1, h2, fun z => (h a z).elim h3 fun ⟨us, hu⟩ => by rw [h1] at hu; cases hu⟩) .inr, noLs_rep h ds vs f q⟩
theorem noLs_rep {K : PySem.W.Frag} {A A' : AS} {H : Hp} (h : ∀ b, A b → A' b ∨ ∃ vs, H b = some (.lst vs)) : ∀ (ds : List D) (vs : List V), noLs ds = true → Reps K A' H ds vs → Reps K A H ds vs
  | [], _, _, r => r
  | d :: ds, _, f, ⟨v, r, e, h1, h2⟩ => ⟨v, r, e, noL_rep h d v (Bool.and_eq_true _ _ ▸ f).1 h1, noLs_rep h ds r (Bool.and_eq_true _ _ ▸ f).2 h2⟩
end
def les (A : AS) (H : Hp) (us : List V) : AS := fun b => A b ∧ (V.ref b ∈ us → ¬ ∃ ws, H b = some (.lst ws))
theorem repB_lessL {K : PySem.W.Frag} {pa : PL} {A : AS} {H : Hp} : ∀ {ds : List D} {vs : List V} (us : List V), RepsB K pa A H ds vs → (∀ v ∈ vs, v ∈ us) → ArgsOk K pa.bare (les A H us) H (ds.map .v) vs
  | [], _, _, h, _ => h
  | d :: ds, _, us, ⟨v, r, e, h, t⟩, hm => by
    subst e
    have st : Stay A (les A H us) H H := fun b u e _ n => ⟨e, fun z => n z.1⟩
    refine ⟨v, r, rfl, ?_, repB_lessL us t fun x hx => hm x (List.mem_cons_of_mem _ hx)⟩
    cases d with
    | list es =>
      obtain ⟨a, ws, rfl, l, q⟩ := h
      exact ⟨a, ws, rfl, ⟨l.1, fun z => z.2 (hm _ List.mem_cons_self) ⟨_, l.1⟩⟩, Reps.mono st _ _ q⟩
    | none | bool _ | int _ | str _ | tuple _ | dict _ => exact Rep.mono st _ _ h
def dCallT (n : Nat) (den : List SV → M D) (g : Env → M (List D)) : Env → M D := fun env => bnd (g env) fun ds => fun P => if ds.length = n then (match den (ds.map .v) P with
  | .ok d _ => if noL d then .ok d P else .no
  | .ex c _ => .ex c P
  | .no => .no) else .no
section
variable {gd : Bool} {Ex : Str → Hp → Prop} {X : Cx} {k : Nat} {f : Addr} {fd : FuncData} {ps : List Str} {x : Str} {p pos : Pos} {e : Expr} {es : List Expr} {ec : EC} {den : List SV → M D} {g : Env → M (List D)} {n : Nat}
theorem x_callT (F : FnG X.prog X.w X.K X.mg X.base gd k f fd ps (spG X.K ec .v n den)) (hr : Room k X.A) (hgd : gd = true → X.A.guards = some []) (hm : X.mg x = some (.ref f)) (hk : PySem.W.keepIn X.K (.ref f) = true) (hb : Binds X.K fd ps []) (hx : Passes (L2.CX X.prog X.w) X (xk ec Ex))
    (ha : XB Ex X (e :: es) g) (hg : Gl X x := by rfl) (hdb : (x == ("__debug__" : Str)) = false := by decide) (he : starEach (e :: es) X.env = (false, eval e X.env) :: starEach es X.env := by rfl) (hpl : (backTo pos (starEach es X.env)).any (·.1) = false := by rfl) :
    XE Ex X .v (.Call (.Name x p) (e :: es) [] pos) (dCallT n den g) := by
  obtain ⟨t, ht, q⟩ := ha
  refine ⟨_, pe_callG F hr hgd hm hk hb hx ht hg hdb he hpl, fun W A σ H env P Q k p => ?_⟩
  refine q W A σ H env P _ k ((PostG.bnd k p).mono ?_)
  rintro ds _ H1 _ _ ⟨P1, e1, p1, k1, post⟩ vs rs
  show spG X.K ec .v n den (vs ++ []) H1 Q (xk ec Ex)
  rw [List.append_nil]
  by_cases hn : ds.length = n
  · rw [if_pos hn] at post
    refine ⟨by rw [repsB_length rs]; exact hn, W.pa.bare, les A H1 vs, ds.map .v, P1, fun b hb => k1.trk b hb.1, (fun p c z => nomatch z), ⟨(fun p c z => nomatch z), k1.pen.2⟩, repB_lessL vs rs fun _ h => h, ?_⟩
    cases hd : den (ds.map .v) P1 with
    | ok d P' =>
      rw [hd] at post
      dsimp only at post
      by_cases hp : noL d = true
      · rw [if_pos hp] at post
        refine fun H' e pk v r => post H' (HExt.none e) (HExt.penOk e k1.pen pk) (e1.trans (HExt.none e)) v (noL_rep (fun b hb => ?_) d v hp r)
        by_cases hz : V.ref b ∈ vs ∧ ∃ ws, H1 b = some (.lst ws)
        · obtain ⟨_, ws, hw⟩ := hz
          exact .inr ⟨ws, e.at hw (fun ⟨_, z⟩ => nomatch z)⟩
        · exact .inl ⟨hb, fun m z => hz ⟨m, z⟩⟩
      · rw [if_neg hp] at post; exact post.elim
    | ex c P' =>
      rw [hd] at post
      exact fun H' e pk => ⟨c, rfl, rfl, post H' (HExt.none e) (HExt.penOk e k1.pen pk)⟩
    | no => rw [hd] at post; exact post.elim
  · rw [if_neg hn] at post; exact post.elim
end

/-! ### == and !=: texts of all signs; a tuple with an empty one, whatever it holds -/
def dEqA : D → D → Option D
  | .str a, .str b => some (.bool (decide (a = b)))
  | .tuple xs, .tuple ys => if xs.isEmpty || ys.isEmpty then some (.bool (xs.isEmpty && ys.isEmpty)) else dEq (.tuple xs) (.tuple ys)
  | x, y => dEq x y
def dNeA : D → D → Option D
  | .str a, .str b => some (.bool (!decide (a = b)))
  | x, y => dNe x y
section
variable {X : Cx} {K : PySem.W.Frag}
def rEqT (K : PySem.W.Frag) : R2 := fun x y H Q => rEqD K x y H Q ∨ (rEq x y H Q ∨ ∃ a b xs ys, x = .ref a ∧ y = .ref b ∧ SqT K H a xs ∧ SqT K H b ys ∧ (xs = [] ∨ ys = []) ∧ Q (.bl (xs.isEmpty && ys.isEmpty)) H)
theorem op_eqE (hu : X.A.units + 64 < cLine) : OpR X (compareOp .Eq) (fun x y H Q => ∃ a b xs ys, x = .ref a ∧ y = .ref b ∧ SqT X.K H a xs ∧ SqT X.K H b ys ∧ (xs = [] ∨ ys = []) ∧ Q (.bl (xs.isEmpty && ys.isEmpty)) H) := by
  intro pins s σ H x y; intro v u Q I rx ry h
  obtain ⟨a, b, xs, ys, rfl, rfl, h1, h2, he, q⟩ := h
  cases rx
  cases ry
  obtain ⟨us, r1, t1, _⟩ := I.tuple h1
  obtain ⟨ws, r2, t2, _⟩ := I.tuple h2
  have l1 := r1.length
  have l2 := r2.length
  have ho : us.toArray.size = 0 ∨ ws.toArray.size = 0 := by
    rcases he with rfl | rfl
    · exact .inl (by rw [List.size_toArray, ← l1]; rfl)
    · exact .inr (by rw [List.size_toArray, ← l2]; rfl)
  have k := SeqAt.RcAt.tuples (A := X.A) (s := s) (e := fun _ => true) t1 t2 (by omega) (fun j q1 q2 => by omega) X.prog X.w X.xe (EP X pins σ Q)
  have ev : ((List.range (min us.toArray.size ws.toArray.size)).all (fun _ => true) && us.toArray.size == ws.toArray.size) = (xs.isEmpty && ys.isEmpty) := by
    have e1 : ((List.range (min us.toArray.size ws.toArray.size)).all fun _ => true) = true := by simp
    rw [e1, Bool.true_and, List.size_toArray, List.size_toArray, ← l1, ← l2]
    rcases he with rfl | rfl
    · cases ys <;> rfl
    · cases xs <;> rfl
  rw [ev] at k
  exact k ⟨.bl (xs.isEmpty && ys.isEmpty), H, I, rfl, q⟩
theorem or_eqA (hu : X.A.units + 64 < cLine) : OpR X (compareOp .Eq) (rEqT X.K) := (op_eqD hu).or (op_eq.or (op_eqE hu))
def rNeT (K : PySem.W.Frag) : R2 := fun x y H Q => rNeD K x y H Q ∨ rNe x y H Q
theorem or_neA (hu : X.A.units + 64 < cLine) : OpR X (compareOp .NotEq) (rNeT X.K) := (op_neD hu).or op_ne
theorem od_eqA : OpD K .v (rEqT K) dEqA := by
  intro W A σ H env P x y dx dy d Q k rx ry hg q
  have old : dEq dx dy = some d → rEqT K x y H Q := fun h => .inl (od_eq W A σ H env P x y dx dy d Q k rx ry h q)
  cases dx with
  | str a =>
    cases dy with
    | str b =>
      cases hg
      cases (show x = .str a from rx)
      cases (show y = .str b from ry)
      refine .inr (.inl ⟨rfl, ?_⟩)
      have e : decide (V.str a = V.str b) = decide (a = b) := decide_eq_decide.mpr ⟨fun z => V.str.inj z, fun z => by rw [z]⟩
      rw [e]
      exact q _ H (Same.refl H) rfl
    | _ => exact old hg
  | tuple xs =>
    cases dy with
    | tuple ys =>
      change (if (xs.isEmpty || ys.isEmpty) = true then some (PyData.bool (xs.isEmpty && ys.isEmpty)) else dEq (.tuple xs) (.tuple ys)) = some d at hg
      by_cases he : (xs.isEmpty || ys.isEmpty) = true
      · rw [if_pos he] at hg
        cases hg
        obtain ⟨a, vs, rfl, l, r⟩ := rx
        obtain ⟨b, us, rfl, l2, r2⟩ := ry
        have e1 : vs.isEmpty = xs.isEmpty := by
          have := r.length
          cases vs <;> cases xs <;> first | rfl | simp at this
        have e2 : us.isEmpty = ys.isEmpty := by
          have := r2.length
          cases us <;> cases ys <;> first | rfl | simp at this
        refine .inr (.inr ⟨a, b, vs, us, rfl, rfl, l.sq, l2.sq, ?_, ?_⟩)
        · rw [← e1, ← e2, Bool.or_eq_true, List.isEmpty_iff, List.isEmpty_iff] at he
          exact he
        · rw [e1, e2]
          exact q _ H (Same.refl H) rfl
      · rw [if_neg he] at hg
        exact old hg
    | _ => exact old hg
  | _ => exact old hg
theorem od_neA : OpD K .v (rNeT K) dNeA := by
  intro W A σ H env P x y dx dy d Q k rx ry hg q
  have old : dNe dx dy = some d → rNeT K x y H Q := fun h => .inl (od_ne W A σ H env P x y dx dy d Q k rx ry h q)
  cases dx with
  | str a =>
    cases dy with
    | str b =>
      cases hg
      cases (show x = .str a from rx)
      cases (show y = .str b from ry)
      refine .inr ⟨rfl, ?_⟩
      have e : decide (V.str a = V.str b) = decide (a = b) := decide_eq_decide.mpr ⟨fun z => V.str.inj z, fun z => by rw [z]⟩
      rw [e]
      exact q _ H (Same.refl H) rfl
    | _ => exact old hg
  | _ => exact old hg
end
end Vl
end
section
set_option autoImplicit false
set_option maxRecDepth 100000
/-! V26: the def law: its promise, its first row, its call at the row's end. -/
namespace Vl
open PySem PySem.Spec PyProof.Rows L2 LamX

/-- the script, and nothing that is known of the world but the tables -/
def spL (K : PySem.W.Frag) (tb : List (Addr × Str)) : Sp := fun vs H Q _ => ∃ (a : Addr) (ns : List Int), vs = [.ref a] ∧ ns.length ≤ 63 ∧ (∀ z ∈ ns, Builtin.Int.intBits z ≤ 1048576) ∧ ScrOk K (fun _ => False) H (.ref a) ns ∧ Tabs tb H ∧ ∀ H', Q (.bl true) H'
/-- what the pen of the first row is -/
theorem open_rep {K : PySem.W.Frag} {A : AS} {H : Hp} {cs : List Int} {v : V} (r : Rep K A H (.list [.list (cs.map PyData.int), .int 0, .int 0]) v) : ∃ p c, v = .ref p ∧ H p = some (.lst [.ref c, .int 0, .int 0]) ∧ H c = some (.lst (cs.map V.int)) := by
  obtain ⟨p, ws, e, lp, v1, t1, e1, r1, v2, t2, e2, r2, v3, t3, e3, r3, e4⟩ := r
  obtain ⟨c, us, ec, lc, rc⟩ := r1
  have e4 : t3 = [] := e4
  have r2 : v2 = .int 0 := r2
  have r3 : v3 = .int 0 := r3
  subst e4 e3 r3 e2 r2 e1 ec
  refine ⟨p, c, e, lp.1, ?_⟩
  have h : ∀ (xs : List Int) (ys : List V), Reps K A H (xs.map PyData.int) ys → ys = xs.map V.int := by
    intro xs
    induction xs with
    | nil => intro ys h; exact h
    | cons x xs ih =>
      intro ys h
      obtain ⟨y, t, e, h1, h2⟩ := h
      rw [e, ih t h2, show y = V.int x from h1]
      rfl
  rw [← h cs us rc]
  exact lc.1

section
variable {P : Program} {w : World} {K : PySem.W.Frag} {mg : Str → Option Value} {base : Heap} {ec : EC}
theorem law_fn {x qual : Str} {st : Stmt} {f fo : Addr} {fdo : FuncData} {N : List Str} {k ko : Nat} {body : Vl.Env → M Fl} {rest : List Stmt} {dO : List SV → M D} {pos1 pos2 pos3 pos4 pos5 : Pos} {kV doc pm cdv ct oc : Value} {an od : Option Addr} {osl : Array (Option Value)} {tb : List (Addr × Str)}
    (lk : K.lookup f = some ⟨oc, od, .func (PySem.W.fnOf x qual (defArgs st) (defBody st) (defScope st) .none kV doc pm an cdv ct), osl⟩) (hcd : PySem.W.codeIn K cdv qual = true) (S : FnScope N ["script"] (defScope st)) (hN0 : N[0]? = some ("script" : Str)) (hN1 : N[1]? = some ("pen" : Str)) (hN2 : 2 ≤ N.length) (hv0 : Vis (defScope st) "script") (hl1 : Loc (defScope st) "pen")
    (hbody : defBody st = .Assign [.Name "pen" pos1] (.Call (.Name "_law_open" pos2) [.Name "script" pos3] [] pos5) pos4 :: rest)
    (hsw : ∀ L : Addr, swapsWith (.Call (.Name "_law_open" pos2) [.Name "script" pos3] [] pos5) (some (.Name "pen" pos1)) pos4.line (envOfC qual (defScope st) L f cdv) = pure false)
    (hko : ko ≤ k) (O : FnG P w K mg base false ko fo fdo ["script"] (spG K ec .v 1 dO)) (Og : (defScope st).names.lookup ("_law_open" : Str) = some NameKind.globalImplicit) (Om : mg "_law_open" = some (.ref fo)) (Ok : PySem.W.keepIn K (.ref fo) = true) (Ob : L2.Binds K fdo ["script"] [])
    (hb : ∀ (A : Around) (outer : List PySem.Env) (s : Shared) (H : Hp) (E : XK), Room k (A.deeper (envOfC qual (defScope st) s.heap.objs.size f cdv)) → A.guards = some [] → XSs (exOf ec E) .v (cxOf (L2.CX P w) P w K mg base N qual (defScope st) f cdv A outer s H E) rest body)
    (hrun : ∀ ns : List Int, ns.length ≤ 63 → (∀ z ∈ ns, Builtin.Int.intBits z ≤ 1048576) → ∃ (cs : List Int) (P1 P2 : Pen), dO [.scr ns] ⟨[], 0, 0, tb⟩ = .ok (.list [.list (cs.map PyData.int), .int 0, .int 0]) P1 ∧ body (.scr ns :: .pen :: List.replicate (N.length - 2) .un) ⟨cs, 0, 0, tb⟩ = .ok (.rt (.bool true)) P2) :
    FnG P w K mg base true (k + 1) f (PySem.W.fnOf x qual (defArgs st) (defBody st) (defScope st) .none kV doc pm an cdv ct) ["script"] (spL K tb) := by
  refine ⟨fun vs H Q E h => by obtain ⟨a, ns, rfl, _⟩ := h; rfl, fun A outer s H args us vs Q E hr hg e0 hbd rv hsp => ?_⟩
  obtain ⟨a, ns, rfl, hl, hbits, hscr, htb, q⟩ := hsp
  refine LamX.run_ofS lk hcd S hr e0 hbd rv rfl fun hr' => ?_
  obtain ⟨t, ht, qt⟩ := hb A outer s H E hr' (hg rfl)
  obtain ⟨cs, P1, P2, h1, h2⟩ := hrun ns hl hbits
  rw [hbody]
  refine ⟨_, pss_cons (ps_set (i := 1) S.nd hN1 hl1 (pe_callG (X := cxOf (L2.CX P w) P w K mg base N qual (defScope st) f cdv A outer s H E) (E := xk ec Ex0) O (hr'.mono hko) (fun z => nomatch z) Om Ok Ob passX0 (pa_cons (pe_var (i := 0) hN0 hv0) pa_nil) Og) (hsw _) (.inl rfl)) ht, ?_⟩
  have h0 : (L2.start N [V.ref a])[0]? = some (some (V.ref a)) := rfl
  refine ⟨.ref a, h0, ?_⟩
  refine ⟨rfl, ⟨none, tb⟩, (fun _ => False), [.scr ns], ⟨[], 0, 0, tb⟩, (fun _ z => z.elim), (fun _ _ z => nomatch z), ⟨(fun _ _ z => nomatch z), htb, rfl⟩, ⟨_, _, rfl, hscr, rfl⟩, ?_⟩
  rw [h1]
  intro H' e p v r
  obtain ⟨pp, c, rfl, hp, hc⟩ := open_rep r
  have hne : pp ≠ c := fun z => by
    subst z
    rw [hp] at hc
    cases cs with
    | nil => cases hc
    | cons x xs => cases hc
  have hscr' : ScrOk K (fun b => b = pp ∨ b = c) H' (.ref a) ns := by
    obtain ⟨b, eb, ⟨⟨ob, h3⟩, _⟩ | h3⟩ := hscr
    · cases eb
      have h4 := e.at h3 (fun ⟨_, z⟩ => nomatch z) nt_frz
      refine ⟨a, rfl, .inl ⟨⟨ob, h4⟩, fun z => ?_⟩⟩
      rcases z with z | z
      · rw [z, hp] at h4; cases h4
      · rw [z, hc] at h4; cases h4
    · exact ⟨b, eb, .inr h3⟩
  have trk : ∀ b, (b = pp ∨ b = c) → ∃ o, H' b = some o ∧ Nt o := fun b z => z.elim (fun z => ⟨_, z ▸ hp, nt_lst⟩) fun z => ⟨_, z ▸ hc, nt_lst⟩
  obtain ⟨m, hm⟩ : ∃ m, N.length = m + 2 := ⟨N.length - 2, by omega⟩
  have hσ : (L2.start N [V.ref a]).set 1 (some (V.ref pp)) = some (V.ref a) :: some (V.ref pp) :: List.replicate m none := by
    unfold L2.start
    rw [hm]
    rfl
  have henv : (SV.scr ns :: SV.pen :: List.replicate (N.length - 2) SV.un) = SV.scr ns :: SV.pen :: List.replicate m SV.un := by rw [hm]; rfl
  have noown : ∀ (i : Nat) (ds : List D), (SV.scr ns :: SV.pen :: List.replicate m SV.un)[i]? = some (.own ds) → False := fun i ds h => by
    match i, h with
    | 0, h => cases h
    | 1, h => cases h
    | i + 2, h =>
      have h : (List.replicate m SV.un)[i]? = some (.own ds) := h
      obtain ⟨_, z⟩ := List.getElem?_eq_some_iff.mp h
      rw [List.getElem_replicate] at z
      cases z
  have noownD : ∀ (i : Nat) (ds : List (D × D)), (SV.scr ns :: SV.pen :: List.replicate m SV.un)[i]? = some (.ownD ds) → False := fun i ds h => by
    match i, h with
    | 0, h => cases h
    | 1, h => cases h
    | i + 2, h =>
      have h : (List.replicate m SV.un)[i]? = some (.ownD ds) := h
      obtain ⟨_, z⟩ := List.getElem?_eq_some_iff.mp h
      rw [List.getElem_replicate] at z
      cases z
  have k1 : EOk K ⟨⟨some (pp, c), tb⟩, H', (fun b => b = pp ∨ b = c), []⟩ (fun b => b = pp ∨ b = c) ((L2.start N [V.ref a]).set 1 (some (V.ref pp))) H' (SV.scr ns :: SV.pen :: List.replicate (N.length - 2) SV.un) ⟨cs, 0, 0, tb⟩ := by
    rw [hσ, henv]
    refine ⟨by simp, fun i o sl g1 g2 => ?_, fun i j ds es b _ g1 => (noown i ds g1).elim, fun i ds b g1 => (noown i ds g1).elim, fun _ z => z, trk, trk, fun p' c' z => ?_, ⟨fun p' c' z => ?_, p.2.1, rfl⟩, HExt.refl _ _, fun g hg => (nomatch hg), .none noownD⟩
    · match i, g1, g2 with
      | 0, g1, g2 => cases g1; cases g2; exact ⟨_, rfl, hscr'⟩
      | 1, g1, g2 => cases g1; cases g2; exact ⟨pp, c, rfl, rfl⟩
      | i + 2, g1, g2 =>
        have g2 : (List.replicate m SV.un)[i]? = some sl := g2
        obtain ⟨_, z⟩ := List.getElem?_eq_some_iff.mp g2
        rw [List.getElem_replicate] at z
        subst z
        trivial
    · cases z
      exact ⟨.inl rfl, .inr rfl⟩
    · cases z
      exact ⟨hne, hp, hc⟩
  refine qt _ _ _ _ _ _ _ k1 ?_
  rw [h2]
  intro v H2 _ _ r2
  rw [show v = .bl true from r2]
  exact q H2
/-- the first abstract heap: the script where it is no object of the module, and the tables -/
def hp0 (a : Addr) (fz : Option HO) (ts : List Addr) : Hp := fun b => if b = a then fz else if b ∈ ts then some (.tbl #[]) else none
theorem law_callG {mb : Str → Option Value} {k : Nat} {fa a : Addr} {cs : List (Addr × Addr)} {tb : List (Addr × Str)} {fd : FuncData} {x : Str} {s₁ : Shared} {vs : List Value} {ns : List Int}
    (KX : K.In s₁.heap) (nsG : s₁.heap.Ns mainGlobals mg) (nsB : s₁.heap.Ns builtinsNs mb) (boot : ∀ y : Str, y ≠ "__name__" → mb y = bootBuiltins y) (nolim : s₁.heap.NoLimit) (nog : s₁.gens = #[])
    (emp : ∀ p ∈ cs, s₁.heap.get? p.2 = some { cls := .none, data := .fields #[] }) (outK : ∀ p ∈ cs, K.lookup p.2 = none) (code : ∀ p ∈ cs, PySem.W.CodeHd s₁.heap p.1 p.2)
    (main : ∃ (bm : Addr) (ob : Obj), mg "__builtins__" = some (.ref bm) ∧ bm ≠ builtinsNs ∧ s₁.heap.get? bm = some ob ∧ ob.cls = .type "module" ∧ ob.dict = some builtinsNs ∧ ob.data = .plain)
    (scr : s₁.heap.get? a = some { cls := .type "list", data := .seq vs.toArray }) (whole : IntsAre vs ns) (few : ns.length ≤ 63) (bits : ∀ z ∈ ns, Builtin.Int.intBits z ≤ 1048576) (room : Room k callerA)
    (htb : ∀ p ∈ tb, p.1 ∈ cs.map (·.2))
    (F : ∀ base : Heap, K.In base → base.Ns mainGlobals mg → (∀ p ∈ cs, TabB base mg p.1 p.2) → FnG P w K mg base true k fa fd [x] (spL K tb)) (bind : ∀ (s : Shared) (u : Value), BindsTo s fd ⟨[u], []⟩ [(x, u)]) :
    codeAny (model P w) callerA (.call (.ref fa) (⟨[.ref a], []⟩)) (fun r s' => r = .ok (.ret (.bool true)) ∧ OldK s₁.heap s'.heap ∧ s'.os = s₁.os ∧ AllBare s'.gens) s₁ := by
  have vals : Vals (ns.map V.int) vs := vals_ints whole
  have cnt : vs.length = ns.length := whole.length
  let ts : List Addr := cs.map (·.2)
  have tsE : ∀ b ∈ ts, s₁.heap.get? b = some { cls := .none, data := .fields #[] } := fun b hb => by
    obtain ⟨p, hp, rfl⟩ := List.mem_map.mp hb
    exact emp p hp
  have tsK : ∀ b ∈ ts, K.lookup b = none := fun b hb => by
    obtain ⟨p, hp, rfl⟩ := List.mem_map.mp hb
    exact outK p hp
  have na : ¬ a ∈ ts := fun z => by
    have e := (tsE a z).symm.trans scr
    cases congrArg Obj.data (Option.some.inj e)
  let lo : Obj := { cls := .type "list", data := .seq vs.toArray }
  let fz : Option HO := match K.lookup a with
    | some _ => none
    | none => some (.frz lo (.lst (ns.map V.int)))
  have fzc : (fz = none ∧ K.lookup a = some lo) ∨ (fz = some (.frz lo (.lst (ns.map V.int))) ∧ K.lookup a = none) := by
    cases hk : K.lookup a with
    | some o =>
      have e := (KX a o hk).symm.trans scr
      refine .inl ⟨by simp only [fz, hk], ?_⟩
      rw [Option.some.inj e]
    | none => exact .inr ⟨by simp only [fz, hk], rfl⟩
  let H := hp0 a fz ts
  have Ha : H a = fz := if_pos rfl
  have Ht : ∀ b ∈ ts, H b = some (.tbl #[]) := fun b hb => by
    have n : ¬ b = a := fun z => na (z ▸ hb)
    exact (if_neg n).trans (if_pos hb)
  have Ho : ∀ b, ¬ b = a → ¬ b ∈ ts → H b = none := fun b n1 n2 => (if_neg n1).trans (if_neg n2)
  -- what is tracked is the list or an empty table
  have kinds : ∀ {b : Addr} {o : Obj}, s₁.heap.get? b = some o → H b ≠ none → o = lo ∨ o = { cls := .none, data := .fields #[] } := fun {b o} e n => by
    by_cases h1 : b = a
    · subst h1
      exact .inl (Option.some.inj (e.symm.trans scr))
    · by_cases h2 : b ∈ ts
      · exact .inr (Option.some.inj (e.symm.trans (tsE b h2)))
      · exact absurd (Ho b h1 h2) n
  have low : ∀ {b : Addr} {o : Obj}, s₁.heap.get? b = some o → (o ≠ lo) → (o ≠ { cls := .none, data := .fields #[] }) → (hidT s₁.heap H).get? b = some o := fun {b o} e n1 n2 => by
    refine hidT_get e ?_
    cases q : H b with
    | none => rfl
    | some u => exact ((kinds e (by rw [q]; exact fun z => nomatch z)).elim n1 n2).elim
  have lowD : ∀ {b : Addr} {o : Obj} {es : Array DictEntry} {n : Nat}, s₁.heap.get? b = some o → o.data = .dict es n → (hidT s₁.heap H).get? b = some o := fun {b o es n} e d =>
    low e (fun z => by rw [z] at d; cases d) (fun z => by rw [z] at d; cases d)
  have lowN : ∀ {b : Addr} {m : Str → Option Value}, s₁.heap.Ns b m → (hidT s₁.heap H).Ns b m := fun {b m} z => by
    obtain ⟨o, es, n, e, d, r⟩ := z
    exact ⟨o, es, n, lowD e d, d, r⟩
  have KB : K.In (hidT s₁.heap H) := fun b o e => by
    refine hidT_get (KX b o e) ?_
    by_cases h1 : b = a
    · subst h1
      rcases fzc with ⟨z, _⟩ | ⟨_, z⟩
      · rw [Ha, z]
      · rw [z] at e; cases e
    · by_cases h2 : b ∈ ts
      · rw [tsK b h2] at e; cases e
      · exact Ho b h1 h2
  have MB : L2.Mod K mg (hidT s₁.heap H) := by
    obtain ⟨mc, g1, g2⟩ := nolim
    exact ⟨KB, lowN nsG, ⟨mb, lowN nsB, boot⟩, mc, lowN g1, g2⟩
  have TB : (∀ p ∈ cs, TabB (hidT s₁.heap H) mg p.1 p.2) := fun p hp => by
    have pE := emp p hp
    have gP : mainGlobals ≠ p.2 := fun z => by
      obtain ⟨o, es, n, e, d, _⟩ := nsG
      rw [z] at e
      have e' := Option.some.inj (e.symm.trans pE)
      rw [e'] at d
      cases d
    refine ⟨?_, ?_, gP⟩
    · obtain ⟨o, us, c3, c4, c5, c6, c7, c8, c9, e1, e2, e3, rest⟩ := code p hp
      refine ⟨o, us, c3, c4, c5, c6, c7, c8, c9, low e1 (fun z => ?_) (fun z => ?_), e2, e3, rest⟩
      · rw [z] at e3; cases e3
      · rw [z] at e2; cases e2
    · obtain ⟨bm, ob, b1, b2, b3, b4, b5, b6⟩ := main
      refine ⟨bm, ob, b1, b2, fun z => ?_, fun z => ?_, low b3 (fun z => ?_) (fun z => ?_), b4, b5, b6⟩
      · obtain ⟨o, es, n, e, d, _⟩ := nsG
        rw [z] at b3
        have e' := Option.some.inj (e.symm.trans b3)
        rw [e', b6] at d
        cases d
      · rw [z] at b3
        have e' := Option.some.inj (b3.symm.trans pE)
        rw [e'] at b6
        cases b6
      · rw [z] at b6; cases b6
      · rw [z] at b6; cases b6
  have held : HOk P w H s₁.heap := fun b u e => by
    by_cases h1 : b = a
    · subst h1
      rw [Ha] at e
      rcases fzc with ⟨z, _⟩ | ⟨z, _⟩
      · rw [z] at e; cases e
      · rw [z] at e
        cases e
        exact ⟨scr, by rw [List.length_map]; exact Nat.le_trans few (by rw [sizeLine_eq]; decide), vs, _, vals, scr⟩
    · by_cases h2 : b ∈ ts
      · rw [Ht b h2] at e
        cases e
        exact tsE b h2
      · rw [Ho b h1 h2] at e; cases e
  have env0 : Env0 P w K mg (hidT s₁.heap H) callerA [] s₁ H := ⟨rfl, MB, fun b o e => of_hidT e, Nat.le_of_eq (hidT_size _ _), trivial, fun b hb => (List.not_mem_nil hb).elim, held, .of_eq nog⟩
  have tabs : Tabs tb H := fun p hp => ⟨#[], Ht _ (htb p hp), trivial, fun pos cv z => by simp [codeAmong] at z⟩
  have scrOk : ScrOk K (fun _ => False) H (.ref a) ns := by
    refine ⟨a, rfl, ?_⟩
    rcases fzc with ⟨_, z⟩ | ⟨z, _⟩
    · refine .inr ⟨lo, vs.toArray, _, z, rfl, rfl, rfl, ?_, by simpa using vals⟩
      rw [List.size_toArray, cnt, sizeLine_eq]
      omega
    · exact .inl ⟨⟨lo, Ha.trans z⟩, fun z => z⟩
  refine codeAny_mono ((F _ KB (lowN nsG) TB).run callerA [] s₁ H ⟨[.ref a], []⟩ [.ref a] [.ref a] (fun v _ => v = .bl true) (fun _ _ _ => False) room (fun _ => rfl) env0 (bind s₁ (.ref a)) (.cons rfl .nil) ⟨a, ns, rfl, few, bits, scrOk, tabs, fun _ => rfl⟩) fun r s' h => ?_
  match r, h with
  | .error e, h =>
    obtain ⟨_, _, _, _, _, _, _, _, _, _, _, _, z⟩ := (h)
    exact z.elim
  | .ok .next, h => exact h.elim
  | .ok .brk, h => exact h.elim
  | .ok .cont, h => exact h.elim
  | .ok (.ret u), h =>
    obtain ⟨v, H', sameOs, bare', un, held', rv, rfl⟩ := h
    cases rv
    have stays : ∀ b o, ¬ b ∈ ts → s₁.heap.get? b = some o → s'.heap.get? b = some o := fun b o nb e => by
      by_cases h1 : b = a
      · subst h1
        rcases fzc with ⟨z, _⟩ | ⟨z, _⟩
        · exact un.keep b o e (Ha.trans z) (fun m => (List.not_mem_nil m).elim) (fun m => (List.not_mem_nil m).elim)
        · have l2 := un.frzs b lo _ (Ha.trans z)
          obtain ⟨g1, _⟩ := held' b _ l2
          rw [scr] at e
          cases e
          exact g1
      · exact un.keep b o e (Ho b h1 nb) (fun m => (List.not_mem_nil m).elim) (fun m => (List.not_mem_nil m).elim)
    have grows : ∀ b ∈ ts, ∃ more : Array Value, s'.heap.get? b = some { cls := .none, data := .fields more } := fun b hb => by
      obtain ⟨more, z⟩ := un.tbls b #[] (Ht b hb)
      exact ⟨_, held' b _ z⟩
    refine ⟨rfl, ⟨fun b o e => ?_, fun b o e => ?_⟩, sameOs, bare'⟩
    · by_cases hb : b ∈ ts
      · obtain ⟨more, hm⟩ := grows b hb
        obtain ⟨p, hp, rfl⟩ := List.mem_map.mp hb
        have e' := Option.some.inj (e.symm.trans (emp p hp))
        subst e'
        exact .inr (.inl ⟨((code p hp).tab (emp p hp)).isCodeTable, rfl, #[], more, rfl, by rw [Array.empty_append]; exact hm⟩)
      · exact .inl (stays b o hb e)
    · by_cases hb : b ∈ ts
      · obtain ⟨more, hm⟩ := grows b hb
        exact ⟨_, hm⟩
      · exact ⟨o, stays b o hb e⟩
end
end Vl
end
section
set_option autoImplicit false
set_option maxRecDepth 100000
/-! V27: defs whose code object is known; the word of a lambda's error, in short. -/
namespace Vl
open PySem PySem.Spec L2 LamX

section
variable {P : Program} {w : World} {K : PySem.W.Frag} {mg : Str → Option Value} {base : Heap} {ec : EC}
/-- a def with lambdas: its code object is at c, that one's table at P -/
structure LamT (K : PySem.W.Frag) (mg : Str → Option Value) (x : Str) (st : Stmt) (ps : List Str) where
  f : Addr
  c : Addr
  P : Addr
  oc : Value
  kV : Value
  doc : Value
  pm : Value
  ct : Value
  od : Option Addr
  an : Option Addr
  osl : Array (Option Value)
  lk : K.lookup f = some ⟨oc, od, .func (PySem.W.fnOf x x (defArgs st) (defBody st) (defScope st) .none kV doc pm an (.ref c) ct), osl⟩
  hcd : PySem.W.codeIn K (.ref c) x = true
  B : L2.Binds K (PySem.W.fnOf x x (defArgs st) (defBody st) (defScope st) .none kV doc pm an (.ref c) ct) ps []
  G : mg x = some (.ref f)
  Kp : PySem.W.keepIn K (.ref f) = true
  nK : K.lookup P = none
abbrev LamT.fd {x : Str} {st : Stmt} {ps : List Str} (L : LamT K mg x st ps) : FuncData := PySem.W.fnOf x x (defArgs st) (defBody st) (defScope st) .none L.kV L.doc L.pm L.an (.ref L.c) L.ct
/-- the rule for such a def -/
theorem fnG_ofC {gd : Bool} {x : Str} {st : Stmt} {N ps : List Str} {k : Nat} {body : Vl.Env → M Fl} (L : LamT K mg x st ps) (S : FnScope N ps (defScope st))
    (hb : ∀ (A : Around) (outer : List PySem.Env) (s : Shared) (H : Hp) (E : XK), Room k (A.deeper (PyProof.Rows.envOfC x (defScope st) s.heap.objs.size L.f (.ref L.c))) → (gd = true → A.guards = some []) →
      XSs (exOf ec E) .v (cxOf (L2.CX P w) P w K mg base N x (defScope st) L.f (.ref L.c) A outer s H E) (defBody st) body) :
    FnG P w K mg base gd (k + 1) L.f L.fd ps (spG K ec .v ps.length (denOf N.length body)) := by
  refine ⟨fun vs H Q E h => h.1, fun A outer s H args us vs Q E hr hg e0 hbd rv hsp => ?_⟩
  obtain ⟨hl, pa, A0, ss, P0, hA, hp, pk, hargs, post⟩ := hsp
  refine LamX.run_ofS L.lk L.hcd S hr e0 hbd rv hl fun hr' => ?_
  obtain ⟨t, ht, q⟩ := hb A outer s H E hr' hg
  have few : ps.length ≤ N.length := by
    have z := congrArg List.length S.pre
    rw [List.length_take] at z
    omega
  refine ⟨t, ht, q ⟨pa, H, A0, []⟩ A0 _ H _ P0 _ (EOk.entry hA hp pk hargs (by omega)) ?_⟩
  unfold denOf at post
  cases hbody : body (ss ++ List.replicate (N.length - ss.length) .un) P0 with
  | ok o P' =>
    rw [hbody] at post
    cases o with
    | nx e => exact fun A' σ' H' k' => post H' k'.base k'.pen .non rfl
    | rt d => exact fun v H' e p r => post H' e p v r
    | bk e => exact post.elim
    | ct e => exact post.elim
  | ex c P' => rw [hbody] at post; exact post
  | no => rw [hbody] at post; exact post
end
section
variable {X : Cx} {Ex1 : Str → Hp → Prop} {T : List (Addr × Str)} {x a last : Str} {g c P : Addr} {k : Nat} {st : Stmt} {fd : FuncData} {Ng : List Str} {h₀ : ExceptHandler} {hds : List ExceptHandler} {j : Nat} {p1 p2 p3 p4 p5 p6 : Pos}
  {params : Arguments} {body : Expr} {scope : Scope} {p lpos pos : Pos} {kd : Kd} {fb : Vl.Env → M D} {ec : EC} {isa : Str → Str → Bool} {cw : List (Str × Str)}
theorem x_wordT (F : Fun X.K x x st g fd) (hb : L2.Binds X.K fd [a] []) (hm : X.mg x = some (.ref g)) (hk : PySem.W.keepIn X.K (.ref g) = true) (Sg : FnScope Ng [a] (defScope st)) (hNg : Ng[0]? = some a) (hva : Vis (defScope st) a)
    (hbd : defBody st = [.Try [.Expr (.Call (.Name a p1) [] [] p2) p3] (h₀ :: hds) [] [] p4, .Return (some (.Constant (.str last) j p5)) p6]) (hh : HdW (defScope st) X.mg Ng (h₀ :: hds) (cwOf ec cw))
    (hi : ∀ c, (∃ q ∈ cw, isa c q.1 = true) → ∀ q ∈ cw, PySem.W.exmOne X.K (.ref (ec c)) (.ref (ec q.1)) = some (isa c q.1))
    (TB : TabB X.base X.mg c P) (hmT : (P, X.env.qual ++ "<lambda>") ∈ T) (hu : ∀ p ∈ T, p.1 = P → p.2 = X.env.qual ++ "<lambda>") (hr : Room (k + 2) X.A)
    (hbody : ∀ (A : Around) (outer : List PySem.Env) (s : Shared) (H : Hp) (E : XK) (f c' : Addr), Room k (A.deeper (lamEnv X scope s.heap.objs.size f c')) → XE (exOf ec E) (lamCx X A outer s H E scope f c') kd body fb)
    (hcode : X.env.code = .ref c := by rfl) (L : LamS X.env.scope scope := by exact LamX.lamS_by rfl) (hdef : defaultsOf params X.env = ([], []) := by rfl)
    (hbind : ∀ (q : Str) (cl : List (Str × Addr)) (pm cv ctv : Value), bindArgs (PySem.W.kla_fn "<lambda>" q params body scope cl pm cv ctv) ⟨[], []⟩ = pure [] := by intros; rfl)
    (hg : Gl X x := by rfl) (hdb : (x == ("__debug__" : Str)) = false := by decide) (hd : (a == ("__debug__" : Str)) = false := by decide) (hcd : (a == ("__classdict__" : Str)) = false := by decide) :
    XE Ex1 X .v (.Call (.Name x p) [.Lambda params body scope lpos] [] pos) (dWord T isa cw last fb) := by
  obtain ⟨oc, od, kV, doc, pm, an, cdv, ct, osl, rfl, lk, hcg⟩ := F.ex
  refine x_word hi hg hm hk lk hcg hb Sg hNg hva ?_ TB hcode hmT hu hr L hdef hbind hbody hdb hd hcd
  rw [hbd]
  exact word_gives (X := X) hh Sg.nd fun f => by
    cases Ng with
    | nil => cases hNg
    | cons y r => rfl
end
end Vl
end
section
set_option autoImplicit false
set_option maxRecDepth 100000
/-! V28: from what the head tells to the facts of a text; the row's end. -/
namespace Vl
open PySem PySem.Spec PyProof.Rows L2

structure FnT (K : PySem.W.Frag) (mg : Str → Option Value) (x : Str) (st : Stmt) (ps : List Str) where
  f : Addr
  fd : FuncData
  F : Fun K x x st f fd
  B : L2.Binds K fd ps []
  G : mg x = some (.ref f)
  Kp : PySem.W.keepIn K (.ref f) = true
structure ExT (K : PySem.W.Frag) (mg : Str → Option Value) (x : Str) where
  C : Addr
  B : String
  newId : String
  initId : String
  bmB : List Value
  F : ExcBaseFacts B newId initId bmB
  q : PySem.W.excIn K C bmB newId = true
  G : mg x = some (.ref C)
  Kp : PySem.W.keepIn K (.ref C) = true
  h1 : PySem.W.subIn K (.ref C) (.type "BaseException") = some true
  h2 : PySem.W.typeIn K (.ref C) = some (.type "type")

section
variable {K : PySem.W.Frag} {mg : Str → Option Value} {w : World} {h : Heap}
abbrev BindsAs (x : Str) (st : Stmt) (ps : List Str) : Prop := ∀ (kV doc pm : Value) (an : Option Addr) (cdv ct : Value) (us : List Value), us.length = ps.length → bindArgs (PySem.W.fnOf x x (defArgs st) (defBody st) (defScope st) .none kV doc pm an cdv ct) ⟨us, []⟩ = pure (ps.zip us)
theorem fnT_of {x : Str} {st : Stmt} {ps : List Str} {f : Addr} (c : ∃ fd, FunD K x x (defArgs st) (defBody st) (defScope st) [] [] f fd) (G : mg x = some (.ref f)) (hb : BindsAs x st ps) : ∃ T : FnT K mg x st ps, T.f = f := by
  obtain ⟨fd, F⟩ := c
  have B := FunD.bindsN F hb
  obtain ⟨oc, od, dV, kV, doc, pm, an, cdv, ct, osl, rfl, lk, hcd, hD, hK⟩ := (F.ex)
  rcases (hD) with ⟨_, rfl⟩ | ⟨e, _⟩
  · exact ⟨⟨f, _, ⟨⟨oc, od, kV, doc, pm, an, cdv, ct, osl, rfl, lk, hcd⟩, F.kp⟩, B, G, F.kp⟩, rfl⟩
  · exact absurd rfl e
theorem lamT_of {x : Str} {st : Stmt} {ps : List Str} (c : ∃ fd, FunD K x x (defArgs st) (defBody st) (defScope st) [] [] (He.fAd K (x, none)) fd) (G : mg x = some (.ref (He.ga K x))) (out : K.lookup (He.cT K (x, none)).2 = none) (hb : BindsAs x st ps) :
    ∃ T : LamT K mg x st ps, T.f = He.ga K x ∧ (T.c, T.P) = He.cT K (x, none) := by
  obtain ⟨fd, F⟩ := c
  have B := FunD.bindsN F hb
  obtain ⟨oc, od, dV, kV, doc, pm, an, cdv, ct, osl, rfl, lk, hcd, hD, hK⟩ := (F.ex)
  rcases (hD) with ⟨_, rfl⟩ | ⟨e, _⟩
  · obtain ⟨c, rfl⟩ := He.codeIn_ref hcd
    have e := He.codeOf_eq lk rfl
    exact ⟨⟨He.ga K x, c, (He.cT K (x, none)).2, oc, kV, doc, pm, ct, od, an, osl, lk, hcd, B, G, F.kp, out⟩, rfl, (show He.cT K (x, none) = (c, (He.cT K (x, none)).2) from Prod.ext e rfl).symm⟩
  · exact absurd rfl e
theorem exT_of {x : Str} (G : mg x = some (.ref (He.ga K x))) (c : (He.Fa.exc x).ok K = true) : ∃ T : ExT K mg x, T.C = He.ga K x := by
  obtain ⟨h1, h2, h3, h4⟩ := He.exc_ok c
  exact ⟨⟨_, _, _, _, _, F.excBase_ValueError, h1, G, h2, h3, h4⟩, rfl⟩
/-- a dict of the module, by its keys and values -/
def datD : He.Dv → D
  | .non => .none
  | .bl b => .bool b
  | .int i => .int i
  | .str x => .str x
  | _ => .none
def flatDv : He.Dv → Bool
  | .non | .bl _ | .int _ | .str _ => true
  | _ => false
theorem datD_rep {A : AS} {H : Hp} {v : He.Dv} (h : flatDv v = true) : Rep K A H (datD v) (v.v K) := by
  cases v <;> first | rfl | cases h
theorem keys_find {P : Params} {z : Str} : ∀ {l : List DictEntry} {ks : List Str}, l.map He.keyOf = He.keysIn P ks → ¬ z ∈ ks → (l.find? (·.key.isStr z) = none) ∧ l.any (·.refKey) = false
  | [], _, _, _ => ⟨rfl, rfl⟩
  | e :: r, [], h, _ => nomatch h
  | e :: r, k :: ks, h, nz => by
    have h' : He.keyOf e :: r.map He.keyOf = some (k, PyData.keyHash P k) :: He.keysIn P ks := h
    injection h' with h1 h2
    obtain ⟨i1, i2⟩ := keys_find h2 (fun m => nz (List.mem_cons_of_mem _ m))
    have hk : ∃ t, e.key = .str k t := by
      unfold He.keyOf at h1
      split at h1
      · rename_i x t q
        have h4 := Option.some.inj h1
        obtain ⟨h5, _⟩ := Prod.mk.inj h4
        exact ⟨t, by rw [q, h5]⟩
      · cases h1
    obtain ⟨t, hk⟩ := hk
    have ne : ¬ k = z := fun y => nz (y ▸ List.mem_cons_self)
    refine ⟨?_, ?_⟩
    · rw [List.find?_cons_of_neg (p := fun x : DictEntry => x.key.isStr z) (by rw [hk]; simp [Value.isStr]; exact ne)]
      exact i1
    · rw [List.any_cons, i2, Bool.or_false]
      unfold DictEntry.refKey
      rw [hk]
theorem lookup_map {z : Str} : ∀ {kvs : List (Str × He.Dv)}, (kvs.map fun q => (q.1, datD q.2)).lookup z = (kvs.lookup z).map datD
  | [] => rfl
  | (k, v) :: r => by
    rw [List.map_cons, List.lookup_cons, List.lookup_cons]
    cases z == k with
    | true => rfl
    | false => exact lookup_map
theorem lookup_mem {z : Str} {v : He.Dv} : ∀ {kvs : List (Str × He.Dv)}, kvs.lookup z = some v → (z, v) ∈ kvs
  | [], e => nomatch e
  | (k, u) :: r, e => by
    rw [List.lookup_cons] at e
    cases q : z == k with
    | true => rw [q] at e; cases e; rw [eq_of_beq q]; exact List.mem_cons_self
    | false => rw [q] at e; exact List.mem_cons_of_mem _ (lookup_mem e)
theorem lookup_none {z : Str} : ∀ {kvs : List (Str × He.Dv)}, kvs.lookup z = none → ¬ z ∈ kvs.map (·.1)
  | [], _ => by simp
  | (k, u) :: r, e => by
    rw [List.lookup_cons] at e
    cases q : z == k with
    | true => rw [q] at e; cases e
    | false =>
      rw [q] at e
      intro m
      rcases List.mem_cons.mp m with m | m
      · have m : z = k := m
        rw [m, beq_self_eq_true] at q; cases q
      · exact lookup_none e m
theorem tabIs_of {a : Addr} {kvs : List (Str × He.Dv)} (hd : He.dicW K a = some (He.keysIn w.params (kvs.map (·.1)))) (hv : He.valsB K a kvs = true) (hf : (kvs.all fun q => flatDv q.2) = true) : TabIs K w a (kvs.map fun q => (q.1, datD q.2)) := by
  obtain ⟨es, n, D⟩ := He.dicW_ok hd
  refine ⟨⟨es, n, D⟩, fun z => ?_⟩
  rw [lookup_map]
  cases hz : kvs.lookup z with
  | some v =>
    have m := lookup_mem hz
    obtain ⟨u, h1, h2⟩ := He.valsB_ok hv m
    exact ⟨some u, h1, u, v.v K, rfl, h2, fun A H => datD_rep (List.all_eq_true.mp hf _ m)⟩
  | none =>
    refine ⟨none, ?_, rfl⟩
    have nz := lookup_none hz
    have keys : es.toList.map He.keyOf = He.keysIn w.params (kvs.map (·.1)) := by
      unfold He.dicW at hd
      rw [D.at_] at hd
      have hd' : (match decide (("dict" : String) = "dict") && ((#[] : Array (Option Value)).isEmpty && !(a == sysModules)) with
        | true => some (es.toList.map He.keyOf)
        | false => none) = some (He.keysIn w.params (kvs.map (·.1))) := hd
      rw [D.low] at hd'
      exact Option.some.inj hd'
    obtain ⟨f1, f2⟩ := keys_find keys nz
    unfold PySem.W.nsIn
    rw [D.at_]
    dsimp only
    rw [f1, f2]
    rfl
theorem tabK {fa : List He.Fa} {fn : List He.DefD} {ts : List He.Tab} (c : He.SaysT fa fn ts w K) (i : Nat) {t : He.Tab} (q : ts[i]? = some t) : He.dicW K (t.1 K) = some (He.keysIn w.params t.2) := by
  have e : ts.map (fun t => He.dicW K (t.1 K)) = ts.map fun t => some (He.keysIn w.params t.2) := congrArg (fun z : He.AlT => z.2) c
  have e2 := congrArg (fun l => l[i]?) e
  simp only [List.getElem?_map, q] at e2
  exact Option.some.inj e2
end
/-- what the row's end wants of a law -/
def LawG (l : PySem.W.OpenLaw) (w : World) (K : PySem.W.Frag) (k : Nat) (x : Str) (mg : Str → Option Value) (fa : Addr) (h : Heap) : Prop :=
  ∃ (fd : FuncData) (cs : List (Addr × Addr)) (tb : List (Addr × Str)), (∀ p ∈ cs, h.get? p.2 = some { cls := .none, data := .fields #[] }) ∧ (∀ p ∈ cs, K.lookup p.2 = none) ∧ (∀ p ∈ cs, PySem.W.CodeHd h p.1 p.2) ∧ (∀ p ∈ tb, p.1 ∈ cs.map (·.2)) ∧
    (∀ (s : Shared) (u : Value), BindsTo s fd ⟨[u], []⟩ [(x, u)]) ∧ ∀ base : Heap, K.In base → base.Ns mainGlobals mg → (∀ p ∈ cs, LamX.TabB base mg p.1 p.2) → FnG l.prog w K mg base true k fa fd [x] (spL K tb)
theorem walk_ofG {l : PySem.W.OpenLaw} {k : Nat} {q : Program} {loose : List Str} {XP : (Str → Option Value) → Heap → Prop} {YP : World → Heap → Prop} {d : DefRec} {x : Str} (most : l.most = some 63) (nodef : d.params.defaults = []) (room : Room k callerA)
    (F : ∀ (w : World) (mg : Str → Option Value) (fa : Addr) (h : Heap), YP w h → h.Ns mainGlobals mg → mg d.name = some (.ref fa) → ∃ K : PySem.W.Frag, K.In h ∧ LawG l w K k x mg fa h) :
    PySem.W.WalkO q loose XP YP l.row.toRowW d [] (fun g us => PySem.call g us) :=
  Att.attach_callB most nodef fun w s0 s1 mg mb fa o pm cd doc a vs ns G Y _ _ _ named obj whole few bits nog => by
    obtain ⟨K, KX, fd, cs, tb, emp, outK, code, htb, bind, run⟩ := F w mg fa _ Y G.T.g named
    exact law_callG KX G.T.g G.T.b G.T.builtins G.T.nolimit nog emp outK code G.T.bmain obj whole few bits room htb run bind
end Vl
end
section
set_option autoImplicit false
set_option maxRecDepth 100000
/-! V29: comprehensions of two generators. -/
namespace Vl
open PySem L2

/-- the own lists that stand behind a target stood before it -/
def OldG (g : D → Env → Option Env) : Prop := ∀ d env e1, g d env = some e1 → ∀ (i : Nat) (es : List D), e1[i]? = some (SV.own es) → env[i]? = some (SV.own es)
def OldL (g : List D → Env → Option Env) : Prop := ∀ ds env e1, g ds env = some e1 → ∀ (i : Nat) (es : List D), e1[i]? = some (SV.own es) → env[i]? = some (SV.own es)
theorem old_name (j : Nat) : OldG (tgName j) := fun d env e1 h i es q => by
  cases h
  by_cases e : j = i
  · subst e
    rw [List.getElem?_set_self'] at q
    cases hj : env[j]? with
    | none => rw [hj] at q; cases q
    | some s => rw [hj] at q; cases q
  · rwa [List.getElem?_set_ne e] at q
theorem old_nil : OldL tgNil := fun ds env e1 h i es q => by
  cases ds with
  | nil => cases h; exact q
  | cons d ds => cases h
theorem old_cons {g : D → Env → Option Env} {h : List D → Env → Option Env} (h1 : OldG g) (h2 : OldL h) : OldL (tgCons g h) := fun ds env e1 q i es z => by
  cases ds with
  | nil => cases q
  | cons d ds =>
    change (g d env).bind (fun e => h ds e) = some e1 at q
    cases hg : g d env with
    | none => rw [hg] at q; cases q
    | some e2 => rw [hg] at q; exact h1 _ _ _ hg i es (h2 _ _ _ q i es z)
theorem old_tup {n : Nat} {h : List D → Env → Option Env} (h2 : OldL h) : OldG (tgTup n h) := fun d env e1 q i es z => by
  cases d with
  | tuple ds =>
    change (if ds.length = n then h ds env else none) = some e1 at q
    by_cases hn : ds.length = n
    · rw [if_pos hn] at q; exact h2 _ _ _ q i es z
    · rw [if_neg hn] at q; cases q
  | _ => cases q
theorem wipeE_own {i : Nat} {es : List D} {env : Env} : ∀ {vs : List Nat}, (wipeE env vs)[i]? = some (SV.own es) → env[i]? = some (SV.own es) ∧ i ∉ vs
  | [], h => ⟨h, fun z => nomatch z⟩
  | v :: vs, h => by
    unfold wipeE at h
    by_cases e : v = i
    · subst e
      rw [List.getElem?_set_self'] at h
      cases hj : (wipeE env vs)[v]? with
      | none => rw [hj] at h; cases h
      | some s => rw [hj] at h; cases h
    · rw [List.getElem?_set_ne e] at h
      obtain ⟨a, b⟩ := wipeE_own h
      exact ⟨a, fun z => (List.mem_cons.mp z).elim (fun z => e z.symm) b⟩

def compD2 (tg : D → Env → Option Env) (ts : Env → M Bool) (it1 : Env → M (List D)) (tg1 : D → Env → Option Env) (ts1 : Env → M Bool) (elt : Env → M D) (vs1 : List Nat) : List D → Nat → Env → M (List D)
  | [], _, _ => ret []
  | d :: ds, n, env => match tg d env with
    | none => no
    | some e1 => bnd (noEx (ts e1)) fun b => if b then bnd (noEx (it1 e1)) fun ds1 => bnd (compD tg1 ts1 elt ds1 n (wipeE e1 vs1)) fun ys => bnd (compD2 tg ts it1 tg1 ts1 elt vs1 ds (n + ys.length) env) fun zs => ret (ys ++ zs)
      else compD2 tg ts it1 tg1 ts1 elt vs1 ds n env
def dComp2 (it : Env → M (List D)) (tg : D → Env → Option Env) (ts : Env → M Bool) (it1 : Env → M (List D)) (tg1 : D → Env → Option Env) (ts1 : Env → M Bool) (elt : Env → M D) (vs vs1 : List Nat) : Env → M D :=
  fun env => bnd (it env) fun ds => bnd (compD2 tg ts it1 tg1 ts1 elt vs1 ds 0 (wipeE env vs)) fun ys => ret (.list ys)
def TIof (K : PySem.W.Frag) (Ex : Str → Hp → Prop) (it : Env → M (List D)) : TI := fun σ H R => ∃ W A env P, EOk K W A σ H env P ∧ PostG Ex W.pa H (it env P) (fun ds H1 => ∀ J gs, (∀ g ∈ gs, Rep K A H1 g.2 g.1) → ItOk K J gs ds → R J H1)
theorem XI.can {Ex : Str → Hp → Prop} {X : Cx} {tg iter : Expr} {it : Env → M (List D)} (h : XI Ex X tg iter it) : PI X tg iter (TIof X.K Ex it) := by
  obtain ⟨wi, ht, q⟩ := h
  exact ⟨fun pins s σ H R I ⟨W, A, env, P, k, p⟩ => ht.run pins s σ H R I (q W A σ H env P R k p)⟩

theorem bnd_at {α β : Type} {m m' : M α} {f : α → M β} {P P' : Pen} (h : m P = m' P') : bnd m f P = bnd m' f P' := by
  unfold bnd; rw [h]
theorem bnd_nil {α : Type} {m : M (List α)} {P : Pen} : bnd m (fun zs => ret ([] ++ zs)) P = m P := by
  unfold bnd
  cases m P <;> rfl
section
variable {tg : D → Env → Option Env} {ts : Env → M Bool} {elt : Env → M D} {d y : D} {ds : List D} {n : Nat} {env e1 : Env} {P P1 P2 : Pen}
theorem compD_f (h : tg d env = some e1) (h1 : ts e1 P = .ok false P1) : compD tg ts elt (d :: ds) n env P = compD tg ts elt ds n env P1 := by
  rw [compD, h]; unfold bnd noEx; dsimp only; rw [h1]; rfl
theorem compD_t (h : tg d env = some e1) (h1 : ts e1 P = .ok true P1) (h2 : elt e1 P1 = .ok y P2) (hn : n < 16777216) : compD tg ts elt (d :: ds) n env P = bnd (compD tg ts elt ds (n + 1) env) (fun ys => ret (y :: ys)) P2 := by
  rw [compD, h]; dsimp only; unfold bnd noEx; rw [h1]; dsimp only
  rw [if_pos rfl, h2]; dsimp only; rw [if_pos hn]
theorem compD_n1 (h : tg d env = none) : compD tg ts elt (d :: ds) n env P = .no := by
  rw [compD, h]; rfl
theorem compD_n2 (h : tg d env = some e1) (h1 : ∀ b P1, ts e1 P ≠ .ok b P1) : compD tg ts elt (d :: ds) n env P = .no := by
  rw [compD, h]; dsimp only; unfold bnd noEx
  cases hh : ts e1 P with
  | ok b P1 => exact absurd hh (h1 b P1)
  | ex c P1 => rfl
  | no => rfl
theorem compD_n3 (h : tg d env = some e1) (h1 : ts e1 P = .ok true P1) (h2 : ∀ y P2, elt e1 P1 ≠ .ok y P2) : compD tg ts elt (d :: ds) n env P = .no := by
  rw [compD, h]; dsimp only; unfold bnd noEx; rw [h1]; dsimp only
  rw [if_pos rfl]
  cases hh : elt e1 P1 with
  | ok b P1 => exact absurd hh (h2 b P1)
  | ex c P1 => rfl
  | no => rfl
theorem compD_n4 (h : tg d env = some e1) (h1 : ts e1 P = .ok true P1) (h2 : elt e1 P1 = .ok y P2) (hn : ¬ n < 16777216) : compD tg ts elt (d :: ds) n env P = .no := by
  rw [compD, h]; dsimp only; unfold bnd noEx; rw [h1]; dsimp only
  rw [if_pos rfl, h2]; dsimp only; rw [if_neg hn]; rfl
end
theorem bnd_no {α β : Type} {m : M α} {f : α → M β} {P : Pen} (h : m P = .no) : bnd m f P = .no := by
  unfold bnd; rw [h]
/-- one more in front -/
theorem post_front {Ex : Str → Hp → Prop} {pa : PL} {H : Hp} {m : M (List D)} {g : Nat → M (List D)} {n : Nat} {y : D} {P : Pen} {Q : List D → Hp → Prop}
    (h : PostG Ex pa H (bnd (bnd m fun ys => ret (y :: ys)) (fun ys => bnd (g (n + ys.length)) fun zs => ret (ys ++ zs)) P) Q) :
    PostG Ex pa H (bnd m (fun ys => bnd (g (n + 1 + ys.length)) fun zs => ret (ys ++ zs)) P) (fun l H => Q (y :: l) H) := by
  unfold bnd at h ⊢
  cases hm : m P with
  | no => rw [hm] at h; exact h
  | ex c P1 => rw [hm] at h; exact h
  | ok ys P1 =>
    rw [hm] at h
    dsimp only [ret] at h ⊢
    rw [List.length_cons, show n + (ys.length + 1) = n + 1 + ys.length by omega] at h
    cases hg : g (n + 1 + ys.length) P1 with
    | no => rw [hg] at h; exact h
    | ex c P2 => rw [hg] at h; exact h
    | ok zs P2 => rw [hg] at h; exact h
end Vl
end
section
set_option autoImplicit false
set_option maxRecDepth 100000
/-! V30: comprehensions of two generators: their readings. -/
namespace Vl
open PySem L2
section
variable {Ex : Str → Hp → Prop} {X : Cx} {tg elt iter tg1 iter1 : Expr} {ifs ifs1 : List Expr} {scope : Scope} {own : List (Str × Nat)} {pos : Pos} {it it1 : Env → M (List D)} {gD gD1 : D → Env → Option Env} {fc fc1 : Env → M Bool} {fe : Env → M D} {sl sl1 : List Nat}
theorem lc2_sd {wi : TI} {vs vs1 : List Nat} (qi : ∀ W A σ H env P R, EOk X.K W A σ H env P → PostG Ex W.pa H (it env P) (fun ds H1 => ∀ J gs, (∀ g ∈ gs, Rep X.K A H1 g.2 g.1) → ItOk X.K J gs ds → R J H1) → wi σ H R) (hsl : ∀ i ∈ sl, i ∈ vs) (hsl1 : ∀ i ∈ sl1, i ∈ vs1) (og : OldG gD) :
    Sd X.K Ex .f (tLc2 wi (TGof X.K sl gD) (TTof X.K Ex0 fc) (TIof X.K Ex0 it1) (TGof X.K sl1 gD1) (TTof X.K Ex0 fc1) (TEof X.K Ex0 .v fe) vs vs1) (dComp2 it gD fc it1 gD1 fc1 fe vs vs1) := fun W A σ H env P Q k p => by
  refine qi W A σ H env P _ k ((PostG.bnd k p).mono ?_)
  rintro ds _ H1 _ _ ⟨P1, e1, p1, k1, post⟩ J gs hgs okJ Dd hD
  have kw := ((k1.keepsL gs hgs).wipe vs)
  have k0 := kw.avoid (o := .lst []) hD
  obtain ⟨h00, hnp⟩ := kw.none0 hD
  have sD := same_upd (o := .lst []) hD
  have hown : ∀ (i : Nat) (es : List D), (wipeE env vs)[i]? = some (SV.own es) → (L2.wipe σ vs)[i]? ≠ some (some (V.ref Dd)) := fun i es h1 h2 => by
    obtain ⟨o, e1, b, us, e2, hb, _, hl, _⟩ := kw.at h1
    rw [e1] at h2; cases h2; cases e2
    rw [hD] at hl; cases hl
  have post0 : PostG Ex W.pa H1 (compD2 gD fc it1 gD1 fc1 fe vs1 ds 0 (wipeE env vs) P1) (fun ys H2 => ∀ accv, H2 Dd = some (.lst accv) → Reps X.K (ad A Dd) H2 ys accv → Q (.ref Dd) H2) := by
    refine (PostG.bnd k1 post).mono ?_
    rintro ys P2 H2 e2 p2 ⟨P3, e3, p3, k3, post3⟩ accv ha hr
    exact post_here post3 p3 e3 (e1.trans e3) (.ref Dd) ⟨Dd, accv, ys, rfl, rfl, fresh_back k.pen e1 p1 (.of hD), ha, hr⟩
  refine ⟨fun i m H => m = ds.length - i ∧ i ≤ ds.length ∧ ∃ P acc accv, EOk X.K { W with G := gs ++ W.G } (ad A Dd) (L2.wipe σ vs) H (wipeE env vs) P ∧ HExt W.pa H1 H ∧ H Dd = some (.lst accv) ∧ Reps X.K (ad A Dd) H acc accv ∧
      PostG Ex W.pa H1 (compD2 gD fc it1 gD1 fc1 fe vs1 (ds.drop i) acc.length (wipeE env vs) P) (fun ys H2 => ∀ accv, H2 Dd = some (.lst accv) → Reps X.K (ad A Dd) H2 (acc ++ ys) accv → Q (.ref Dd) H2),
    ⟨_, rfl, Nat.zero_le _, P1, [], [], k0, HExt.of sD, upd_same, rfl, by rw [List.drop_zero]; exact post0⟩, ?_⟩
  rintro i m H2 ⟨rfl, hi, P2, acc, accv, k2, eH, hDd, hacc, post2⟩
  obtain ⟨ku, hr⟩ := k2.unkeepL
  obtain ⟨st, go, yl⟩ := okJ W (ad A Dd) _ H2 _ P2 ku hr
  by_cases hlt : i < ds.length
  · refine .inr ⟨go i hlt, fun H' => ∃ P acc accv, EOk X.K { W with G := gs ++ W.G } (ad A Dd) (L2.wipe σ vs) H' (wipeE env vs) P ∧ HExt W.pa H1 H' ∧ H' Dd = some (.lst accv) ∧ Reps X.K (ad A Dd) H' acc accv ∧
        PostG Ex W.pa H1 (compD2 gD fc it1 gD1 fc1 fe vs1 (ds.drop (i + 1)) acc.length (wipeE env vs) P) (fun ys H2 => ∀ accv, H2 Dd = some (.lst accv) → Reps X.K (ad A Dd) H2 (acc ++ ys) accv → Q (.ref Dd) H2),
      fun H' q => ⟨ds.length - (i + 1), by omega, rfl, hlt, q⟩, fun x H3 hy => ?_⟩
    obtain ⟨sm, d, hd, rd⟩ := yl i x H3 hlt hy
    have ed : ds.drop i = d :: ds.drop (i + 1) := by
      rw [(List.drop_eq_getElem_cons hlt)]
      rw [List.getElem?_eq_getElem hlt] at hd
      rw [Option.some.inj hd]
    rw [ed] at post2
    unfold compD2 at post2
    cases htg : gD d (wipeE env vs) with
    | none => rw [htg] at post2; exact post2.elim
    | some e2 =>
      rw [htg] at post2
      have k3 := k2.stayS sm
      have e3 := eH.trans (HExt.of (pa := W.pa) sm)
      change PostG Ex W.pa H1 (bnd (noEx (fc e2)) _ P2) _ at post2
      unfold bnd noEx at post2
      refine ⟨{ W with G := gs ++ W.G }, ad A Dd, wipeE env vs, P2, d, e2, k3, rd, htg, fun σ4 w4 k4 => ⟨?_, ?_⟩⟩
      · rw [w4 vs hsl, wipe_mem fun _ h => h]
      · cases hfc : fc e2 P2 with
        | no => rw [hfc] at post2; exact post2.elim
        | ex c P5 => rw [hfc] at post2; exact post2.elim
        | ok b P5 =>
          rw [hfc] at post2
          refine ⟨{ W with G := gs ++ W.G }, ad A Dd, e2, P2, k4, ?_⟩
          rw [hfc]
          intro H5 e5 p5
          have k5 := k4.ext e5 p5
          have kb5 := k3.ext e5 p5
          have hD5 : H5 Dd = some (.lst accv) := e5.at (sm _ _ hDd) fun ⟨c, z⟩ => (hnp _ _ z).1 rfl
          have hacc5 := k3.reps e5 (k2.repsN sm hacc)
          cases b with
          | false => exact iteF ⟨P5, acc, accv, kb5, e3.trans e5, hD5, hacc5, post2⟩
          | true =>
            dsimp only at post2
            rw [if_pos rfl] at post2
            refine iteT ?_
            cases hit : it1 e2 P5 with
            | no => rw [hit] at post2; exact post2.elim
            | ex c P6 => rw [hit] at post2; exact post2.elim
            | ok ds1 P6 =>
              rw [hit] at post2
              dsimp only at post2
              refine ⟨{ W with G := gs ++ W.G }, ad A Dd, e2, P5, k5, ?_⟩
              rw [hit]
              intro H6 e6 p6 J1 gs1 hgs1 okJ1
              have ki6 := ((k5.ext e6 p6).keepsL gs1 hgs1).wipe vs1
              have kb6 := (kb5.ext e6 p6).keepsL gs1 hgs1
              have hD6 : H6 Dd = some (.lst accv) := e6.at hD5 fun ⟨c, z⟩ => (hnp _ _ z).1 rfl
              have hacc6 := kb5.reps e6 hacc5
              have hown1 : ∀ (i : Nat) (es : List D), (wipeE e2 vs1)[i]? = some (SV.own es) → (L2.wipe σ4 vs1)[i]? ≠ some (some (V.ref Dd)) := fun i es h1 h2 => by
                have h3 := og _ _ _ htg i es (wipeE_own h1).1
                obtain ⟨h4, h5⟩ := wipeE_own h3
                have h6 := (wipe_some h2).1
                refine hown i es h3 ?_
                have h7 : L2.wipe σ4 vs = L2.wipe σ vs := by rw [w4 vs hsl, wipe_mem fun _ h => h]
                rw [← h7, wipe_out h5]
                exact h6
              have post6 : PostG Ex W.pa H1 (bnd (compD gD1 fc1 fe ds1 acc.length (wipeE e2 vs1)) (fun ys => bnd (compD2 gD fc it1 gD1 fc1 fe vs1 (ds.drop (i + 1)) (acc.length + ys.length) (wipeE env vs)) fun zs => ret (ys ++ zs)) P6)
                  (fun ys H2 => ∀ accv, H2 Dd = some (.lst accv) → Reps X.K (ad A Dd) H2 (acc ++ ys) accv → Q (.ref Dd) H2) := post2
              refine ⟨fun j k H => k = ds1.length - j ∧ j ≤ ds1.length ∧ ∃ P acc accv, EOk X.K { W with G := gs1 ++ (gs ++ W.G) } (ad A Dd) (L2.wipe σ4 vs1) H (wipeE e2 vs1) P ∧ EOk X.K { W with G := gs1 ++ (gs ++ W.G) } (ad A Dd) (L2.wipe σ vs) H (wipeE env vs) P ∧ HExt W.pa H1 H ∧ H Dd = some (.lst accv) ∧ Reps X.K (ad A Dd) H acc accv ∧
                  PostG Ex W.pa H1 (bnd (compD gD1 fc1 fe (ds1.drop j) acc.length (wipeE e2 vs1)) (fun ys => bnd (compD2 gD fc it1 gD1 fc1 fe vs1 (ds.drop (i + 1)) (acc.length + ys.length) (wipeE env vs)) fun zs => ret (ys ++ zs)) P)
                    (fun ys H2 => ∀ accv, H2 Dd = some (.lst accv) → Reps X.K (ad A Dd) H2 (acc ++ ys) accv → Q (.ref Dd) H2),
                ⟨_, rfl, Nat.zero_le _, P6, acc, accv, ki6, kb6, e3.trans (e5.trans e6), hD6, hacc6, by rw [List.drop_zero]; exact post6⟩, ?_⟩
              rintro j m H7 ⟨rfl, hj, P7, acc, accv, k7, kb7, e7, hD7, hacc7, post7⟩
              obtain ⟨ku1, hr1⟩ := EOk.unkeepL (W := { W with G := gs ++ W.G }) k7
              obtain ⟨st1, go1, yl1⟩ := okJ1 { W with G := gs ++ W.G } (ad A Dd) _ H7 _ P7 ku1 hr1
              by_cases hlt1 : j < ds1.length
              · refine .inr ⟨go1 j hlt1, fun H' => ∃ P acc accv, EOk X.K { W with G := gs1 ++ (gs ++ W.G) } (ad A Dd) (L2.wipe σ4 vs1) H' (wipeE e2 vs1) P ∧ EOk X.K { W with G := gs1 ++ (gs ++ W.G) } (ad A Dd) (L2.wipe σ vs) H' (wipeE env vs) P ∧ HExt W.pa H1 H' ∧ H' Dd = some (.lst accv) ∧ Reps X.K (ad A Dd) H' acc accv ∧
                    PostG Ex W.pa H1 (bnd (compD gD1 fc1 fe (ds1.drop (j + 1)) acc.length (wipeE e2 vs1)) (fun ys => bnd (compD2 gD fc it1 gD1 fc1 fe vs1 (ds.drop (i + 1)) (acc.length + ys.length) (wipeE env vs)) fun zs => ret (ys ++ zs)) P)
                      (fun ys H2 => ∀ accv, H2 Dd = some (.lst accv) → Reps X.K (ad A Dd) H2 (acc ++ ys) accv → Q (.ref Dd) H2),
                  fun H' q => ⟨ds1.length - (j + 1), by omega, rfl, hlt1, q⟩, fun x1 H8 hy1 => ?_⟩
                obtain ⟨sm1, d1, hd1, rd1⟩ := yl1 j x1 H8 hlt1 hy1
                have ed1 : ds1.drop j = d1 :: ds1.drop (j + 1) := by
                  rw [List.drop_eq_getElem_cons hlt1]
                  rw [List.getElem?_eq_getElem hlt1] at hd1
                  rw [Option.some.inj hd1]
                rw [ed1] at post7
                cases htg1 : gD1 d1 (wipeE e2 vs1) with
                | none => rw [bnd_no (compD_n1 htg1)] at post7; exact post7.elim
                | some e4 =>
                  have k8 := k7.stayS sm1
                  have kb8 := kb7.stayS sm1
                  have e8 := e7.trans (HExt.of (pa := W.pa) sm1)
                  refine ⟨{ W with G := gs1 ++ (gs ++ W.G) }, ad A Dd, wipeE e2 vs1, P7, d1, e4, k8, rd1, htg1, fun σ9 w9 k9 => ⟨?_, ?_⟩⟩
                  · rw [w9 vs1 hsl1, wipe_mem fun _ h => h]
                  · cases hfc1 : fc1 e4 P7 with
                    | no => rw [bnd_no (compD_n2 htg1 fun b P1 z => by rw [hfc1] at z; cases z)] at post7; exact post7.elim
                    | ex c P8 => rw [bnd_no (compD_n2 htg1 fun b P1 z => by rw [hfc1] at z; cases z)] at post7; exact post7.elim
                    | ok b P8 =>
                      refine ⟨{ W with G := gs1 ++ (gs ++ W.G) }, ad A Dd, e4, P7, k9, ?_⟩
                      rw [hfc1]
                      intro H9 e9 p9
                      have k10 := k9.ext e9 p9
                      have ki9 := k8.ext e9 p9
                      have kb9 := kb8.ext e9 p9
                      have hD9 : H9 Dd = some (.lst accv) := e9.at (sm1 _ _ hD7) fun ⟨c, z⟩ => (hnp _ _ z).1 rfl
                      have hacc9 := k8.reps e9 (k7.repsN sm1 hacc7)
                      cases b with
                      | false =>
                        rw [bnd_at (compD_f htg1 hfc1)] at post7
                        exact iteF ⟨P8, acc, accv, ki9, kb9, e8.trans e9, hD9, hacc9, post7⟩
                      | true =>
                        refine iteT ?_
                        cases hfe : fe e4 P8 with
                        | no => rw [bnd_no (compD_n3 htg1 hfc1 fun b P1 z => by rw [hfe] at z; cases z)] at post7; exact post7.elim
                        | ex c P10 => rw [bnd_no (compD_n3 htg1 hfc1 fun b P1 z => by rw [hfe] at z; cases z)] at post7; exact post7.elim
                        | ok y P10 =>
                          refine ⟨{ W with G := gs1 ++ (gs ++ W.G) }, ad A Dd, e4, P8, k10, ?_⟩
                          rw [hfe]
                          intro H10 e10 p10 v rv
                          have ki11 := ki9.ext e10 p10
                          have kb11 := kb9.ext e10 p10
                          have hD10 : H10 Dd = some (.lst accv) := e10.at hD9 fun ⟨c, z⟩ => (hnp _ _ z).1 rfl
                          have hacc10 := ki9.reps e10 hacc9
                          by_cases hn : acc.length < 16777216
                          · rw [bnd_at (compD_t htg1 hfc1 hfe hn)] at post7
                            obtain ⟨kp, stp⟩ := ki11.poke (a := Dd) (o := .lst (accv ++ [v])) (.inr rfl) (by rw [hD10]; trivial) h00 hnp nt_lst hown1 (.inl ⟨_, hD10⟩)
                            obtain ⟨kq, _⟩ := kb11.poke (a := Dd) (o := .lst (accv ++ [v])) (.inr rfl) (by rw [hD10]; trivial) h00 hnp nt_lst hown (.inl ⟨_, hD10⟩)
                            refine ⟨accv, hD10, by rw [hacc10.length, sizeLine_eq]; exact hn, P10, acc ++ [y], accv ++ [v], kp, kq, fun b u hb nb nt => ?_, upd_same, Reps.mono stp _ _ (hacc10.append (Reps.one rv)), ?_⟩
                            · have hbD : b ≠ Dd := fun z => by subst z; rw [hD] at hb; cases hb
                              rw [upd_ne hbD]
                              exact (e8.trans (e9.trans e10)) b u hb nb nt
                            · rw [List.length_append]; rw [List.length_singleton]
                              refine (post_front (g := fun k => compD2 gD fc it1 gD1 fc1 fe vs1 (ds.drop (i + 1)) k (wipeE env vs)) (n := acc.length) post7).mono ?_
                              intro ys P11 H11 e11 p11 q accv7 h7 r7
                              exact q accv7 h7 (by rw [List.append_assoc] at r7; exact r7)
                          · rw [bnd_no (compD_n4 htg1 hfc1 hfe hn)] at post7; exact post7.elim
              · have ej : j = ds1.length := by omega
                subst ej
                rw [List.drop_length] at post7
                obtain ⟨ku2, _⟩ := EOk.unkeepL (W := { W with G := gs ++ W.G }) kb7
                refine .inl ⟨st1, P7, acc, accv, ku2, e7, hD7, hacc7, ?_⟩
                have z : bnd (compD gD1 fc1 fe [] acc.length (wipeE e2 vs1)) (fun ys => bnd (compD2 gD fc it1 gD1 fc1 fe vs1 (ds.drop (i + 1)) (acc.length + ys.length) (wipeE env vs)) fun zs => ret (ys ++ zs)) P7 = compD2 gD fc it1 gD1 fc1 fe vs1 (ds.drop (i + 1)) acc.length (wipeE env vs) P7 := bnd_nil
                rw [z] at post7
                exact post7
  · have ei : i = ds.length := by omega
    subst ei
    rw [List.drop_length] at post2
    exact .inl ⟨st, post2 H2 eH k2.pen accv hDd (by rw [List.append_nil]; exact hacc)⟩
theorem x_lc2 (vs1 : List Nat) (hc : X.calm = true) (hN : X.N.Nodup) (hi : XI Ex X tg iter it) (ok : BlkOk X.N X.env.scope scope own)
    (hg : ∀ (s : Shared) (H : Hp) (C : Addr) (cl : List (Str × Addr)) (fp : List Addr), XG (X.blk s H scope (compEnvC scope cl C X.env) fp) tg sl gD)
    (ht : ∀ (s : Shared) (H : Hp) (C : Addr) (cl : List (Str × Addr)) (fp : List Addr), XTs Ex0 (X.blk s H scope (compEnvC scope cl C X.env) fp) ifs fc)
    (hi1 : ∀ (s : Shared) (H : Hp) (C : Addr) (cl : List (Str × Addr)) (fp : List Addr), XI Ex0 (X.blk s H scope (compEnvC scope cl C X.env) fp) tg1 iter1 it1)
    (hg1 : ∀ (s : Shared) (H : Hp) (C : Addr) (cl : List (Str × Addr)) (fp : List Addr), XG (X.blk s H scope (compEnvC scope cl C X.env) fp) tg1 sl1 gD1)
    (ht1 : ∀ (s : Shared) (H : Hp) (C : Addr) (cl : List (Str × Addr)) (fp : List Addr), XTs Ex0 (X.blk s H scope (compEnvC scope cl C X.env) fp) ifs1 fc1)
    (he : ∀ (s : Shared) (H : Hp) (C : Addr) (cl : List (Str × Addr)) (fp : List Addr), XE Ex0 (X.blk s H scope (compEnvC scope cl C X.env) fp) .v elt fe)
    (og : OldG gD) (hsl : ∀ i ∈ sl, i ∈ own.map (·.2) := by decide) (hsl1 : ∀ i ∈ sl1, i ∈ vs1 := by decide) (hv : ∀ i ∈ vs1, i ∈ own.map (·.2) := by decide)
    (hs : ∀ x, foldedSetIterable iter X.env x = pure x := by intro _; rfl) (hs1 : ∀ env x, foldedSetIterable iter1 env x = pure x := by intro _ _; rfl) :
    XE Ex X .f (.ListComp elt [⟨tg, iter, ifs, 0⟩, ⟨tg1, iter1, ifs1, 0⟩] scope pos) (dComp2 it gD fc it1 gD1 fc1 fe (own.map (·.2)) vs1) := by
  obtain ⟨wi, hwi, qi⟩ := hi
  exact ⟨_, pe_lc2 hc hN hwi ok hv (g := TGof X.K sl gD) (tt := TTof X.K Ex0 fc) (wi1 := TIof X.K Ex0 it1) (g1 := TGof X.K sl1 gD1) (tt1 := TTof X.K Ex0 fc1) (te := TEof X.K Ex0 .v fe) (fun s H C cl fp => (hg s H C cl fp).can) (fun s H C cl fp => (ht s H C cl fp).can)
    (fun s H C cl fp => (hi1 s H C cl fp).can) (fun s H C cl fp => (hg1 s H C cl fp).can) (fun s H C cl fp => (ht1 s H C cl fp).can) (fun s H C cl fp => (he s H C cl fp).can) hs hs1, lc2_sd qi hsl hsl1 og⟩
theorem xs_setLc2 {kd : Kd} {y : Str} {py spos : Pos} (i : Nat) (vs1 : List Nat) (hc : X.calm = true) (hN : X.N.Nodup) (hi : XI Ex X tg iter it) (ok : BlkOk X.N X.env.scope scope own)
    (hg : ∀ (s : Shared) (H : Hp) (C : Addr) (cl : List (Str × Addr)) (fp : List Addr), XG (X.blk s H scope (compEnvC scope cl C X.env) fp) tg sl gD)
    (ht : ∀ (s : Shared) (H : Hp) (C : Addr) (cl : List (Str × Addr)) (fp : List Addr), XTs Ex0 (X.blk s H scope (compEnvC scope cl C X.env) fp) ifs fc)
    (hi1 : ∀ (s : Shared) (H : Hp) (C : Addr) (cl : List (Str × Addr)) (fp : List Addr), XI Ex0 (X.blk s H scope (compEnvC scope cl C X.env) fp) tg1 iter1 it1)
    (hg1 : ∀ (s : Shared) (H : Hp) (C : Addr) (cl : List (Str × Addr)) (fp : List Addr), XG (X.blk s H scope (compEnvC scope cl C X.env) fp) tg1 sl1 gD1)
    (ht1 : ∀ (s : Shared) (H : Hp) (C : Addr) (cl : List (Str × Addr)) (fp : List Addr), XTs Ex0 (X.blk s H scope (compEnvC scope cl C X.env) fp) ifs1 fc1)
    (he : ∀ (s : Shared) (H : Hp) (C : Addr) (cl : List (Str × Addr)) (fp : List Addr), XE Ex0 (X.blk s H scope (compEnvC scope cl C X.env) fp) .v elt fe)
    (og : OldG gD) (hsw : swapsWith (.ListComp elt [⟨tg, iter, ifs, 0⟩, ⟨tg1, iter1, ifs1, 0⟩] scope pos) (some (.Name y py)) spos.line X.env = pure true) (hy : X.N[i]? = some y := by rfl) (hyl : X.env.scope.names.lookup y = some .local := by rfl)
    (hsl : ∀ i ∈ sl, i ∈ own.map (·.2) := by decide) (hsl1 : ∀ i ∈ sl1, i ∈ vs1 := by decide) (hv : ∀ i ∈ vs1, i ∈ own.map (·.2) := by decide)
    (hs : ∀ x, foldedSetIterable iter X.env x = pure x := by intro _; rfl) (hs1 : ∀ env x, foldedSetIterable iter1 env x = pure x := by intro _ _; rfl) :
    XS Ex kd X (.Assign [.Name y py] (.ListComp elt [⟨tg, iter, ifs, 0⟩, ⟨tg1, iter1, ifs1, 0⟩] scope pos) spos) (sOwn i (dComp2 it gD fc it1 gD1 fc1 fe (own.map (·.2)) vs1)) := by
  obtain ⟨wi, hwi, qi⟩ := hi
  refine ⟨_, ps_setLc2 hc hN hy hyl hsw hwi ok hv (g := TGof X.K sl gD) (tt := TTof X.K Ex0 fc) (wi1 := TIof X.K Ex0 it1) (g1 := TGof X.K sl1 gD1) (tt1 := TTof X.K Ex0 fc1) (te := TEof X.K Ex0 .v fe) (fun s H C cl fp => (hg s H C cl fp).can) (fun s H C cl fp => (ht s H C cl fp).can)
    (fun s H C cl fp => (hi1 s H C cl fp).can) (fun s H C cl fp => (hg1 s H C cl fp).can) (fun s H C cl fp => (ht1 s H C cl fp).can) (fun s H C cl fp => (he s H C cl fp).can) hs hs1, fun W A σ H env P De k p => ?_⟩
  refine lc2_sd qi hsl hsl1 og W A σ H env P _ k ((PostS.bnd k p).mono ?_)
  rintro d _ H1 _ _ ⟨P1, e1, p1, k1, post⟩ v ⟨a, vs, ds, rfl, rfl, hn, hl, r⟩
  exact post _ _ H1 (k.setO e1 p1 i hn hl r)
end
end Vl
end
section
set_option autoImplicit false
set_option maxRecDepth 100000
/-! V31: defs that end with a return: their answers are new lists. -/
namespace Vl
open PySem L2
/-- never by the end of the block -/
def NoNx (f : Env → M Fl) : Prop := ∀ env P e P', f env P ≠ .ok (.nx e) P'
theorem nn_seq {f g : Env → M Fl} (h : NoNx g) : NoNx (sSeq f g) := fun env P e P' z => by
  unfold sSeq bnd at z
  cases hf : f env P with
  | no => rw [hf] at z; cases z
  | ex c P1 => rw [hf] at z; cases z
  | ok o P1 =>
    rw [hf] at z
    cases o with
    | nx e1 => exact h _ _ _ _ z
    | rt d => cases z
    | bk e1 => cases z
    | ct e1 => cases z
theorem nn_ret {fa : Env → M D} : NoNx (sRet fa) := fun env P e P' z => by
  unfold sRet bnd at z
  cases hf : fa env P with
  | no => rw [hf] at z; cases z
  | ex c P1 => rw [hf] at z; cases z
  | ok o P1 => rw [hf] at z; cases z
theorem nn_retO {i : Nat} : NoNx (sRetO i) := fun env P e P' z => by
  unfold sRetO at z
  cases hf : env[i]? with
  | none => rw [hf] at z; cases z
  | some s => rw [hf] at z; cases s <;> cases z
theorem nn_if {c : Env → M Bool} {f g : Env → M Fl} (h1 : NoNx f) (h2 : NoNx g) : NoNx (sIf c f g) := fun env P e P' z => by
  unfold sIf bnd at z
  cases hf : c env P with
  | no => rw [hf] at z; cases z
  | ex c P1 => rw [hf] at z; cases z
  | ok o P1 =>
    rw [hf] at z
    cases o with
    | true => exact h1 _ _ _ _ z
    | false => exact h2 _ _ _ _ z
theorem nn_share {i : Nat} {f : Env → M Fl} (h : NoNx f) : NoNx (sShare i f) := fun env P e P' z => by
  unfold sShare at z
  cases hf : env[i]? with
  | none => rw [hf] at z; exact h _ _ _ _ z
  | some s => rw [hf] at z; cases s <;> exact h _ _ _ _ z
theorem nn_raise {c : Str} : NoNx (sRaise c) := fun env P e P' z => by
  unfold sRaise at z; cases z
theorem NoNx.of {f : Env → M Fl} {kd : Kd} {n : Nat} (h : NoNx f) : kd = .v ∨ ∀ (ss : List SV) (P0 : Pen) (e : Env) (P' : Pen), f (ss ++ List.replicate (n - ss.length) .un) P0 ≠ .ok (.nx e) P' := .inr fun _ _ _ _ => h _ _ _ _
end Vl
end
section
set_option autoImplicit false
set_option maxRecDepth 100000
/-! V32: raise X(e). -/
namespace Vl
open PySem L2
def sRaiseE (c : Str) (fa : Env → M D) : Env → M Fl := fun env => bnd (fa env) fun _ => raiseM c
section
variable {kd : Kd} {X : Cx} {e : Expr} {fa : Env → M D} {x : Str}
theorem xs_raiseE {ec : EC} {E : XK} {C : Addr} {B newId initId : String} {bmB : List Value} {p rp cp : Pos} (c : Str) (hc : X.calm = true) (tk : Takes X (fun cls d _ H => E cls d H)) (F : ExcBaseFacts B newId initId bmB) (q : PySem.W.excIn X.K C bmB newId = true) (gC : X.mg x = some (.ref C)) (kC : PySem.W.keepIn X.K (.ref C) = true)
    (r : Raises X (.ref C)) (hcC : ec c = C) (h : XE (exOf ec E) X .v e fa) (hg : Gl X x := by rfl) (hs : starEach [e] X.env = (false, eval e X.env) :: starEach [] X.env := by rfl) (hdb : (x == ("__debug__" : Str)) = false := by decide) :
    XS (exOf ec E) kd X (.Raise (some (.Call (.Name x p) [e] [] cp)) none rp) (sRaiseE c fa) := by
  obtain ⟨t, ht, qq⟩ := h
  refine ⟨_, ps_raise hc tk (SkE.pmk_own1 F q gC kC r hg ht hs hdb), fun W A σ H env P De k post => ?_⟩
  subst hcC
  refine qq W A σ H env P _ k ((PostS.bnd k post).mono ?_)
  rintro d _ H1 _ _ ⟨P1, e1, p1, k1, post⟩ v _
  exact post H1 k1.base p1
end
theorem nn_raiseE {c : Str} {fa : Env → M D} : NoNx (sRaiseE c fa) := fun env P e P' z => by
  unfold sRaiseE bnd at z
  cases hf : fa env P <;> rw [hf] at z <;> cases z
end Vl
end
section
set_option autoImplicit false
set_option maxRecDepth 100000
/-! V33: for and comprehensions over zip(*xs). -/
namespace Vl
open PySem L2 PySem.W PySem.Calls PyProof.Rows PySem.SeqAt

theorem All2.memR {α β : Type} {R : α → β → Prop} {as : List α} {bs : List β} (h : All2 R as bs) {b : β} (hb : b ∈ bs) : ∃ a ∈ as, R a b := by
  induction h with
  | nil => cases hb
  | cons r _ ih =>
    rcases (List.mem_cons.mp hb) with rfl | hb
    · exact ⟨_, List.mem_cons_self, r⟩
    · obtain ⟨a, ha, q⟩ := ih hb
      exact ⟨a, List.mem_cons_of_mem _ ha, q⟩
theorem All2.memL {α β : Type} {R : α → β → Prop} {as : List α} {bs : List β} (h : All2 R as bs) {a : α} (ha : a ∈ as) : ∃ b ∈ bs, R a b := by
  induction h with
  | nil => cases ha
  | cons r _ ih =>
    rcases (List.mem_cons.mp ha) with rfl | ha
    · exact ⟨_, List.mem_cons_self, r⟩
    · obtain ⟨b, hb, q⟩ := ih ha
      exact ⟨b, List.mem_cons_of_mem _ hb, q⟩
theorem All2.pair {α β : Type} {R : α → β → Prop} {S : α → α → Prop} {T : β → β → Prop} (f : ∀ a a' b b', S a a' → R a b → R a' b' → T b b') : ∀ {as : List α} {bs : List β}, All2 R as bs → as.Pairwise S → bs.Pairwise T
  | _, _, .nil, _ => .nil
  | _, _, .cons r h, p => by
    obtain ⟨p1, p2⟩ := List.pairwise_cons.mp p
    refine List.pairwise_cons.mpr ⟨fun b' hb => ?_, All2.pair f h p2⟩
    obtain ⟨a', ha', r'⟩ := h.memR hb
    exact f _ _ _ _ (p1 a' ha') r r'
theorem All2.mono {α β : Type} {R R' : α → β → Prop} (f : ∀ a b, R a b → R' a b) : ∀ {as : List α} {bs : List β}, All2 R as bs → All2 R' as bs
  | _, _, .nil => .nil
  | _, _, .cons r h => .cons (f _ _ r) (All2.mono f h)
/-- how it lies: cells z, TI, TO, its iterators J -/
structure CellsN (z TI TO : Addr) (J : List (SK × Addr)) : Prop where
  nd : (z :: TI :: TO :: J.map (·.2)).Nodup
  off : ∀ p ∈ J, ∀ c ∈ z :: TI :: TO :: J.map (·.2), p.1.off c
def SrcN (K : PySem.W.Frag) (H : Hp) (n : Nat) (ks : List SK) (xss : List (List V)) : Prop := All2 (fun (k : SK) xs => k.src K H xs ∧ xs.length = n) ks xss
def ItN (K : PySem.W.Frag) (ks : List SK) : It :=
  ⟨fun i H => ∃ n xss, SrcN K H n ks xss ∧ i < n,
    fun i H v H' => ∃ T o ys, v = .ref T ∧ H T = none ∧ o.dict = none ∧ H' = upd H T (.frz o (.tup ys)) ∧ ∀ n xss, SrcN K H n ks xss → All2 (fun (xs : List V) y => xs[i]? = some y) xss ys,
    fun i H => ∃ xss, SrcN K H i ks xss⟩
section
variable {X : Cx} {pins : List (Addr × Obj)} {σ : L2.St} {H : Hp} { s : Shared }
theorem SrcN.inj (iv : L2.Inv X pins σ H s) {n n' : Nat} : ∀ {ks : List SK} {xss yss : List (List V)}, SrcN X.K H n ks xss → SrcN X.K H n' ks yss → xss = yss
  | _, _, _, .nil, .nil => rfl
  | _, _, _, .cons a h, .cons b h' => by rw [SK.inj iv a.1 b.1, SrcN.inj iv h h']
/-- the iterators of the library -/
theorem draws_all (iv : L2.Inv X pins σ H s) (clm : X.calm = true) {n : Nat} : ∀ {J : List (SK × Addr)} {xss : List (List V)}, (∀ p ∈ J, p.1.off p.2) → SrcN X.K H n (J.map (·.1)) xss →
    ∃ L : List ItZ, All2 (fun (p : SK × Addr) (d : ItZ) => d.it = p.2 ∧ ∃ xs : List V, xs.length = n ∧ p.1.src X.K H xs ∧ SDr X p.1 p.2 xs s.heap d.fp d.P d.St) J L
  | [], _, _, _ => ⟨[], .nil⟩
  | p :: J, _, ho, .cons a h => by
    obtain ⟨L, hL⟩ := draws_all iv clm (fun q hq => ho q (by simp [hq])) h
    obtain ⟨fp, P, St, D⟩ := SK.draws iv clm a.1 p.2 (ho p (by simp))
    exact ⟨⟨p.2, fp, P, St⟩ :: L, .cons ⟨rfl, _, a.2, a.1, D⟩ hL⟩
theorem its_eq {R : (SK × Addr) → ItZ → Prop} (hr : ∀ p d, R p d → d.it = p.2) : ∀ {J : List (SK × Addr)} {L : List ItZ}, All2 R J L → (L.map fun d => Value.ref d.it) = J.map fun p => Value.ref p.2
  | _, _, .nil => rfl
  | _, _, .cons r h => by rw [List.map_cons, List.map_cons, its_eq hr h, hr _ _ r]
/-- the values that are drawn -/
theorem drawn_vals (iv : L2.Inv X pins σ H s) {n i : Nat} : ∀ {J : List (SK × Addr)} {L : List ItZ} {us : List Value}, All2 (fun (p : SK × Addr) (d : ItZ) => d.it = p.2 ∧ ∃ xs : List V, xs.length = n ∧ p.1.src X.K H xs ∧ SDr X p.1 p.2 xs s.heap d.fp d.P d.St) J L → All2 (fun (d : ItZ) x => d.P i x) L us →
    ∃ ys, Vals ys us ∧ ∀ n' xss, SrcN X.K H n' (J.map (·.1)) xss → All2 (fun (xs : List V) y => xs[i]? = some y) xss ys
  | _, _, _, .nil, .nil => ⟨[], .nil, fun n' xss h => by cases h; exact .nil⟩
  | _, _, _, .cons ⟨_, xs, _, hs, D⟩ h, .cons p q => by
    obtain ⟨ys, r, g⟩ := drawn_vals iv h q
    obtain ⟨y, gy, ry⟩ := D.val i _ p
    refine ⟨y :: ys, .cons ry r, fun n' xss hx => ?_⟩
    cases hx with
    | cons a hx => exact .cons (by rw [SK.inj iv a.1 hs]; exact gy) (g n' _ hx)
end
theorem vals_len {xs : List V} {us : List Value} (h : Vals xs us) : xs.length = us.length := h.length
theorem turn_zipN {P : Program} {w : World} {K : PySem.W.Frag} {tg : Expr} {J : List (SK × Addr)} {z TI TO : Addr} (C : CellsN z TI TO J) (hJ : J ≠ []) (hsz : J.length ≤ sizeLine) :
    Turn P w K tg (ItN K (J.map (·.1))) (z :: TI :: TO :: J.map (·.2)) z (fun i h => (∃ own f, (own = .none ∨ ∃ a : Nat, own = rawInt a) ∧ ZipO h z TI TO own f) ∧ TupN h TI (J.map fun p => .ref p.2) ∧ (∃ olds, olds.length = J.length ∧ TupN h TO olds) ∧ ∀ p ∈ J, p.1.at p.2 i h) where
  mem := by simp
  obj := fun i h sta c clm => by
    obtain ⟨⟨own, f, _, hz⟩, tiH, ⟨olds, _, toH⟩, hat⟩ := sta
    rcases List.mem_cons.mp clm with q | clm
    · rw [q]; exact ⟨_, hz, fun _ q => nomatch q⟩
    rcases List.mem_cons.mp clm with q | clm
    · rw [q]; exact ⟨_, tiH, fun v q => nomatch q⟩
    rcases List.mem_cons.mp clm with q | clm
    · rw [q]; exact ⟨_, toH, fun v q => nomatch q⟩
    obtain ⟨p, hp, rfl⟩ := List.mem_map.mp clm
    exact SK.at_obj (hat p hp)
  keep := fun i h h' sta k => by
    obtain ⟨⟨own, f, ho, hz⟩, tiH, ⟨olds, hl, toH⟩, hat⟩ := sta
    exact ⟨⟨own, f, ho, k z (by simp) _ hz⟩, k TI (by simp) _ tiH, ⟨olds, hl, k TO (by simp) _ toH⟩, fun p hp => SK.at_at (hat p hp) fun o q => k p.2 (List.mem_cons_of_mem _ (List.mem_cons_of_mem _ (List.mem_cons_of_mem _ (List.mem_map_of_mem hp)))) o q⟩
  item := by
    intro X hP hw hK clm i pins s σ H E iv fpo sta goH
    subst hP hw hK
    obtain ⟨⟨own, f, ho, hz⟩, tiH, ⟨olds, hl, toH⟩, hat⟩ := sta
    obtain ⟨n, xss, hsrc, hlt⟩ := goH
    have mJ : ∀ p ∈ J, p.2 ∈ z :: TI :: TO :: J.map (·.2) := fun p hp => List.mem_cons_of_mem _ (List.mem_cons_of_mem _ (List.mem_cons_of_mem _ (List.mem_map_of_mem hp)))
    obtain ⟨L, hL⟩ := draws_all iv clm (fun p hp => C.off p hp p.2 (mJ p hp)) hsrc
    have hits : (L.map fun d => Value.ref d.it) = J.map fun p => Value.ref p.2 := its_eq (fun p d h => h.1) hL
    have hll := hL.len
    have nd := C.nd
    obtain ⟨n1, nd⟩ := List.pairwise_cons.mp nd
    obtain ⟨n2, nd⟩ := List.pairwise_cons.mp nd
    obtain ⟨n3, nd⟩ := List.pairwise_cons.mp nd
    have S : ZSep z TI TO L := by
      refine ⟨(n1 TI (by simp)).symm, (n1 TO (by simp)).symm, n2 TO (by simp), fun d hd => ?_, ?_⟩
      · obtain ⟨p, hp, e, xs, _, _, D⟩ := hL.memR hd
        have h2 : p.2 ∈ J.map (·.2) := List.mem_map_of_mem hp
        rw [e]
        exact ⟨D.mem, D.out _ (n1 p.2 (List.mem_cons_of_mem _ (List.mem_cons_of_mem _ h2))) (C.off p hp _ (by simp)), D.out _ (n3 p.2 h2) (C.off p hp _ (by simp)), n2 p.2 (List.mem_cons_of_mem _ h2)⟩
      · have nd' : J.Pairwise fun a b => (a ∈ J ∧ b ∈ J) ∧ a.2 ≠ b.2 := by
          have q : J.Pairwise fun a b => a.2 ≠ b.2 := List.pairwise_map.mp nd
          exact q.imp_of_mem fun ha hb h => ⟨⟨ha, hb⟩, h⟩
        refine hL.pair (fun a a' b b' hs hr hr' => ?_) nd'
        obtain ⟨⟨ma, ma'⟩, hne⟩ := hs
        obtain ⟨e, xs, _, _, D⟩ := hr
        obtain ⟨e', xs', _, _, D'⟩ := hr'
        rw [e, e']
        exact ⟨D'.out _ hne (C.off a' ma' _ (mJ a ma)), D.out _ (Ne.symm hne) (C.off a ma _ (mJ a' ma'))⟩
    have DD : ∀ d ∈ L, Draws X.prog X.w X.A.in1 d.it d.fp n d.P d.St := fun d hd => by
      obtain ⟨p, hp, e, xs, en, _, D⟩ := hL.memR hd
      rw [e, ← en]
      exact D.d
    have hLne : L ≠ [] := fun q => hJ (List.length_eq_zero_iff.mp (by rw [hll, q]; rfl))
    have hltc : ∀ b ∈ z :: TI :: TO :: J.map (·.2), b < s.heap.objs.size := fun c clm => by
      rcases List.mem_cons.mp clm with q | clm
      · rw [q]; exact Heap.lt_size hz
      rcases List.mem_cons.mp clm with q | clm
      · rw [q]; exact Heap.lt_size tiH
      rcases List.mem_cons.mp clm with q | clm
      · rw [q]; exact Heap.lt_size toH
      obtain ⟨p, hp, rfl⟩ := List.mem_map.mp clm
      obtain ⟨_, e, _⟩ := SK.at_obj (hat p hp)
      exact Heap.lt_size e
    have ltZ : z < s.heap.objs.size := hltc z (by simp)
    have notIt : ∀ c, c ∉ z :: TI :: TO :: J.map (·.2) → ∀ d ∈ L, c ≠ d.it := fun c hc d hd q => by
      obtain ⟨p, hp, e, _⟩ := hL.memR hd
      exact hc (by rw [q, e]; exact mJ p hp)
    refine pyNext_zipN_item S DD hLne (by rw [hl, hll]) (by rw [← hll]; exact hsz) hz ho (by rw [hits]; exact tiH) toH (fun d hd => ?_) hlt fun us h' tk own' f' hus ho' zA ⟨olds', hl', TO'⟩ st' hT szh kpt => ?_
    · obtain ⟨p, hp, e, xs, en, _, D⟩ := hL.memR hd
      exact D.sta i (hat p hp)
    obtain ⟨ys, rv, hys⟩ := drawn_vals iv hL hus
    refine ⟨_, rfl, letGo_zip (s := { s with heap := h', toks := tk }) zA ho' fun h'' own'' ho'' zB sbu => ?_⟩
    have hlen : us.length = J.length := by rw [← hus.len, hll]
    have tyo : h''.get? s.heap.objs.size = some { cls := .type "tuple", data := .seq us.toArray } := (sbu.2 _ (Nat.ne_of_gt ltZ)).trans hT
    have neu : ObjOk X.prog X.w (upd H s.heap.objs.size (.frz { cls := .type "tuple", data := .seq us.toArray } (.tup ys))) h'' s.heap.objs.size (.frz { cls := .type "tuple", data := .seq us.toArray } (.tup ys)) :=
      ⟨tyo, by show ys.length ≤ sizeLine; rw [rv.length, hlen]; exact hsz, us, rv, ⟨_, tyo, rfl, _, rfl⟩⟩
    have iv1 : L2.Inv X pins σ _ { s with heap := h'', toks := tk } :=
      iv.turnedNew (ch := z :: TI :: TO :: J.map (·.2)) (fun c o hb q => (sbu.2 c (fun q' => hb (by simp [q']))).trans (kpt c o (fun q' => hb (by simp [q'])) (fun q' => hb (by simp [q'])) (notIt c hb) q)) fpo (Nat.le_refl _) neu
    refine ⟨.ref s.heap.objs.size, _, iv1, rfl, ⟨_, _, ys, rfl, iv.hok.fresh (Nat.le_refl _), rfl, rfl, fun n' xss' h => hys n' xss' h⟩, ⟨⟨own'', f', ho'', zB⟩, ?_, ⟨olds', by rw [hl', hll], ?_⟩, fun p hp => ?_⟩, fun c hcm => ?_⟩
    · refine (sbu.2 _ S.TIz).trans (kpt _ _ S.TIz S.TITO (fun d hd => (S.one d hd).2.2.2) tiH)
    · exact (sbu.2 _ S.TOz).trans TO'
    · obtain ⟨d, hd, e, xs, _, _, D⟩ := hL.memL hp
      refine SK.at_at (D.at_ _ _ (st' d hd)) fun o q => (sbu.2 _ ?_).trans q
      exact (n1 p.2 (List.mem_cons_of_mem _ (List.mem_cons_of_mem _ (List.mem_map_of_mem hp)))).symm
    · rw [upd_ne (Nat.ne_of_lt (hltc c hcm))]
      exact (fpo c hcm).1
  done := by
    intro X hP hw hK clm i pins s σ H E iv fpo sta goH
    subst hP hw hK
    obtain ⟨⟨own, f, ho, hz⟩, tiH, ⟨olds, hl, toH⟩, hat⟩ := sta
    obtain ⟨xss, hsrc⟩ := goH
    have mJ : ∀ p ∈ J, p.2 ∈ z :: TI :: TO :: J.map (·.2) := fun p hp => List.mem_cons_of_mem _ (List.mem_cons_of_mem _ (List.mem_cons_of_mem _ (List.mem_map_of_mem hp)))
    obtain ⟨L, hL⟩ := draws_all iv clm (fun p hp => C.off p hp p.2 (mJ p hp)) hsrc
    have hits : (L.map fun d => Value.ref d.it) = J.map fun p => Value.ref p.2 := its_eq (fun p d h => h.1) hL
    have hll := hL.len
    have nd := C.nd
    obtain ⟨n1, nd⟩ := List.pairwise_cons.mp nd
    obtain ⟨n2, nd⟩ := List.pairwise_cons.mp nd
    obtain ⟨n3, nd⟩ := List.pairwise_cons.mp nd
    have S : ZSep z TI TO L := by
      refine ⟨(n1 TI (by simp)).symm, (n1 TO (by simp)).symm, n2 TO (by simp), fun d hd => ?_, ?_⟩
      · obtain ⟨p, hp, e, xs, _, _, D⟩ := hL.memR hd
        have h2 : p.2 ∈ J.map (·.2) := List.mem_map_of_mem hp
        rw [e]
        exact ⟨D.mem, D.out _ (n1 p.2 (List.mem_cons_of_mem _ (List.mem_cons_of_mem _ h2))) (C.off p hp _ (by simp)), D.out _ (n3 p.2 h2) (C.off p hp _ (by simp)), n2 p.2 (List.mem_cons_of_mem _ h2)⟩
      · have nd' : J.Pairwise fun a b => (a ∈ J ∧ b ∈ J) ∧ a.2 ≠ b.2 := by
          have q : J.Pairwise fun a b => a.2 ≠ b.2 := List.pairwise_map.mp nd
          exact q.imp_of_mem fun ha hb h => ⟨⟨ha, hb⟩, h⟩
        refine hL.pair (fun a a' b b' hs hr hr' => ?_) nd'
        obtain ⟨⟨ma, ma'⟩, hne⟩ := hs
        obtain ⟨e, xs, _, _, D⟩ := hr
        obtain ⟨e', xs', _, _, D'⟩ := hr'
        rw [e, e']
        exact ⟨D'.out _ hne (C.off a' ma' _ (mJ a ma)), D.out _ (Ne.symm hne) (C.off a ma _ (mJ a' ma'))⟩
    have DD : ∀ d ∈ L, Draws X.prog X.w X.A.in1 d.it d.fp i d.P d.St := fun d hd => by
      obtain ⟨p, hp, e, xs, en, _, D⟩ := hL.memR hd
      rw [e, ← en]
      exact D.d
    have hLne : L ≠ [] := fun q => hJ (List.length_eq_zero_iff.mp (by rw [hll, q]; rfl))
    have notIt : ∀ c, c ∉ z :: TI :: TO :: J.map (·.2) → ∀ d ∈ L, c ≠ d.it := fun c hc d hd q => by
      obtain ⟨p, hp, e, _⟩ := hL.memR hd
      exact hc (by rw [q, e]; exact mJ p hp)
    refine pyNext_zipN_end S DD hLne hz ho (by rw [hits]; exact tiH) toH (fun d hd => ?_) fun h' kpt => ⟨rfl, ?_⟩
    · obtain ⟨p, hp, e, xs, en, _, D⟩ := hL.memR hd
      exact D.sta i (hat p hp)
    exact iv.turnedL (t' := s.toks) (ch := z :: TI :: TO :: J.map (·.2)) (fun c o hb q => kpt c o (fun q' => hb (by simp [q'])) (fun q' => hb (by simp [q'])) (notIt c hb) q) fpo
  self := fun A i s Q E sta h => let ⟨⟨_, _, _, hz⟩, _⟩ := sta; pyIter_zipO hz h
end Vl
end
section
set_option autoImplicit false
set_option maxRecDepth 100000
/-! V34: zip(*xs) as what is walked, with its denotation. -/
namespace Vl
open PySem L2 PySem.W PySem.Calls PyProof.Rows PySem.SeqAt

theorem looksM {M : Model} {h : Heap} {T : String} : Looks M h (keeperOf (.type T)) .machine := Looks.of_pure rfl
theorem callWith_typeS {M : Model} {A : Around} {E : Value → Shared → Prop} {s : Shared} {env : PySem.Env} {pos p : Pos} {T : String} {e : Expr} {Q : Value → Shared → Prop}
    (h : wpAny M A (eval e env) (fun v s₁ => StarOf M A E v (fun vs s₂ => wpAny M A (call (.type T) vs) Q E s₂) s₁) E s)
    (he : starEach [.Starred e p] env = [(true, eval e env)] := by exact rfl) :
    wpAny M A (callWith pos (.type T) [] (backTo pos (starEach [.Starred e p] env)) []) Q E s := by
  rw [he]
  refine ks_call (P := fun _ => True) rfl (fun h _ => ⟨.machine, .inr (.inl rfl), looksM⟩) (ks_lone ?_)
  refine wpAny_mono h (fun v s1 h1 => ?_) fun _ _ x => x
  unfold StarOf at h1 ⊢
  refine wpAny_mono h1 (fun b s2 h2 => ⟨h2.1, wpAny_mono h2.2 (fun vs s3 h3 => ⟨trivial, h3⟩) fun _ _ x => x⟩) fun _ _ x => x

/-- what zip is given: a thing, its items, its kind -/
def iZipN (K : PySem.W.Frag) (te : TE) : TI := fun σ H R => te σ H fun y H1 => ∃ a ws, y = .ref a ∧ (SqT K H1 a ws ∨ SqL K H1 a ws) ∧ ws ≠ [] ∧ ws.length ≤ sizeLine ∧
  ∃ qs : List (List V × K3), All2 (fun w q => SrcV K H1 w q.1 q.2) ws qs ∧ ∀ ks, All2 (fun (k : SK) (p : V × List V × K3) => SkV k p.1 p.2.2) ks (ws.zip qs) → R (ItN K ks) H1
section
variable {X : Cx} {pins : List (Addr × Obj)} {σ : L2.St} {H : Hp} { s : Shared }
theorem kinds_all (iv : L2.Inv X pins σ H s) : ∀ {ws : List V} {us : List Value} {qs : List (List V × K3)}, Vals ws us → All2 (fun w q => SrcV X.K H w q.1 q.2) ws qs →
    ∃ ks : List SK, us = ks.map SK.val ∧ All2 (fun (k : SK) (p : V × List V × K3) => SkV k p.1 p.2.2) ks (ws.zip qs) ∧ (∀ k ∈ ks, ∀ c, s.heap.objs.size ≤ c → k.off c) ∧ BegAll s.heap us (ks.map SK.obj) ∧ (∀ k ∈ ks, ∀ (h' : Heap) (it : Addr), h'.get? it = some k.obj → k.at it 0 h')
  | _, _, _, .nil, .nil => ⟨[], rfl, .nil, fun _ h => (nomatch h), rfl, fun _ h => (nomatch h)⟩
  | _, _, _, .cons r rs, .cons (b := q) h hs => by
    obtain ⟨ks, e, a, o, B, t⟩ := kinds_all iv rs hs
    obtain ⟨k, ek, hk, src, off⟩ := SrcV.kindV iv h r
    obtain ⟨Hh, b, bh, hat⟩ := SK.begins1 iv src
    refine ⟨k :: ks, by rw [List.map_cons, ek, e], .cons hk a, fun k' hk' => ?_, ⟨k.obj, _, Hh, rfl, by rw [← ek]; exact b, bh, B⟩, fun k' hk' => ?_⟩
    · rcases List.mem_cons.mp hk' with rfl | hk'
      · exact off
      · exact o k' hk'
    · rcases List.mem_cons.mp hk' with rfl | hk'
      · exact hat
      · exact t k' hk'
end
/-- addresses from n on -/
def withAt (n : Nat) : List SK → List (SK × Addr)
  | [] => []
  | k :: ks => (k, n) :: withAt (n + 1) ks
theorem withAt_fst : ∀ (ks : List SK) (n : Nat), (withAt n ks).map (·.1) = ks
  | [], _ => rfl
  | k :: ks, n => by rw [withAt, List.map_cons, withAt_fst ks]
theorem withAt_len : ∀ (ks : List SK) (n : Nat), (withAt n ks).length = ks.length
  | [], _ => rfl
  | k :: ks, n => by rw [withAt, List.length_cons, withAt_len ks, List.length_cons]
theorem withAt_snd : ∀ (ks : List SK) (n : Nat), (withAt n ks).map (·.2) = List.range' n ks.length
  | [], _ => rfl
  | k :: ks, n => by rw [withAt, List.map_cons, withAt_snd ks, List.length_cons, List.range'_succ]
theorem withAt_mem : ∀ {ks : List SK} {n : Nat} {p : SK × Addr}, p ∈ withAt n ks → ∃ j, ks[j]? = some p.1 ∧ p.2 = n + j
  | k :: ks, n, p, h => by
    rcases (List.mem_cons.mp h) with rfl | h
    · exact ⟨0, rfl, rfl⟩
    · obtain ⟨j, a, b⟩ := withAt_mem h
      exact ⟨j + 1, by simpa using a, b.trans (by show (n + 1 + j : Nat) = n + (j + 1); omega)⟩
theorem pi_zipS {X : Cx} {tg e : Expr} {te : TE} {p pos spos : Pos} (goH : Gl X "zip") (mgE : X.mg "zip" = none) (ha : PE X e te) (hst : starEach [.Starred e spos] X.env = [(true, eval e X.env)] := by rfl) :
    PI X tg (.Call (.Name "zip" p) [.Starred e spos] [] pos) (iZipN X.K te) := by
  refine ⟨fun pins s σ H R iv h => ?_⟩
  refine Call_ (ld_blt iv goH mgE boot_zip (callWith_typeS (thn (ha.run pins s σ H _ iv h) fun v s1 ⟨y, H1, iv1, ry, a, ws, ey, hx, hne, hz, qs, hq, q⟩ => ?_) hst))
  subst ey
  obtain rfl : v = Value.ref a := (ry)
  refine StX.star_any iv1 hx fun us s2 iv2 rv => ?_
  obtain ⟨ks, eu, hks, off, B, hat⟩ := kinds_all iv2 rv hq
  have ul : us.length = ks.length := by rw [eu, List.length_map]
  obtain ⟨u, us', rfl⟩ : ∃ u us', us = u :: us' := by
    cases us with
    | nil => exact absurd (List.length_eq_zero_iff.mp rv.length) hne
    | cons a b => exact ⟨a, b, rfl⟩
  refine zip_beginsN (by rw [← rv.length]; exact hz) B fun h' hz' tiH toH hit kpt => pyIter_zipO hz' ?_
  have iv3 : L2.Inv X pins σ H1 { s2 with heap := h' } := iv2.kept (t' := s2.toks) kpt
  have ol : (ks.map SK.obj).length = ks.length := List.length_map _
  rw [ol] at hz' tiH toH ⊢
  generalize eN : s2.heap.objs.size = N at *
  have eJ : ((withAt N ks).map fun p => Value.ref p.2) = refsFrom N ks.length := by
    have : ((withAt N ks).map fun p => Value.ref p.2) = ((withAt N ks).map (·.2)).map Value.ref := by rw [List.map_map]; rfl
    rw [this, withAt_snd]; rfl
  have inC : ∀ c ∈ (N + ks.length + 2) :: (N + ks.length) :: (N + ks.length + 1) :: (withAt N ks).map (·.2), N ≤ c := fun c hc => by
    rw [withAt_snd] at hc
    rcases List.mem_cons.mp hc with q | hc
    · omega
    rcases List.mem_cons.mp hc with q | hc
    · omega
    rcases List.mem_cons.mp hc with q | hc
    · omega
    exact (List.mem_range'_1.mp hc).1
  have C : CellsN (N + ks.length + 2) (N + ks.length) (N + ks.length + 1) (withAt N ks) := by
    refine ⟨?_, fun p hp c hc => ?_⟩
    · rw [withAt_snd]
      refine List.pairwise_cons.mpr ⟨fun c hc => ?_, List.pairwise_cons.mpr ⟨fun c hc => ?_, List.pairwise_cons.mpr ⟨fun c hc => ?_, List.nodup_range'⟩⟩⟩
      · rcases List.mem_cons.mp hc with q | hc
        · rw [q]; show (N + ks.length + 2 : Nat) ≠ N + ks.length; omega
        rcases List.mem_cons.mp hc with q | hc
        · rw [q]; show (N + ks.length + 2 : Nat) ≠ N + ks.length + 1; omega
        have := (List.mem_range'_1.mp hc).2
        exact Nat.ne_of_gt (by omega)
      · rcases List.mem_cons.mp hc with q | hc
        · rw [q]; show (N + ks.length : Nat) ≠ N + ks.length + 1; omega
        have := (List.mem_range'_1.mp hc).2
        exact Nat.ne_of_gt (by omega)
      · have := (List.mem_range'_1.mp hc).2
        exact Nat.ne_of_gt (by omega)
    · obtain ⟨j, ej, _⟩ := withAt_mem hp
      exact off p.1 (List.mem_of_getElem? ej) c (inC c hc)
  have hJ : withAt N ks ≠ [] := fun z => by
    have := congrArg List.length z
    rw [withAt_len, ← ul] at this
    simp at this
  have T := turn_zipN (P := X.prog) (w := X.w) (K := X.K) (tg := tg) C hJ (by rw [withAt_len, ← ul, ← rv.length]; exact hz)
  rw [withAt_fst] at T
  refine ⟨N + ks.length + 2, _, _, _, H1, rfl, iv3, T, ⟨⟨_, _, .inl rfl, hz'⟩, by rw [eJ]; exact tiH, ⟨_, by rw [List.length_map, refs_len, withAt_len], toH⟩, fun p hp => ?_⟩, fun c hc => ?_, q ks hks⟩
  · obtain ⟨j, ej, e2⟩ := withAt_mem hp
    rw [e2]
    exact hat p.1 (List.mem_of_getElem? ej) h' _ (hit j _ (by rw [List.getElem?_map, ej]; rfl))
  · have leb := inC c hc
    rw [← eN] at leb
    exact iv2.fpOk leb (iv2.hok.fresh leb)
/-! ### the denotation -/
def walkAll : List D → Option (List (List D))
  | [] => some []
  | d :: ds => (walkD d).bind fun as => (walkAll ds).bind fun r => some (as :: r)
def rowsD (ass : List (List D)) (n : Nat) : List D := (List.range n).map fun i => .tuple (ass.map fun as => as.getD i .none)
def zipAllD (ds : List D) : Option (List D) := match walkAll ds with
  | some (as :: ass) => if ass.all (fun b => decide (b.length = as.length)) && decide (ds.length ≤ 16777216) then some (rowsD (as :: ass) as.length) else none
  | _ => none
def itZN (f : Env → M D) : Env → M (List D) := fun env => bnd (f env) fun
  | .list ds => orNo (zipAllD ds)
  | .tuple ds => orNo (zipAllD ds)
  | _ => no
theorem walkAll_len : ∀ {ds : List D} {ass : List (List D)}, walkAll ds = some ass → ass.length = ds.length
  | [], _, h => by cases h; rfl
  | d :: ds, ass, h => by
    unfold walkAll at h
    cases h1 : walkD d with
    | none => (rw [h1] at h; cases h)
    | some as =>
      rw [h1] at h
      cases h2 : walkAll ds with
      | none => rw [h2] at h; cases h
      | some r => rw [h2] at h; cases h; rw [List.length_cons, List.length_cons, walkAll_len h2]
theorem zipAll_of {ds rows : List D} (h : zipAllD ds = some rows) : ∃ ass n, walkAll ds = some ass ∧ (∀ as ∈ ass, as.length = n) ∧ ass ≠ [] ∧ ds.length ≤ 16777216 ∧ rows = rowsD ass n := by
  unfold zipAllD at h
  cases hw : walkAll ds with
  | none => rw [hw] at h; cases h
  | some ass =>
    rw [hw] at h
    cases ass with
    | nil => cases h
    | cons as ass =>
      change (if _ then _ else _) = some rows at h
      by_cases c : (ass.all (fun b => decide (b.length = as.length)) && decide (ds.length ≤ 16777216)) = true
      · rw [if_pos c] at h
        cases h
        obtain ⟨c1, c2⟩ := (Bool.and_eq_true _ _).mp c |> fun h => h
        refine ⟨_, as.length, rfl, fun b hb => ?_, by simp, of_decide_eq_true c2, rfl⟩
        rcases (List.mem_cons.mp hb) with rfl | hb
        · rfl
        · exact of_decide_eq_true (List.all_eq_true.mp c1 b hb)
      · rw [if_neg c] at h; cases h
section
variable {K : PySem.W.Frag} {A : AS} {H : Hp}
theorem srcs_all : ∀ {ds : List D} {ws : List V} {ass : List (List D)}, walkAll ds = some ass → Reps K A H ds ws → ∃ qs : List (List V × K3), All2 (fun w q => SrcV K H w q.1 q.2) ws qs ∧ All2 (fun (q : List V × K3) d => q.2 = k3 d) qs ds
  | [], _, _, _, r => by rw [show _ = [] from r]; exact ⟨[], .nil, .nil⟩
  | d :: ds, ws, ass, h, ⟨w, r, e, h1, h2⟩ => by
    subst e
    unfold walkAll at h
    cases hw : walkD d with
    | none => rw [hw] at h; cases h
    | some as =>
      rw [hw] at h
      cases hw2 : walkAll ds with
      | none => rw [hw2] at h; cases h
      | some r2 =>
        obtain ⟨xs, hx⟩ := walk_src hw h1
        obtain ⟨qs, a, b⟩ := srcs_all hw2 h2
        exact ⟨(xs, k3 d) :: qs, .cons hx a, .cons rfl b⟩
/-- the sources, later -/
theorem srcs_later {n : Nat} : ∀ {ds : List D} {ws : List V} {ass : List (List D)} {ks : List SK} {qs : List (List V × K3)}, walkAll ds = some ass → (∀ as ∈ ass, as.length = n) → All2 (fun (k : SK) (p : V × List V × K3) => SkV k p.1 p.2.2) ks (ws.zip qs) → All2 (fun (q : List V × K3) d => q.2 = k3 d) qs ds →
    ws.length = ds.length → (∀ g ∈ ws.zip ds, Rep K A H g.2 g.1) → ∃ xss, SrcN K H n ks xss ∧ All2 (fun xs as => Reps K A H as xs) xss ass
  | [], ws, ass, ks, qs, h, hl, hk, hq, hlen, hg => by
    cases h
    cases hq
    cases ws with
    | nil => cases hk; exact ⟨[], .nil, .nil⟩
    | cons _ _ => simp at hlen
  | d :: ds, ws, ass, ks, qs, h, hl, hk, hq, hlen, hg => by
    unfold walkAll at h
    cases hw : walkD d with
    | none => rw [hw] at h; cases h
    | some as =>
      rw [hw] at h
      cases hw2 : walkAll ds with
      | none => rw [hw2] at h; cases h
      | some r2 =>
        rw [hw2] at h
        cases h
        cases hq with
        | cons eq hq =>
          cases ws with
          | nil => simp at hlen
          | cons w ws =>
            rw [List.zip_cons_cons] at hk
            cases hk with
            | cons k1 hk =>
              obtain ⟨ys, s1, r1⟩ := walk_sk hw (by rw [← eq]; exact k1) (hg (w, d) (by simp))
              obtain ⟨xss, s2, r2⟩ := srcs_later hw2 (fun as h => hl as (by simp [h])) hk hq (by simpa using hlen) (fun g h => hg g (by rw [List.zip_cons_cons]; exact List.mem_cons_of_mem _ h))
              exact ⟨ys :: xss, .cons ⟨s1, by rw [r1.length]; exact hl as (by simp)⟩ s2, .cons r1 r2⟩
theorem getD_of {as : List D} {i : Nat} {d : D} (h : as[i]? = some d) : as.getD i .none = d := by
  rw [List.getD_eq_getElem?_getD, h]; rfl
theorem rows_reps {i : Nat} : ∀ {ass : List (List D)} {xss : List (List V)} {ys : List V}, All2 (fun xs as => Reps K A H as xs) xss ass → All2 (fun (xs : List V) y => xs[i]? = some y) xss ys → Reps K A H (ass.map fun as => as.getD i .none) ys
  | _, _, _, .nil, .nil => rfl
  | _, _, _, .cons r h, .cons e g => by
    obtain ⟨d, hd, rd⟩ := r.get e
    refine ⟨_, _, rfl, ?_, rows_reps h g⟩
    show Rep K A H (List.getD _ i .none) _
    rw [getD_of hd]
    exact rd
end
theorem reps_zip {K : PySem.W.Frag} {A : AS} {H : Hp} : ∀ {ds : List D} {ws : List V}, Reps K A H ds ws → ∀ g ∈ ws.zip ds, Rep K A H g.2 g.1
  | [], ws, h, g, hg => by simp at hg
  | d :: ds, ws, ⟨w, r, e, h1, h2⟩, g, hg => by
    subst e
    rw [List.zip_cons_cons] at hg
    rcases (List.mem_cons.mp hg) with rfl | hg
    · exact h1
    · exact reps_zip h2 g hg
theorem it_zipN {K : PySem.W.Frag} {ds : List D} {ws : List V} {ass : List (List D)} {ks : List SK} {qs : List (List V × K3)} {n : Nat} (h : walkAll ds = some ass) (hl : ∀ as ∈ ass, as.length = n) (hk : All2 (fun (k : SK) (p : V × List V × K3) => SkV k p.1 p.2.2) ks (ws.zip qs))
    (hq : All2 (fun (q : List V × K3) d => q.2 = k3 d) qs ds) (hlen : ws.length = ds.length) : ItOk K (ItN K ks) (ws.zip ds) (rowsD ass n) := fun W A σ H env P k0 goH => by
  obtain ⟨xss, s1, r1⟩ := srcs_later h hl hk hq hlen goH
  have lr : (rowsD ass n).length = n := by simp [rowsD]
  rw [lr]
  refine ⟨⟨xss, s1⟩, fun i hi => ⟨n, xss, s1, hi⟩, fun i x H' hi aty => ?_⟩
  obtain ⟨T, o, ys, rfl, hT, ho, rfl, hy⟩ := aty
  have s := same_upd (o := .frz o (.tup ys)) hT
  refine ⟨s, .tuple (ass.map fun as => as.getD i .none), by simp [rowsD, hi], T, ys, rfl, .inl ⟨o, upd_same, ho, k0.new hT⟩, ?_⟩
  exact k0.reps (HExt.of s) (rows_reps r1 (hy n xss s1))
theorem xi_zipS {Ex : Str → Hp → Prop} {X : Cx} {tg e : Expr} {f : Env → M D} {pos p spos : Pos} (mgE : X.mg "zip" = none) (ha : XE Ex X .v e f) (goH : Gl X "zip" := by rfl) (hst : starEach [.Starred e spos] X.env = [(true, eval e X.env)] := by rfl) :
    XI Ex X tg (.Call (.Name "zip" p) [.Starred e spos] [] pos) (itZN f) := by
  obtain ⟨t, ht, q⟩ := ha
  refine ⟨_, pi_zipS goH mgE ht hst, fun W A σ H env P R k p => ?_⟩
  refine q W A σ H env P _ k ((PostG.bnd k p).mono ?_)
  rintro d _ H1 _ _ ⟨P1, e1, p1, k1, post⟩ v r
  have main : ∀ (ds : List D) (a : Addr) (ws : List V), (SqT X.K H1 a ws ∨ SqL X.K H1 a ws) → Reps X.K A H1 ds ws → PostG Ex W.pa H1 (orNo (zipAllD ds) P1) (fun b H2 => HExt W.pa H H2 → ∀ J gs, (∀ g ∈ gs, Rep X.K A H2 g.2 g.1) → ItOk X.K J gs b → R J H2) →
      ∃ a' ws', V.ref a = .ref a' ∧ (SqT X.K H1 a' ws' ∨ SqL X.K H1 a' ws') ∧ ws' ≠ [] ∧ ws'.length ≤ sizeLine ∧ ∃ qs : List (List V × K3), All2 (fun w q => SrcV X.K H1 w q.1 q.2) ws' qs ∧ ∀ ks, All2 (fun (k : SK) (p : V × List V × K3) => SkV k p.1 p.2.2) ks (ws'.zip qs) → R (ItN X.K ks) H1 := by
    intro ds a ws hs hr post
    obtain ⟨rows, hz, post⟩ := post_orNo post
    obtain ⟨ass, n, hw, hl, hne, hlen, rfl⟩ := zipAll_of hz
    obtain ⟨qs, a1, a2⟩ := srcs_all hw hr
    have wl := hr.length
    refine ⟨a, ws, rfl, hs, fun z => ?_, by rw [wl, sizeLine_eq]; exact hlen, qs, a1, fun ks hk => ?_⟩
    · have := walkAll_len hw
      rw [z] at wl
      exact hne (List.length_eq_zero_iff.mp (by rw [this, ← wl]; rfl))
    · exact post_here (a := rowsD ass n) post p1 e1 _ (ws.zip ds) (reps_zip hr) (it_zipN hw hl hk a2 wl)
  cases d with
  | list ds =>
    obtain ⟨a, ws, rfl, l, hr⟩ := r
    exact main ds a ws (.inr l.sq) hr post
  | tuple ds =>
    obtain ⟨a, ws, rfl, l, hr⟩ := r
    exact main ds a ws (.inl l.sq) hr post
  | _ => exact post.elim
end Vl
end
section
set_option autoImplicit false
set_option maxRecDepth 100000
/-! V35: list(zip(..)). -/
namespace Vl
open PySem L2 PySem.W PySem.Calls PyProof.Rows PySem.SeqAt

theorem Inv_around {X : Cx} {pins : List (Addr × Obj)} {σ : L2.St} {H : Hp} {s : Shared} (iv : L2.Inv X pins σ H s) {A' : Around} (h1 : A'.handled = X.A.handled) (h2 : A'.frames = X.A.frames) : L2.Inv { X with A := A' } pins σ H s :=
  ⟨⟨iv.ok.mod, iv.ok.kind, iv.ok.glob, iv.ok.blt, iv.ok.above, iv.ok.inj, iv.ok.has, iv.ok.cab, fun c => h1.trans (iv.ok.hd c), h2.trans iv.ok.frames, iv.ok.stk, iv.ok.exf, iv.ok.bs, iv.ok.bsz, iv.ok.noex, iv.ok.exfs, iv.ok.funs, iv.ok.frf⟩,
    iv.os, iv.bare, iv.base, iv.loc, iv.cell, iv.free, iv.freeC, iv.pin, iv.hok, iv.len⟩
theorem Inv_unaround {X : Cx} {pins : List (Addr × Obj)} {σ : L2.St} {H : Hp} {s : Shared} {A' : Around} (iv : L2.Inv { X with A := A' } pins σ H s) (h1 : X.A.handled = A'.handled) (h2 : X.A.frames = A'.frames) : L2.Inv X pins σ H s :=
  ⟨⟨iv.ok.mod, iv.ok.kind, iv.ok.glob, iv.ok.blt, iv.ok.above, iv.ok.inj, iv.ok.has, iv.ok.cab, fun c => h1.trans (iv.ok.hd c), h2.trans iv.ok.frames, iv.ok.stk, iv.ok.exf, iv.ok.bs, iv.ok.bsz, iv.ok.noex, iv.ok.exfs, iv.ok.funs, iv.ok.frf⟩,
    iv.os, iv.bare, iv.base, iv.loc, iv.cell, iv.free, iv.freeC, iv.pin, iv.hok, iv.len⟩
abbrev nmT : Expr := .Name "x" ⟨0, 0, 0, 0⟩
/-- an iterator of zip has come, ahead of iter() -/
def ZipMade (X : Cx) (pins : List (Addr × Obj)) (σ : L2.St) (R : It → Hp → Prop) (v : Value) (s : Shared) : Prop :=
  ∃ (it : Addr) (fp : List Addr) (tn : Nat → Heap → Prop) (J : It) (H' : Hp), v = .ref it ∧ s.TypeIs (.ref it) "zip" ∧ L2.Inv X pins σ H' s ∧ Turn X.prog X.w X.K nmT J fp it tn ∧ tn 0 s.heap ∧ (∀ b ∈ fp, FpOk X pins H' b) ∧ R J H'
def iZipA (K : PySem.W.Frag) (ta : L2.TA) : TI := fun σ H R => ta σ H fun ws H1 => ws ≠ [] ∧ ws.length ≤ sizeLine ∧
  ∃ qs : List (List V × K3), All2 (fun w q => SrcV K H1 w q.1 q.2) ws qs ∧ ∀ ks, All2 (fun (k : SK) (p : V × List V × K3) => SkV k p.1 p.2.2) ks (ws.zip qs) → R (ItN K ks) H1
theorem ev_zipN {X : Cx} {e : Expr} {es : List Expr} {ta : L2.TA} {p pos : Pos} (goH : Gl X "zip") (mgE : X.mg "zip" = none) (ha : PA X (e :: es) ta) (hs : starEach (e :: es) X.env = (false, eval e X.env) :: starEach es X.env := by rfl)
    (hpl : (backTo pos (starEach es X.env)).any (·.1) = false := by rfl) {pins : List (Addr × Obj)} {s : Shared} {σ : L2.St} {H : Hp} {R : It → Hp → Prop} (iv : L2.Inv X pins σ H s) (h : iZipA X.K ta σ H R) :
    wpAny (model X.prog X.w) X.A (eval (.Call (.Name "zip" p) (e :: es) [] pos) X.env) (ZipMade X pins σ R) X.xe s := by
  refine Call_ (ld_blt iv goH mgE boot_zip (PyProof.Rows.callWith_type1 (thn (ha.run pos pins s σ H _ iv h) fun us s2 ⟨ws, H1, iv2, rv, hne, hz, qs, hq, q⟩ => ?_) hs hpl))
  obtain ⟨ks, eu, hks, off, B, hat⟩ := kinds_all iv2 rv hq
  have ul : us.length = ks.length := by rw [eu, List.length_map]
  obtain ⟨u, us', rfl⟩ : ∃ u us', us = u :: us' := by
    cases us with
    | nil => exact absurd (List.length_eq_zero_iff.mp rv.length) hne
    | cons a b => exact ⟨a, b, rfl⟩
  refine zip_beginsN (by rw [← rv.length]; exact hz) B fun h' hz' tiH toH hit kpt => ?_
  have iv3 : L2.Inv X pins σ H1 { s2 with heap := h' } := iv2.kept (t' := s2.toks) kpt
  have ol : (ks.map SK.obj).length = ks.length := List.length_map _
  rw [ol] at hz' tiH toH ⊢
  generalize eN : s2.heap.objs.size = N at *
  have eJ : ((withAt N ks).map fun p => Value.ref p.2) = refsFrom N ks.length := by
    have : ((withAt N ks).map fun p => Value.ref p.2) = ((withAt N ks).map (·.2)).map Value.ref := by rw [List.map_map]; rfl
    rw [this, withAt_snd]; rfl
  have inC : ∀ c ∈ (N + ks.length + 2) :: (N + ks.length) :: (N + ks.length + 1) :: (withAt N ks).map (·.2), N ≤ c := fun c hc => by
    rw [withAt_snd] at hc
    rcases List.mem_cons.mp hc with q | hc
    · omega
    rcases List.mem_cons.mp hc with q | hc
    · omega
    rcases List.mem_cons.mp hc with q | hc
    · omega
    exact (List.mem_range'_1.mp hc).1
  have C : CellsN (N + ks.length + 2) (N + ks.length) (N + ks.length + 1) (withAt N ks) := by
    refine ⟨?_, fun p hp c hc => ?_⟩
    · rw [withAt_snd]
      refine List.pairwise_cons.mpr ⟨fun c hc => ?_, List.pairwise_cons.mpr ⟨fun c hc => ?_, List.pairwise_cons.mpr ⟨fun c hc => ?_, List.nodup_range'⟩⟩⟩
      · rcases List.mem_cons.mp hc with q | hc
        · rw [q]; show (N + ks.length + 2 : Nat) ≠ N + ks.length; omega
        rcases List.mem_cons.mp hc with q | hc
        · rw [q]; show (N + ks.length + 2 : Nat) ≠ N + ks.length + 1; omega
        have := (List.mem_range'_1.mp hc).2
        exact Nat.ne_of_gt (by omega)
      · rcases List.mem_cons.mp hc with q | hc
        · rw [q]; show (N + ks.length : Nat) ≠ N + ks.length + 1; omega
        have := (List.mem_range'_1.mp hc).2
        exact Nat.ne_of_gt (by omega)
      · have := (List.mem_range'_1.mp hc).2
        exact Nat.ne_of_gt (by omega)
    · obtain ⟨j, ej, _⟩ := withAt_mem hp
      exact off p.1 (List.mem_of_getElem? ej) c (inC c hc)
  have hJ : withAt N ks ≠ [] := fun z => by
    have := congrArg List.length z
    rw [withAt_len, ← ul] at this
    simp at this
  have T := turn_zipN (P := X.prog) (w := X.w) (K := X.K) (tg := nmT) C hJ (by rw [withAt_len, ← ul, ← rv.length]; exact hz)
  rw [withAt_fst] at T
  refine ⟨N + ks.length + 2, _, _, _, H1, rfl, ⟨_, hz', rfl⟩, iv3, T, ⟨⟨_, _, .inl rfl, hz'⟩, by rw [eJ]; exact tiH, ⟨_, by rw [List.length_map, refs_len, withAt_len], toH⟩, fun p hp => ?_⟩, fun c hc => ?_, q ks hks⟩
  · obtain ⟨j, ej, e2⟩ := withAt_mem hp
    rw [e2]
    exact hat p.1 (List.mem_of_getElem? ej) h' _ (hit j _ (by rw [List.getElem?_map, ej]; rfl))
  · have leb := inC c hc
    rw [← eN] at leb
    exact iv2.fpOk leb (iv2.hok.fresh leb)
namespace F
theorem zip_no_len : typeLookup (.type "zip") "__len__" = pure none := by rw [typeLookup_type, builtinLookup_eq_fast]; kernel_rfl
theorem zip_no_hint : typeLookup (.type "zip") "__length_hint__" = pure none := by rw [typeLookup_type, builtinLookup_eq_fast]; kernel_rfl
end F
/-- what the rest of the drain asks -/
def DrainOk (J : It) (S : Addr) (Q : Hp → Prop) : Nat → Nat → List V → Hp → Prop
  | 0, i, acc, H => J.stop i H ∧ Q H
  | n + 1, i, acc, H => J.go i H ∧ acc.length < sizeLine ∧ ∀ x H', J.yld i H x H' → H' S = some (.lst acc) ∧ DrainOk J S Q n (i + 1) (acc ++ [x]) (upd H' S (.lst (acc ++ [x])))
section
variable {X : Cx} {pins : List (Addr × Obj)} {σ : L2.St} {J : It} {fp : List Addr} {it S : Addr} {tn : Nat → Heap → Prop} {Q : Hp → Prop} {A : Around} {R : Result → Shared → Prop}
theorem drainL (hh : A.handled = X.A.handled) (hf : A.frames = X.A.frames) (clm : X.calm = true) (T : Turn X.prog X.w X.K nmT J fp it tn) (hSf : S ∉ fp)
    (hend : ∀ s' H', L2.Inv X pins σ H' s' → Q H' → R (.ok (.ret .none)) s') :
    ∀ (n i : Nat) (acc : List V) (s : Shared) (H : Hp), L2.Inv X pins σ H s → H S = some (.lst acc) → tn i s.heap → (∀ b ∈ fp, FpOk X pins H b) → DrainOk J S Q n i acc H →
      codeAny (model X.prog X.w) A (.builtin "list.extend.loop" ⟨[.ref S, .ref it, .none], []⟩) R s
  | 0, i, acc, s, H, iv, hS, st, fo, d => by
    refine (codeAny_builtin F.entry_extend_loop ?_)
    rw [(Around.under_plainId F.plain_extend_loop _)]
    show (wpAny _ A.in1 (pyNext (.ref it) >>= _) _ _ s)
    have iv' : L2.Inv { X with A := A.in1 } pins σ H s := Inv_around iv hh hf
    refine wpAny_bind (thn (T.done { X with A := A.in1 } rfl rfl rfl clm i pins s σ H _ iv' (fun b hb => fo b hb) st d.1) fun r s1 ⟨hr, iv1⟩ => ?_)
    subst hr
    exact wpAny_pure (hend s1 H (Inv_unaround iv1 hh.symm hf.symm) d.2)
  | n + 1, i, acc, s, H, iv, hS, st, fo, d => by
    obtain ⟨go, hacc, next⟩ := d
    refine (codeAny_builtin F.entry_extend_loop ?_)
    rw [(Around.under_plainId F.plain_extend_loop _)]
    show (wpAny _ A.in1 (pyNext (.ref it) >>= _) _ _ s)
    have iv' : L2.Inv { X with A := A.in1 } pins σ H s := Inv_around iv hh hf
    refine wpAny_bind (thn (T.item { X with A := A.in1 } rfl rfl rfl clm i pins s σ H _ iv' (fun b hb => fo b hb) st go) fun r s1 ⟨u, hr, h1⟩ => ?_)
    subst hr
    show wpAny _ A.in1 (letOwnedTupleGo nmT (.ref it) u >>= fun _ => updateSeq S (·.push u) >>= _) _ _ _
    refine wpAny_bind (thn h1 fun _ s2 ⟨x, H', iv2', rx, y, st2, nf⟩ => ?_)
    have iv2 : L2.Inv X pins σ H' s2 := Inv_unaround iv2' hh.symm hf.symm
    obtain ⟨hS', d'⟩ := next x H' y
    obtain ⟨hz, its, c, rv, e⟩ := iv2.hok S _ hS'
    refine wpAny_bind ?_
    refine wpAny_updateSeq e rfl (wpAny_pure ⟨plainId_quiet F.plain_extend_loop _, ?_⟩) (by rw [List.size_toArray, ← rv.length]; exact Nat.le_of_lt hacc) (by show (its.toArray.push u).size ≤ sizeLine + 1; rw [Array.size_push, List.size_toArray, ← rv.length]; omega)
    have oth : ∀ b o, b ≠ S → s2.heap.get? b = some o → (s2.heap.update S (Obj.mapSeq (·.push u))).get? b = some o := fun b o hb e => (Heap.get?_update_other _ _ (Ne.symm hb)).trans e
    have eS := Heap.get?_update_self (Obj.mapSeq (·.push u)) e rfl
    have iv3 : L2.Inv X pins σ (upd H' S (.lst (acc ++ [x]))) { s2 with heap := s2.heap.update S (Obj.mapSeq (·.push u)) } :=
      iv2.write (t' := s2.toks) (x := S) (e := S) (by rw [hS']; trivial) (.inl rfl) oth ⟨_, eS⟩ ⟨by rw [List.length_append]; exact hacc, its ++ [u], _, rv.append (.cons rx .nil), by rw [show (its ++ [u]).toArray = its.toArray.push u by simp]; exact eS⟩
    refine drainL hh hf clm T hSf hend n (i + 1) (acc ++ [x]) _ _ iv3 upd_same (T.keep _ _ _ st2 fun b hb o e => oth b o (fun z => hSf (by rw [← z]; exact hb)) e) (fun b hb => ?_) d'
    obtain ⟨_, f⟩ := fo b hb
    refine ⟨?_, f⟩
    rw [upd_ne (show b ≠ S from fun z => hSf (by rw [← z]; exact hb))]
    exact nf b hb
end
section
variable {X : Cx} {pins : List (Addr × Obj)} {σ : L2.St}
theorem call_list_zip (clm : X.calm = true) {Q : VK} {lv : Value} {s : Shared} (m : ZipMade X pins σ (fun J H1 => ∀ S, H1 S = none → ∃ n, DrainOk J S (fun H => Q (.ref S) H) n 0 [] (upd H1 S (.lst []))) lv s) :
    wpAny (model X.prog X.w) X.A (call (.type "list") [lv]) (EP X pins σ Q) X.xe s := by
  obtain ⟨it, fp, tn, J, H1, rfl, ty, iv, T, st, fo, q⟩ := m
  have ilt : it < s.heap.objs.size := by obtain ⟨o, e, _⟩ := ty; exact Heap.lt_size e
  have hSa : s.heap.objs.size ≠ it := Nat.ne_of_gt ilt
  have newS : H1 s.heap.objs.size = none := iv.hok.fresh (Nat.le_refl _)
  obtain ⟨n, dr⟩ := q _ newS
  refine callType_codes (Q₁ := fun ob sA => ob = .ref s.heap.objs.size ∧ sA = { s with heap := s.heap.push { cls := .type "list", data := .seq #[] } }) PySem.F.called_list (PySem.F.typeCall_list_1 _) PySem.F.entry_list_init
    (code_list_new _ ⟨rfl, rfl⟩) fun ob sA hA => ?_
  obtain ⟨rfl, rfl⟩ := hA
  have hS : ((s.heap.push { cls := .type "list", data := .seq #[] }).get? s.heap.objs.size = some { cls := .type "list", data := .seq #[] }) := Heap.get?_push_size _ rfl
  refine (⟨⟨_, hS, rfl⟩, PySem.F.args_list_init_2 _ _, ?_⟩)
  show wpAny _ X.A.in1.in1 (do let old ← Builtin.List.listItems (.ref s.heap.objs.size); Builtin.List.listUpdate (.ref s.heap.objs.size) (fun _ => #[]); letGo old.toList.reverse; Builtin.List.listExtendWith (.ref s.heap.objs.size) (.ref it) .none) _ _ _
  refine wpAny_bind ?_
  unfold Builtin.List.listItems
  refine (wpAny_bind (wpAny_seqItems hS rfl (wpAny_pure ?_)))
  show wpAny _ X.A.in1.in1 (updateSeq s.heap.objs.size (fun _ => #[]) >>= fun _ => letGo (#[] : Array Value).toList.reverse >>= fun _ => Builtin.List.listExtendWith (.ref s.heap.objs.size) (.ref it) .none) _ _ _
  refine (wpAny_bind (wpAny_updateSeq hS rfl ?_))
  have lS2 := Heap.get?_update_self (Obj.mapSeq (fun _ => (#[] : Array Value))) hS rfl
  refine (wpAny_bind (wpAny_letGo ?_))
  (unfold Builtin.List.listExtendWith)
  have up : ∀ (h : Heap) (f : Obj → Obj), (∀ b o, s.heap.get? b = some o → h.get? b = some o) → ∀ b o, s.heap.get? b = some o → (h.update s.heap.objs.size f).get? b = some o := fun h f q c ob e =>
    (Heap.get?_update_other _ _ (Ne.symm (Nat.ne_of_lt (Heap.lt_size e)))).trans (q c ob e)
  have k1 : (∀ b o, s.heap.get? b = some o → (s.heap.push { cls := .type "list", data := .seq #[] }).get? b = some o) := fun b o e => Heap.get?_push_of_some _ e
  have kp2 := up _ (Obj.mapSeq (fun _ => (#[] : Array Value))) k1
  have gty : ∀ {h : Heap}, (∀ b o, s.heap.get? b = some o → h.get? b = some o) → Shared.TypeIs { s with heap := h } (.ref it) "zip" := fun {h} q => by obtain ⟨o, e, c⟩ := ty; exact ⟨o, q _ _ e, c⟩
  refine wpAny_bind (wpAny_typeOf (gty kp2) ?_)
  have h1 : Builtin.List.listSameRef (.ref s.heap.objs.size) (.ref it) = false := by simp [Builtin.List.listSameRef, hSa]
  have h2 : (Value.type "zip" == Value.type "list") = false := by decide
  have h3 : (Value.type "zip" == Value.type "tuple") = false := by decide
  simp only [h2, h3, Bool.or_false, Bool.false_eq_true, if_false, h1]
  refine wpAny_bind (T.self _ 0 _ _ _ (T.keep 0 _ _ st fun b _ o e => kp2 b o e) ?_)
  refine (wpAny_bind (wpAny_holding ?_))
  (unfold Builtin.List.listLengthHint)
  refine wpAny_bind (wpAny_specialOf (gty kp2) F.zip_no_len ?_)
  show wpAny _ X.A.in1.in1 (specialOf (Value.ref it) (Str.ofString "__length_hint__") >>= _) _ _ _
  refine wpAny_bind (wpAny_specialOf (gty kp2) F.zip_no_hint ?_)
  refine wpAny_pure ?_
  show wpAny _ X.A.in1.in1 (rule "list.extend.makes-room" >>= fun _ => Builtin.List.listTouch (.ref s.heap.objs.size) >>= fun _ =>
    again (.builtin "list.extend.loop" ⟨[.ref s.heap.objs.size, .ref it, .none], []⟩)) _ _ _
  refine (wpAny_bind (wpAny_rule ?_))
  refine wpAny_bind ?_
  show wpAny _ X.A.in1.in1 (updateSeq s.heap.objs.size (·.push .none) >>= fun _ => updateSeq s.heap.objs.size (·.pop)) _ _ _
  refine wpAny_bind (wpAny_updateSeq lS2 rfl ?_)
  have lS3 := Heap.get?_update_self (Obj.mapSeq (·.push Value.none)) lS2 rfl
  refine wpAny_updateSeq (hz := by seq_fits) lS3 rfl ?_
  have lS4 := Heap.get?_update_self (Obj.mapSeq (·.pop)) lS3 rfl
  have kp4 := up _ (Obj.mapSeq (·.pop)) (up _ (Obj.mapSeq (·.push Value.none)) kp2)
  refine wpAny_pure ⟨plainId_quiet PySem.F.plain_extend_loop _, ?_⟩
  have iv4 := iv.laid (t' := s.toks) (a := s.heap.objs.size) (o := .lst []) kp4 (Nat.le_refl _) ⟨by decide, [], _, .nil, lS4⟩
  refine drainL (A := X.A.in1) rfl rfl clm T (fun z => hSa ?_) (fun s' H' iv' q' => ⟨rfl, .ref s.heap.objs.size, H', iv', rfl, q'⟩) n 0 [] _ _ iv4 upd_same (T.keep 0 _ _ st fun b _ o e => kp4 b o e) (fun b hb => ?_) dr
  · obtain ⟨o, e, _⟩ := T.obj _ _ st _ z
    exact absurd (Heap.lt_size e) (Nat.lt_irrefl _)
  · obtain ⟨f0, f⟩ := fo b hb
    refine ⟨?_, f⟩
    obtain ⟨o, e, _⟩ := T.obj _ _ st _ hb
    rw [upd_ne (Nat.ne_of_lt (Heap.lt_size e))]
    exact f0
def tListZ (K : PySem.W.Frag) (ta : L2.TA) : TE := fun σ H Q => iZipA K ta σ H fun J H1 => ∀ S, H1 S = none → ∃ n, DrainOk J S (fun H => Q (.ref S) H) n 0 [] (upd H1 S (.lst []))
theorem pe_listZip {e : Expr} {es : List Expr} {ta : L2.TA} {p p2 cpos pos : Pos} (clm : X.calm = true) (goL : Gl X "list") (mgL : X.mg "list" = none) (goZ : Gl X "zip") (mgZ : X.mg "zip" = none) (ha : PA X (e :: es) ta)
    (hs : starEach (e :: es) X.env = (false, eval e X.env) :: starEach es X.env := by rfl) (hpl : (backTo cpos (starEach es X.env)).any (·.1) = false := by rfl)
    (he : starEach [.Call (.Name "zip" p2) (e :: es) [] cpos] X.env = (false, eval (.Call (.Name "zip" p2) (e :: es) [] cpos) X.env) :: starEach [] X.env := by rfl) :
    PE X (.Call (.Name "list" p) [.Call (.Name "zip" p2) (e :: es) [] cpos] [] pos) (tListZ X.K ta) := by
  refine (⟨fun pins s σ H Q I hq => ?_⟩)
  refine wpAny_Call_Name_kw (ld_blt I goL mgL (by rfl) ?_)
  refine (PyProof.Rows.callWith_type1 ?_ he rfl)
  rw [he]
  show wpAny _ _ (spliced ((false, eval (.Call (.Name "zip" p2) (e :: es) [] cpos) X.env) :: backTo pos (starEach [] X.env))) _ _ s
  refine Calls.spliced_cons (thn (ev_zipN goZ mgZ ha hs hpl I hq) fun u s1 hm => ?_)
  exact Calls.spliced_nil (call_list_zip clm hm)
end
/-! ### the denotation -/
def dListZ (g : Env → M (List D)) : Env → M D := fun env => bnd (g env) fun ds => bnd (orNo (zipAllD ds)) fun rows => if rows.length ≤ 16777216 then ret (.list rows) else no
section
variable {Ex : Str → Hp → Prop} {X : Cx} {e : Expr} {es : List Expr} {g : Env → M (List D)} {p p2 cpos pos : Pos}
theorem drain_sd {K : PySem.W.Frag} {W : Wd} {A : AS} {σ : L2.St} {env : Env} {H1 : Hp} {P1 : Pen} {rows : List D} {J : It} {gs : List (V × D)} {S : Addr} {Q : Hp → Prop} (hlen : rows.length ≤ 16777216) (k : EOk K W A σ H1 env P1) (hg : ∀ g ∈ gs, Rep K A H1 g.2 g.1) (ok : ItOk K J gs rows) (hS : H1 S = none)
    (hQ : ∀ H2 accv, HExt W.pa H1 H2 → PenOk W.pa H2 P1 → H2 S = some (.lst accv) → Reps K (ad A S) H2 rows accv → Q H2) :
    ∃ n, DrainOk J S Q n 0 [] (upd H1 S (.lst [])) := by
  have k0 := (k.keepsL gs hg).avoid (o := .lst []) hS
  obtain ⟨h00, hnp⟩ := k.none0 hS
  have hown : ∀ (i : Nat) (es : List D), env[i]? = some (SV.own es) → σ[i]? ≠ some (some (V.ref S)) := fun i es h1 h2 => by
    obtain ⟨o, e1, b, us, e2, hb, _, hl, _⟩ := k.at h1
    rw [e1] at h2; cases h2; cases e2
    rw [hS] at hl; cases hl
  have main : ∀ (n i : Nat) (acc : List V) (H : Hp), n = rows.length - i → i ≤ rows.length → EOk K { W with G := gs ++ W.G } (ad A S) σ H env P1 → HExt W.pa H1 H → H S = some (.lst acc) → Reps K (ad A S) H (rows.take i) acc → DrainOk J S Q n i acc H := by
    intro n
    induction n with
    | zero =>
      intro i acc H hn hi k2 eH hH hr
      have ei : i = rows.length := by omega
      subst ei
      obtain ⟨ku, hr2⟩ := k2.unkeepL
      obtain ⟨st, go, yl⟩ := ok W (ad A S) _ H _ P1 ku hr2
      rw [List.take_length] at hr
      exact ⟨st, hQ H acc eH k2.pen hH hr⟩
    | succ n ih =>
      intro i acc H hn hi k2 eH hH hr
      obtain ⟨ku, hr2⟩ := k2.unkeepL
      obtain ⟨st, go, yl⟩ := ok W (ad A S) _ H _ P1 ku hr2
      have hlt : i < rows.length := by omega
      have al : acc.length = i := by rw [hr.length, List.length_take]; omega
      refine ⟨go i hlt, by rw [al, sizeLine_eq]; omega, fun x H' y => ?_⟩
      obtain ⟨sm, d, hd, rd⟩ := yl i x H' hlt y
      have hH' : H' S = some (.lst acc) := sm _ _ hH
      have k3 := k2.stayS sm
      have hr' := k2.repsN sm hr
      obtain ⟨kp, stp⟩ := k3.poke (a := S) (o := .lst (acc ++ [x])) (.inr rfl) (by rw [hH']; trivial) h00 hnp nt_lst hown (.inl ⟨_, hH'⟩)
      refine ⟨hH', ih (i + 1) _ _ (by omega) hlt kp (fun b u hb nb nt => ?_) upd_same ?_⟩
      · have hbD : b ≠ S := fun z => by subst z; rw [hS] at hb; cases hb
        rw [upd_ne hbD]
        exact sm _ _ (eH b u hb nb nt)
      · have et : rows.take (i + 1) = rows.take i ++ [d] := by rw [List.take_add_one, hd]; rfl
        rw [et]
        exact Reps.mono stp _ _ (hr'.append (Reps.one rd))
  exact ⟨rows.length, main _ 0 [] _ (by omega) (Nat.zero_le _) k0 (HExt.of (same_upd (o := .lst []) hS)) upd_same rfl⟩
theorem x_listZ (clm : X.calm = true) (mgL : X.mg "list" = none) (mgZ : X.mg "zip" = none) (ha : XA Ex X (e :: es) g) (goL : Gl X "list" := by rfl) (goZ : Gl X "zip" := by rfl)
    (hs : starEach (e :: es) X.env = (false, eval e X.env) :: starEach es X.env := by rfl) (hpl : (backTo cpos (starEach es X.env)).any (·.1) = false := by rfl)
    (he : starEach [.Call (.Name "zip" p2) (e :: es) [] cpos] X.env = (false, eval (.Call (.Name "zip" p2) (e :: es) [] cpos) X.env) :: starEach [] X.env := by rfl) :
    XE Ex X .f (.Call (.Name "list" p) [.Call (.Name "zip" p2) (e :: es) [] cpos] [] pos) (dListZ g) := by
  obtain ⟨t, ht, q⟩ := ha
  refine ⟨_, pe_listZip clm goL mgL goZ mgZ ht hs hpl he, fun W A σ H env P Q k p => ?_⟩
  refine q W A σ H env P _ k ((PostG.bnd k p).mono ?_)
  rintro ds _ H1 _ _ ⟨P1, e1, p1, k1, post⟩ ws hr
  cases hz : zipAllD ds with
  | none => simp only [hz] at post; exact post.elim
  | some rows =>
  simp only [hz] at post
  obtain ⟨ass, n, hw, hl, hne, hlen, rfl⟩ := zipAll_of hz
  obtain ⟨qs, a1, a2⟩ := srcs_all hw hr
  have wl := hr.length
  refine ⟨fun z => ?_, by rw [wl, sizeLine_eq]; exact hlen, qs, a1, fun ks hk S hS => ?_⟩
  · have := walkAll_len hw
    rw [z] at wl
    exact hne (List.length_eq_zero_iff.mp (by rw [this, ← wl]; rfl))
  · change PostG Ex W.pa H1 ((if (rowsD ass n).length ≤ 16777216 then ret (PyData.list (rowsD ass n)) else no) P1) _ at post
    by_cases hn : (rowsD ass n).length ≤ 16777216
    · rw [if_pos hn] at post
      refine drain_sd hn k1 (reps_zip hr) (it_zipN hw hl hk a2 wl) hS fun H2 accv e2 p2 h2 r2 => ?_
      exact post H2 e2 p2 (e1.trans e2) (.ref S) ⟨S, accv, _, rfl, rfl, fresh_back k.pen e1 p1 (.of hS), h2, r2⟩
    · rw [if_neg hn] at post; exact post.elim
end
end Vl
end
section
set_option autoImplicit false
set_option maxRecDepth 100000
/-! V36: names that hold a def; for over defs. -/
namespace Vl
open PySem L2

def isOwn : SV → Bool
  | .own _ => true
  | .ownD _ => true
  | _ => false
def loopF (i : Nat) (body : Env → M Fl) : List Str → Env → M Fl
  | [], env => ret (.nx env)
  | x :: r, env => bnd (body (env.set i (.fn x))) fun
      | .nx e => loopF i body r e
      | .ct e => loopF i body r e
      | .bk e => ret (.nx e)
      | .rt d => ret (.rt d)
def sForF (i : Nat) (xs : List Str) (body : Env → M Fl) : Env → M Fl := fun env => if env.any isOwn then no else loopF i body xs env
section
variable {K : PySem.W.Frag} {W : Wd} {A : AS} {σ : L2.St} {H H1 H' : Hp} {env : Env} {P P1 P' : Pen}
theorem EOk.setFn (k : EOk K W A σ H env P) (i : Nat) (x : Str) : EOk K W A (σ.set i (some (.ref (He.ga K x)))) H (env.set i (.fn x)) P := by
  refine ⟨by rw [List.length_set, List.length_set, k.len], fun j o' s h1 h2 => ?_, fun j l ds es a hn h1 h2 h3 => ?_, fun j ds a h1 h2 => ?_, k.sub, k.a0, k.trk, k.penA, k.pen, k.base, k.keep, k.dk.set1 _ _ _ (by intro _ z; cases z)⟩
  · rcases set_at h2 with ⟨rfl, hl, rfl⟩ | ⟨e, h2⟩
    · rcases set_at h1 with ⟨_, _, rfl⟩ | ⟨e, _⟩
      · exact rfl
      · exact absurd rfl e
    · rw [List.getElem?_set_ne e] at h1
      exact k.slot j o' s h1 h2
  · rcases set_at h1 with ⟨_, _, e⟩ | ⟨ej, h1⟩
    · cases e
    rcases set_at h2 with ⟨_, _, e⟩ | ⟨el, h2⟩
    · cases e
    rw [List.getElem?_set_ne ej] at h3
    rw [List.getElem?_set_ne el]
    exact k.inj j l ds es a hn h1 h2 h3
  · rcases set_at h1 with ⟨_, _, e⟩ | ⟨ej, h1⟩
    · cases e
    rw [List.getElem?_set_ne ej] at h2
    exact k.fresh j ds a h1 h2
/-- the heap that is looked back to is the present one -/
theorem EOk.rebase (k : EOk K W A σ H env P) (no : env.any isOwn = false) : EOk K { W with H0 := H } A σ H env P :=
  ⟨k.len, k.slot, k.inj, fun i ds a h => by
    have := List.any_eq_false.mp no _ (List.mem_of_getElem? h)
    exact absurd rfl this, k.sub, fun a h => k.trk a (k.sub a h), k.trk, k.penA, k.pen, HExt.refl _ _, k.keep, .none fun i ds h => by
    have := List.any_eq_false.mp no _ (List.mem_of_getElem? h)
    exact absurd rfl this⟩
theorem new_back (e : HExt W.pa H H') (p : PenOk W.pa H' P') {a : Addr} (n : New H' a) : New H a := fun o q t => by
  by_cases hp : Pn W.pa a
  · obtain ⟨c, z⟩ := hp
    exact n _ (p.1 _ _ z).2.1 nt_lst
  · exact n o (e a o q hp t) t
theorem EOk.unbase (e : HExt W.pa W.H0 H1) (p1 : PenOk W.pa H1 P1) (a0 : ∀ a, W.A0 a → ∃ o, W.H0 a = some o ∧ Nt o) (k : EOk K { W with H0 := H1 } A σ H env P) : EOk K W A σ H env P :=
  ⟨k.len, k.slot, k.inj, fun i ds a h1 h2 => new_back e p1 (k.fresh i ds a h1 h2), k.sub, a0, k.trk, k.penA, k.pen, e.trans k.base, k.keep, ⟨k.dk.inj, fun i ds a h1 h2 => new_back e p1 (k.dk.fresh i ds a h1 h2)⟩⟩
theorem PostS.rebase {Ex : Str → Hp → Prop} {kd : Kd} {r : R Fl} {De : Ends} (e : HExt W.pa W.H0 H1) (p1 : PenOk W.pa H1 P1) (a0 : ∀ a, W.A0 a → ∃ o, W.H0 a = some o ∧ Nt o) (h : PostS K Ex kd W r De) : PostS K Ex kd { W with H0 := H1 } r De := by
  cases r with
  | ok o P' =>
    cases o with
    | nx env' => exact fun A σ H k => h A σ H (k.unbase e p1 a0)
    | bk env' => exact fun A σ H k => h A σ H (k.unbase e p1 a0)
    | ct env' => exact fun A σ H k => h A σ H (k.unbase e p1 a0)
    | rt d =>
      refine fun v H' e' p' r => h v H' (e.trans e') p' ?_
      cases kd with
      | v => exact r
      | b => exact r
      | f =>
        obtain ⟨a, vs, ds, q1, q2, n, q⟩ := r
        exact ⟨a, vs, ds, q1, q2, new_back e p1 n, q⟩
  | ex c P' => exact fun H' e' p' => h H' (e.trans e') p'
  | no => exact h
end
section
variable {Ex : Str → Hp → Prop} {kd : Kd} {X : Cx} {pos p1 p2 p3 tpos : Pos} {x1 x2 t : Str} {f1 f2 : Addr} {body : List Stmt} {f : Env → M Fl}
theorem xs_forF2 (i : Nat) (hp : PassesOwn (model X.prog X.w) X.A X.env X.xe) (hc : X.calm = true) (hN : X.N.Nodup) (m1 : X.mg x1 = some (.ref f1)) (m2 : X.mg x2 = some (.ref f2)) (e1 : f1 = He.ga X.K x1) (e2 : f2 = He.ga X.K x2)
    (hb : XSs Ex kd X body f) (hi : X.N[i]? = some t := by rfl) (hx : Loc X.env.scope t := by first | exact Or.inl rfl | exact Or.inr rfl) (hf : X.fn t = true ∨ X.env.scope.names.lookup t = some .local := by first | exact .inl rfl | exact .inr rfl | assumption)
    (g1 : Gl X x1 := by rfl) (g2 : Gl X x2 := by rfl) (d1 : (x1 == ("__debug__" : Str)) = false := by decide) (d2 : (x2 == ("__debug__" : Str)) = false := by decide)
    (hs1 : starEach [.Name x1 p1, .Name x2 p2] X.env = (false, eval (.Name x1 p1) X.env) :: starEach [.Name x2 p2] X.env := by rfl) (hs2 : starEach [.Name x2 p2] X.env = (false, eval (.Name x2 p2) X.env) :: starEach [] X.env := by rfl)
    (hs : ∀ x, foldedSetIterable (.List [.Name x1 p1, .Name x2 p2] p3) X.env x = pure x := by intro _; rfl) :
    XS Ex kd X (.For (.Name t tpos) (.List [.Name x1 p1, .Name x2 p2] p3) body [] pos) (sForF i [x1, x2] f) := by
  subst e1 e2
  obtain ⟨tb, ht, qb⟩ := hb
  refine ⟨_, ps_for hp hc (pi_any (pe_lst (pa_cons (pe_glob (v := .ref (He.ga X.K x1)) g1 m1 rfl d1) (pa_cons (pe_glob (v := .ref (He.ga X.K x2)) g2 m2 rfl d2) pa_nil hs2) hs1))) (pg_name hN hi hx hf) ht hs, fun W A σ H env P De k p => ?_⟩
  unfold sForF at p
  by_cases ho : env.any isOwn = true
  · rw [if_pos ho] at p; exact p.elim
  rw [if_neg ho] at p
  have no : env.any isOwn = false := by simpa using ho
  show [V.ref (He.ga X.K x1), V.ref (He.ga X.K x2)].length ≤ sizeLine ∧ _
  refine ⟨(show (2 : Nat) ≤ sizeLine by decide), fun a ha => .inl ⟨a, rfl, ⟨_, .inl (.inl upd_same)⟩, ?_⟩⟩
  have s := same_upd (o := .lst [V.ref (He.ga X.K x1), V.ref (He.ga X.K x2)]) ha
  have k1 := k.stayS s
  have k2 := k1.rebase no
  have hna : ¬ A a := k.new ha
  have e0 : HExt W.pa W.H0 (upd H a (.lst [V.ref (He.ga X.K x1), V.ref (He.ga X.K x2)])) := k.base.trans (HExt.of s)
  have npn : ¬ Pn W.pa a := fun ⟨c, z⟩ => hna (k.penA _ _ z).1
  generalize hH2 : upd H a (.lst [V.ref (He.ga X.K x1), V.ref (He.ga X.K x2)]) = H2 at *
  have hla : H2 a = some (.lst [V.ref (He.ga X.K x1), V.ref (He.ga X.K x2)]) := by rw [← hH2]; exact upd_same
  have post0 := PostS.rebase e0 k1.pen k.a0 p
  refine for_list (K := X.K) (a := a) (xs := [V.ref (He.ga X.K x1), V.ref (He.ga X.K x2)]) (tb := tb) (D := De) (σ := σ) (H := H2)
    (fun j σ H => ∃ A env P, EOk X.K { W with H0 := H2 } A σ H env P ∧ PostS X.K Ex kd { W with H0 := H2 } (loopF i f ([x1, x2].drop j) env P) De) ⟨A, env, P, k2, post0⟩
    (fun j σ H _ ⟨A, env, P, kj, _⟩ => .inl (.inl (kj.base.at hla npn)))
    (fun j x σ H hx hP => ?_) (fun σ H ⟨A, env, P, kj, pj⟩ => pj A σ H kj)
  · obtain ⟨A, env, P, kj, pj⟩ := hP
    have key : ∃ (y : Str) (r : List Str), [x1, x2].drop j = y :: r ∧ [x1, x2].drop (j + 1) = r ∧ x = .ref (He.ga X.K y) := by
      match j, hx with
      | 0, hx => exact ⟨x1, [x2], rfl, rfl, by simpa using hx.symm⟩
      | 1, hx => exact ⟨x2, [], rfl, rfl, by simpa using hx.symm⟩
      | j + 2, hx => simp at hx
    obtain ⟨y, r, ed, ed2, rfl⟩ := key
    rw [ed] at pj
    unfold loopF at pj
    have k3 := kj.setFn i y
    refine qb { W with H0 := H2 } A (σ.set i (some (.ref (He.ga X.K y)))) H (env.set i (.fn y)) P _ k3 ?_
    change PostS X.K Ex kd _ (bnd (f _) _ P) De at pj
    unfold bnd at pj
    cases hf : f (env.set i (.fn y)) P with
    | ok o P' =>
      rw [hf] at pj
      cases o with
      | nx e => exact fun A' σ' H' k' => ⟨A', e, P', k', by rw [ed2]; exact pj⟩
      | ct e => exact fun A' σ' H' k' => ⟨A', e, P', k', by rw [ed2]; exact pj⟩
      | bk e => exact fun A' σ' H' k' => pj A' σ' H' k'
      | rt d => exact pj
    | ex c P' => rw [hf] at pj; exact pj
    | no => rw [hf] at pj; exact pj
end
/-! ### the call -/
def dCallF (i n : Nat) (tb : List (Str × (List SV → M D))) (g : Env → M (List D)) : Env → M D := fun env => match env[i]? with
  | some (.fn x) => (match tb.lookup x with
    | some den => dCall n den g env
    | none => no)
  | _ => no
section
variable {gd : Bool} {X : Cx} {k i : Nat} {f : Addr} {fd : FuncData} {ps : List Str} {sp : Sp} {E : XK} {x : Str} {p pos : Pos} {e : Expr} {es : List Expr} {t : L2.TA} {ec : EC}
theorem pe_callGL (F : FnG X.prog X.w X.K X.mg X.base gd k f fd ps sp) (hr : Room k X.A) (hgd : gd = true → X.A.guards = some []) (hN : X.N[i]? = some x) (hv : Vis X.env.scope x) (hk : PySem.W.keepIn X.K (.ref f) = true) (hb : Binds X.K fd ps []) (hx : Passes (L2.CX X.prog X.w) X E)
    (ha : PA X (e :: es) t) (hdb : (x == ("__debug__" : Str)) = false := by decide) (hcd : (x == ("__classdict__" : Str)) = false := by decide) (he : starEach (e :: es) X.env = (false, eval e X.env) :: starEach es X.env := by rfl) (hpl : (backTo pos (starEach es X.env)).any (·.1) = false := by rfl) :
    PE X (.Call (.Name x p) (e :: es) [] pos) (fun σ H Q => σ[i]? = some (some (.ref f)) ∧ t σ H fun vs H1 => sp vs H1 Q E) := by
  refine (⟨fun pins s σ H Q I h => ?_⟩)
  obtain ⟨hs, ht⟩ := h
  refine (wpAny_Call_Name_kw (thn ((pe_var (pos := p) hN hv hdb hcd).run pins s σ H (fun v H1 => v = .ref f ∧ H1 = H) I ⟨.ref f, hs, rfl, rfl⟩) fun u s1 ⟨v, H1, I1, r1, q1⟩ => ?_))
  obtain ⟨rfl, rfl⟩ := q1
  cases r1
  exact PySem.W.callWith_K (h₀ := X.base) I.ok.mod.kin hk (thn (ha.run pos pins s1 σ _ _ I1 ht) fun us s2 ⟨vs, H2, I2, r, q⟩ => ⟨I2.kIn, run_fnG F hr hgd hb hx I2 r q⟩) he hpl
end
section
variable {gd1 gd2 : Bool} {Ex : Str → Hp → Prop} {X : Cx} {k1 k2 : Nat} {f1 f2 : Addr} {fd1 fd2 : FuncData} {ps1 ps2 : List Str} {kd : Kd} {x x1 x2 : Str} {p pos : Pos} {e : Expr} {es : List Expr} {ec : EC} {den1 den2 : List SV → M D} {g : Env → M (List D)} {n : Nat}
theorem x_callF2 (i : Nat) (F1 : FnG X.prog X.w X.K X.mg X.base gd1 k1 f1 fd1 ps1 (spG X.K ec kd n den1)) (hr1 : Room k1 X.A) (hg1 : gd1 = true → X.A.guards = some []) (kp1 : PySem.W.keepIn X.K (.ref f1) = true) (hb1 : Binds X.K fd1 ps1 []) (e1 : f1 = He.ga X.K x1)
    (F2 : FnG X.prog X.w X.K X.mg X.base gd2 k2 f2 fd2 ps2 (spG X.K ec kd n den2)) (hr2 : Room k2 X.A) (hg2 : gd2 = true → X.A.guards = some []) (kp2 : PySem.W.keepIn X.K (.ref f2) = true) (hb2 : Binds X.K fd2 ps2 []) (e2 : f2 = He.ga X.K x2)
    (hx : Passes (L2.CX X.prog X.w) X (xk ec Ex)) (ha : XA Ex X (e :: es) g) (hkd : kd ≠ .b := by decide) (hN : X.N[i]? = some x := by rfl) (hv : Vis X.env.scope x := by first | exact Or.inl rfl | exact Or.inr (Or.inl rfl) | exact Or.inr (Or.inr rfl))
    (hdb : ((x == ("__debug__" : Str))) = false := by decide) (hcd : (x == ("__classdict__" : Str)) = false := by decide) (he : starEach (e :: es) X.env = (false, eval e X.env) :: starEach es X.env := by rfl) (hpl : (backTo pos (starEach es X.env)).any (·.1) = false := by rfl) :
    XE Ex X kd (.Call (.Name x p) (e :: es) [] pos) (dCallF i n [(x1, den1), (x2, den2)] g) := by
  subst e1 e2
  obtain ⟨t, ht, q⟩ := ha
  refine ⟨fun σ H Q => (σ[i]? = some (some (.ref (He.ga X.K x1))) ∧ t σ H fun vs H1 => spG X.K ec kd n den1 vs H1 Q (xk ec Ex)) ∨ (σ[i]? = some (some (.ref (He.ga X.K x2))) ∧ t σ H fun vs H1 => spG X.K ec kd n den2 vs H1 Q (xk ec Ex)), ⟨fun pins s σ H Q I h => ?_⟩, fun W A σ H env P Q k p => ?_⟩
  · rcases h with h | h
    · exact (pe_callGL F1 hr1 hg1 hN hv kp1 hb1 hx ht hdb hcd he hpl).run pins s σ H Q I h
    · exact (pe_callGL F2 hr2 hg2 hN hv kp2 hb2 hx ht hdb hcd he hpl).run pins s σ H Q I h
  unfold dCallF at p
  cases h : env[i]? with
  | none => rw [h] at p; exact p.elim
  | some sv =>
    rw [h] at p
    cases sv with
    | fn y =>
      obtain ⟨o, eo, hs⟩ := k.at h
      cases (show o = some (.ref (He.ga X.K y)) from hs)
      have go : ∀ den, PostG Ex W.pa H (dCall n den g env P) (fun d H' => ∀ v, rel X.K W.pa A H H' d v kd → Q v H') → t σ H fun vs H1 => spG X.K ec kd n den vs H1 Q (xk ec Ex) := fun den p => by
        refine q W A σ H env P _ k ((PostG.bnd k p).mono ?_)
        rintro ds _ H1 _ _ ⟨P1, e1, p1, k1, post⟩ vs rs
        exact call_sp k1 hkd rs (post.mono fun d P' H' e2 _ z v r => z (e1.trans e2) v (rel_back k.pen e1 p1 r))
      change PostG Ex W.pa H ((match ([(x1, den1), (x2, den2)] : List (Str × (List SV → M D))).lookup y with
        | some den => dCall n den g env
        | none => no) P) _ at p
      by_cases h1 : y = x1
      · subst h1
        rw [show ([(y, den1), (x2, den2)] : List (Str × (List SV → M D))).lookup y = some den1 by simp [List.lookup]] at p
        exact .inl ⟨eo, go den1 p⟩
      · have b1 : (y == x1) = false := by simpa using h1
        by_cases h2 : y = x2
        · subst h2
          rw [show ([(x1, den1), (y, den2)] : List (Str × (List SV → M D))).lookup y = some den2 by simp [List.lookup, b1]] at p
          exact .inr ⟨eo, go den2 p⟩
        · have b2 : (y == x2) = false := by simpa using h2
          rw [show ([(x1, den1), (x2, den2)] : List (Str × (List SV → M D))).lookup y = none by simp [List.lookup, b1, b2]] at p
          exact p.elim
    | _ => exact p.elim
end
end Vl
end
section
set_option autoImplicit false
set_option maxRecDepth 100000
/-! V37: tuples of texts that stand in the module; in such a tuple; sorted(texts). -/
namespace Vl
open PySem PySem.Spec L2 PyProof.Rows

/-! ### a module's tuple of texts -/
theorem strsB_vals : ∀ {xs : List Str} {us : List Value}, strsB xs us = true → Vals (xs.map V.str) us
  | [], [], _ => .nil
  | s :: r, u :: q, h => by
    cases u with
    | str z t =>
      have h' : (decide (s = z) && strsB r q) = true := h
      rw [Bool.and_eq_true] at h'
      have e := of_decide_eq_true h'.1
      subst e
      exact .cons ⟨t, rfl⟩ (strsB_vals h'.2)
    | _ => cases h
  | [], _ :: _, h => by cases h
  | _ :: _, [], h => by cases h
theorem tupB_kt {K : PySem.W.Frag} {a : Addr} {xs : List Str} (h : tupB K a xs = true) : KT K a (xs.map V.str) := by
  unfold tupB at h
  cases hlk : K.lookup a with
  | none => rw [hlk] at h; cases h
  | some o =>
    rw [hlk] at h
    obtain ⟨cls, dd, data, sl⟩ := o
    cases cls with
    | type t =>
      cases data with
      | seq its n =>
        cases dd with
        | none =>
          have h' : (t == "tuple" && (strsB xs its.toList && decide (xs.length ≤ 16777216))) = true := h
          rw [Bool.and_eq_true] at h'; rw [Bool.and_eq_true] at h'
          obtain ⟨h1, h2, h3⟩ := h'
          have et := eq_of_beq h1
          subst et
          have rv := strsB_vals h2
          have ln : xs.length = its.size := by simpa using rv.length
          refine ⟨_, its, n, hlk, rfl, rfl, ?_, rv, rfl⟩
          rw [← ln, sizeLine_eq]
          exact of_decide_eq_true h3
        | some _ => cases h
      | _ => cases h
    | _ => cases h
section
variable {Ex : Str → Hp → Prop} {X : Cx} {pos : Pos} {x : Str}
theorem repsT {K : PySem.W.Frag} {A : AS} {H : Hp} : ∀ xs : List Str, Reps K A H (xs.map PyData.str) (xs.map V.str)
  | [] => rfl
  | s :: r => ⟨_, _, rfl, rfl, repsT r⟩
theorem x_gTup {a : Addr} {xs : List Str} (kt : KT X.K a (xs.map V.str)) (hm : X.mg x = some (.ref a)) (hg : Gl X x := by rfl) (hd : (x == ("__debug__" : Str)) = false := by decide) : XE Ex X .v (.Name x pos) (dC (.tuple (xs.map PyData.str))) :=
  x_glob (v := .ref a) hm rfl (fun A H => ⟨a, _, rfl, .inr kt, repsT xs⟩) hg hd
end
/-! ### in -/
def dInB : D → D → Option D
  | x, .tuple ds => guardD (SeqAt.shaped x && SeqAt.shaped (.tuple ds)) (.bool (ds.any fun z => PyData.eqv z x))
  | _, _ => none
def dNotInB (x y : D) : Option D := notD (dInB x y)
def rInB (K : PySem.W.Frag) (neg : Bool) : R2 := fun x y H Q => ∃ d ds, Dp K H x d ∧ Dp K H y (.tuple ds) ∧ SeqAt.shaped d = true ∧ SeqAt.shaped (.tuple ds) = true ∧ Q (.bl (if neg then !(ds.any fun z => PyData.eqv z d) else ds.any fun z => PyData.eqv z d)) H
section
variable {X : Cx} {K : PySem.W.Frag}
theorem room_in_shapedT {A : Around} {x : PyData} {xs : List PyData} (h : SeqAt.shaped x = true) (hu : A.units + 65 < cLine) : A.units + 1 + min (PyData.depthAll xs) x.depth < cLine := by
  have h1 := SeqAt.depth_of_shaped h
  have h2 : min (PyData.depthAll xs) x.depth ≤ x.depth := Nat.min_le_right _ _
  omega
theorem or_inB (hu : X.A.units + 65 < cLine) : OpR X (compareOp .In) (rInB X.K false) := by
  intro pins s σ H x y; intro v u Q I rx ry h
  obtain ⟨d, ds, hd, he, sd, se, q⟩ := (h)
  obtain ⟨as, r1⟩ := (Dp.reads I d x v hd rx)
  obtain ⟨bs, r2⟩ := Dp.reads I (.tuple ds) y u he ry
  exact SeqAt.in_tuple_reads r2 r1 (SeqAt.canLay_of_shaped se) (SeqAt.canLay_of_shaped sd) (room_in_shapedT sd hu) ⟨.bl _, H, I, rfl, q⟩
theorem or_notinB (hu : X.A.units + 65 < cLine) : OpR X (compareOp .NotIn) (rInB X.K true) := by
  intro pins s σ H x y; intro v u Q I rx ry h
  obtain ⟨d, ds, hd, he, sd, se, q⟩ := (h)
  obtain ⟨as, r1⟩ := (Dp.reads I d x v hd rx)
  obtain ⟨bs, r2⟩ := Dp.reads I (.tuple ds) y u he ry
  exact SeqAt.notIn_tuple_reads r2 r1 (SeqAt.canLay_of_shaped se) (SeqAt.canLay_of_shaped sd) (room_in_shapedT sd hu) ⟨.bl _, H, I, rfl, q⟩
theorem inB_some {dx dy d : D} (h : dInB dx dy = some d) : ∃ ds, dy = .tuple ds ∧ SeqAt.shaped dx = true ∧ SeqAt.shaped (.tuple ds) = true ∧ d = .bool (ds.any fun z => PyData.eqv z dx) := by
  cases dy with
  | tuple ds =>
    obtain ⟨c, rfl⟩ := guardD_some (show guardD (SeqAt.shaped dx && SeqAt.shaped (.tuple ds)) (.bool (ds.any fun z => PyData.eqv z dx)) = some d from h)
    rw [Bool.and_eq_true] at c
    exact ⟨ds, rfl, c.1, c.2, rfl⟩
  | _ => cases h
theorem od_inB : OpD K .v (rInB K false) dInB := by
  intro W A σ H env P x y dx dy d Q k rx ry hg q
  obtain ⟨ds, rfl, s1, s2, rfl⟩ := inB_some hg
  exact ⟨dx, ds, rx.dp (shaped_nd s1), ry.dp (shaped_nd s2), s1, s2, q _ H (Same.refl H) rfl⟩
theorem od_notinB : OpD K .v (rInB K true) dNotInB := by
  intro W A σ H env P x y dx dy d Q k rx ry hg q
  obtain ⟨b, hb, rfl⟩ : ∃ b, dInB dx dy = some (.bool b) ∧ d = .bool (!b) := by
    unfold dNotInB notD at hg
    split at hg
    · rename_i b e; cases hg; exact ⟨b, e, rfl⟩
    · cases hg
  obtain ⟨ds, rfl, s1, s2, e⟩ := inB_some hb
  cases e
  exact ⟨dx, ds, rx.dp (shaped_nd s1), ry.dp (shaped_nd s2), s1, s2, q _ H (Same.refl H) rfl⟩
end
/-! ### sorted -/
def ltS (a b : Str) : Bool := ltCps a.cps.toList b.cps.toList
def insS (x : Str) : List Str → List Str
  | [] => [x]
  | y :: r => if ltS y x then y :: insS x r else x :: y :: r
def sortT (l : List Str) : List Str := l.foldr insS []
def leS (a b : Str) : Prop := ltS b a = false
theorem leS_iff {a b : Str} : leS a b ↔ a.cps.toList ≤ b.cps.toList := by
  unfold leS ltS
  rw [ltCps_eq, decide_eq_false_iff_not]
  exact Iff.rfl
theorem leS_trans {a b c : Str} (h1 : leS a b) (h2 : leS b c) : leS a c := leS_iff.mpr (List.le_trans (leS_iff.mp h1) (leS_iff.mp h2))
theorem leS_anti {a b : Str} (h1 : leS a b) (h2 : leS b a) : a = b := by
  have e := List.le_antisymm (leS_iff.mp h1) (leS_iff.mp h2)
  obtain ⟨⟨x⟩⟩ := a
  obtain ⟨⟨y⟩⟩ := b
  have e' : x = y := e
  rw [e']
theorem lt_le {a b : Str} (h : ltS a b = true) : leS a b := by
  rw [leS_iff]
  have h' : a.cps.toList < b.cps.toList := of_decide_eq_true (by rw [← ltCps_eq]; exact h)
  exact List.le_of_lt h'
theorem risingS_iff : ∀ (l : List Str) (x : Str), risingS x l = true ↔ (x :: l).Pairwise leS
  | [], x => by simp [risingS]
  | y :: r, x => by
    have ih := risingS_iff r y
    unfold risingS
    rw [Bool.and_eq_true, ih]
    have e : (!ltCps y.cps.toList x.cps.toList) = true ↔ leS x y := by unfold leS ltS; simp
    rw [e]
    constructor
    · rintro ⟨h1, h2⟩
      refine List.pairwise_cons.mpr ⟨fun z hz => ?_, h2⟩
      rcases (List.mem_cons.mp hz) with rfl | hz
      · exact h1
      · exact leS_trans h1 ((List.pairwise_cons.mp h2).1 z hz)
    · intro h
      obtain ⟨h1, h2⟩ := (List.pairwise_cons.mp h)
      exact ⟨h1 y List.mem_cons_self, h2⟩
theorem sortedS_iff : ∀ l : List Str, sortedS l = true ↔ l.Pairwise leS
  | [] => by simp [sortedS]
  | x :: r => risingS_iff r x
theorem insS_perm (x : Str) : ∀ l : List Str, (insS x l).Perm (x :: l)
  | [] => .refl _
  | y :: r => by
    unfold insS
    split
    · exact ((insS_perm x r).cons y).trans (List.Perm.swap x y r)
    · exact .refl _
theorem insS_sorted (x : Str) : ∀ {l : List Str}, l.Pairwise leS → (insS x l).Pairwise leS
  | [], _ => List.pairwise_singleton _ _
  | y :: r, h => by
    obtain ⟨h1, h2⟩ := (List.pairwise_cons.mp h)
    unfold insS
    by_cases c : ltS y x = true
    · rw [if_pos c]
      refine List.pairwise_cons.mpr ⟨fun z hz => ?_, insS_sorted x h2⟩
      rcases List.mem_cons.mp ((insS_perm x r).mem_iff.mp hz) with rfl | hz
      · exact lt_le c
      · exact h1 z hz
    · rw [if_neg c]
      have xy : leS x y := by unfold leS; simpa using c
      refine List.pairwise_cons.mpr ⟨fun z hz => ?_, h⟩
      rcases (List.mem_cons.mp hz) with rfl | hz
      · exact xy
      · exact leS_trans xy (h1 z hz)
theorem sortT_perm : ∀ l : List Str, (sortT l).Perm l
  | [] => .refl _
  | x :: r => (insS_perm x _).trans ((sortT_perm r).cons x)
theorem sortT_sorted : ∀ l : List Str, (sortT l).Pairwise leS
  | [] => List.Pairwise.nil
  | x :: r => insS_sorted x (sortT_sorted r)
theorem sorted_unique : ∀ {xs ys : List Str}, xs.Perm ys → xs.Pairwise leS → ys.Pairwise leS → xs = ys
  | [], ys, p, _, _ => (List.nil_perm.mp p).symm
  | a :: r, ys, p, h1, h2 => by
    cases ys with
    | nil => exact (absurd p.length_eq (by simp))
    | cons b q =>
      have e : a = b := by
        have m1 : a ∈ b :: q := p.mem_iff.mp List.mem_cons_self
        have m2 : b ∈ a :: r := p.mem_iff.mpr List.mem_cons_self
        rcases List.mem_cons.mp m1 with z | m1
        · exact z
        rcases List.mem_cons.mp m2 with z | m2
        · exact z.symm
        exact leS_anti ((List.pairwise_cons.mp h1).1 b m2) ((List.pairwise_cons.mp h2).1 a m1)
      subst e
      rw [sorted_unique p.cons_inv (List.pairwise_cons.mp h1).2 (List.pairwise_cons.mp h2).2]
theorem sortT_of {xs ys : List Str} (p : ys.Perm xs) (h : sortedS ys = true) : ys = sortT xs := sorted_unique (p.trans (sortT_perm xs).symm) ((sortedS_iff ys).mp h) (sortT_sorted xs)
def strsD : List D → Option (List Str)
  | [] => some []
  | .str s :: r => (strsD r).map (s :: ·)
  | _ :: _ => none
theorem strsD_eq : ∀ {ds : List D} {ss : List Str}, strsD ds = some ss → ds = ss.map PyData.str
  | [], _, h => by cases h; rfl
  | d :: r, ss, h => by
    cases d with
    | str s =>
      cases h2 : strsD r with
      | none => unfold strsD at h; rw [h2] at h; cases h
      | some t =>
        unfold strsD at h
        rw [h2] at h
        cases h
        rw [strsD_eq h2, List.map_cons]
    | _ => cases h
theorem strsD_map : ∀ ss : List Str, strsD (ss.map PyData.str) = some ss
  | [] => rfl
  | s :: r => by rw [List.map_cons]; unfold strsD; rw [strsD_map r]; rfl
theorem repsT_inv {K : PySem.W.Frag} {A : AS} {H : Hp} : ∀ {ss : List Str} {vs : List V}, Reps K A H (ss.map PyData.str) vs → vs = ss.map V.str
  | [], _, h => h
  | s :: r, _, ⟨v, t, e, h1, h2⟩ => by
    subst e
    cases (show v = .str s from h1)
    rw [repsT_inv h2]; rfl
def gSorted : List D → Option D
  | [.list ds] => match strsD ds with
    | some ss => if ss.length < 64 then some (.list ((sortT ss).map PyData.str)) else none
    | none => none
  | _ => none
theorem cd_sorted {K : PySem.W.Frag} : CallD K .f (rSortedS K) gSorted := by
  intro W A σ H env P vs ds d Q k rs hg q
  match ds, rs, hg with
  | [d0], rs, hg =>
    obtain ⟨v, rfl, r⟩ := one_arg rs
    cases d0 with
    | list xs =>
      cases hs : strsD xs with
      | none => simp only [gSorted, hs] at hg; cases hg
      | some ss =>
        simp only [gSorted, hs] at hg
        by_cases hl : ss.length < 64
        · rw [if_pos hl] at hg
          cases hg
          obtain ⟨a, vs, rfl, l, r⟩ := r
          rw [strsD_eq hs] at r
          have ev := repsT_inv r
          subst ev
          refine ⟨a, ss, rfl, l.sq, hl, fun ys p hp hs2 hn => ?_⟩
          rw [sortT_of hp hs2]
          exact q _ _ (same_upd hn) ⟨p, _, _, rfl, rfl, .of hn, upd_same, repsT _⟩
        · rw [if_neg hl] at hg; cases hg
    | _ => simp [gSorted] at hg
  | [], _, hg => cases hg
  | _ :: _ :: _, _, hg => simp [gSorted] at hg
end Vl
end
section
set_option autoImplicit false
set_option maxRecDepth 100000
/-! V38: a law without lambdas of its own. -/
namespace Vl
open PySem PySem.Spec PyProof.Rows L2
section
variable {P : Program} {w : World} {K : PySem.W.Frag} {mg : Str → Option Value} {base : Heap} {ec : EC}
theorem law_fnF {x qual : Str} {st : Stmt} {f fo : Addr} {fdo : FuncData} {N : List Str} {k ko : Nat} {body : Vl.Env → M Fl} {rest : List Stmt} {dO : List SV → M D} {pos1 pos2 pos3 pos4 pos5 : Pos} {fd : FuncData} {tb : List (Addr × Str)}
    (F : Fun K x qual st f fd) (S : FnScope N ["script"] (defScope st)) (hN0 : N[0]? = some ("script" : Str)) (hN1 : N[1]? = some ("pen" : Str)) (hN2 : 2 ≤ N.length) (hv0 : Vis (defScope st) "script") (hl1 : Loc (defScope st) "pen")
    (hbody : defBody st = .Assign [.Name "pen" pos1] (.Call (.Name "_law_open" pos2) [.Name "script" pos3] [] pos5) pos4 :: rest)
    (hsw : ∀ (L : Addr) (cdv : Value), swapsWith (.Call (.Name "_law_open" pos2) [.Name "script" pos3] [] pos5) (some (.Name "pen" pos1)) pos4.line (envOfC qual (defScope st) L f cdv) = pure false)
    (hko : ko ≤ k) (O : FnG P w K mg base false ko fo fdo ["script"] (spG K ec .v 1 dO)) (Og : (defScope st).names.lookup ("_law_open" : Str) = some NameKind.globalImplicit) (Om : mg "_law_open" = some (.ref fo)) (Ok : PySem.W.keepIn K (.ref fo) = true) (Ob : L2.Binds K fdo ["script"] [])
    (hb : ∀ (cdv : Value) (A : Around) (outer : List PySem.Env) (s : Shared) (H : Hp) (E : XK), Room k (A.deeper (envOfC qual (defScope st) s.heap.objs.size f cdv)) → A.guards = some [] → XSs (exOf ec E) .v (cxOf (L2.CX P w) P w K mg base N qual (defScope st) f cdv A outer s H E) rest body)
    (hrun : ∀ ns : List Int, ns.length ≤ 63 → (∀ z ∈ ns, Builtin.Int.intBits z ≤ 1048576) → ∃ (cs : List Int) (P1 P2 : Pen), dO [.scr ns] ⟨[], 0, 0, tb⟩ = .ok (.list [.list (cs.map PyData.int), .int 0, .int 0]) P1 ∧ body (.scr ns :: .pen :: List.replicate (N.length - 2) .un) ⟨cs, 0, 0, tb⟩ = .ok (.rt (.bool true)) P2) :
    FnG P w K mg base true (k + 1) f fd ["script"] (spL K tb) := by
  obtain ⟨oc, od, kV, doc, pm, an, cdv, ct, osl, rfl, lk, hcd⟩ := (F.ex)
  exact law_fn lk hcd S hN0 hN1 hN2 hv0 hl1 hbody (fun L => hsw L cdv) hko O Og Om Ok Ob (hb cdv) hrun
end
end Vl
end
section
set_option autoImplicit false
set_option maxRecDepth 100000
set_option maxHeartbeats 3200000
/-! V39: len(set(texts)). -/
namespace Vl
open PySem PySem.Spec PyProof.Rows

def addS (l : List Str) (x : Str) : List Str := if l.any (· == x) then l else l ++ [x]
/-- the texts met in the first i ones, each once -/
def metS (xs : List Str) (i : Nat) : List Str := (xs.take i).foldl addS []
theorem metS_succ (xs : List Str) (i : Nat) (h : i < xs.length) : metS xs (i + 1) = addS (metS xs i) (xs.getD i Str.empty) := by
  unfold metS
  rw [List.take_add_one, List.getElem?_eq_getElem h, List.foldl_append, List.getD_eq_getElem?_getD, List.getElem?_eq_getElem h]
  rfl
theorem addS_any (l : List Str) (x z : Str) : (addS l x).any (· == z) = (l.any (· == z) || decide (z = x)) := by
  unfold addS
  by_cases e : z = x
  · subst e
    by_cases h : l.any (· == z) = true
    · rw [if_pos h, h]; rfl
    · rw [if_neg h, List.any_append]; simp
  · have ne : (x == z) = false := beq_eq_false_iff_ne.mpr (Ne.symm e)
    by_cases h : l.any (· == x) = true
    · rw [if_pos h, decide_eq_false e, Bool.or_false]
    · rw [if_neg h, List.any_append, decide_eq_false e]; simp [ne]
theorem addS_len (l : List Str) (x : Str) : (addS l x).length = if l.any (· == x) then l.length else l.length + 1 := by
  unfold addS
  split <;> simp
theorem metS_le (xs : List Str) : ∀ i, (metS xs i).length ≤ i
  | 0 => by unfold metS; simp
  | i + 1 => by
    by_cases h : i < xs.length
    · rw [metS_succ xs i h, addS_len]
      have := metS_le xs i
      split <;> omega
    · have e : metS xs (i + 1) = metS xs i := by unfold metS; rw [List.take_of_length_le (by omega), List.take_of_length_le (by omega)]
      rw [e]
      exact Nat.le_succ_of_le (metS_le xs i)
section
variable {prog : Program} {w : World} {A : Around} {R : Result → Shared → Prop} {I : Addr} {fp wr : List Addr} {G : Array GenState → Array GenState → Prop} {n : Nat} {P : Nat → Value → Prop} { St : Nat → Shared → Prop }
theorem loopStrN (W : WalksS prog w A.in1 I fp wr G n P St) (S : Addr) (offS : S ∉ fp) (xs : List Str) (sz : xs.length = n) (few : xs.length + 1 < scanBound) (vals : ∀ i v, P i v → ∃ t, v = .str (xs.getD i Str.empty) t) :
    ∀ (k i : Nat) (s : Shared), n - i = k → i ≤ n → St i s → s.heap.SetOf (PySem.strKind prog w) S (fun z => (metS xs i).any (· == z)) (metS xs i).length →
      (∀ s', Moved (S :: wr) G s s' → s'.heap.SetOf (PySem.strKind prog w) S (fun z => (metS xs xs.length).any (· == z)) (metS xs xs.length).length → R (.ok (.ret .none)) s') →
      codeAny (model prog w) A (.builtin "set.update.loop" (⟨[.ref S, .ref I], []⟩)) R s := by
  have offW : S ∉ wr := fun z => offS (W.sub _ z)
  have inW : ∀ c ∈ wr, c ∈ S :: wr := fun c hc => List.mem_cons_of_mem _ hc
  intro k
  induction k with
  | zero =>
    intro i s hk hi st0 setS done
    have ei : i = xs.length := by omega
    subst ei
    refine (codeAny_builtin PyProof.Rows.F.entry_set_update_loop ?_)
    rw [(Around.under_plainId PyProof.Rows.F.plain_set_update_loop _)]
    show (wpAny _ A.in1 (pyNext (.ref I) >>= _) _ _ s)
    have st1 : St n s := by rw [← sz]; exact st0
    refine wpAny_bind (W.done s _ _ st1 fun s' mv => ?_)
    show wpAny _ A.in1 (PySem.ret Value.none) _ _ s'
    refine wpAny_pure (done s' (mv.mono inW) ?_)
    obtain ⟨o, es, ep, tb, ho, more⟩ := setS
    exact ⟨o, es, ep, tb, mv.heap S _ offW ho, more⟩
  | succ k ih =>
    intro i s hk hi st0 setS done
    have lt : i < n := by omega
    refine (codeAny_builtin PyProof.Rows.F.entry_set_update_loop ?_)
    rw [(Around.under_plainId PyProof.Rows.F.plain_set_update_loop _)]
    show (wpAny _ A.in1 (pyNext (.ref I) >>= _) _ _ s)
    refine wpAny_bind (W.item i s _ _ lt st0 fun v s' pv st1 mv => ?_)
    obtain ⟨t, rfl⟩ := vals i v pv
    have set1 : s'.heap.SetOf (PySem.strKind prog w) S (fun z => (metS xs i).any (· == z)) (metS xs i).length := by
      obtain ⟨o, es, ep, tb, ho, more⟩ := setS
      exact ⟨o, es, ep, tb, mv.heap S _ offW ho, more⟩
    show (wpAny _ A.in1 (holding [Value.str (xs.getD i Str.empty) t] (setAdd S (.str (xs.getD i Str.empty) t)) >>= _) _ _ s')
    refine (wpAny_bind (wpAny_holding ?_))
    unfold setAdd
    refine wpAny_holding ?_
    refine wpAny_bind ((PySem.strKind prog w).pyHash (k := xs.getD i Str.empty) (PySem.strKind_is _ _ _ _) ?_)
    have room : (metS xs i).length + 1 < scanBound := by have := metS_le xs i; omega
    refine wpAny_setAddHashed_of (knd := PySem.strKind prog w) (s := { s' with toks := s'.toks + 1 }) (PySem.strKind_is _ _ _ _) rfl set1 room fun h' same set2 => ?_
    have set3 : h'.SetOf (PySem.strKind prog w) S (fun z => (metS xs (i + 1)).any (· == z)) (metS xs (i + 1)).length :=
      SetOf_congr set2 (fun z => by rw [metS_succ xs i (by omega), addS_any]) (by rw [metS_succ xs i (by omega), addS_len])
    refine wpAny_pure ⟨plainId_quiet PyProof.Rows.F.plain_set_update_loop _, ih (i + 1) _ (by omega) lt (W.frame _ s' _ _ st1 (Nat.le_succ _) fun c hc ob e => ?_) set3 fun s'' mv2 set4 => ?_⟩
    · rw [same.2 c (fun z : c = S => offS (by rw [← z]; exact hc))]; exact e
    · refine done s'' (Moved.trans W.gtrans ((mv.mono inW).then_heap (Nat.le_succ _) fun c ob hc e => ?_) mv2) set4
      rw [same.2 c (fun z : c = S => hc (by rw [z]; exact List.mem_cons_self))]; exact e
end
def setObj0 (ld : Bool) : Obj := { cls := .type "set", dict := none, data := .set #[] 0 (.fresh 0 0 ld) }
section
variable {prog : Program} {w : World} {A : Around} {E : Value → Shared → Prop} { s : Shared }
theorem call_setN_list {l : Addr} {items : Array Value} {xs : List Str} {Q : Value → Shared → Prop}
    (hh : A.handled = none) (lst : s.heap.IsList l items) (str : StrsAre items.toList xs) (few : xs.length + 1 < scanBound)
    (fin : ∀ (h' : Heap) (tk : Nat), h'.SetOf (PySem.strKind prog w) s.heap.objs.size (fun z => (metS xs xs.length).any (· == z)) (metS xs xs.length).length →
      (∀ c ob, c < s.heap.objs.size → s.heap.get? c = some ob → h'.get? c = some ob) → Q (.ref s.heap.objs.size) { s with heap := h', toks := tk }) :
    wpAny (model prog w) A (call (.type "set") ([.ref l])) Q E s := by
  obtain ⟨mc, mt, hmro⟩ := (PySem.F.called_set.mro)
  have cs1 := PySem.F.called_set.made
  have cs2 := PySem.F.called_set.sub
  have cs3 := PySem.F.called_set.notType
  have cs4 := PySem.F.called_set.canCreate
  have cs5 := PySem.F.typeCall_set_1 (.ref l)
  refine (wpAny_call (codeAny_of_tree ?_))
  show (wpAny _ _ (callAny (.type "set") _) _ _ _)
  refine wpAny_pure ⟨Code.quiet_builtin _ (by decide +kernel), (codeAny_builtin PySem.F.entry_type_call ?_)⟩
  rw [(Around.under_plain (weight_type_call_type "set" [.ref l] []) rfl)]
  repeat (any_goals (first | (assumption) | wp_step))

  refine codeAny_mono (code_set_new_1 (.ref l) (E := E) (Q₁ := fun ob sA => ∃ ld : Bool, ob = .ref s.heap.objs.size ∧ sA = { s with heap := s.heap.push (setObj0 ld) }) fun ld => ⟨ld, rfl, rfl⟩) fun res sA hA => ?_
  match res, hA with
  | .error e, hA => exact hA
  | .ok .next, hA => exact hA.elim
  | .ok .brk, hA => exact hA.elim
  | .ok .cont, hA => exact hA.elim
  | .ok (.ret ob), hA =>
    obtain ⟨ld, rfl, rfl⟩ := hA
    have atS : (s.heap.push (setObj0 ld)).get? s.heap.objs.size = some (setObj0 ld) := Heap.get?_push_size _ rfl
    have tyS : Shared.TypeIs { s with heap := s.heap.push (setObj0 ld) } (.ref s.heap.objs.size) "set" := ⟨_, atS, rfl⟩
    have ini1 := PySem.F.called_set.init.lookup
    have ini2 := PySem.F.called_set.init.bind (.ref s.heap.objs.size)
    repeat (any_goals (first | (assumption) | wp_step))

    refine codeAny_mono (codeAny_call_builtin (R := wants (fun r sB => r = .none ∧ ∃ h' tk, sB = { s with heap := h', toks := tk } ∧
        h'.SetOf (PySem.strKind prog w) s.heap.objs.size (fun z => (metS xs xs.length).any (· == z)) (metS xs xs.length).length ∧
        (∀ c ob, c < s.heap.objs.size → s.heap.get? c = some ob → h'.get? c = some ob)) E) PySem.F.called_set.init.plain PySem.F.entry_set_init (check_set_init_1 tyS ?_)) fun res2 sB hB => ?_
    · obtain ⟨⟨oc, od, odt, osl⟩, ol, lc, ln, ld2⟩ := lst
      simp only at lc ld2
      subst lc ld2
      have atl : (s.heap.push (setObj0 ld)).get? l = some { cls := .type "list", dict := od, data := .seq items ln, slots := osl } := Heap.get?_push_of_some _ ol
      have nt1 := PySem.F.sub_list_set
      have nt2 := PySem.F.sub_list_frozenset
      have nt3 : (Value.type "list" == Value.type "dict") = false := by (decide)
      have isl : (s.heap.push (setObj0 ld)).IsList l items := ⟨_, atl, rfl, ln, rfl⟩
      unfold setObj0 at *
      unfold Builtin.«set.__init__» noKeywords; unfold Builtin.Frozenset.updateFrom
      generalize eIt : pyIter = itf
      wp_walk
      subst eIt

      refine wpAny_pyIter_list isl ?_
      refine (wpAny_bind (wpAny_runValue ?_))
      have lS : l < s.heap.objs.size := Heap.lt_size ol
      have hh3 : A.in1.in1.in1.handled = none := by (simp [hh])
      have nI : l ≠ (s.heap.push { cls := .type "set", dict := none, data := .set #[] 0 (.fresh 0 0 ld) }).objs.size := by
        rw [Heap.size_push]; exact Nat.ne_of_lt (Nat.lt_succ_of_lt lS)
      have offS : s.heap.objs.size ∉ [(s.heap.push { cls := .type "set", dict := none, data := .set #[] 0 (.fresh 0 0 ld) }).objs.size, l] := by
        rw [Heap.size_push]
        intro z
        rcases (List.mem_cons.mp z) with z | z
        · exact absurd z (Nat.ne_of_lt (Nat.lt_succ_self _))
        · exact absurd (List.mem_singleton.mp z) (Nat.ne_of_gt lS)
      have sz : xs.length = items.size := by rw [← StrsAre.len_eq str, Array.length_toList]
      have vals : ∀ (i : Nat) (v : Value), items[i]? = some v → ∃ t, v = .str (xs.getD i Str.empty) t := fun i v hv => SS.strs_at str i v (by rw [Array.getElem?_toList]; exact hv)
      refine loopStrN ((Walks.list hh3 _ l nI items).toS) s.heap.objs.size offS xs sz few vals (items.size - 0) 0 _ (by omega) (Nat.zero_le _) ⟨⟨_, Heap.get?_push_size _ rfl, rfl, rfl⟩, (isl.push _)⟩ ?hA ?hB
      case hA =>
        have g0 : ((s.heap.push { cls := .type "set", dict := none, data := .set #[] 0 (.fresh 0 0 ld) }).push { cls := .type "list_iterator", data := .fields #[.ref l, .int 0 0] }).get? s.heap.objs.size
            = some { cls := .type "set", dict := none, data := .set #[] 0 (.fresh 0 0 ld) } := Heap.get?_push_of_some _ atS
        exact SetOf_congr ((setObjOf_fresh (knd := PySem.strKind prog w) ld).setOf g0 (by unfold scanBound; omega)) (fun _ => rfl) rfl
      case hB =>
        intro sC mv hC
        obtain ⟨h', g', d', tk', os'⟩ := sC
        cases (show g' = s.gens from mv.gens)
        cases (show d' = s.drawn from mv.drawn)
        cases (show os' = s.os from mv.os)
        show wpAny _ _ _ _ _ _
        refine wpAny_pure ?_
        show wpAny _ _ (PySem.ret Value.none) _ _ _
        refine wpAny_pure ⟨rfl, h', tk', rfl, hC, fun c ob hc e => ?_⟩
        refine mv.heap c ob (fun z => ?_) (Heap.get?_push_of_some _ (Heap.get?_push_of_some _ e))
        rcases (List.mem_cons.mp z) with z | z
        · exact absurd z (Nat.ne_of_lt hc)
        · have z2 := List.mem_singleton.mp z
          rw [Heap.size_push] at z2
          exact absurd z2 (Nat.ne_of_lt (Nat.lt_succ_of_lt hc))
    · match res2, hB with
      | .error e, hB => exact hB
      | .ok .next, hB => exact hB.elim
      | .ok .brk, hB => exact hB.elim
      | .ok .cont, hB => exact hB.elim
      | .ok (.ret r), hB =>
        obtain ⟨rfl, h', tk, rfl, q1, q2⟩ := hB
        repeat (any_goals (first | (assumption) | wp_step))
        exact fin _ _ q1 q2
theorem call_setN_tuple {l : Addr} {items : Array Value} {xs : List Str} {Q : Value → Shared → Prop}
    (hh : A.handled = none) (lst : s.heap.IsTuple l items) (str : StrsAre items.toList xs) (few : xs.length + 1 < scanBound)
    (fin : ∀ (h' : Heap) (tk : Nat), h'.SetOf (PySem.strKind prog w) s.heap.objs.size (fun z => (metS xs xs.length).any (· == z)) (metS xs xs.length).length →
      (∀ c ob, c < s.heap.objs.size → s.heap.get? c = some ob → h'.get? c = some ob) → Q (.ref s.heap.objs.size) { s with heap := h', toks := tk }) :
    wpAny (model prog w) A (call (.type "set") ([.ref l])) Q E s := by
  obtain ⟨mc, mt, hmro⟩ := (PySem.F.called_set.mro)
  have cs1 := PySem.F.called_set.made
  have cs2 := PySem.F.called_set.sub
  have cs3 := PySem.F.called_set.notType
  have cs4 := PySem.F.called_set.canCreate
  have cs5 := PySem.F.typeCall_set_1 (.ref l)
  refine (wpAny_call (codeAny_of_tree ?_))
  show (wpAny _ _ (callAny (.type "set") _) _ _ _)
  refine wpAny_pure ⟨Code.quiet_builtin _ (by decide +kernel), (codeAny_builtin PySem.F.entry_type_call ?_)⟩
  rw [(Around.under_plain (weight_type_call_type "set" [.ref l] []) rfl)]
  repeat (any_goals (first | (assumption) | wp_step))

  refine codeAny_mono (code_set_new_1 (.ref l) (E := E) (Q₁ := fun ob sA => ∃ ld : Bool, ob = .ref s.heap.objs.size ∧ sA = { s with heap := s.heap.push (setObj0 ld) }) fun ld => ⟨ld, rfl, rfl⟩) fun res sA hA => ?_
  match res, hA with
  | .error e, hA => exact hA
  | .ok .next, hA => exact hA.elim
  | .ok .brk, hA => exact hA.elim
  | .ok .cont, hA => exact hA.elim
  | .ok (.ret ob), hA =>
    obtain ⟨ld, rfl, rfl⟩ := hA
    have atS : (s.heap.push (setObj0 ld)).get? s.heap.objs.size = some (setObj0 ld) := Heap.get?_push_size _ rfl
    have tyS : Shared.TypeIs { s with heap := s.heap.push (setObj0 ld) } (.ref s.heap.objs.size) "set" := ⟨_, atS, rfl⟩
    have ini1 := PySem.F.called_set.init.lookup
    have ini2 := PySem.F.called_set.init.bind (.ref s.heap.objs.size)
    repeat (any_goals (first | (assumption) | wp_step))

    refine codeAny_mono (codeAny_call_builtin (R := wants (fun r sB => r = .none ∧ ∃ h' tk, sB = { s with heap := h', toks := tk } ∧
        h'.SetOf (PySem.strKind prog w) s.heap.objs.size (fun z => (metS xs xs.length).any (· == z)) (metS xs xs.length).length ∧
        (∀ c ob, c < s.heap.objs.size → s.heap.get? c = some ob → h'.get? c = some ob)) E) PySem.F.called_set.init.plain PySem.F.entry_set_init (check_set_init_1 tyS ?_)) fun res2 sB hB => ?_
    · obtain ⟨⟨oc, od, odt, osl⟩, ol, lc, ln, ld2⟩ := lst
      simp only at lc ld2
      subst lc ld2
      have atl : (s.heap.push (setObj0 ld)).get? l = some { cls := .type "tuple", dict := od, data := .seq items ln, slots := osl } := Heap.get?_push_of_some _ ol
      have nt1 := PySem.F.sub_tuple_set
      have nt2 := PySem.F.sub_tuple_frozenset
      have nt3 : (Value.type "tuple" == Value.type "dict") = false := by (decide)
      have isl : (s.heap.push (setObj0 ld)).IsTuple l items := ⟨_, atl, rfl, ln, rfl⟩
      unfold setObj0 at *
      unfold Builtin.«set.__init__» noKeywords; unfold Builtin.Frozenset.updateFrom
      generalize eIt : pyIter = itf
      wp_walk
      subst eIt

      refine wpAny_pyIter_tuple isl ?_
      refine (wpAny_bind (wpAny_runValue ?_))
      have lS : l < s.heap.objs.size := Heap.lt_size ol
      have hh3 : A.in1.in1.in1.handled = none := by (simp [hh])
      have nI : l ≠ (s.heap.push { cls := .type "set", dict := none, data := .set #[] 0 (.fresh 0 0 ld) }).objs.size := by
        rw [Heap.size_push]; exact Nat.ne_of_lt (Nat.lt_succ_of_lt lS)
      have offS : s.heap.objs.size ∉ [(s.heap.push { cls := .type "set", dict := none, data := .set #[] 0 (.fresh 0 0 ld) }).objs.size, l] := by
        rw [Heap.size_push]
        intro z
        rcases (List.mem_cons.mp z) with z | z
        · exact absurd z (Nat.ne_of_lt (Nat.lt_succ_self _))
        · exact absurd (List.mem_singleton.mp z) (Nat.ne_of_gt lS)
      have sz : xs.length = items.size := by rw [← StrsAre.len_eq str, Array.length_toList]
      have vals : ∀ (i : Nat) (v : Value), items[i]? = some v → ∃ t, v = .str (xs.getD i Str.empty) t := fun i v hv => SS.strs_at str i v (by rw [Array.getElem?_toList]; exact hv)
      refine loopStrN ((Walks.tuple hh3 _ l nI items).toS) s.heap.objs.size offS xs sz few vals (items.size - 0) 0 _ (by omega) (Nat.zero_le _) ⟨⟨_, Heap.get?_push_size _ rfl, rfl, rfl⟩, (isl.push _)⟩ ?hA ?hB
      case hA =>
        have g0 : ((s.heap.push { cls := .type "set", dict := none, data := .set #[] 0 (.fresh 0 0 ld) }).push { cls := .type "tuple_iterator", data := .fields #[.ref l, .int 0 0] }).get? s.heap.objs.size
            = some { cls := .type "set", dict := none, data := .set #[] 0 (.fresh 0 0 ld) } := Heap.get?_push_of_some _ atS
        exact SetOf_congr ((setObjOf_fresh (knd := PySem.strKind prog w) ld).setOf g0 (by unfold scanBound; omega)) (fun _ => rfl) rfl
      case hB =>
        intro sC mv hC
        obtain ⟨h', g', d', tk', os'⟩ := sC
        cases (show g' = s.gens from mv.gens)
        cases (show d' = s.drawn from mv.drawn)
        cases (show os' = s.os from mv.os)
        show wpAny _ _ _ _ _ _
        refine wpAny_pure ?_
        show wpAny _ _ (PySem.ret Value.none) _ _ _
        refine wpAny_pure ⟨rfl, h', tk', rfl, hC, fun c ob hc e => ?_⟩
        refine mv.heap c ob (fun z => ?_) (Heap.get?_push_of_some _ (Heap.get?_push_of_some _ e))
        rcases (List.mem_cons.mp z) with z | z
        · exact absurd z (Nat.ne_of_lt hc)
        · have z2 := List.mem_singleton.mp z
          rw [Heap.size_push] at z2
          exact absurd z2 (Nat.ne_of_lt (Nat.lt_succ_of_lt hc))
    · match res2, hB with
      | .error e, hB => exact hB
      | .ok .next, hB => exact hB.elim
      | .ok .brk, hB => exact hB.elim
      | .ok .cont, hB => exact hB.elim
      | .ok (.ret r), hB =>
        obtain ⟨rfl, h', tk, rfl, q1, q2⟩ := hB
        repeat (any_goals (first | (assumption) | wp_step))
        exact fin _ _ q1 q2
end
end Vl
end
section
set_option autoImplicit false
set_option maxRecDepth 100000
/-! V40: len(set(texts)) as an expression. -/
namespace Vl
open PySem PySem.Spec PyProof.Rows L2
def tLenSetN (K : PySem.W.Frag) (ta : TE) : TE := fun σ H Q => ta σ H fun x H1 => ∃ l, ∃ xs : List Str, x = .ref l ∧ (SqL K H1 l (xs.map V.str) ∨ SqT K H1 l (xs.map V.str)) ∧ xs.length ≤ 4000 ∧ Q (.int ((metS xs xs.length).length : Nat)) H1
section
variable {X : Cx}
theorem strs_are : ∀ {xs : List Str} {us : List Value}, Vals (xs.map V.str) us → StrsAre us xs
  | [], _, .nil => .nil
  | x :: xs, _, .cons r t => by
    obtain ⟨tk, rfl⟩ := r
    exact .cons x tk (strs_are t)
theorem pe_lenSetN {a : Expr} {ta : TE} {p p2 q pos : Pos} (clm : X.calm = true) (g1 : Gl X "len") (m1 : X.mg "len" = none) (g2 : Gl X "set") (m2 : X.mg "set" = none) (ha : PE X a ta)
    (na : starEach [a] X.env = (false, eval a X.env) :: starEach [] X.env := by rfl) : PE X (.Call (.Name "len" p) [.Call (.Name "set" p2) [a] [] q] [] pos) (tLenSetN X.K ta) := by
  refine ⟨fun pins s σ H Q iv h => ?_⟩
  refine Call_ (ld_blt iv g1 m1 boot_len ?_)
  refine (PyProof.Rows.callWith_builtin1 (PyProof.Rows.args_cons ?_ rfl) rfl rfl)
  refine Call_ (ld_blt iv g2 m2 boot_set ?_)
  refine PyProof.Rows.callWith_type1 (PyProof.Rows.args_cons (thn (ha.run pins s σ H _ iv h) fun v s1 ⟨x, H1, iv1, rx, qx⟩ => PyProof.Rows.args_nil ?_) na) na rfl
  obtain ⟨l, xs, rfl, hq, few, qq⟩ := qx
  cases rx
  have room : xs.length + 1 < scanBound := by (unfold scanBound; omega)
  have fin : ∀ (h' : Heap) (tk : Nat), h'.SetOf (PySem.strKind X.prog X.w) s1.heap.objs.size (fun z => (metS xs xs.length).any (· == z)) (metS xs xs.length).length → (∀ c ob, c < s1.heap.objs.size → s1.heap.get? c = some ob → h'.get? c = some ob) →
      wpAny (model X.prog X.w) X.A (spliced (backTo pos (starEach [] X.env))) (fun us sB => wpAny (model X.prog X.w) X.A (call (.builtin "len") (Value.ref s1.heap.objs.size :: us)) (EP X pins σ Q) X.xe sB) X.xe { s1 with heap := h', toks := tk } := fun h' tk st kp => by
    refine (PyProof.Rows.args_nil ?_)
    obtain ⟨o, es, ep, t, ho, hex, hd, _, _, _, hf, hn⟩ := (st)
    have iv2 : Inv X pins σ H1 { s1 with heap := h', toks := tk } := iv1.kept fun c ob e => kp c ob (Heap.lt_size e) e
    have le := metS_le xs xs.length
    exact call_len_set ho hex hd hf (by rw [hn]; omega) ⟨.int _, H1, iv2.tok _, ⟨_, by rw [hn]⟩, qq⟩
  rcases hq with hq | hq
  · obtain ⟨its, r, pl, hz⟩ := iv1.list hq
    exact call_setN_list (iv1.ok.hd clm) pl.isList (by simpa using strs_are r) room fun h' tk st kp => fin h' tk st kp
  · obtain ⟨its, r, pl, hz⟩ := iv1.tuple hq
    exact call_setN_tuple (iv1.ok.hd clm) pl (by simpa using strs_are r) room fun h' tk st kp => fin h' tk st kp
end
/-! ### the denotation -/
def lenSetD : D → Option D
  | .list ds => match strsD ds with
    | some ss => if ss.length ≤ 4000 then some (.int ((metS ss ss.length).length : Nat)) else none
    | none => none
  | .tuple ds => match strsD ds with
    | some ss => if ss.length ≤ 4000 then some (.int ((metS ss ss.length).length : Nat)) else none
    | none => none
  | _ => none
def dLenSet (f : Env → M D) : Env → M D := fun env => bnd (f env) fun d => orNo (lenSetD d)
section
variable {Ex : Str → Hp → Prop} {X : Cx} {a : Expr} {f : Env → M D} {p p2 q pos : Pos}
theorem x_lenSet (clm : X.calm = true) (m1 : X.mg "len" = none) (m2 : X.mg "set" = none) (ha : XE Ex X .b a f) (g1 : Gl X "len" := by rfl) (g2 : Gl X "set" := by rfl)
    (na : starEach [a] X.env = (false, eval a X.env) :: starEach [] X.env := by rfl) : XE Ex X .v (.Call (.Name "len" p) [.Call (.Name "set" p2) [a] [] q] [] pos) (dLenSet f) := by
  obtain ⟨t, ht, qs⟩ := ha
  refine ⟨_, pe_lenSetN clm g1 m1 g2 m2 ht na, fun W A σ H env P Q k p => ?_⟩
  refine qs W A σ H env P _ k ((PostG.bnd k p).mono ?_)
  rintro d _ H1 _ _ ⟨P1, e1, p1, k1, post⟩ v r
  obtain ⟨n, hn, post⟩ := post_orNo post
  have main : ∀ (ds : List D) (l : Addr) (vs : List V), (SqL X.K H1 l vs ∨ SqT X.K H1 l vs) → Reps X.K A H1 ds vs → (match strsD ds with
      | some ss => if ss.length ≤ 4000 then some (PyData.int ((metS ss ss.length).length : Nat)) else none
      | none => none) = some n → ∃ l', ∃ xs : List Str, V.ref l = .ref l' ∧ (SqL X.K H1 l' (xs.map V.str) ∨ SqT X.K H1 l' (xs.map V.str)) ∧ xs.length ≤ 4000 ∧ Q (.int ((metS xs xs.length).length : Nat)) H1 := fun ds l vs hs hr hn => by
    cases hss : strsD ds with
    | none => rw [hss] at hn; cases hn
    | some ss =>
      rw [hss] at hn
      by_cases hl : ss.length ≤ 4000
      · simp only [if_pos hl] at hn
        cases hn
        rw [strsD_eq hss] at hr
        have ev := repsT_inv hr
        subst ev
        exact ⟨l, ss, rfl, hs, hl, post_here post p1 e1 _ rfl⟩
      · simp only [if_neg hl] at hn; cases hn
  cases d with
  | list ds =>
    obtain ⟨l, vs, rfl, hl, hr⟩ := r
    exact main ds l vs (.inl hl.sq) hr hn
  | tuple ds =>
    obtain ⟨l, vs, rfl, hl, hr⟩ := r
    exact main ds l vs (.inr hl.sq) hr hn
  | _ => cases hn
end
end Vl
end
section
set_option autoImplicit false
set_option maxRecDepth 100000
/-! V41: comprehensions over a list that a name owns. -/
namespace Vl
open PySem L2

/-- as ItOk, at one environment -/
def ItAt (K : PySem.W.Frag) (J : It) (gs : List (V × D)) (ds : List D) (σ : L2.St) (env : Env) : Prop := ∀ W A H P, EOk K W A σ H env P → (∀ g ∈ gs, Rep K A H g.2 g.1) →
  J.stop ds.length H ∧ (∀ i, i < ds.length → J.go i H) ∧ ∀ i x H', i < ds.length → J.yld i H x H' → Same H H' ∧ ∃ d, ds[i]? = some d ∧ Rep K A H' d x
def XIo (Ex : Str → Hp → Prop) (X : Cx) (tg iter : Expr) (f : Env → M (List D)) (vs : List Nat) : Prop := ∃ wi, PI X tg iter wi ∧ ∀ W A σ H env P R, EOk X.K W A σ H env P →
  PostG Ex W.pa H (f env P) (fun ds H1 => ∀ J gs, (∀ g ∈ gs, Rep X.K A H1 g.2 g.1) → ItAt X.K J gs ds (L2.wipe σ vs) (wipeE env vs) → R J H1) → wi σ H R
theorem wipe_off {i : Nat} {σ : L2.St} : ∀ {vs : List Nat}, i ∉ vs → (L2.wipe σ vs)[i]? = σ[i]?
  | [], _ => rfl
  | v :: vs, h => by
    unfold L2.wipe
    rw [List.getElem?_set_ne (fun z => h (by rw [z]; exact List.mem_cons_self))]
    exact wipe_off fun z => h (List.mem_cons_of_mem _ z)
theorem wipeE_off {i : Nat} {env : Env} : ∀ {vs : List Nat}, i ∉ vs → (wipeE env vs)[i]? = env[i]?
  | [], _ => rfl
  | v :: vs, h => by
    unfold wipeE
    rw [List.getElem?_set_ne (fun z => h (by rw [z]; exact List.mem_cons_self))]
    exact wipeE_off fun z => h (List.mem_cons_of_mem _ z)
def itOwn (i : Nat) : Env → M (List D) := fun env => match env[i]? with
  | some (.own ds) => ret ds
  | _ => no
section
variable {Ex : Str → Hp → Prop} {X : Cx} {tg : Expr} {x : Str} {pos : Pos}
theorem xi_own (i : Nat) {vs : List Nat} (hv : i ∉ vs := by decide) (hN : X.N[i]? = some x := by rfl) (hvis : Vis X.env.scope x := by first | exact Or.inl rfl | exact Or.inr (Or.inl rfl) | exact Or.inr (Or.inr rfl)) (hd : (x == ("__debug__" : Str)) = false := by decide)
    (hcd : (x == ("__classdict__" : Str)) = false := by decide) : XIo Ex X tg (.Name x pos) (itOwn i) vs := by
  refine ⟨_, pi_any (pe_var hN hvis hd hcd), fun W A σ H env P R k p => ?_⟩
  unfold itOwn at p
  cases h : env[i]? with
  | none => rw [h] at p; exact p.elim
  | some s =>
    rw [h] at p
    cases s with
    | own ds =>
      obtain ⟨o, e, a, us, rfl, ha, np, hl, r⟩ := k.at h
      refine ⟨.ref a, e, .inl ⟨a, rfl, ⟨us, .inl (.inl hl)⟩, post_here p k.pen _ [] (fun g hg => nomatch hg) ?_⟩⟩
      intro W' A' H' P' k' _
      have h' : (wipeE env vs)[i]? = some (.own ds) := by rw [wipeE_off hv]; exact h
      obtain ⟨o', e', a', us', eo, ha', np', hl', r'⟩ := k'.at h'
      rw [wipe_off hv, e] at e'
      cases e'
      cases eo
      have sq : SqL X.K H' a us' := .inl (.inl hl')
      refine ⟨⟨us', sq, by rw [r'.length]; exact Nat.le_refl _⟩, fun j hj => ?_, fun j y H2 hj hy => ?_⟩
      · obtain ⟨v, hv2, _⟩ := r'.get' (List.getElem?_eq_getElem hj)
        exact ⟨us', v, sq, hv2⟩
      · obtain ⟨rfl, hx⟩ := hy
        exact ⟨Same.refl _, r'.get (hx us' sq)⟩
    | _ => exact p.elim
end
section
variable {Ex : Str → Hp → Prop} {X : Cx} {tg elt iter c : Expr} {ifs : List Expr} {scope : Scope} {own : List (Str × Nat)} {pos : Pos} {it : Env → M (List D)} {gD : D → Env → Option Env} {fc : Env → M Bool} {fe : Env → M D} {sl : List Nat}
theorem lc_sdO {wi : TI} {vs : List Nat} (qi : ∀ W A σ H env P R, EOk X.K W A σ H env P → PostG Ex W.pa H (it env P) (fun ds H1 => ∀ J gs, (∀ g ∈ gs, Rep X.K A H1 g.2 g.1) → ItAt X.K J gs ds (L2.wipe σ vs) (wipeE env vs) → R J H1) → wi σ H R) (hsl : ∀ i ∈ sl, i ∈ vs) :
    Sd X.K Ex .f (tLc wi (TGof X.K sl gD) (TTof X.K Ex0 fc) (TEof X.K Ex0 .v fe) vs) (dComp it gD fc fe vs) := fun W A σ H env P Q k p => by
  refine qi W A σ H env P _ k ((PostG.bnd k p).mono ?_)
  rintro ds _ H1 _ _ ⟨P1, e1, p1, k1, post⟩ J gs hgs okJ Dd hD
  have kw := ((k1.keepsL gs hgs).wipe vs)
  have k0 := kw.avoid (o := .lst []) hD
  obtain ⟨h00, hnp⟩ := kw.none0 hD
  have sD := same_upd (o := .lst []) hD
  have hown : ∀ (i : Nat) (es : List D), (wipeE env vs)[i]? = some (SV.own es) → (L2.wipe σ vs)[i]? ≠ some (some (V.ref Dd)) := fun i es h1 h2 => by
    obtain ⟨o, e1, b, us, e2, hb, _, hl, _⟩ := kw.at h1
    rw [e1] at h2; cases h2; cases e2
    rw [hD] at hl; cases hl
  have post0 : PostG Ex W.pa H1 (compD gD fc fe ds 0 (wipeE env vs) P1) (fun ys H2 => ∀ accv, H2 Dd = some (.lst accv) → Reps X.K (ad A Dd) H2 ys accv → Q (.ref Dd) H2) := by
    refine (PostG.bnd k1 post).mono ?_
    rintro ys P2 H2 e2 p2 ⟨P3, e3, p3, k3, post3⟩ accv ha hr
    exact post_here post3 p3 e3 (e1.trans e3) (.ref Dd) ⟨Dd, accv, ys, rfl, rfl, fresh_back k.pen e1 p1 (.of hD), ha, hr⟩
  refine ⟨fun i m H => m = ds.length - i ∧ i ≤ ds.length ∧ ∃ P acc accv, EOk X.K { W with G := gs ++ W.G } (ad A Dd) (L2.wipe σ vs) H (wipeE env vs) P ∧ HExt W.pa H1 H ∧ H Dd = some (.lst accv) ∧ Reps X.K (ad A Dd) H acc accv ∧
      PostG Ex W.pa H1 (compD gD fc fe (ds.drop i) acc.length (wipeE env vs) P) (fun ys H2 => ∀ accv, H2 Dd = some (.lst accv) → Reps X.K (ad A Dd) H2 (acc ++ ys) accv → Q (.ref Dd) H2),
    ⟨_, rfl, Nat.zero_le _, P1, [], [], k0, HExt.of sD, upd_same, rfl, by rw [List.drop_zero]; exact post0⟩, ?_⟩
  rintro i m H2 ⟨rfl, hi, P2, acc, accv, k2, eH, hDd, hacc, post2⟩
  obtain ⟨ku, hr⟩ := k2.unkeepL
  obtain ⟨st, go, yl⟩ := okJ W (ad A Dd) H2 P2 ku hr
  by_cases hlt : i < ds.length
  · refine .inr ⟨go i hlt, fun H' => ∃ P acc accv, EOk X.K { W with G := gs ++ W.G } (ad A Dd) (L2.wipe σ vs) H' (wipeE env vs) P ∧ HExt W.pa H1 H' ∧ H' Dd = some (.lst accv) ∧ Reps X.K (ad A Dd) H' acc accv ∧
        PostG Ex W.pa H1 (compD gD fc fe (ds.drop (i + 1)) acc.length (wipeE env vs) P) (fun ys H2 => ∀ accv, H2 Dd = some (.lst accv) → Reps X.K (ad A Dd) H2 (acc ++ ys) accv → Q (.ref Dd) H2),
      fun H' q => ⟨ds.length - (i + 1), by omega, rfl, hlt, q⟩, fun x H3 hy => ?_⟩
    obtain ⟨sm, d, hd, rd⟩ := yl i x H3 hlt hy
    have ed : ds.drop i = d :: ds.drop (i + 1) := by
      rw [(List.drop_eq_getElem_cons hlt)]
      rw [List.getElem?_eq_getElem hlt] at hd
      rw [Option.some.inj hd]
    rw [ed] at post2
    unfold compD at post2
    cases htg : gD d (wipeE env vs) with
    | none => rw [htg] at post2; exact post2.elim
    | some e2 =>
      rw [htg] at post2
      have k3 := k2.stayS sm
      have e3 := eH.trans (HExt.of (pa := W.pa) sm)
      change PostG Ex W.pa H1 (bnd (noEx (fc e2)) _ P2) _ at post2
      unfold bnd noEx at post2
      refine ⟨{ W with G := gs ++ W.G }, ad A Dd, wipeE env vs, P2, d, e2, k3, rd, htg, fun σ4 w4 k4 => ⟨?_, ?_⟩⟩
      · rw [w4 vs hsl, wipe_mem fun _ h => h]
      · cases hfc : fc e2 P2 with
        | no => rw [hfc] at post2; exact post2.elim
        | ex c P5 => rw [hfc] at post2; exact post2.elim
        | ok b P5 =>
          rw [hfc] at post2
          refine ⟨{ W with G := gs ++ W.G }, ad A Dd, e2, P2, k4, ?_⟩
          rw [hfc]
          intro H5 e5 p5
          have k5 := k4.ext e5 p5
          have kb5 := k3.ext e5 p5
          have hD5 : H5 Dd = some (.lst accv) := e5.at (sm _ _ hDd) fun ⟨c, z⟩ => (hnp _ _ z).1 rfl
          have hacc5 := k3.reps e5 (k2.repsN sm hacc)
          cases b with
          | false => exact iteF ⟨P5, acc, accv, kb5, e3.trans e5, hD5, hacc5, post2⟩
          | true =>
            change PostG Ex W.pa H1 (bnd (noEx (fe e2)) _ P5) _ at post2
            unfold bnd noEx at post2
            refine iteT ?_
            cases hfe : fe e2 P5 with
            | no => rw [hfe] at post2; exact post2.elim
            | ex c P6 => rw [hfe] at post2; exact post2.elim
            | ok y P6 =>
              rw [hfe] at post2
              refine ⟨{ W with G := gs ++ W.G }, ad A Dd, e2, P5, k5, ?_⟩
              rw [hfe]
              intro H6 e6 p6 v rv
              have kb6 := kb5.ext e6 p6
              have hD6 : H6 Dd = some (.lst accv) := e6.at hD5 fun ⟨c, z⟩ => (hnp _ _ z).1 rfl
              have hacc6 := kb5.reps e6 hacc5
              by_cases hn : acc.length < 16777216
              · dsimp only at post2
                rw [if_pos hn] at post2
                obtain ⟨kp, stp⟩ := kb6.poke (a := Dd) (o := .lst (accv ++ [v])) (.inr rfl) (by rw [hD6]; trivial) h00 hnp nt_lst hown (.inl ⟨_, hD6⟩)
                refine ⟨accv, hD6, by rw [hacc6.length, sizeLine_eq]; exact hn, P6, acc ++ [y], accv ++ [v], kp, fun b u hb nb nt => ?_, upd_same, Reps.mono stp _ _ (hacc6.append (Reps.one rv)), ?_⟩
                · have hbD : b ≠ Dd := fun z => by subst z; rw [hD] at hb; cases hb
                  rw [upd_ne hbD]
                  exact (e3.trans (e5.trans e6)) b u hb nb nt
                · rw [List.length_append]; rw [List.length_singleton]
                  change PostG Ex W.pa H1 (bnd _ _ P6) _ at post2
                  unfold bnd at post2
                  cases hr : compD gD fc fe (ds.drop (i + 1)) (acc.length + 1) (wipeE env vs) P6 with
                  | no => rw [hr] at post2; exact post2.elim
                  | ex c P7 => rw [hr] at post2; exact post2
                  | ok ys P7 =>
                    rw [hr] at post2
                    intro H7 e7 p7 accv7 h7 r7
                    exact post2 H7 e7 p7 accv7 h7 (by rw [List.append_assoc] at r7; exact r7)
              · dsimp only at post2
                rw [if_neg hn] at post2; exact post2.elim
  · have ei : i = ds.length := by omega
    subst ei
    rw [List.drop_length] at post2
    exact .inl ⟨st, post2 H2 eH k2.pen accv hDd (by rw [List.append_nil]; exact hacc)⟩
theorem x_lcO (hc : X.calm = true) (hN : X.N.Nodup) (hi : XIo Ex X tg iter it (own.map (·.2))) (ok : BlkOk X.N X.env.scope scope own)
    (hg : ∀ (s : Shared) (H : Hp) (C : Addr) (cl : List (Str × Addr)) (fp : List Addr), XG (X.blk s H scope (compEnvC scope cl C X.env) fp) tg sl gD)
    (ht : ∀ (s : Shared) (H : Hp) (C : Addr) (cl : List (Str × Addr)) (fp : List Addr), XTs Ex0 (X.blk s H scope (compEnvC scope cl C X.env) fp) ifs fc)
    (he : ∀ (s : Shared) (H : Hp) (C : Addr) (cl : List (Str × Addr)) (fp : List Addr), XE Ex0 (X.blk s H scope (compEnvC scope cl C X.env) fp) .v elt fe)
    (hsl : ∀ i ∈ sl, i ∈ own.map (·.2) := by decide) (hs : ∀ x, foldedSetIterable iter X.env x = pure x := by intro _; rfl) :
    XE Ex X .f (.ListComp elt [⟨tg, iter, ifs, 0⟩] scope pos) (dComp it gD fc fe (own.map (·.2))) := by
  obtain ⟨wi, hwi, qi⟩ := hi
  exact ⟨_, pe_lc hc hN hwi ok (g := TGof X.K sl gD) (tt := TTof X.K Ex0 fc) (te := TEof X.K Ex0 .v fe) (fun s H C cl fp => (hg s H C cl fp).can) (fun s H C cl fp => (ht s H C cl fp).can) (fun s H C cl fp => (he s H C cl fp).can) hs, lc_sdO qi hsl⟩
theorem xs_setLcO {kd : Kd} {y : Str} {py spos : Pos} (i : Nat) (hc : X.calm = true) (hN : X.N.Nodup) (hi : XIo Ex X tg iter it (own.map (·.2))) (ok : BlkOk X.N X.env.scope scope own)
    (hg : ∀ (s : Shared) (H : Hp) (C : Addr) (cl : List (Str × Addr)) (fp : List Addr), XG (X.blk s H scope (compEnvC scope cl C X.env) fp) tg sl gD)
    (ht : ∀ (s : Shared) (H : Hp) (C : Addr) (cl : List (Str × Addr)) (fp : List Addr), XTs Ex0 (X.blk s H scope (compEnvC scope cl C X.env) fp) ifs fc)
    (he : ∀ (s : Shared) (H : Hp) (C : Addr) (cl : List (Str × Addr)) (fp : List Addr), XE Ex0 (X.blk s H scope (compEnvC scope cl C X.env) fp) .v elt fe)
    (hsw : swapsWith (.ListComp elt [⟨tg, iter, ifs, 0⟩] scope pos) (some (.Name y py)) spos.line X.env = pure true) (hy : X.N[i]? = some y := by rfl) (hyl : X.env.scope.names.lookup y = some .local := by rfl)
    (hsl : ∀ i ∈ sl, i ∈ own.map (·.2) := by decide) (hs : ∀ x, foldedSetIterable iter X.env x = pure x := by intro _; rfl) :
    XS Ex kd X (.Assign [.Name y py] (.ListComp elt [⟨tg, iter, ifs, 0⟩] scope pos) spos) (sOwn i (dComp it gD fc fe (own.map (·.2)))) := by
  obtain ⟨wi, hwi, qi⟩ := hi
  refine ⟨_, ps_setLc hc hN hy hyl hsw hwi ok (g := TGof X.K sl gD) (tt := TTof X.K Ex0 fc) (te := TEof X.K Ex0 .v fe) (fun s H C cl fp => (hg s H C cl fp).can) (fun s H C cl fp => (ht s H C cl fp).can) (fun s H C cl fp => (he s H C cl fp).can) hs, fun W A σ H env P De k p => ?_⟩
  refine lc_sdO qi hsl W A σ H env P _ k ((PostS.bnd k p).mono ?_)
  rintro d _ H1 _ _ ⟨P1, e1, p1, k1, post⟩ v ⟨a, vs, ds, rfl, rfl, hn, hl, r⟩
  exact post _ _ H1 (k.setO e1 p1 i hn hl r)
end
end Vl
end
section
set_option autoImplicit false
set_option maxRecDepth 100000
/-! V42: x, y, z = a, b, [..] where z owns its list. -/
namespace Vl
open PySem L2
def sPar3O (i j l : Nat) (fa fb fc : Env → M D) : Env → M Fl := fun env => bnd (fa env) fun x => bnd (fb env) fun y => bnd (fc env) fun d => match d with
  | .list ds => ret (.nx (((env.set i (.v x)).set j (.v y)).set l (.own ds)))
  | _ => no
section
variable {Ex : Str → Hp → Prop} {kd : Kd} {X : Cx} {a b c : Expr} {x y z : Str} {px py pz pos pt pt2 : Pos} {kt k2 : Nat} {fa fb fc : Env → M D}
theorem xs_par3O (i j l : Nat) (hc : X.calm = true) (hN : X.N.Nodup) (ea : XE Ex X .v a fa) (eb : XE Ex X .v b fb) (ec : XE Ex X .f c fc) (hw : swappedStores [.Tuple [.Name x px, .Name y py, .Name z pz] kt pt] (.Tuple [a, b, c] k2 pt2) X.env = pure (some [x, y, z])) (hi : X.N[i]? = some x := by rfl) (hj : X.N[j]? = some y := by rfl) (hl : X.N[l]? = some z := by rfl)
    (hij : i ≠ j := by decide) (hil : i ≠ l := by decide) (hjl : j ≠ l := by decide) (hx : X.env.scope.names.lookup x = some .local := by rfl) (hy : X.env.scope.names.lookup y = some .local := by rfl) (hz : X.env.scope.names.lookup z = some .local := by rfl)
    (hs : swapsWithSole [.Tuple [.Name x px, .Name y py, .Name z pz] kt pt] (.Tuple [a, b, c] k2 pt2) pos.line X.env = pure false := by rfl)
    (s1 : starEach [a, b, c] X.env = (false, eval a X.env) :: starEach [b, c] X.env := by rfl) (s2 : starEach [b, c] X.env = (false, eval b X.env) :: starEach [c] X.env := by rfl) (s3 : starEach [c] X.env = (false, eval c X.env) :: starEach [] X.env := by rfl) :
    XS Ex kd X (.Assign [.Tuple [.Name x px, .Name y py, .Name z pz] kt pt] (.Tuple [a, b, c] k2 pt2) pos) (sPar3O i j l fa fb fc) := by
  obtain ⟨ta, hta, qa⟩ := ea
  obtain ⟨tb, htb, qb⟩ := eb
  obtain ⟨tc, htc, qc⟩ := ec
  refine ⟨_, ps_par3 hc hN hi hj hl hij hil hjl hx hy hz (pa_cons hta (pa_cons htb (pa_cons htc pa_nil s3) s2) s1) hw hs, fun W A σ H env P De k p => ?_⟩
  refine qa W A σ H env P _ k ((PostS.bnd k p).mono ?_)
  rintro d1 _ H1 _ _ ⟨P1, e1, p1, k1, post1⟩ v1 r1
  refine qb W A σ H1 env P1 _ k1 ((PostS.bnd k1 post1).mono ?_)
  rintro d2 _ H2 _ _ ⟨P2, e2, p2, k2, post2⟩ v2 r2
  refine qc W A σ H2 env P2 _ k2 ((PostS.bnd k2 post2).mono ?_)
  rintro d3 _ H3 _ _ ⟨P3, e3, p3, k3, post3⟩ v3 ⟨q, us, ds, rfl, rfl, hn, hq, r3⟩
  refine ⟨v1, v2, .ref q, rfl, ?_⟩
  exact post3 _ _ H3 (((k2.setV i (k1.rep e2 r1)).setV j r2).setO e3 p3 l hn hq r3)
end
end Vl
end
section
set_option autoImplicit false
set_option maxRecDepth 100000
/-! V43: dict of a list of pairs; list of a dict; dict comprehensions. -/
namespace Vl
open PySem L2

/-- pairs told as tuples of two -/
def pairsD : List D → Option (List (D × D))
  | [] => some []
  | .tuple [k, d] :: r => (pairsD r).map ((k, d) :: ·)
  | _ :: _ => none
theorem rep_key {K : PySem.W.Frag} {A : AS} {H : Hp} {k : D} {x : V} {q : Key} (hq : keyOf k = some q) (h : Rep K A H k x) : x = kV q := by
  rw [keyD_of hq] at h
  cases q <;> exact h
theorem reps_pairs {K : PySem.W.Frag} {A : AS} {H : Hp} : ∀ {xs : List D} {vs : List V} {prs : List (D × D)} {ks : List (Key × D)}, Reps K A H xs vs → pairsD xs = some prs → keysOf prs = some ks →
    ∃ (ps : List Addr) (kv : List (Key × V)), vs = ps.map V.ref ∧ Paired (fun p kv => SqT K H p [kV kv.1, kv.2]) ps kv ∧ RepKs K A H ks kv
  | [], _, _, ks, h, e, e2 => by
    cases (show _ = [] from h)
    cases e
    cases e2
    exact ⟨[], [], rfl, .nil, rfl⟩
  | x :: r, _, prs, ks, ⟨v, t, ev0, h1, h2⟩, e, e2 => by
    subst ev0
    cases x with
    | tuple ys =>
      match ys, h1, e with
      | [k, d], h1, e =>
        obtain ⟨prs', ep, rfl⟩ := Option.map_eq_some_iff.mp (show (pairsD r).map ((k, d) :: ·) = some prs from e)
        obtain ⟨q, hq, e3⟩ := Option.bind_eq_some_iff.mp (show ((keyOf k).bind fun q => (keysOf prs').map fun t => (q, d) :: t) = some ks from e2)
        obtain ⟨ks', ek, rfl⟩ := Option.map_eq_some_iff.mp e3
        obtain ⟨ps, kv, rfl, pp, rk⟩ := reps_pairs h2 ep ek
        obtain ⟨a, us, rfl, l, kx, us1, rfl, g1, dx, us2, rfl, g2, g3⟩ := h1
        cases (show us2 = [] from g3)
        have ekx := rep_key hq g1
        subst ekx
        exact ⟨a :: ps, (q, dx) :: kv, rfl, .cons l.sq pp, dx, kv, rfl, g2, rk⟩
      | [], _, e => exact absurd e (by simp [pairsD])
      | [_], _, e => exact absurd e (by simp [pairsD])
      | _ :: _ :: _ :: _, _, e => exact absurd e (by simp [pairsD])
    | _ => exact absurd e (by simp [pairsD])
def gDictL : List D → Option D
  | [.list xs] => (pairsD xs).bind fun prs => (keysOf prs).map fun ks => .dict (dMerge [] ks)
  | _ => none
def gKeysL : List D → Option D
  | [.dict kvs] => if isErr kvs = true then none else some (.list (kvs.map (·.1)))
  | _ => none
section
variable {K : PySem.W.Frag}
/-- the new dict is locked for good -/
def rFrz (r : List V → Hp → VK → Prop) : List V → Hp → VK → Prop := fun xs H Q => r xs H fun v H1 => ∃ a kvs, v = .ref a ∧ H1 a = some (.dK kvs) ∧ ∀ o, Q v (upd H1 a (.frz o (.dK kvs)))
theorem call_frz {X : Cx} {f : Value} {r : List V → Hp → VK → Prop} (h : CallR X f r) : CallR X f (rFrz r) := by
  intro pins s σ H xs us Q I rv q
  refine thn (h pins s σ H xs us _ I rv q) fun v s1 ⟨x, H1, I1, rx, a, kvs, ex, ha, q1⟩ => ?_
  obtain ⟨o, I2⟩ := I1.lock ha trivial
  exact ⟨x, _, I2, rx, q1 o⟩
def rDictL (K : PySem.W.Frag) : List V → Hp → VK → Prop := fun xs H Q => ∃ (a : Addr) (ps : List Addr) (kvs : List (Key × V)), xs = [.ref a] ∧ SqL K H a (ps.map V.ref) ∧ Paired (fun p kv => SqT K H p [kV kv.1, kv.2]) ps kvs ∧
    ∀ p, H p = none → Q (.ref p) (upd H p (.dK (mergeK [] kvs)))
theorem cd_dictL : CallD K .v (rFrz (rDictL K)) gDictL := by
  intro W A σ H env P vs ds d Q k rs hg q
  match ds, rs, hg with
  | [d0], rs, hg =>
    obtain ⟨v, rfl, r⟩ := one_arg rs
    cases d0 with
    | list xs =>
      obtain ⟨prs, e1, e2⟩ := Option.bind_eq_some_iff.mp (show ((pairsD xs).bind fun prs => (keysOf prs).map fun ks => PyData.dict (dMerge [] ks)) = some d from hg)
      obtain ⟨ks, e3, rfl⟩ := Option.map_eq_some_iff.mp e2
      obtain ⟨a, vs, rfl, l, r⟩ := r
      obtain ⟨ps, kv, rfl, pp, rk⟩ := reps_pairs r e1 e3
      refine ⟨a, ps, kv, rfl, l.sq, pp, fun p hp => ⟨p, _, rfl, upd_same, fun o => ?_⟩⟩
      rw [upd_twice]
      have s := same_upd (o := .frz o (.dK (mergeK [] kv))) hp
      refine q _ _ s (Rep.ofD ⟨⟨o, upd_same⟩, k.new hp⟩ (RepD.mono (fun b u h _ n => ⟨s b u h, n⟩) _ _ (RepD.merge rk (show RepD K A H [] [] from rfl))))
    | _ => cases hg
  | [], _, hg => cases hg
  | _ :: _ :: _, _, hg => simp [gDictL] at hg
theorem call_dictL {X : Cx} (hc : X.calm = true) : CallR X (.type "dict") (rFrz (rDictL X.K)) := call_frz (call_dictP hc)
def rKeysL : List V → Hp → VK → Prop := fun xs H Q => ∃ (a : Addr) (kvs : List (Key × V)), xs = [.ref a] ∧ Rd H a (.dK kvs) ∧ ∀ p, H p = none → Q (.ref p) (upd H p (.lst (kvs.map fun kv => kV kv.1)))
theorem call_keysL {X : Cx} (hc : X.calm = true) : CallR X (.type "list") rKeysL := call_listD hc
theorem keys_reps {A : AS} {H H' : Hp} {A' : AS} : ∀ {kvs : List (D × D)} {kv : List (Key × V)}, RepD K A H kvs kv → Reps K A' H' (kvs.map (·.1)) (kv.map fun p => kV p.1)
  | [], _, h => by cases (show _ = [] from h); rfl
  | (k, d) :: r, _, ⟨q, v, t, e, ek, h1, h2⟩ => by
    subst e
    subst ek
    exact ⟨kV q, _, rfl, by cases q <;> rfl, keys_reps h2⟩
theorem cd_keysL : CallD K .f rKeysL gKeysL := by
  intro W A σ H env P vs ds d Q k rs hg q
  match ds, rs, hg with
  | [d0], rs, hg =>
    obtain ⟨v, rfl, r⟩ := one_arg rs
    cases d0 with
    | dict kvs =>
      cases hE : isErr kvs with
      | true => rw [show gKeysL [.dict kvs] = if isErr kvs = true then none else some (.list (kvs.map (·.1))) from rfl, if_pos hE] at hg; cases hg
      | false =>
      rw [show gKeysL [.dict kvs] = if isErr kvs = true then none else some (.list (kvs.map (·.1))) from rfl, if_neg (by rw [hE]; exact Bool.false_ne_true)] at hg
      cases hg
      obtain ⟨a, kv, rfl, l, r⟩ := Rep.dk (show Rep K A H (.dict kvs) v from r) hE
      refine ⟨a, kv, rfl, l.rd, fun p hp => ?_⟩
      exact q _ _ (same_upd hp) ⟨p, _, _, rfl, rfl, .of hp, upd_same, keys_reps r⟩
    | _ => cases hg
  | [], _, hg => cases hg
  | _ :: _ :: _, _, hg => simp [gKeysL] at hg
end
/-! ### comprehensions -/
def dcD (tg : D → Env → Option Env) (ts : Env → M Bool) (ek : Env → M D) (el : Env → M D) : List D → List (D × D) → Env → M (List (D × D))
  | [], acc, _ => ret acc
  | d :: ds, acc, env => match tg d env with
    | none => no
    | some e1 => bnd (noEx (ts e1)) fun b => if b then bnd (noEx (ek e1)) fun y => bnd (noEx (el e1)) fun z => (match keyOf y with
        | some q => if acc.length < 16777216 then dcD tg ts ek el ds (dPutK acc q z) env else no
        | none => no) else dcD tg ts ek el ds acc env
def dDComp (it : Env → M (List D)) (tg : D → Env → Option Env) (ts : Env → M Bool) (ek el : Env → M D) (vs : List Nat) : Env → M D := fun env => bnd (it env) fun ds => bnd (dcD tg ts ek el ds [] (wipeE env vs)) fun kvs => ret (.dict kvs)
theorem RepD.len {K : PySem.W.Frag} {A : AS} {H : Hp} : ∀ {kvs : List (D × D)} {kv : List (Key × V)}, RepD K A H kvs kv → kv.length = kvs.length
  | [], _, h => by cases (show _ = [] from h); rfl
  | (k, d) :: r, _, ⟨q, v, t, e, ek, h1, h2⟩ => by subst e; rw [List.length_cons, List.length_cons, RepD.len h2]
section
variable {Ex : Str → Hp → Prop} {X : Cx} {tg kx vx iter c : Expr} {ifs : List Expr} {scope : Scope} {own : List (Str × Nat)} {pos : Pos} {it : Env → M (List D)} {gD : D → Env → Option Env} {fc : Env → M Bool} {fk fe : Env → M D} {sl : List Nat}
theorem dc_sd {wi : TI} {vs : List Nat} (qi : ∀ W A σ H env P R, EOk X.K W A σ H env P → PostG Ex W.pa H (it env P) (fun ds H1 => ∀ J gs, (∀ g ∈ gs, Rep X.K A H1 g.2 g.1) → ItOk X.K J gs ds → R J H1) → wi σ H R) (hsl : ∀ i ∈ sl, i ∈ vs) :
    Sd X.K Ex .v (tFrz (tDc wi (TGof X.K sl gD) (TTof X.K Ex0 fc) (TEof X.K Ex0 .v fk) (TEof X.K Ex0 .v fe) vs)) (dDComp it gD fc fk fe vs) := fun W A σ H env P Q k p => by
  refine qi W A σ H env P _ k ((PostG.bnd k p).mono ?_)
  rintro ds _ H1 _ _ ⟨P1, e1, p1, k1, post⟩ J gs hgs okJ Dd hD
  have kw := ((k1.keepsL gs hgs).wipe vs)
  have k0 := kw.avoid (o := .dK []) hD nt_dK
  obtain ⟨h00, hnp⟩ := kw.none0 hD
  have sD := same_upd (o := .dK []) hD
  have hA := k1.new hD
  have hown : ∀ (i : Nat) (es : List D), (wipeE env vs)[i]? = some (SV.own es) → (L2.wipe σ vs)[i]? ≠ some (some (V.ref Dd)) := fun i es h1 h2 => by
    obtain ⟨o, e1, b, us, e2, hb, _, hl, _⟩ := kw.at h1
    rw [e1] at h2; cases h2; cases e2
    rw [hD] at hl; cases hl
  have hownD : ∀ (i : Nat) (es : List (D × D)), (wipeE env vs)[i]? = some (SV.ownD es) → (L2.wipe σ vs)[i]? ≠ some (some (V.ref Dd)) := fun i es h1 h2 => by
    obtain ⟨o, e1, b, us, e2, hb, _, hl, _⟩ := kw.at h1
    rw [e1] at h2; cases h2; cases e2
    rw [hD] at hl; cases hl
  have post0 : PostG Ex W.pa H1 (dcD gD fc fk fe ds [] (wipeE env vs) P1) (fun kvs H2 => ∀ kv, H2 Dd = some (.dK kv) → RepD X.K (ad A Dd) H2 kvs kv → ∃ a kvs, V.ref Dd = .ref a ∧ H2 a = some (.dK kvs) ∧ ∀ o, Q (.ref Dd) (upd H2 a (.frz o (.dK kvs)))) := by
    have pb := PostG.bnd k1 post
    cases hm : dcD gD fc fk fe ds [] (wipeE env vs) P1 with
    | no => rw [hm] at pb; exact pb
    | ex c P2 => rw [hm] at pb; exact pb
    | ok kvs P2 =>
      rw [hm] at pb
      intro H2 e2 p2 kv ha hr
      refine ⟨Dd, kv, rfl, ha, fun o => ?_⟩
      have e2' : HExt W.pa H1 (upd H2 Dd (.frz o (.dK kv))) := fun b u h n nt => by
        have hb : b ≠ Dd := fun z => by subst z; rw [hD] at h; cases h
        rw [upd_ne hb]
        exact e2 b u h n nt
      have p2' : PenOk W.pa (upd H2 Dd (.frz o (.dK kv))) P2 := ⟨fun p c z => by
        obtain ⟨q1, q2, q3⟩ := p2.1 p c z
        exact ⟨q1, by rw [upd_ne (hnp p c z).1.symm]; exact q2, by rw [upd_ne (hnp p c z).2.symm]; exact q3⟩, tabs_upd p2.2.1 (by rw [ha]; trivial), p2.2.2⟩
      obtain ⟨P3, e3, p3, k3, post3⟩ := pb _ e2' p2'
      exact post_here post3 p3 e3 (e1.trans e3) (.ref Dd) (Rep.ofD ⟨⟨o, upd_same⟩, hA⟩ (RepD.mono (fun b u h _ n => ⟨(upd_ne (fun z => n (.inr z))).trans h, fun z => n (.inl z)⟩) _ _ hr))
  refine ⟨fun i m H => m = ds.length - i ∧ i ≤ ds.length ∧ ∃ P acc kv, EOk X.K { W with G := gs ++ W.G } (ad A Dd) (L2.wipe σ vs) H (wipeE env vs) P ∧ HExt W.pa H1 H ∧ H Dd = some (.dK kv) ∧ RepD X.K (ad A Dd) H acc kv ∧
      PostG Ex W.pa H1 (dcD gD fc fk fe (ds.drop i) acc (wipeE env vs) P) (fun kvs H2 => ∀ kv, H2 Dd = some (.dK kv) → RepD X.K (ad A Dd) H2 kvs kv → ∃ a kvs, V.ref Dd = .ref a ∧ H2 a = some (.dK kvs) ∧ ∀ o, Q (.ref Dd) (upd H2 a (.frz o (.dK kvs)))),
    ⟨_, rfl, Nat.zero_le _, P1, [], [], k0, HExt.of sD, upd_same, rfl, by rw [List.drop_zero]; exact post0⟩, ?_⟩
  rintro i m H2 ⟨rfl, hi, P2, acc, kv, k2, eH, hDd, hacc, post2⟩
  obtain ⟨ku, hr⟩ := k2.unkeepL
  obtain ⟨st, go, yl⟩ := okJ W (ad A Dd) _ H2 _ P2 ku hr
  by_cases hlt : i < ds.length
  · refine .inr ⟨go i hlt, fun H' => ∃ P acc kv, EOk X.K { W with G := gs ++ W.G } (ad A Dd) (L2.wipe σ vs) H' (wipeE env vs) P ∧ HExt W.pa H1 H' ∧ H' Dd = some (.dK kv) ∧ RepD X.K (ad A Dd) H' acc kv ∧
        PostG Ex W.pa H1 (dcD gD fc fk fe (ds.drop (i + 1)) acc (wipeE env vs) P) (fun kvs H2 => ∀ kv, H2 Dd = some (.dK kv) → RepD X.K (ad A Dd) H2 kvs kv → ∃ a kvs, V.ref Dd = .ref a ∧ H2 a = some (.dK kvs) ∧ ∀ o, Q (.ref Dd) (upd H2 a (.frz o (.dK kvs)))),
      fun H' q => ⟨ds.length - (i + 1), by omega, rfl, hlt, q⟩, fun x H3 hy => ?_⟩
    obtain ⟨sm, d, hd, rd⟩ := yl i x H3 hlt hy
    have ed : ds.drop i = d :: ds.drop (i + 1) := by
      rw [(List.drop_eq_getElem_cons hlt)]
      rw [List.getElem?_eq_getElem hlt] at hd
      rw [Option.some.inj hd]
    rw [ed] at post2
    unfold dcD at post2
    cases htg : gD d (wipeE env vs) with
    | none => rw [htg] at post2; exact post2.elim
    | some e2 =>
      rw [htg] at post2
      have k3 := k2.stayS sm
      have e3 := eH.trans (HExt.of (pa := W.pa) sm)
      change PostG Ex W.pa H1 (bnd (noEx (fc e2)) _ P2) _ at post2
      unfold bnd noEx at post2
      refine ⟨{ W with G := gs ++ W.G }, ad A Dd, wipeE env vs, P2, d, e2, k3, rd, htg, fun σ4 w4 k4 => ⟨?_, ?_⟩⟩
      · rw [w4 vs hsl, wipe_mem fun _ h => h]
      · cases hfc : fc e2 P2 with
        | no => rw [hfc] at post2; exact post2.elim
        | ex c P5 => rw [hfc] at post2; exact post2.elim
        | ok b P5 =>
          rw [hfc] at post2
          refine ⟨{ W with G := gs ++ W.G }, ad A Dd, e2, P2, k4, ?_⟩
          rw [hfc]
          intro H5 e5 p5
          have k5 := k4.ext e5 p5
          have kb5 := k3.ext e5 p5
          have hD5 : H5 Dd = some (.dK kv) := e5.at (sm _ _ hDd) (fun ⟨c, z⟩ => (hnp _ _ z).1 rfl) nt_dK
          have mv : ∀ {Ha Hb : Hp} {Pa : Pen} {σa : L2.St} {ea : Env}, EOk X.K { W with G := gs ++ W.G } (ad A Dd) σa Ha ea Pa → HExt W.pa Ha Hb → ∀ {u : List (D × D)} {w : List (Key × V)}, RepD X.K (ad A Dd) Ha u w → RepD X.K (ad A Dd) Hb u w := fun ka ea _ _ r => RepD.mono (stay_ext ea ka.penA) _ _ r
          have hacc5 := mv k3 e5 (mv k2 (HExt.of sm) hacc)
          cases b with
          | false => exact iteF ⟨P5, acc, kv, kb5, e3.trans e5, hD5, hacc5, post2⟩
          | true =>
            change PostG Ex W.pa H1 (bnd (noEx (fk e2)) _ P5) _ at post2
            unfold bnd noEx at post2
            refine iteT ?_
            cases hfk : fk e2 P5 with
            | no => rw [hfk] at post2; exact post2.elim
            | ex c P6 => rw [hfk] at post2; exact post2.elim
            | ok y P6 =>
              rw [hfk] at post2
              refine ⟨{ W with G := gs ++ W.G }, ad A Dd, e2, P5, k5, ?_⟩
              rw [hfk]
              intro H6 e6 p6 vy ry
              have k6 := k5.ext e6 p6
              have kb6 := kb5.ext e6 p6
              have hD6 : H6 Dd = some (.dK kv) := e6.at hD5 (fun ⟨c, z⟩ => (hnp _ _ z).1 rfl) nt_dK
              have hacc6 := mv kb5 e6 hacc5
              change PostG Ex W.pa H1 (bnd (noEx (fe e2)) _ P6) _ at post2
              unfold bnd noEx at post2
              cases hfe : fe e2 P6 with
              | no => rw [hfe] at post2; exact post2.elim
              | ex c P7 => rw [hfe] at post2; exact post2.elim
              | ok z P7 =>
                rw [hfe] at post2
                refine ⟨{ W with G := gs ++ W.G }, ad A Dd, e2, P6, k6, ?_⟩
                rw [hfe]
                intro H7 e7 p7 vz rz
                have kb7 := kb6.ext e7 p7
                have hD7 : H7 Dd = some (.dK kv) := e7.at hD6 (fun ⟨c, z⟩ => (hnp _ _ z).1 rfl) nt_dK
                have hacc7 := mv kb6 e7 hacc6
                dsimp only at post2
                cases hk : keyOf y with
                | none => rw [hk] at post2; exact post2.elim
                | some q =>
                  rw [hk] at post2
                  have ey := rep_key hk ry
                  subst ey
                  by_cases hn : acc.length < 16777216
                  · dsimp only at post2
                    rw [if_pos hn] at post2
                    obtain ⟨kp, stp⟩ := kb7.poke (a := Dd) (o := .dK (putK kv q vz)) (.inr rfl) (by rw [hD7]; trivial) h00 hnp nt_dK hown (.inr hownD)
                    refine ⟨kv, q, rfl, hD7, by rw [hacc7.len, sizeLine_eq]; exact hn, P7, dPutK acc q z, putK kv q vz, kp, fun b u hb nb nt => ?_, upd_same, RepD.mono stp _ _ (RepD.put rz hacc7), ?_⟩
                    · have hbD : b ≠ Dd := fun z => by subst z; rw [hD] at hb; cases hb
                      rw [upd_ne hbD]
                      exact (e3.trans (e5.trans (e6.trans e7))) b u hb nb nt
                    · exact post2
                  · dsimp only at post2
                    rw [if_neg hn] at post2; exact post2.elim
  · have ei : i = ds.length := by omega
    subst ei
    rw [List.drop_length] at post2
    exact .inl ⟨st, post2 H2 eH k2.pen kv hDd hacc⟩
theorem x_dcomp (hc : X.calm = true) (hN : X.N.Nodup) (hi : XI Ex X tg iter it) (ok : BlkOk X.N X.env.scope scope own)
    (hg : ∀ (s : Shared) (H : Hp) (C : Addr) (cl : List (Str × Addr)) (fp : List Addr), XG (X.blk s H scope (compEnvC scope cl C X.env) fp) tg sl gD)
    (ht : ∀ (s : Shared) (H : Hp) (C : Addr) (cl : List (Str × Addr)) (fp : List Addr), XTs Ex0 (X.blk s H scope (compEnvC scope cl C X.env) fp) ifs fc)
    (hk : ∀ (s : Shared) (H : Hp) (C : Addr) (cl : List (Str × Addr)) (fp : List Addr), XE Ex0 (X.blk s H scope (compEnvC scope cl C X.env) fp) .v kx fk)
    (he : ∀ (s : Shared) (H : Hp) (C : Addr) (cl : List (Str × Addr)) (fp : List Addr), XE Ex0 (X.blk s H scope (compEnvC scope cl C X.env) fp) .v vx fe)
    (hsl : ∀ i ∈ sl, i ∈ own.map (·.2) := by decide) (hs : ∀ x, foldedSetIterable iter X.env x = pure x := by intro _; rfl) :
    XE Ex X .v (.DictComp kx vx [⟨tg, iter, ifs, 0⟩] scope pos) (dDComp it gD fc fk fe (own.map (·.2))) := by
  obtain ⟨wi, hwi, qi⟩ := hi
  exact ⟨_, pe_frz (pe_dc hc hN hwi ok (g := TGof X.K sl gD) (tt := TTof X.K Ex0 fc) (tk := TEof X.K Ex0 .v fk) (tv := TEof X.K Ex0 .v fe) (fun s H C cl fp => (hg s H C cl fp).can) (fun s H C cl fp => (ht s H C cl fp).can) (fun s H C cl fp => (hk s H C cl fp).can) (fun s H C cl fp => (he s H C cl fp).can) hs), dc_sd qi hsl⟩
end
end Vl
end
section
set_option autoImplicit false
set_option maxRecDepth 100000
/-! V44: dict(zip(..)). -/
namespace Vl
open PySem L2 PySem.W PySem.Calls PyProof.Rows PySem.SeqAt

/-- an iterator of zip has come, ahead of iter() -/
def ZipMade2 (X : Cx) (pins : List (Addr × Obj)) (σ : L2.St) (R : It → Hp → Prop) (v : Value) (s : Shared) : Prop :=
  ∃ (it : Addr) (fp : List Addr) (tn : Nat → Heap → Prop) (J : It) (H' : Hp), v = .ref it ∧ (∃ (o : Obj) (fs : Array Value), s.heap.get? it = some o ∧ o.cls = .type "zip" ∧ o.data = .fields fs ∧ o.dict = none) ∧ L2.Inv X pins σ H' s ∧ Turn X.prog X.w X.K nmT J fp it tn ∧ tn 0 s.heap ∧ (∀ b ∈ fp, FpOk X pins H' b) ∧ R J H'
theorem ev_zipN2 {X : Cx} {e : Expr} {es : List Expr} {ta : L2.TA} {p pos : Pos} (goH : Gl X "zip") (mgE : X.mg "zip" = none) (ha : PA X (e :: es) ta) (hs : starEach (e :: es) X.env = (false, eval e X.env) :: starEach es X.env := by rfl)
    (hpl : (backTo pos (starEach es X.env)).any (·.1) = false := by rfl) {pins : List (Addr × Obj)} {s : Shared} {σ : L2.St} {H : Hp} {R : It → Hp → Prop} (iv : L2.Inv X pins σ H s) (h : iZipA X.K ta σ H R) :
    wpAny (model X.prog X.w) X.A (eval (.Call (.Name "zip" p) (e :: es) [] pos) X.env) (ZipMade2 X pins σ R) X.xe s := by
  refine Call_ (ld_blt iv goH mgE boot_zip (PyProof.Rows.callWith_type1 (thn (ha.run pos pins s σ H _ iv h) fun us s2 ⟨ws, H1, iv2, rv, hne, hz, qs, hq, q⟩ => ?_) hs hpl))
  obtain ⟨ks, eu, hks, off, B, hat⟩ := kinds_all iv2 rv hq
  have ul : us.length = ks.length := by rw [eu, List.length_map]
  obtain ⟨u, us', rfl⟩ : ∃ u us', us = u :: us' := by
    cases us with
    | nil => exact absurd (List.length_eq_zero_iff.mp rv.length) hne
    | cons a b => exact ⟨a, b, rfl⟩
  refine zip_beginsN (by rw [← rv.length]; exact hz) B fun h' hz' tiH toH hit kpt => ?_
  have iv3 : L2.Inv X pins σ H1 { s2 with heap := h' } := iv2.kept (t' := s2.toks) kpt
  have ol : (ks.map SK.obj).length = ks.length := List.length_map _
  rw [ol] at hz' tiH toH ⊢
  generalize eN : s2.heap.objs.size = N at *
  have eJ : ((withAt N ks).map fun p => Value.ref p.2) = refsFrom N ks.length := by
    have : ((withAt N ks).map fun p => Value.ref p.2) = ((withAt N ks).map (·.2)).map Value.ref := by rw [List.map_map]; rfl
    rw [this, withAt_snd]; rfl
  have inC : ∀ c ∈ (N + ks.length + 2) :: (N + ks.length) :: (N + ks.length + 1) :: (withAt N ks).map (·.2), N ≤ c := fun c hc => by
    rw [withAt_snd] at hc
    rcases List.mem_cons.mp hc with q | hc
    · omega
    rcases List.mem_cons.mp hc with q | hc
    · omega
    rcases List.mem_cons.mp hc with q | hc
    · omega
    exact (List.mem_range'_1.mp hc).1
  have C : CellsN (N + ks.length + 2) (N + ks.length) (N + ks.length + 1) (withAt N ks) := by
    refine ⟨?_, fun p hp c hc => ?_⟩
    · rw [withAt_snd]
      refine List.pairwise_cons.mpr ⟨fun c hc => ?_, List.pairwise_cons.mpr ⟨fun c hc => ?_, List.pairwise_cons.mpr ⟨fun c hc => ?_, List.nodup_range'⟩⟩⟩
      · rcases List.mem_cons.mp hc with q | hc
        · rw [q]; show (N + ks.length + 2 : Nat) ≠ N + ks.length; omega
        rcases List.mem_cons.mp hc with q | hc
        · rw [q]; show (N + ks.length + 2 : Nat) ≠ N + ks.length + 1; omega
        have := (List.mem_range'_1.mp hc).2
        exact Nat.ne_of_gt (by omega)
      · rcases List.mem_cons.mp hc with q | hc
        · rw [q]; show (N + ks.length : Nat) ≠ N + ks.length + 1; omega
        have := (List.mem_range'_1.mp hc).2
        exact Nat.ne_of_gt (by omega)
      · have := (List.mem_range'_1.mp hc).2
        exact Nat.ne_of_gt (by omega)
    · obtain ⟨j, ej, _⟩ := withAt_mem hp
      exact off p.1 (List.mem_of_getElem? ej) c (inC c hc)
  have hJ : withAt N ks ≠ [] := fun z => by
    have := congrArg List.length z
    rw [withAt_len, ← ul] at this
    simp at this
  have T := turn_zipN (P := X.prog) (w := X.w) (K := X.K) (tg := nmT) C hJ (by rw [withAt_len, ← ul, ← rv.length]; exact hz)
  rw [withAt_fst] at T
  refine ⟨N + ks.length + 2, _, _, _, H1, rfl, ⟨_, _, hz', rfl, rfl, rfl⟩, iv3, T, ⟨⟨_, _, .inl rfl, hz'⟩, by rw [eJ]; exact tiH, ⟨_, by rw [List.length_map, refs_len, withAt_len], toH⟩, fun p hp => ?_⟩, fun c hc => ?_, q ks hks⟩
  · obtain ⟨j, ej, e2⟩ := withAt_mem hp
    rw [e2]
    exact hat p.1 (List.mem_of_getElem? ej) h' _ (hit j _ (by rw [List.getElem?_map, ej]; rfl))
  · have leb := inC c hc
    rw [← eN] at leb
    exact iv2.fpOk leb (iv2.hok.fresh leb)
/-- what the rest of the filling asks -/
def FillOk (K : PySem.W.Frag) (J : It) (S : Addr) (Q : Hp → Prop) : Nat → Nat → List (Key × V) → Hp → Prop
  | 0, i, acc, H => J.stop i H ∧ Q H
  | n + 1, i, acc, H => J.go i H ∧ acc.length < sizeLine ∧ ∀ x H', J.yld i H x H' → H' S = some (.dK acc) ∧ ∃ (b : Addr) (k : Key) (v : V), x = .ref b ∧ SqT K H' b [kV k, v] ∧ FillOk K J S Q n (i + 1) (putK acc k v) (upd H' S (.dK (putK acc k v)))
theorem let_first {α : Type} {M : Model} {A : Around} {it u : Value} {Q : α → Shared → Prop} {E : Value → Shared → Prop} {s : Shared} {m : Sem α} (h : wpAny M A (letOwnedTupleGo nmT it u) (fun _ s' => wpAny M A m Q E s') E s) : wpAny M A m Q E s := wpAny_bind h
section
variable {X : Cx} {pins : List (Addr × Obj)} {σ : L2.St} {J : It} {fp : List Addr} {it S : Addr} {tn : Nat → Heap → Prop} {Q : Hp → Prop} {A : Around} {R : Result → Shared → Prop}
theorem fillL (hh : A.handled = X.A.handled) (hf : A.frames = X.A.frames) (clm : X.calm = true) (T : Turn X.prog X.w X.K nmT J fp it tn) (hSf : S ∉ fp)
    (hend : ∀ s' H', L2.Inv X pins σ H' s' → Q H' → R (.ok (.ret .none)) s') :
    ∀ (n i : Nat) (c : Int) (t : Tok) (acc : List (Key × V)) (s : Shared) (H : Hp), L2.Inv X pins σ H s → H S = some (.dK acc) → tn i s.heap → (∀ b ∈ fp, FpOk X pins H b) → FillOk X.K J S Q n i acc H →
      codeAny (model X.prog X.w) A (.builtin "dict.update.loop" ⟨[.ref S, .ref it, .int c t, .none], []⟩) R s
  | 0, i, c, t, acc, s, H, iv, hS, st, fo, d => by
    refine (codeAny_builtin ud_entry ?_)
    rw [(Around.under_plainId ud_plain _)]
    show (wpAny _ A.in1 (pyNext (.ref it) >>= _) _ _ s)
    have iv' : L2.Inv { X with A := A.in1 } pins σ H s := Inv_around iv hh hf
    refine wpAny_bind (thn (T.done { X with A := A.in1 } rfl rfl rfl clm i pins s σ H _ iv' (fun b hb => fo b hb) st d.1) fun r s1 ⟨hr, iv1⟩ => ?_)
    subst hr
    show (wpAny _ A.in1 (Builtin.Dict.addKeywords S [] >>= _) _ _ _)
    exact wpAny_bind (wpAny_pure (wpAny_pure (hend s1 H (Inv_unaround iv1 hh.symm hf.symm) d.2)))
  | n + 1, i, c, t, acc, s, H, iv, hS, st, fo, d => by
    obtain ⟨go, hacc, next⟩ := d
    refine (codeAny_builtin ud_entry ?_)
    rw [(Around.under_plainId ud_plain _)]
    show (wpAny _ A.in1 (pyNext (.ref it) >>= _) _ _ s)
    have iv' : L2.Inv { X with A := A.in1 } pins σ H s := Inv_around iv hh hf
    refine wpAny_bind (thn (T.item { X with A := A.in1 } rfl rfl rfl clm i pins s σ H _ iv' (fun b hb => fo b hb) st go) fun r s1 ⟨u, hr, h1⟩ => ?_)
    subst hr
    refine let_first (thn h1 fun _ s2 ⟨x, H', iv2', rx, y, st2, nf⟩ => ?_)
    have iv2 : L2.Inv X pins σ H' s2 := Inv_unaround iv2' hh.symm hf.symm
    obtain ⟨hS', b, k, v, ex, sq, d'⟩ := next x H' y
    subst ex
    cases rx
    obtain ⟨its, rv, htup, _⟩ := iv2.tuple sq
    obtain ⟨ku, vu, ei, rk, rv2⟩ := vals2 rv
    subst ei
    obtain ⟨o, ho, hc, nn, hd⟩ := id htup
    show (wpAny _ A.in1 (holding [Value.ref b] _ >>= _) _ _ _)
    refine (wpAny_bind (wpAny_holding ?_))
    refine (wpAny_bind (wpAny_tryCatch ?_))
    unfold Builtin.Dict.pairItems
    refine (wpAny_bind (wpAny_typeOf (T := "tuple") ⟨o, ho, hc⟩ ?_))
    rw [(if_pos (by first | decide | rfl | simp))]
    refine (wpAny_bind (wpAny_seqItems ho hd (wpAny_pure ?_)))
    show wpAny _ A.in1 (holding [ku, vu] (dictSet S ku vu)) _ _ _
    obtain ⟨z, hd0, vs, rel, dd⟩ := dk_of iv2.hok hS'
    have hzv : (vs.length ≤ sizeLine) := by rw [← rel.length]; exact z
    have hl : (putK acc k v).length ≤ sizeLine := by have := length_putK acc k v; omega
    refine wpAny_holding (wpAny_dictSet_pairs (hsz := hzv) (kV_is rk) dd fun h' dd' hs => ?_)
    have he : ∃ q, h'.get? S = some q := let ⟨q, _, _, hq, _⟩ := dd'; ⟨q, hq⟩
    have iv3 : L2.Inv X pins σ (upd H' S (.dK (putK acc k v))) { s2 with heap := h', toks := s2.toks + 1 } := d_write (t' := s2.toks + 1) iv2 (by rw [hS']; trivial) hs he (dk_new hl hd0 (rel.put k rv2) dd')
    refine wpAny_pure ⟨plainId_quiet ud_plain _, fillL hh hf clm T hSf hend n (i + 1) (c + 1) 0 (putK acc k v) _ _ iv3 upd_same (T.keep _ _ _ st2 fun b hb o e => hs.extBut b o (fun z => hSf (by rw [← z]; exact hb)) e) (fun b hb => ?_) d'⟩
    obtain ⟨_, f⟩ := fo b hb
    refine ⟨?_, f⟩
    rw [upd_ne (show b ≠ S from fun z => hSf (by rw [← z]; exact hb))]
    exact nf b hb
end
section
variable {X : Cx} {pins : List (Addr × Obj)} {σ : L2.St}
theorem call_dict_zip (clm : X.calm = true) {Q : VK} {lv : Value} {s : Shared} (m : ZipMade2 X pins σ (fun J H1 => ∀ S, H1 S = none → ∃ n, FillOk X.K J S (fun H => Q (.ref S) H) n 0 [] (upd H1 S (.dK []))) lv s) :
    wpAny (model X.prog X.w) X.A (call (.type "dict") [lv]) (EP X pins σ Q) X.xe s := by
  obtain ⟨it, fp, tn, J, H1, rfl, ⟨oz, fs, hoz, hcz, hdz, hnz⟩, iv, T, st, fo, q⟩ := m
  have ilt : it < s.heap.objs.size := Heap.lt_size hoz
  have hSa : s.heap.objs.size ≠ it := Nat.ne_of_gt ilt
  have newS : H1 s.heap.objs.size = none := iv.hok.fresh (Nat.le_refl _)
  obtain ⟨n, dr⟩ := q _ newS
  have hA : X.A.handled = none := iv.ok.hd clm
  refine callType_codes (Q₁ := fun ob sA => ob = .ref s.heap.objs.size ∧ sA = { s with heap := s.heap.push { cls := .type "dict", data := .dict #[] } }) PySem.F.kt_called_dict (PySem.F.kt_typeCall_dict_1 _) PySem.F.entry_dict_init (PySem.kt_code_dict_new _ ⟨rfl, rfl⟩) fun ob sA hsA => ?_
  obtain ⟨rfl, rfl⟩ := hsA
  have hT : (Shared.TypeIs { s with heap := s.heap.push { cls := .type "dict", data := .dict #[] } } (.ref s.heap.objs.size) "dict") := ⟨_, Heap.get?_push_size _ rfl, rfl⟩
  refine ⟨hT, PySem.F.args_dict_init_2 _ _, ?_⟩
  have k0 : (∀ b o, s.heap.get? b = some o → (s.heap.push { cls := .type "dict", data := .dict #[] }).get? b = some o) := fun b o e => Heap.get?_push_of_some _ e
  (unfold Builtin.«dict.__init__»)
  refine wpAny_bind ?_
  (unfold Builtin.Dict.selfAndRest)
  refine (wpAny_bind (wpAny_notOrdered_dict hT ?_))
  show wpAny _ _ (pure (s.heap.objs.size, [Value.ref it])) _ _ _
  refine wpAny_pure ?_
  show wpAny _ X.A.in1.in1 (Builtin.Dict.updateFrom "dict.__init__" s.heap.objs.size (.ref it) [] .none) _ _ _
  (unfold Builtin.Dict.updateFrom)
  refine wpAny_bind (wpAny_typeOf (T := "zip") ⟨oz, k0 _ _ hoz, hcz⟩ ?_)
  rw [if_pos (by decide)]
  refine wpAny_bind (PySem.getAttrOr_miss_zip (k0 _ _ hoz) hcz hdz hnz PySem.zip_no_keys (by decide +kernel) hA fun h' tk' k1 => ?_)
  simp only [if_true, Option.isNone_none]
  refine (wpAny_bind (wpAny_rule ?_))
  have k2 : ∀ b o, s.heap.get? b = some o → h'.get? b = some o := fun b o e => k1 b o (k0 b o e)
  refine wpAny_bind (T.self _ 0 _ _ _ (T.keep 0 _ _ st fun b _ o e => k2 b o e) ?_)
  refine wpAny_pure ⟨plainId_quiet ud_plain _, ?_⟩
  have hm : (s.heap.objs.size == sysModules) = false := beq_eq_false_iff_ne.mpr (Nat.ne_of_gt iv.big)
  have dd : h'.DictOf (mixKind X.prog X.w) s.heap.objs.size [] := (Heap.DictOf.new s.heap).at' fun o e => k1 _ o e
  have iv4 := iv.laid (t' := tk') (a := s.heap.objs.size) (o := .dK []) k2 (Nat.le_refl _) (show ObjOk X.prog X.w _ _ _ (.dK []) from ⟨Nat.zero_le _, hm, [], .nil, dd⟩)
  refine fillL (A := X.A.in1) rfl rfl clm T (fun z => hSa ?_) (fun s' H' iv' q' => ⟨rfl, .ref s.heap.objs.size, H', iv', rfl, q'⟩) n 0 _ _ [] _ _ iv4 upd_same (T.keep 0 _ _ st fun b _ o e => k2 b o e) (fun b hb => ?_) dr
  · obtain ⟨o, e, _⟩ := T.obj _ _ st _ z
    exact absurd (Heap.lt_size e) (Nat.lt_irrefl _)
  · obtain ⟨f0, f⟩ := fo b hb
    refine ⟨?_, f⟩
    obtain ⟨o, e, _⟩ := T.obj _ _ st _ hb
    rw [upd_ne (Nat.ne_of_lt (Heap.lt_size e))]
    exact f0
def tDictZ (K : PySem.W.Frag) (ta : L2.TA) : TE := fun σ H Q => iZipA K ta σ H fun J H1 => ∀ S, H1 S = none → ∃ n, FillOk K J S (fun H => Q (.ref S) H) n 0 [] (upd H1 S (.dK []))
theorem pe_dictZip {e : Expr} {es : List Expr} {ta : L2.TA} {p p2 cpos pos : Pos} (clm : X.calm = true) (goL : Gl X "dict") (mgL : X.mg "dict" = none) (goZ : Gl X "zip") (mgZ : X.mg "zip" = none) (ha : PA X (e :: es) ta)
    (hs : starEach (e :: es) X.env = (false, eval e X.env) :: starEach es X.env := by rfl) (hpl : (backTo cpos (starEach es X.env)).any (·.1) = false := by rfl)
    (he : starEach [.Call (.Name "zip" p2) (e :: es) [] cpos] X.env = (false, eval (.Call (.Name "zip" p2) (e :: es) [] cpos) X.env) :: starEach [] X.env := by rfl) :
    PE X (.Call (.Name "dict" p) [.Call (.Name "zip" p2) (e :: es) [] cpos] [] pos) (tDictZ X.K ta) := by
  refine (⟨fun pins s σ H Q I hq => ?_⟩)
  refine wpAny_Call_Name_kw (ld_blt I goL mgL (by rfl) ?_)
  refine (PyProof.Rows.callWith_type1 ?_ he rfl)
  rw [he]
  show wpAny _ _ (spliced ((false, eval (.Call (.Name "zip" p2) (e :: es) [] cpos) X.env) :: backTo pos (starEach [] X.env))) _ _ s
  refine Calls.spliced_cons (thn (ev_zipN2 goZ mgZ ha hs hpl I hq) fun u s1 hm => ?_)
  exact Calls.spliced_nil (call_dict_zip clm hm)
end
/-! ### the denotation -/
def dDictZ (g : Env → M (List D)) : Env → M D := fun env => bnd (g env) fun ds => bnd (orNo (zipAllD ds)) fun rows => if rows.length ≤ 16777216 then bnd (orNo (pairsD rows)) fun prs => bnd (orNo (keysOf prs)) fun ks => ret (.dict (dMerge [] ks)) else no
theorem pairs_get : ∀ {rows : List D} {prs : List (D × D)} {ks : List (Key × D)} (i : Nat) {d : D}, pairsD rows = some prs → keysOf prs = some ks → rows[i]? = some d → ∃ (q : Key) (v : D), d = .tuple [keyD q, v] ∧ ks[i]? = some (q, v)
  | [], _, _, i, d, _, _, h => by simp at h
  | x :: r, prs, ks, i, d, e, e2, h => by
    cases x with
    | tuple ys =>
      match ys, e with
      | [k, z], e =>
        obtain ⟨prs', ep, rfl⟩ := Option.map_eq_some_iff.mp (show (pairsD r).map ((k, z) :: ·) = some prs from e)
        obtain ⟨q, hq, e3⟩ := Option.bind_eq_some_iff.mp (show ((keyOf k).bind fun q => (keysOf prs').map fun t => (q, z) :: t) = some ks from e2)
        obtain ⟨ks', ek, rfl⟩ := Option.map_eq_some_iff.mp e3
        cases i with
        | zero =>
          cases h
          exact ⟨q, z, by rw [← keyD_of hq], rfl⟩
        | succ i => exact pairs_get i ep ek h
      | [], e => exact absurd e (by simp [pairsD])
      | [_], e => exact absurd e (by simp [pairsD])
      | _ :: _ :: _ :: _, e => exact absurd e (by simp [pairsD])
    | _ => exact absurd e (by simp [pairsD])
theorem pairs_len : ∀ {rows : List D} {prs : List (D × D)} {ks : List (Key × D)}, pairsD rows = some prs → keysOf prs = some ks → ks.length = rows.length
  | [], _, _, e, e2 => by cases e; cases e2; rfl
  | x :: r, prs, ks, e, e2 => by
    cases x with
    | tuple ys =>
      match ys, e with
      | [k, z], e =>
        obtain ⟨prs', ep, rfl⟩ := Option.map_eq_some_iff.mp (show (pairsD r).map ((k, z) :: ·) = some prs from e)
        obtain ⟨q, hq, e3⟩ := Option.bind_eq_some_iff.mp (show ((keyOf k).bind fun q => (keysOf prs').map fun t => (q, z) :: t) = some ks from e2)
        obtain ⟨ks', ek, rfl⟩ := Option.map_eq_some_iff.mp e3
        rw [List.length_cons, List.length_cons, pairs_len ep ek]
      | [], e => exact absurd e (by simp [pairsD])
      | [_], e => exact absurd e (by simp [pairsD])
      | _ :: _ :: _ :: _, e => exact absurd e (by simp [pairsD])
    | _ => exact absurd e (by simp [pairsD])
theorem dMerge_snoc (a : List (D × D)) (ks : List (Key × D)) (q : Key) (v : D) : dMerge a (ks ++ [(q, v)]) = dPutK (dMerge a ks) q v := by
  unfold dMerge
  rw [List.foldl_append]
  rfl
section
variable {Ex : Str → Hp → Prop} {X : Cx} {e : Expr} {es : List Expr} {g : Env → M (List D)} {p p2 cpos pos : Pos}
theorem fill_sd {K : PySem.W.Frag} {W : Wd} {A : AS} {σ : L2.St} {env : Env} {H1 : Hp} {P1 : Pen} {rows : List D} {prs : List (D × D)} {kds : List (Key × D)} {J : It} {gs : List (V × D)} {S : Addr} {Q : Hp → Prop} (hlen : rows.length ≤ 16777216) (hp : pairsD rows = some prs) (hks : keysOf prs = some kds) (k : EOk K W A σ H1 env P1) (hg : ∀ g ∈ gs, Rep K A H1 g.2 g.1) (ok : ItOk K J gs rows) (hS : H1 S = none)
    (hQ : ∀ H2 kv, HExt W.pa H1 H2 → PenOk W.pa H2 P1 → H2 S = some (.dK kv) → RepD K (ad A S) H2 (dMerge [] kds) kv → Q H2) :
    ∃ n, FillOk K J S Q n 0 [] (upd H1 S (.dK [])) := by
  have k0 := (k.keepsL gs hg).avoid (o := .dK []) hS nt_dK
  obtain ⟨h00, hnp⟩ := k.none0 hS
  have hown : ∀ (i : Nat) (es : List D), env[i]? = some (SV.own es) → σ[i]? ≠ some (some (V.ref S)) := fun i es h1 h2 => by
    obtain ⟨o, e1, b, us, e2, hb, _, hl, _⟩ := k.at h1
    rw [e1] at h2; cases h2; cases e2
    rw [hS] at hl; cases hl
  have hownD : ∀ (i : Nat) (es : List (D × D)), env[i]? = some (SV.ownD es) → σ[i]? ≠ some (some (V.ref S)) := fun i es h1 h2 => by
    obtain ⟨o, e1, b, us, e2, hb, _, hl, _⟩ := k.at h1
    rw [e1] at h2; cases h2; cases e2
    rw [hS] at hl; cases hl
  have kl := pairs_len hp hks
  have main : ∀ (n i : Nat) (acc : List (Key × V)) (H : Hp), n = rows.length - i → i ≤ rows.length → EOk K { W with G := gs ++ W.G } (ad A S) σ H env P1 → HExt W.pa H1 H → H S = some (.dK acc) → acc.length ≤ i → RepD K (ad A S) H (dMerge [] (kds.take i)) acc → FillOk K J S Q n i acc H := by
    intro n
    induction n with
    | zero =>
      intro i acc H hn hi k2 eH hH hal hr
      have ei : i = rows.length := by omega
      subst ei
      obtain ⟨ku, hr2⟩ := k2.unkeepL
      obtain ⟨st, go, yl⟩ := ok W (ad A S) _ H _ P1 ku hr2
      rw [← kl, List.take_length] at hr
      exact ⟨st, hQ H acc eH k2.pen hH hr⟩
    | succ n ih =>
      intro i acc H hn hi k2 eH hH hal hr
      obtain ⟨ku, hr2⟩ := k2.unkeepL
      obtain ⟨st, go, yl⟩ := ok W (ad A S) _ H _ P1 ku hr2
      have hlt : i < rows.length := by omega
      refine ⟨go i hlt, by rw [sizeLine_eq]; omega, fun x H' y => ?_⟩
      obtain ⟨sm, d, hd, rd⟩ := yl i x H' hlt y
      obtain ⟨q, dv, rfl, hq⟩ := pairs_get i hp hks hd
      obtain ⟨a, us, rfl, l, kx, us1, rfl, g1, dx, us2, rfl, g2, g3⟩ := rd
      cases (show us2 = [] from g3)
      have ekx := rep_key (keyOf_keyD q) g1
      subst ekx
      have hH' : H' S = some (.dK acc) := sm _ _ hH
      have k3 := k2.stayS sm
      have hr' : RepD K (ad A S) H' (dMerge [] (kds.take i)) acc := RepD.mono (stay_ext (HExt.of (pa := W.pa) sm) k2.penA) _ _ hr
      obtain ⟨kp, stp⟩ := k3.poke (a := S) (o := .dK (putK acc q dx)) (.inr rfl) (by rw [hH']; trivial) h00 hnp nt_dK hown (.inr hownD)
      refine ⟨hH', a, q, dx, rfl, l.sq, ih (i + 1) _ _ (by omega) hlt kp (fun b u hb nb nt => ?_) upd_same (by have := length_putK acc q dx; omega) ?_⟩
      · have hbD : b ≠ S := fun z => by subst z; rw [hS] at hb; cases hb
        rw [upd_ne hbD]
        exact sm _ _ (eH b u hb nb nt)
      · have et : kds.take (i + 1) = kds.take i ++ [(q, dv)] := by rw [List.take_add_one, hq]; rfl
        rw [et, dMerge_snoc]
        exact RepD.mono stp _ _ (RepD.put g2 hr')
  exact ⟨rows.length, main _ 0 [] _ (by omega) (Nat.zero_le _) k0 (HExt.of (same_upd (o := .dK []) hS)) upd_same (Nat.zero_le _) rfl⟩
theorem x_dictZ (clm : X.calm = true) (mgL : X.mg "dict" = none) (mgZ : X.mg "zip" = none) (ha : XA Ex X (e :: es) g) (goL : Gl X "dict" := by rfl) (goZ : Gl X "zip" := by rfl)
    (hs : starEach (e :: es) X.env = (false, eval e X.env) :: starEach es X.env := by rfl) (hpl : (backTo cpos (starEach es X.env)).any (·.1) = false := by rfl)
    (he : starEach [.Call (.Name "zip" p2) (e :: es) [] cpos] X.env = (false, eval (.Call (.Name "zip" p2) (e :: es) [] cpos) X.env) :: starEach [] X.env := by rfl) :
    XE Ex X .v (.Call (.Name "dict" p) [.Call (.Name "zip" p2) (e :: es) [] cpos] [] pos) (dDictZ g) := by
  obtain ⟨t, ht, q⟩ := ha
  refine ⟨_, pe_frz (pe_dictZip clm goL mgL goZ mgZ ht hs hpl he), fun W A σ H env P Q k p => ?_⟩
  refine q W A σ H env P _ k ((PostG.bnd k p).mono ?_)
  rintro ds _ H1 _ _ ⟨P1, e1, p1, k1, post⟩ ws hr
  cases hz : zipAllD ds with
  | none => simp only [hz] at post; exact post.elim
  | some rows =>
  simp only [hz] at post
  obtain ⟨ass, n, hw, hl, hne, hlen, rfl⟩ := zipAll_of hz
  obtain ⟨qs, a1, a2⟩ := srcs_all hw hr
  have wl := hr.length
  refine ⟨fun z => ?_, by rw [wl, sizeLine_eq]; exact hlen, qs, a1, fun ks hk S hS => ?_⟩
  · have := walkAll_len hw
    rw [z] at wl
    exact hne (List.length_eq_zero_iff.mp (by rw [this, ← wl]; rfl))
  · change PostG Ex W.pa H1 ((if (rowsD ass n).length ≤ 16777216 then bnd (orNo (pairsD (rowsD ass n))) fun prs => bnd (orNo (keysOf prs)) fun ks => ret (PyData.dict (dMerge [] ks)) else no) P1) _ at post
    by_cases hn : (rowsD ass n).length ≤ 16777216
    · rw [if_pos hn] at post
      cases hp : pairsD (rowsD ass n) with
      | none => simp only [hp] at post; exact post.elim
      | some prs =>
      simp only [hp] at post
      cases hks : keysOf prs with
      | none =>
        change PostG Ex W.pa H1 (bnd (orNo (keysOf prs)) (fun ks => ret (PyData.dict (dMerge [] ks))) P1) _ at post
        simp only [hks] at post
        exact post.elim
      | some kds =>
      change PostG Ex W.pa H1 (bnd (orNo (keysOf prs)) (fun ks => ret (PyData.dict (dMerge [] ks))) P1) _ at post
      simp only [hks] at post
      refine fill_sd hn hp hks k1 (reps_zip hr) (it_zipN hw hl hk a2 wl) hS fun H2 kv e2 p2 h2 r2 => ?_
      refine ⟨S, kv, rfl, h2, fun o => ?_⟩
      obtain ⟨_, hnp⟩ := k1.none0 hS
      have e2' : HExt W.pa H1 (upd H2 S (.frz o (.dK kv))) := fun b u h n nt => by
        have hb : b ≠ S := fun z => by subst z; rw [hS] at h; cases h
        rw [upd_ne hb]
        exact e2 b u h n nt
      have p2' : PenOk W.pa (upd H2 S (.frz o (.dK kv))) P1 := ⟨fun p c z => by
        obtain ⟨q1, q2, q3⟩ := p2.1 p c z
        exact ⟨q1, by rw [upd_ne (hnp p c z).1.symm]; exact q2, by rw [upd_ne (hnp p c z).2.symm]; exact q3⟩, tabs_upd p2.2.1 (by rw [h2]; trivial), p2.2.2⟩
      exact post _ e2' p2' (e1.trans e2') (.ref S) (Rep.ofD ⟨⟨o, upd_same⟩, k1.new hS⟩ (RepD.mono (fun b u h _ n => ⟨(upd_ne (fun z => n (.inr z))).trans h, fun z => n (.inl z)⟩) _ _ r2))
    · rw [if_neg hn] at post; exact post.elim
end
end Vl
end
section
set_option autoImplicit false
set_option maxRecDepth 100000
/-! V45: x, y = a, [..] with y an own list. -/
namespace Vl
open PySem L2

def sPar2O (i j : Nat) (fa fb : Env → M D) : Env → M Fl := fun env => bnd (fa env) fun x => bnd (fb env) fun d => match d with
  | .list ds => ret (.nx ((env.set i (.v x)).set j (.own ds)))
  | _ => no
section
variable {Ex : Str → Hp → Prop} {kd : Kd} {X : Cx} {a b : Expr} {x y : Str} {px py pos pt pt2 : Pos} {kt k2 : Nat} {fa fb : Env → M D}
theorem xs_par2O (i j : Nat) (hc : X.calm = true) (hN : X.N.Nodup) (ea : XE Ex X .v a fa) (eb : XE Ex X .f b fb) (hw : swappedStores [.Tuple [.Name x px, .Name y py] kt pt] (.Tuple [a, b] k2 pt2) X.env = pure (some [x, y])) (hi : X.N[i]? = some x := by rfl) (hj : X.N[j]? = some y := by rfl)
    (hij : i ≠ j := by decide) (hx : X.env.scope.names.lookup x = some .local := by rfl) (hy : X.env.scope.names.lookup y = some .local := by rfl)
    (hs : swapsWithSole [.Tuple [.Name x px, .Name y py] kt pt] (.Tuple [a, b] k2 pt2) pos.line X.env = pure false := by rfl)
    (s1 : starEach [a, b] X.env = (false, eval a X.env) :: starEach [b] X.env := by rfl) (s2 : starEach [b] X.env = (false, eval b X.env) :: starEach [] X.env := by rfl) :
    XS Ex kd X (.Assign [.Tuple [.Name x px, .Name y py] kt pt] (.Tuple [a, b] k2 pt2) pos) (sPar2O i j fa fb) := by
  obtain ⟨ta, hta, qa⟩ := ea
  obtain ⟨tb, htb, qb⟩ := eb
  refine ⟨_, ps_par hc hN hi hj hij hx hy (pa_cons hta (pa_cons htb pa_nil s2) s1) hw hs, fun W A σ H env P De k p => ?_⟩
  refine qa W A σ H env P _ k ((PostS.bnd k p).mono ?_)
  rintro d1 _ H1 _ _ ⟨P1, e1, p1, k1, post1⟩ v1 r1
  refine qb W A σ H1 env P1 _ k1 ((PostS.bnd k1 post1).mono ?_)
  rintro d2 _ H2 _ _ ⟨P2, e2, p2, k2, post2⟩ v2 ⟨q, us, ds, rfl, rfl, hn, hq, r2⟩
  refine ⟨v1, .ref q, rfl, ?_⟩
  exact post2 _ _ H2 ((k1.setV i r1).setO e2 p2 j hn hq r2)
end
end Vl
end
section
set_option autoImplicit false
set_option maxRecDepth 100000
/-! V60: errors as values: made, asked for their class, their text. -/
namespace Vl
open PySem L2 PySem.W PySem.Calls PyProof.Rows PySem.SeqAt

section
variable {X : Cx} {pins : List (Addr × Obj)} {σ : L2.St} {H : Hp} {s : Shared} {h' : Heap} {t e : Addr} {o1 o2 : HO}
theorem un_two {fs ex : List Addr} {h : Heap} (k : ∀ b u, h.get? b = some u → h'.get? b = some u) (ht : h.get? t = none) (he : h.get? e = none) (nt : H t = none) (ne : H e = none) : Un fs ex H (upd (upd H t o1) e o2) h h' := by
  have same : ∀ b u, h.get? b = some u → upd (upd H t o1) e o2 b = H b := fun b u q => by
    rw [upd_ne (fun z => by rw [z, he] at q; cases q), upd_ne (fun z => by rw [z, ht] at q; cases q)]
  have hold : ∀ b u, H b = some u → upd (upd H t o1) e o2 b = H b := fun b u q => by
    rw [upd_ne (ne_of_none q ne), upd_ne (ne_of_none q nt)]
  exact ⟨fun b u q _ _ _ => k b u q, fun b u q _ _ _ => ⟨u.slots, k b u q⟩, fun b u q n _ => by rw [same b u q]; exact n, fun b u q _ => ⟨u, k b u q⟩, fun b xs q => by rw [hold b _ q]; exact q, fun b o u q => by rw [hold b _ q]; exact q, fun b ps q => ⟨#[], by rw [hold b _ q, q]; simp⟩⟩
theorem inv_two {t' : Nat} (I : L2.Inv X pins σ H s) (k : ∀ b u, s.heap.get? b = some u → h'.get? b = some u) (ht : s.heap.get? t = none) (he : s.heap.get? e = none) (n1 : ObjOk X.prog X.w (upd (upd H t o1) e o2) h' t o1) (n2 : ObjOk X.prog X.w (upd (upd H t o1) e o2) h' e o2) :
    L2.Inv X pins σ (upd (upd H t o1) e o2) { s with heap := h', toks := t' } := by
  have nt := I.hok.gone ht
  have ne := I.hok.gone he
  refine I.un (un_two k ht he nt ne) fun b u q => ?_
  by_cases hb : b = e
  · subst hb
    rw [upd_same] at q
    cases q
    exact n2
  · rw [upd_ne hb] at q
    by_cases hb2 : b = t
    · subst hb2
      rw [upd_same] at q
      cases q
      exact n1
    · rw [upd_ne hb2] at q
      have hold : ∀ b u, H b = some u → upd (upd H t o1) e o2 b = some u := fun b u q => by
        rw [upd_ne (ne_of_none q ne), upd_ne (ne_of_none q nt)]; exact q
      exact (I.hok b u q).stay (fun c v _ q => k c v q) (fun c q => hold c _ q) fun c xs q => hold c _ q
end
/-! ### C(text) -/
abbrev txO (z : Str) (tk : Tok) : Obj := { cls := .type "tuple", data := .seq #[.str z tk] }
abbrev erO (C b : Addr) : Obj := { cls := .ref C, data := .fields #[.ref b, .none, .none, .none, .bool false, .none] }
def tErr (C : Addr) (te : TE) : TE := fun σ H Q => te σ H fun v H1 => ∃ z, v = .str z ∧ ∀ (b a : Addr) (tk : Tok), H1 b = none → H1 a = none → b ≠ a → Q (.ref a) (upd (upd H1 b (.frz (txO z tk) (.tup [.str z]))) a (.frz (erO C b) (.ext fun _ => True)))
theorem pe_err {X : Cx} {C : Addr} {bmB : List Value} {B newId initId : String} {x : Str} {e : Expr} {ta : TE} {p pos : Pos} (F : ExcBaseFacts B newId initId bmB) (q : PySem.W.excIn X.K C bmB newId = true) (gC : X.mg x = some (.ref C)) (kC : PySem.W.keepIn X.K (.ref C) = true) (hg : Gl X x)
    (he : PE X e ta) (hs : starEach [e] X.env = (false, eval e X.env) :: starEach [] X.env := by exact rfl) (hdb : (x == ("__debug__" : Str)) = false := by decide) :
    PE X (.Call (.Name x p) [e] [] pos) (tErr C ta) := by
  refine (⟨fun pins s σ H Q I h => ?_⟩)
  refine (wpAny_Call_Name_kw (ld_glob I hg gC ?_ hdb))
  refine (PySem.W.callWith_K (h₀ := X.base) I.ok.mod.kin kC ?_ hs (by rfl))
  rw [hs]
  show (wpAny _ _ (spliced ((false, eval e X.env) :: backTo pos (starEach [] X.env))) _ _ s)
  refine Calls.spliced_cons (thn (he.run pins s σ H _ I h) fun u s1 ⟨v, H1, I1, r1, z, ez, q1⟩ => ?_)
  refine (Calls.spliced_nil ⟨I1.kIn, ?_⟩)
  show (wpAny _ _ (call (.ref C) [u]) _ _ _)
  subst ez
  obtain ⟨tk, rfl⟩ := r1
  obtain ⟨bm, N, nm, qn, bs, hdct, sn, sub, ab, col, dd, k0, k1, k2, k3, k5, mN, hC, hN, hni, T⟩ := (exc_obj I1.kIn q)
  refine wpAny_call_exc_subT F T hC hN hni (fun gz e made => ?_) (by show 1 ≤ sizeLine; rw [sizeLine_eq]; omega)
  obtain ⟨b, hea, hbn, htup⟩ := made.there
  have hne : b ≠ e := fun z => by
    subst z
    rw [hea] at htup
    cases htup
  refine ⟨.ref e, _, inv_two (t' := s1.toks) (o1 := .frz (txO z tk) (.tup [.str z])) (o2 := .frz (erO C b) (.ext fun _ => True)) I1 made.keeps hbn made.new ⟨htup, by show 1 ≤ sizeLine; decide, [.str z tk], .cons ⟨_, rfl⟩ .nil, ⟨_, htup, rfl, _, rfl⟩⟩ ⟨hea, trivial, ⟨_, hea⟩, fun _ _ _ _ => trivial⟩, rfl, q1 b e tk (I1.hok.gone hbn) (I1.hok.gone made.new) hne⟩
def dErr (c : Str) (f : Env → M D) : Env → M D := fun env => bnd (f env) fun
  | .str z => ret (errD c (.str z))
  | _ => no
section
variable {Ex : Str → Hp → Prop} {X : Cx} {C : Addr} {bmB : List Value} {B newId initId : String} {x c : Str} {e : Expr} {fa : Env → M D} {p p2 pos : Pos}
theorem x_err (F : ExcBaseFacts B newId initId bmB) (q : PySem.W.excIn X.K C bmB newId = true) (gC : X.mg x = some (.ref C)) (kC : PySem.W.keepIn X.K (.ref C) = true) (hC : C = He.ga X.K x) (ha : XE Ex X .v e fa) (hg : Gl X x := by rfl)
    (hs : starEach [e] X.env = (false, eval e X.env) :: starEach [] X.env := by rfl) (hdb : (x == ("__debug__" : Str)) = false := by decide) : XE Ex X .v (.Call (.Name x p) [e] [] pos) (dErr x fa) := by
  obtain ⟨t, ht, q0⟩ := ha
  refine ⟨_, pe_err F q gC kC hg ht hs hdb, fun W A σ H env P Q k p => ?_⟩
  refine q0 W A σ H env P _ k ((PostG.bnd k p).mono ?_)
  rintro d _ H1 _ _ ⟨P1, e1, p1, k1, post⟩ v r
  cases d with
  | str z =>
    cases (show v = .str z from r)
    refine ⟨z, rfl, fun b a tk hb ha hne => ?_⟩
    have sA := same_upd (o := .frz (txO z tk) (.tup [.str z])) hb
    have ha2 : upd H1 b (.frz (txO z tk) (.tup [.str z])) a = none := by rw [upd_ne (Ne.symm hne)]; exact ha
    have sB := same_upd (o := .frz (erO C b) (.ext fun _ => True)) ha2
    have s : Same H1 (upd (upd H1 b (.frz (txO z tk) (.tup [.str z]))) a (.frz (erO C b) (.ext fun _ => True))) := fun c o q => sB c o (sA c o q)
    exact post_ret post s p1 (e1.trans (HExt.of s)) (.ref a) ⟨a, rfl, .inr ⟨x, .str z, erO C b, rfl, upd_same, k1.new ha, by show Value.ref C = _; rw [hC], ⟨_, rfl⟩, rfl, ⟨_, b, txO z tk, rfl, rfl, by rw [upd_ne hne]; exact upd_same, k1.new hb⟩⟩⟩
  | _ => exact post.elim
end
/-! ### isinstance(e, C) -/
def rIsEr (K : PySem.W.Frag) : List V → Hp → VK → Prop := fun xs H Q => ∃ (a D : Addr) (c : V) (cv : Value) (b : Bool) (o : Obj), xs = [.ref a, c] ∧ H a = some (.frz o (.ext fun _ => True)) ∧ o.cls = .ref D ∧ (∃ vs, o.data = .fields vs) ∧ o.dict = none ∧ L2.ExcC K D ∧ (∀ u, RelV c u → u = cv) ∧ PySem.W.kitOne K (.ref D) cv = some b ∧ Q (.bl b) H
theorem call_isErr {X : Cx} : CallR X (.builtin "isinstance") (rIsEr X.K) := by
  intro pins s σ H xs; intro us Q I r h
  obtain ⟨a, D, c, cv, b, o, rfl, ha, hc, ⟨vs, hv⟩, hd, C, hcv, e, q⟩ := h
  cases r with
  | cons rx rr =>
    cases rr with
    | cons rt rr =>
      cases rr
      cases rx
      have ec := hcv _ rt
      subst ec
      have hget : s.heap.get? a = some o := (I.hok a _ ha).1
      have J : PySem.W.InstAt s.heap a o D none := by
        obtain ⟨oc, od, oda, osl⟩ := o
        dsimp only at hc hd hv
        subst hc hd hv
        exact (⟨hget, rfl, rfl, trivial⟩)
      exact (PySem.W.kia_one (PySem.W.handS_kitx_exc C.hg C.hk C.hs C.hd C.ha C.hn C.ht C.hm) I.kIn J e (fun z => nomatch z) fun tk => ⟨.bl b, H, I.kept (t' := tk) fun _ _ z => z, rfl, q⟩)
def errOf : D → Option Str
  | .dict [(.none, .str c), (.none, _)] => some c
  | _ => none
def dIsEr (nm : List Str) (isa : Str → Bool) (f : Env → M D) : Env → M D := fun env => bnd (f env) fun d => match errOf d with
  | some c => if c ∈ nm then ret (.bool (isa c)) else no
  | none => no
theorem errOf_is {d : D} {c : Str} (h : errOf d = some c) : ∃ t, d = errD c t := by
  unfold errOf at h
  split at h
  · cases h; exact ⟨_, rfl⟩
  · cases h
theorem err_rep {K : PySem.W.Frag} {A : AS} {H : Hp} {c : Str} {t : D} {v : V} (h : Rep K A H (errD c t) v) : ∃ a o, v = .ref a ∧ H a = some (.frz o (.ext fun _ => True)) ∧ ¬ A a ∧ o.cls = .ref (He.ga K c) ∧ (∃ vs, o.data = .fields vs) ∧ o.dict = none ∧ ErrTx A H o t := by
  obtain ⟨a, e, ⟨kv, _, r⟩ | ⟨c', t', o, e2, h1, h2, h3, h4, h5, h6⟩⟩ := h
  · have := r.plain
    cases this
  · cases e2
    exact ⟨a, o, e, h1, h2, h3, h4, h5, h6⟩
section
variable {Ex : Str → Hp → Prop} {X : Cx} {C : Addr} {x c : Str} {T : String} {e : Expr} {fa : Env → M D} {p p2 pos : Pos} {nm : List Str} {isa : Str → Bool}
theorem x_isErr (ha : XE Ex X .b e fa) (hx : ∀ c ∈ nm, L2.ExcC X.K (He.ga X.K c)) (hk : ∀ c ∈ nm, PySem.W.kitOne X.K (.ref (He.ga X.K c)) (.ref C) = some (isa c)) (gC : X.mg c = some (.ref C)) (hm : X.mg x = none) (hv : bootBuiltins x = some (.builtin "isinstance")) (hg : Gl X x := by rfl) (hgC : Gl X c := by rfl) (hn : x ≠ "__name__" := by decide)
    (hdb : ((x == ("__debug__" : Str))) = false := by decide) (hdc : (c == ("__debug__" : Str)) = false := by decide) (h1 : starEach [e, .Name c p2] X.env = (false, eval e X.env) :: starEach [.Name c p2] X.env := by rfl)
    (h2 : starEach [Expr.Name c p2] X.env = (false, eval (.Name c p2) X.env) :: starEach [] X.env := by rfl) (hpl : (backTo pos (starEach [Expr.Name c p2] X.env)).any (·.1) = false := by rfl) : XE Ex X .v (.Call (.Name x p) [e, .Name c p2] [] pos) (dIsEr nm isa fa) := by
  obtain ⟨t, ht, q⟩ := ha
  refine ⟨_, pe_callB call_isErr hg hm hv (pa_cons ht (pa_cons (pe_glob (v := .ref C) hgC gC rfl hdc) pa_nil h2) h1) hn hdb h1 hpl, fun W A σ H env P Q k p => ?_⟩
  refine q W A σ H env P _ k ((PostG.bnd k p).mono ?_)
  rintro d _ H1 _ _ ⟨P1, e1, p1, k1, post⟩ v r
  cases he : errOf d with
  | none => simp only [he] at post; exact post.elim
  | some c' =>
    simp only [he] at post
    obtain ⟨t', rfl⟩ := errOf_is he
    by_cases hc : c' ∈ nm
    · rw [if_pos hc] at post
      obtain ⟨a, o, rfl, h3, h4, h5, h6, h7, h8⟩ := err_rep (show Rep X.K A H1 (errD c' t') v from r)
      exact ⟨a, _, .ref C, .ref C, isa c', o, rfl, h3, h5, h6, h7, hx c' hc, fun u ru => ru, hk c' hc, post_here post p1 e1 _ rfl⟩
    · rw [if_neg hc] at post; exact post.elim
theorem x_isErrB (ha : XE Ex X .b e fa) (hx : ∀ c ∈ nm, L2.ExcC X.K (He.ga X.K c)) (hk : ∀ c ∈ nm, PySem.W.kitOne X.K (.ref (He.ga X.K c)) (.type T) = some (isa c)) (hmT : X.mg c = none) (hvT : bootBuiltins c = some (.type T)) (hm : X.mg x = none) (hv : bootBuiltins x = some (.builtin "isinstance")) (hg : Gl X x := by rfl) (hgT : Gl X c := by rfl) (hn : x ≠ "__name__" := by decide) (hnT : c ≠ "__name__" := by decide)
    (hdb : ((x == ("__debug__" : Str))) = false := by decide) (hdbT : (c == ("__debug__" : Str)) = false := by decide) (h1 : starEach [e, .Name c p2] X.env = (false, eval e X.env) :: starEach [.Name c p2] X.env := by rfl)
    (h2 : starEach [Expr.Name c p2] X.env = (false, eval (.Name c p2) X.env) :: starEach [] X.env := by rfl) (hpl : (backTo pos (starEach [Expr.Name c p2] X.env)).any (·.1) = false := by rfl) : XE Ex X .v (.Call (.Name x p) [e, .Name c p2] [] pos) (dIsEr nm isa fa) := by
  obtain ⟨t, ht, q⟩ := ha
  refine ⟨_, pe_callB call_isErr hg hm hv (pa_cons ht (pa_cons (pe_bltn (v := .ty T) hgT hmT hvT rfl hnT hdbT) pa_nil h2) h1) hn hdb h1 hpl, fun W A σ H env P Q k p => ?_⟩
  refine q W A σ H env P _ k ((PostG.bnd k p).mono ?_)
  rintro d _ H1 _ _ ⟨P1, e1, p1, k1, post⟩ v r
  cases he : errOf d with
  | none => simp only [he] at post; exact post.elim
  | some c' =>
    simp only [he] at post
    obtain ⟨t', rfl⟩ := errOf_is he
    by_cases hc : c' ∈ nm
    · rw [if_pos hc] at post
      obtain ⟨a, o, rfl, h3, h4, h5, h6, h7, h8⟩ := err_rep (show Rep X.K A H1 (errD c' t') v from r)
      exact ⟨a, _, .ty T, .type T, isa c', o, rfl, h3, h5, h6, h7, hx c' hc, fun u ru => ru, hk c' hc, post_here post p1 e1 _ rfl⟩
    · rw [if_neg hc] at post; exact post.elim
end
/-! ### str(e) -/
structure StrC (K : PySem.W.Frag) (D : Addr) : Prop where
  s : PySem.W.findIn K (.ref D) "__str__" = some (some (.builtin "BaseException.__str__"))
  b : PySem.W.subIn K (.ref D) (.type "BaseException") = some true
def rStrEr (K : PySem.W.Frag) : List V → Hp → VK → Prop := fun xs H Q => ∃ (a D : Addr) (o : Obj) (z : Str), xs = [.ref a] ∧ H a = some (.frz o (.ext fun _ => True)) ∧ o.cls = .ref D ∧ StrC K D ∧ (∃ (vs : Array Value) (b : Addr) (ob : Obj), o.data = .fields vs ∧ vs[0]? = some (.ref b) ∧ H b = some (.frz ob (.tup [.str z]))) ∧ Q (.str z) H
theorem call_strErr {X : Cx} (hu : X.A.units + 2 < cLine) : CallR X (.type "str") (rStrEr X.K) := by
  intro pins s σ H xs; intro us Q I r h
  obtain ⟨a, D, o, z, rfl, ha, hc, S, ⟨vs, b, ob, hv, h0, hb⟩, q⟩ := h
  obtain ⟨u, rfl, ru⟩ := (vals1 r)
  obtain rfl : u = Value.ref a := (ru)
  have hget : s.heap.get? a = some o := (I.hok a _ ha).1
  obtain ⟨_, _, its, rv, o2, g2, c2, n2, d2⟩ := I.hok b _ hb
  obtain ⟨u, rfl, ru⟩ := vals1 rv
  obtain ⟨tk, rfl⟩ := ru
  exact PySem.P.str_of_C_one hu ⟨I.kIn, o, vs, hget, hc, hv, h0⟩ ⟨o2, n2, g2, c2, d2⟩ S.s S.b ⟨.str z, H, I, ⟨tk, rfl⟩, q⟩
def dStrE (nm : List Str) (f : Env → M D) : Env → M D := fun env => bnd (f env) fun
  | .dict [(.none, .str c), (.none, .str z)] => if c ∈ nm then ret (.str z) else no
  | _ => no
section
variable {Ex : Str → Hp → Prop} {X : Cx} {e : Expr} {fa : Env → M D} {p pos : Pos} {nm : List Str}
theorem x_strE (hu : X.A.units + 2 < cLine) (hx : ∀ c ∈ nm, StrC X.K (He.ga X.K c)) (ha : XE Ex X .v e fa) (hm : X.mg "str" = none) (hg : Gl X "str" := by rfl)
    (he : starEach [e] X.env = (false, eval e X.env) :: starEach [] X.env := by rfl) (hpl : (backTo pos (starEach [] X.env)).any (·.1) = false := by rfl) : XE Ex X .v (.Call (.Name "str" p) [e] [] pos) (dStrE nm fa) := by
  obtain ⟨t, ht, q⟩ := ha
  refine ⟨_, pe_callTy (call_strErr hu) hg hm rfl (pa_cons ht pa_nil he) (by decide) (by decide) he hpl, fun W A σ H env P Q k p => ?_⟩
  refine q W A σ H env P _ k ((PostG.bnd k p).mono ?_)
  rintro d _ H1 _ _ ⟨P1, e1, p1, k1, post⟩ v r
  have main : ∀ (c z : Str), d = errD c (.str z) → ∃ (a D : Addr) (o : Obj) (z : Str), [v] = [V.ref a] ∧ H1 a = some (.frz o (.ext fun _ => True)) ∧ o.cls = .ref D ∧ StrC X.K D ∧ (∃ (vs : Array Value) (b : Addr) (ob : Obj), o.data = .fields vs ∧ vs[0]? = some (.ref b) ∧ H1 b = some (.frz ob (.tup [.str z]))) ∧ Q (.str z) H1 := by
    intro c z hd
    subst hd
    change PostG Ex W.pa H1 ((if c ∈ nm then ret (PyData.str z) else no) P1) _ at post
    by_cases hc : c ∈ nm
    · rw [if_pos hc] at post
      obtain ⟨a, o, rfl, h3, h4, h5, h6, h7, vs, b, ob, g1, g2, g3, _⟩ := err_rep (show Rep X.K A H1 (errD c (.str z)) v from r)
      exact ⟨a, _, o, z, rfl, h3, h5, hx c hc, ⟨vs, b, ob, g1, g2, g3⟩, post_here post p1 e1 _ rfl⟩
    · rw [if_neg hc] at post; exact post.elim
  change PostG Ex W.pa H1 ((match d with
    | .dict [(.none, .str c), (.none, .str z)] => if c ∈ nm then ret (PyData.str z) else no
    | _ => no) P1) _ at post
  split at post
  · rename_i c z
    exact main c z rfl
  · exact post.elim
end
end Vl
end
section
set_option autoImplicit false
set_option maxRecDepth 100000
set_option maxHeartbeats 2000000
/-! V61: what except has caught, answered as a value. -/
namespace Vl
open PySem PySem.Spec PyProof.Rows L2 LamX

abbrev exH (oe : Obj) : HO := .frz oe (.ext fun _ => True)
section
variable {X : Cx} {pins : List (Addr × Obj)} {σ : L2.St} {H : Hp} { s : Shared }
/-- an object that is new since the entry is held as it stands -/
theorem inv_hold {a : Addr} {oe : Obj} {vs : Array Value} (I : L2.Inv X pins σ H s) (n0 : X.s_0.heap.get? a = none) (ha : s.heap.get? a = some oe) (hd : oe.data = .fields vs) (na : H a = none) (nL : a ≠ X.env.locals)
    (np : ∀ p ∈ X.pn ++ pins, p.1 ≠ a) : L2.Inv X pins σ (upd H a (exH oe)) s := by
  refine ⟨I.ok, I.os, I.bare, ⟨I.base.keep, I.base.slot, fun b o e n hx => ?_, I.base.there, fun b xs e => ?_, fun b o u e => ?_, fun b ps e => ?_⟩, I.loc, I.cell, ?_, fun x c e => ?_, fun p hp => ?_, ?_, I.len⟩
  · rw [upd_ne (fun z => by rw [z, n0] at e; cases e)]; exact I.base.free b o e n hx
  · have tz := I.base.tups b xs e
    rw [upd_ne (ne_of_none tz na)]; exact tz
  · have fz := I.base.frzs b o u e
    rw [upd_ne (ne_of_none fz na)]; exact fz
  · obtain ⟨m, q⟩ := (I.base.tbls b ps e)
    exact ⟨m, by rw [upd_ne (ne_of_none q na)]; exact q⟩
  · rw [upd_ne (Ne.symm nL)]; exact I.free
  · rw [upd_ne (fun z => by
      obtain ⟨v, o, g, d⟩ := I.cell x c e
      rw [z, ha] at g
      cases g
      rw [hd] at d
      cases d)]
    exact I.freeC x c e
  · obtain ⟨q1, q2, q3⟩ := I.pin p hp
    exact ⟨q1, by rw [upd_ne (np p hp)]; exact q2, q3⟩
  · intro b u e
    by_cases hb : b = a
    · subst hb
      rw [upd_same] at e
      cases e
      exact ⟨ha, trivial, ⟨_, ha⟩, fun _ _ _ _ => trivial⟩
    · rw [upd_ne hb] at e
      exact (I.hok b u e).stay (fun c v _ q => q) (fun c q => by rw [upd_ne (ne_of_none q na)]; exact q) fun c xs q => by rw [upd_ne (ne_of_none q na)]; exact q
end

/-- the suite's ends: what it answers may be the caught one, held -/
def Ends.wk (D : Ends) (i : Nat) (a : Addr) (cls : Value) (d : Option Addr) : Ends := { nx := fun _ _ => False, rt := fun v H' => ∀ oe, Zc cls d oe → (∃ vs, oe.data = .fields vs) → H' a = none → D.rt v (upd H' a (exH oe)), bk := fun _ _ => False, ct := fun _ _ => False }
def wKeep (K : PySem.W.Frag) (m : Nat) (c : Value) (i : Nat) (ts : Addr → Value → Option Addr → TS) (D : Ends) : WX := fun cls d σ H => ∃ b, PySem.W.exmOne K cls c = some b ∧ (b = true → ∀ a, H a = none → σ.length = m → ts a cls d (Ends.wk D i a cls d) (σ.set i (some (.ref a))) H) ∧ (b = false → False)
section
variable {X : Cx} {body : List Stmt} {x n : Str} {c : Value} {i : Nat} {ts : Addr → Value → Option Addr → TS} {b₀ : Stmt} {suite : List Stmt} {np pos' pos : Pos} {tb : WX → TS}
theorem ps_try_keep (hs : X.stack = X.env :: X.outer) (hf : X.env.frame = some X.env.locals) (hex : X.ex = []) (hN : X.N.Nodup) (hi : X.N[i]? = some n) (hln : X.env.kindOf n = some .local) (hc : Names X x c)
    (hb : ∀ (W : WX) (pn : List (Addr × Obj)) (xe : Value → Shared → Prop), Takes (X.tr pn xe) W → PassesOwn (model X.prog X.w) X.A X.env xe → PSs (X.tr pn xe) body ((tb W)))
    (hsu : ∀ (b : Addr) (ob : Obj) (cb : Value) (db : Option Addr) (pb : List (Addr × Obj)), Zc cb db ob → (∃ us, ob.data = .fields us) → PSs (X.suite b ((b, ob) :: pb)) (b₀ :: suite) (ts b cb db)) :
    PS X (.Try body [.ExceptHandler (some (.Name x np)) (some n) (b₀ :: suite) pos'] [] [] pos) (fun D σ H => tb (wKeep X.K X.N.length c i ts D) D σ H) := by
  refine (⟨fun pins s σ H D I h => ?_⟩)
  have okX := I.ok
  have fr0 : X.A.frames = some (X.env :: X.outer) := by rw [okX.frames, hs]
  refine wpAny_Try_except ?_
  refine wpAny_mono ((hb (wKeep X.K X.N.length c i ts D) (X.pn ++ pins) (fun e s₁ => wpAny (model X.prog X.w) X.A (noteFrame e X.env) (fun _ s₂ => wpAny (model X.prog X.w) X.A (setFlight e none) (fun _ s₃ =>
    wpAny (model X.prog X.w) X.A (handleBy e X.env [.ExceptHandler (some (.Name x np)) (some n) (b₀ :: suite) pos']) (SP X pins D) X.xe s₃) X.xe s₂) X.xe s₁) (fun u s' xx => ?_) PassesOwn.looking).run [] s σ H D (I.toTry _) h) (fun f s1 aft => ?_) (fun e s1 he => he)
  · obtain ⟨a, B, sZ, pins', σ', H', cls, d, rfl, ivA, nB, ri, skB, nA, osX, agX, w⟩ := xx
    have ivB : L2.Inv X pins σ' H' sZ := ivA.ofTry okX
    have skA : Sky B (X.env :: X.outer) a (Zc cls d) X.env.locals s'.heap := by rw [← hs]; exact skB
    show wpAny _ X.A (noteFrame (.ref a) X.env) _ _ _
    refine Sky.land Zc.steady fr0 hf skA fun g3 ld3 ri3 => ?_
    have iv3 : L2.Inv X pins σ' H' { s' with heap := g3 } := ivB.landed nB ld3.1 (ri.trans ri3) osX agX
    obtain ⟨ob3, fs3, at3, cz3, dt3⟩ := ld3.there
    have offF : ∀ {h : Heap} {o : Obj} {vs : Array Value}, h.FunFrames B (X.env :: X.outer) → h.get? a = some o → o.data = .fields vs → a ∉ frs (X.env :: X.outer) := fun {h o vs} ff e dd hm => by
      obtain ⟨_, o', e', hnf⟩ := (ff.mem hm)
      rw [e] at e'; cases e'
      exact hnf _ dd
    have nofF := offF ld3.2.2.1 at3 dt3
    have neL : a ≠ X.env.locals := fun z => nofF (List.mem_filterMap.mpr ⟨X.env, List.mem_cons_self, by rw [hf, z]⟩)
    have neF : a ∉ X.fs := fun hm => by
      obtain ⟨e, he, q⟩ := (List.mem_filterMap.mp hm)
      exact nofF (List.mem_filterMap.mpr ⟨e, List.mem_cons_of_mem _ he, q⟩)
    have nBa : B.get? a = none := ld3.2.1
    have nZ : sZ.heap.get? a = none := by
      cases e : sZ.heap.get? a with
      | none => rfl
      | some o =>
        have := nB a o e (by rw [hs]; exact nofF)
        rw [nBa] at this; cases this
    have n0 : (X.s_0.heap.get? a = none) := by
      cases ez : X.s_0.heap.get? a with
      | none => rfl
      | some o =>
        obtain ⟨o', q⟩ := ivB.base.there a o ez (by rw [hex]; exact fun z => nomatch z)
        rw [nZ] at q; cases q
    have npn : ∀ p ∈ X.pn ++ pins, p.1 ≠ a := fun p hp z => by
      have q := (ivB.pin p hp).1
      rw [z, nZ] at q; cases q
    have su3 := iv3.suite at3 dt3 nA neL neF
    obtain ⟨b, tb1, ys, nn⟩ := w
    have lc0 : Loc X.env.scope n := .inl hln
    refine wpAny_handleBy_cons (codeAny_handlers_test ?_) (by (intro q; cases q))
    have lkT : PySem.W.Looks (model X.prog X.w) g3 (typeOf (.ref a)) cls := fun A Q E s k q => wpAny_typeOf_ref (k _ _ at3) (by rw [cz3.1]; exact q)
    have lkM := PySem.W.exm_one (M := model X.prog X.w) (iv3.kIn) lkT tb1
    have test : ∀ {Q : Value → Shared → Prop} {E : Value → Shared → Prop}, Q c { s' with heap := g3 } → wpAny (model X.prog X.w) (X.A.mark (some (.ref a))) (eval (.Name x np) X.env) Q E { s' with heap := g3 } := fun {Q E} q => by
      obtain ⟨hg, hdbg, hm | ⟨hm, hv, hnn⟩⟩ := (hc)
      · exact ld_glob (X := X.suite a ((a, ob3) :: (X.pn ++ pins))) su3 hg hm q hdbg
      · exact ld_blt (X := X.suite a ((a, ob3) :: (X.pn ++ pins))) su3 hg hm hv q hnn hdbg
    refine test (lkM.here ?_)
    cases b with
    | true =>
      refine (codeAny_handlers_suite_as ?_)
      refine HandSPX.lands_againZ ld3 fun g4 ld4 ri4 => ?_
      have iv4 : L2.Inv X pins σ' H' { s' with heap := g4 } := ivB.landed nB ld4.1 ((ri.trans ri3).trans ri4) osX agX
      obtain ⟨ob4, fs4, at4, cz4, dt4⟩ := ld4.there
      have su4 := iv4.suite at4 dt4 nA neL neF
      refine store_ok (X := X.suite a ((a, ob4) :: (X.pn ++ pins))) (v := .ref a) su4 hN hi lc0 rfl (fun s5 S5 => ?_) (.inr hln)
      refine wpAny_mono ((hsu a ob4 cls d (X.pn ++ pins) cz4 ⟨_, dt4⟩).run [] s5 _ H' _ S5 (ys rfl a nA ivB.len)) (fun f t6 aft => ?_) (fun _ _ z => False.elim z)
      cases f with
      | next =>
        obtain ⟨σ6, H6, su6, r6x⟩ := aft
        exact (show False from r6x).elim
      | brk =>
        obtain ⟨σ6, H6, su6, r6x⟩ := aft
        exact (show False from r6x).elim
      | cont =>
        obtain ⟨σ6, H6, su6, r6x⟩ := aft
        exact (show False from r6x).elim
      | ret u =>
        obtain ⟨v6, σ6, H6, su6, r6, r6x⟩ := aft
        obtain ⟨p1, p2, _⟩ := su6.pin (a, ob4) (by simp)
        have iv6 := inv_hold (su6.unsuite okX) n0 p1 dt4 p2 neL npn
        exact gone_ok iv6 hN hi hln fun t7 iv7 => ⟨_, _, _, iv7, r6, r6x ob4 cz4 ⟨_, dt4⟩ p2⟩
    | false => exact (nn rfl).elim
  · cases f with
    | next =>
      obtain ⟨σ', H', ivA, q⟩ := aft
      exact wpAny_execs_nil ⟨σ', H', ivA.ofTry okX, q⟩
    | brk =>
      obtain ⟨σ', H', ivA, q⟩ := aft
      exact ⟨σ', H', ivA.ofTry okX, q⟩
    | cont =>
      obtain ⟨σ', H', ivA, q⟩ := aft
      exact ⟨σ', H', ivA.ofTry okX, q⟩
    | ret u =>
      obtain ⟨v, σ', H', ivA, r, q⟩ := aft
      exact ⟨v, σ', H', ivA.ofTry okX, r, q⟩
end

/-- caught: try: call() / except B as e: return e / return None -/
def TTc (K : PySem.W.Frag) (CB : Addr) : (XK → Hp → VK → Prop) → Hp → VK → Prop := fun tl H Q =>
  tl (fun cls d H' => d = none ∧ PySem.W.exmOne K cls (.ref CB) = some true ∧ ∀ a oe, H' a = none → Zc cls none oe → (∃ vs, oe.data = .fields vs) → Q (.ref a) (upd H' a (exH oe))) H fun _ H' => Q .non H'
theorem caught_gives {X : Cx} {Ng : List Str} {x n e a q : Str} {i : Nat} {sg : Scope} {g CB : Addr} {cdg : Value} {p1 p2 p3 p4 p5 p6 p7 p8 p9 p10 : Pos} {j : Nat}
    (hnd : Ng.Nodup) (hni : Ng[i]? = some n) (hln : sg.names.lookup n = some .local) (hge : sg.names.lookup e = some .globalImplicit) (hme : X.mg e = some (.ref CB)) (hde : (e == ("__debug__" : Str)) = false) (hdn : (n == ("__debug__" : Str)) = false) (hcn : (n == ("__classdict__" : Str)) = false) (h0 : ∀ f : Addr, (L2.start Ng [V.ref f])[0]? = some (some (V.ref f))):
    GivesTo X Ng x sg g cdg [.Try [.Expr (.Call (.Name a p1) [] [] p2) p3] [.ExceptHandler (some (.Name e p4)) (some n) [.Return (some (.Name n p5)) p6] p7] [] [] p8, .Return (some (.Constant .none j p9)) p10] a q (TTc X.K CB) := by
  intro f c' s H Q tl act hc h
  refine ⟨_, pss_cons (ps_try_keep (X := (cxOf C8.CX0 X.prog X.w X.K X.mg X.base Ng x sg g cdg X.A X.stack s H C8.E0).nox) (c := .ref CB) (i := i) (ts := fun b cls d => tRet (tVar i))
      (tb := fun W D σ H => ∃ Ech : XK, (∀ cls d σ' H', Ech cls d H' → W cls d σ' H') ∧ σ[0]? = some (some (.ref f)) ∧ H c' = some (CodeO c' q) ∧ tl Ech H fun _ H' => D.nx σ H')
      rfl rfl rfl hnd hni hln ⟨hge, hde, .inl hme⟩ (fun W pn xe tk _ => ?_) fun b oe cls d pn _ _ => pss_one (ps_ret (pe_var hni (.inl hln) hdn hcn))) (pss_one (ps_ret pe_non)), ?_⟩
  · refine (⟨fun pins s' σ H' D I h' => ?_⟩)
    obtain ⟨Ech, hW, h1, h2, h3⟩ := (h')
    have hp := (act W pn xe Ech p1 p2 tk hW)
    exact (pss_one (ps_expr (pos := p3) hp)).run pins s' σ H' D I ⟨h1, h2, h3⟩
  · refine ⟨_, fun cls d σ' H' z => ?_, h0 f, hc, h⟩
    obtain ⟨rfl, z1, z2⟩ := z
    refine ⟨true, z1, fun _ b hb hl => ?_, fun z => nomatch z⟩
    refine ⟨.ref b, ?_, fun oe hz hv hn => z2 b oe hn hz hv⟩
    have hlt : i < σ'.length := by
      rw [hl]
      exact (List.getElem?_eq_some_iff.mp hni).1
    rw [List.getElem?_set_self hlt]

/-- the error of a lambda's body as a value, nothing if there is none; isB: which classes are caught, by their names -/
def dCaught (T : List (Addr × Str)) (isB : Str → Bool) (f : Vl.Env → M D) : Vl.Env → M D := fun env P => if P.tb = T then (match f env P with
  | .ok _ P' => .ok .none P'
  | .ex c P' => if isB c = true then .ok (errD c .none) P' else .no
  | .no => .no) else .no
section
variable {X : Cx} {Ex0 : Str → Hp → Prop} {T : List (Addr × Str)} {x a n e : Str} {g c P CB : Addr} {k i : Nat} {st : Stmt} {fd : FuncData} {Ng : List Str} {j : Nat} {p1 p2 p3 p4 p5 p6 p7 p8 p9 p10 : Pos}
  {params : Arguments} {body : Expr} {scope : Scope} {p lpos pos : Pos} {kd : Kd} {fb : Vl.Env → M D} {ec : EC} {isB : Str → Bool}
theorem x_caughtT (F : Fun X.K x x st g fd) (hb : L2.Binds X.K fd [a] []) (hm : X.mg x = some (.ref g)) (hk : PySem.W.keepIn X.K (.ref g) = true) (Sg : FnScope Ng [a] (defScope st)) (hNg : Ng[0]? = some a) (hva : Vis (defScope st) a)
    (hbd : defBody st = [.Try [.Expr (.Call (.Name a p1) [] [] p2) p3] [.ExceptHandler (some (.Name e p4)) (some n) [.Return (some (.Name n p5)) p6] p7] [] [] p8, .Return (some (.Constant .none j p9)) p10])
    (hni : Ng[i]? = some n) (hln : (defScope st).names.lookup n = some .local) (hge : (defScope st).names.lookup e = some .globalImplicit) (hme : X.mg e = some (.ref CB))
    (hi : ∀ c, isB c = true → PySem.W.exmOne X.K (.ref (ec c)) (.ref CB) = some true ∧ ec c = He.ga X.K c)
    (TB : TabB X.base X.mg c P) (hmT : (P, X.env.qual ++ "<lambda>") ∈ T) (hu : ∀ p ∈ T, p.1 = P → p.2 = X.env.qual ++ "<lambda>") (hr : Room (k + 2) X.A)
    (hbody : ∀ (A : Around) (outer : List PySem.Env) (s : Shared) (H : Hp) (E : XK) (f c' : Addr), Room k (A.deeper (lamEnv X scope s.heap.objs.size f c')) → XE (exOf ec E) (lamCx X A outer s H E scope f c') kd body fb)
    (hcode : X.env.code = .ref c := by rfl) (L : LamS X.env.scope scope := by exact LamX.lamS_by rfl) (hdef : defaultsOf params X.env = ([], []) := by rfl)
    (hbind : ∀ (q : Str) (cl : List (Str × Addr)) (pm cv ctv : Value), bindArgs (PySem.W.kla_fn "<lambda>" q params body scope cl pm cv ctv) ⟨[], []⟩ = pure [] := by intros; rfl)
    (hg : Gl X x := by rfl) (hdb : (x == ("__debug__" : Str)) = false := by decide) (hd : (a == ("__debug__" : Str)) = false := by decide) (hcd : (a == ("__classdict__" : Str)) = false := by decide)
    (hde : (e == ("__debug__" : Str)) = false := by decide) (hdn : (n == ("__debug__" : Str)) = false := by decide) (hcn : (n == ("__classdict__" : Str)) = false := by decide) :
    XE Ex0 X .v (.Call (.Name x p) [.Lambda params body scope lpos] [] pos) (dCaught T isB fb) := by
  obtain ⟨oc, od, kV, doc, pm, an, cdv, ct, osl, rfl, lk, hcg⟩ := F.ex
  have hG : GivesTo X Ng x (defScope st) g cdv (defBody st) a (X.env.qual ++ "<lambda>") (TTc X.K CB) := by
    rw [hbd]
    exact caught_gives (X := X) Sg.nd hni hln hge hme hde hdn hcn fun f => by
      cases Ng with
      | nil => cases hNg
      | cons y r => rfl
  refine ⟨_, pe_lamcall (t := fun E => TEof X.K (exOf ec E) kd fb) hg hm hk lk hcg hb Sg hNg hva hG TB hcode hmT hu hr L hdef hbind (fun A outer s H E f c' hr2 => (hbody A outer s H E f c' hr2).can) hdb hd hcd, fun W A σ H env P0 Q k0 post => ?_⟩
  unfold dCaught at post
  by_cases hT : P0.tb = T
  · rw [if_pos hT] at post
    have tT : W.pa.tb = T := k0.pen.2.2.symm.trans hT
    refine ⟨by rw [← tT]; exact k0.pen.2.1, fun H1 eN t1 => ?_⟩
    have e1 : HExt W.pa H H1 := ext_of eN
    have p1 : PenOk W.pa H1 P0 := ⟨fun a c z => by
      obtain ⟨q1, q2, q3⟩ := k0.pen.1 a c z
      exact ⟨q1, eN _ _ q2 nt_lst, eN _ _ q3 nt_lst⟩, by rw [tT]; exact t1, k0.pen.2.2⟩
    have k1 := k0.ext e1 p1
    refine ⟨W, A, env, P0, k1, ?_⟩
    cases hf : fb env P0 with
    | ok d P' =>
      rw [hf] at post
      exact fun H' e2 p2 v r => post H' (e1.trans e2) p2 .non rfl
    | ex cn P' =>
      rw [hf] at post
      by_cases hB : isB cn = true
      · simp only [if_pos hB] at post
        obtain ⟨z1, z2⟩ := hi cn hB
        refine fun H' e2 p2 => ⟨rfl, z1, fun b oe hn hz hv => ?_⟩
        have k2 := k1.ext e2 p2
        have sm := same_upd (o := exH oe) hn
        exact post _ ((e1.trans e2).trans (HExt.of sm)) (penOk_same sm p2) (.ref b) ⟨b, rfl, .inr ⟨cn, .none, oe, rfl, upd_same, k2.new hn, by rw [hz.1, z2], hv, hz.2, trivial⟩⟩
      · simp only [if_neg hB] at post
        exact post.elim
    | no => rw [hf] at post; exact post.elim
  · rw [if_neg hT] at post; exact post.elim
end
end Vl
end
section
set_option autoImplicit false
set_option maxRecDepth 100000
/-! V62: what the checks of V0u say. -/
namespace Vl
open PySem PySem.Spec L2 PyProof.Rows

section
variable {K : PySem.W.Frag} {nm : List Str}
theorem excB_ok (h : excB K nm = true) : ∀ c ∈ nm, L2.ExcC K (He.ga K c) ∧ StrC K (He.ga K c) := fun c hc => by
  have q := List.all_eq_true.mp h c hc
  simp only [fndB, Bool.and_eq_true, decide_eq_true_eq] at q
  obtain ⟨q1, q2, q3, q4, q5, q6, q7, q8, q9⟩ := q
  exact ⟨⟨q1, q2, q3, q4, q5, q6, q7, q8⟩, ⟨q9, q3⟩⟩
theorem excB_c (h : excB K nm = true) : ∀ c ∈ nm, L2.ExcC K (He.ga K c) := fun c hc => (excB_ok h c hc).1
theorem excB_s (h : excB K nm = true) : ∀ c ∈ nm, StrC K (He.ga K c) := fun c hc => (excB_ok h c hc).2
theorem isaB_ok {t : Str} {isa : Str → Bool} (h : isaB K nm t isa = true) : ∀ c ∈ nm, PySem.W.kitOne K (.ref (He.ga K c)) (.ref (He.ga K t)) = some (isa c) := fun c hc => of_decide_eq_true (List.all_eq_true.mp h c hc)
theorem isaTB_ok {t : String} {b : Bool} (h : isaTB K nm t b = true) : ∀ c ∈ nm, PySem.W.kitOne K (.ref (He.ga K c)) (.type t) = some ((fun _ : Str => b) c) := fun c hc => of_decide_eq_true (List.all_eq_true.mp h c hc)
theorem exmB_ok {t : Str} (h : exmB K nm t = true) : ∀ c ∈ nm, PySem.W.exmOne K (.ref (He.ga K c)) (.ref (He.ga K t)) = some true := fun c hc => of_decide_eq_true (List.all_eq_true.mp h c hc)
end
/-- a class: its own name or the root -/
def isaE (root t c : Str) : Bool := c == t || t == root
theorem hu65 {n : Nat} (h : n + 65 < cLine) : n + 2 < cLine := by omega
end Vl
end
section
set_option maxRecDepth 100000
namespace Tk
open PySem L2 Vl
abbrev top (i : Nat) : Stmt := PySem.Challenge.pw_halfbits_k66_errors_by_hand.main.body.getD i (.Pass ⟨0, 0, 0, 0⟩)
def erNm : List Str := ["BitError", "NoWord", "NoNet", "NoTable", "NoTelling", "NoSum", "NoDemand", "NoPicks", "NoCount", "NoKind", "NoPlan", "NoCode", "NoRow", "NoMatch", "NoGate", "NoBoard", "NoDeed", "NoDrop", "NoUndo", "NoThings", "NoLets", "NotThere", "NoMachine", "TooGreat"]
abbrev s__law_caught : Stmt := top 61
abbrev s_is_count : Stmt := top 1
abbrev s_is_word : Stmt := top 30
abbrev s_check_word : Stmt := top 31
abbrev s_is_gate : Stmt := top 39
abbrev s_are_outs : Stmt := top 40
abbrev s_marked : Stmt := top 45
abbrev s_let_through : Stmt := top 46
abbrev s_sign_at : Stmt := top 47
abbrev s_check_rounds : Stmt := top 52
abbrev s_reads_of : Stmt := top 54
abbrev s__law_open : Stmt := top 56
abbrev s__law_spread : Stmt := top 57
abbrev s__law_take : Stmt := top 58
abbrev s__law_one_of : Stmt := top 59
abbrev s__law_kinds_of : Stmt := top 60
abbrev s_are_gates : Stmt := top 38
abbrev s_answers_at : Stmt := top 44
abbrev s_reads : Stmt := top 53
abbrev s_is_net : Stmt := top 37
abbrev s_check_net : Stmt := top 41
abbrev s_told_at : Stmt := top 43
abbrev s_run : Stmt := top 42
abbrev s_law : Stmt := top 62
def tb_PARTS : List (Str × D) := [("0", (.int 1)), ("1", (.int 1)), ("not", (.int 2)), ("and", (.int 3)), ("or", (.int 3))]
def tb_KINDS : List Str := ["plain", "low", "high"]
def tb_BITS : List Str := ["0", "1", "?"]
structure Tp (K : PySem.W.Frag) (mg : Str → Option Value) (w : World) where
  t__law_caught : FnT K mg "_law_caught" s__law_caught ["call"]
  t_is_count : FnT K mg "is_count" s_is_count ["thing", "least", "most"]
  t_is_word : FnT K mg "is_word" s_is_word ["thing"]
  t_check_word : FnT K mg "check_word" s_check_word ["thing"]
  t_is_gate : FnT K mg "is_gate" s_is_gate ["thing", "own"]
  t_are_outs : FnT K mg "are_outs" s_are_outs ["thing", "many"]
  t_marked : FnT K mg "marked" s_marked ["words", "at", "bit"]
  t_let_through : FnT K mg "let_through" s_let_through ["gate", "stands", "everywhere"]
  t_sign_at : FnT K mg "sign_at" s_sign_at ["pair", "k"]
  t_check_rounds : FnT K mg "check_rounds" s_check_rounds ["thing"]
  t_reads_of : FnT K mg "reads_of" s_reads_of ["kind", "bit", "r"]
  t__law_open : FnT K mg "_law_open" s__law_open ["script"]
  t__law_spread : FnT K mg "_law_spread" s__law_spread ["cell", "k"]
  t__law_take : FnT K mg "_law_take" s__law_take ["pen", "many"]
  t__law_one_of : FnT K mg "_law_one_of" s__law_one_of ["pen", "some"]
  t__law_kinds_of : FnT K mg "_law_kinds_of" s__law_kinds_of ["one"]
  t_are_gates : FnT K mg "are_gates" s_are_gates ["thing", "n"]
  t_answers_at : FnT K mg "answers_at" s_answers_at ["net", "words"]
  t_reads : FnT K mg "reads" s_reads ["kind", "bit", "r"]
  t_is_net : FnT K mg "is_net" s_is_net ["thing"]
  t_check_net : FnT K mg "check_net" s_check_net ["thing"]
  t_told_at : FnT K mg "told_at" s_told_at ["net", "word"]
  t_run : FnT K mg "run" s_run ["net", "word"]
  t_law : LamT K mg "law" s_law ["script"]
  m_LookupError : mg "LookupError" = none
  m_ValueError : mg "ValueError" = none
  m_all : mg "all" = none
  m_any : mg "any" = none
  m_bool : mg "bool" = none
  m_dict : mg "dict" = none
  m_enumerate : mg "enumerate" = none
  m_int : mg "int" = none
  m_isinstance : mg "isinstance" = none
  m_len : mg "len" = none
  m_list : mg "list" = none
  m_range : mg "range" = none
  m_repr : mg "repr" = none
  m_set : mg "set" = none
  m_sorted : mg "sorted" = none
  m_str : mg "str" = none
  m_sum : mg "sum" = none
  m_tuple : mg "tuple" = none
  m_zip : mg "zip" = none
  c_SIGNS : ∃ t, mg "SIGNS" = some (.str "01?" t)
  c_MOST_BITS : ∃ t, mg "MOST_BITS" = some (.int 32 t)
  c_MOST_INPUTS : ∃ t, mg "MOST_INPUTS" = some (.int 32 t)
  c_MOST_GATES : ∃ t, mg "MOST_GATES" = some (.int 100000 t)
  c_MOST_OUTS : ∃ t, mg "MOST_OUTS" = some (.int 32 t)
  c_MOST_READS : ∃ t, mg "MOST_READS" = some (.int 8 t)
  e_BitError : ExT K mg "BitError"
  e_NoWord : ExT K mg "NoWord"
  e_NoNet : ExT K mg "NoNet"
  e_NoTable : ExT K mg "NoTable"
  e_NoTelling : ExT K mg "NoTelling"
  e_NoSum : ExT K mg "NoSum"
  e_NoDemand : ExT K mg "NoDemand"
  e_NoPicks : ExT K mg "NoPicks"
  e_NoCount : ExT K mg "NoCount"
  e_NoKind : ExT K mg "NoKind"
  e_NoPlan : ExT K mg "NoPlan"
  e_NoCode : ExT K mg "NoCode"
  e_NoRow : ExT K mg "NoRow"
  e_NoMatch : ExT K mg "NoMatch"
  e_NoGate : ExT K mg "NoGate"
  e_NoBoard : ExT K mg "NoBoard"
  e_NoDeed : ExT K mg "NoDeed"
  e_NoDrop : ExT K mg "NoDrop"
  e_NoUndo : ExT K mg "NoUndo"
  e_NoThings : ExT K mg "NoThings"
  e_NoLets : ExT K mg "NoLets"
  e_NotThere : ExT K mg "NotThere"
  e_NoMachine : ExT K mg "NoMachine"
  e_TooGreat : ExT K mg "TooGreat"
  xer : excB K erNm = true
  xi_BitError : isaB K erNm "BitError" (isaE "BitError" "BitError") = true
  xi_NoBoard : isaB K erNm "NoBoard" (isaE "BitError" "NoBoard") = true
  xi_NoCode : isaB K erNm "NoCode" (isaE "BitError" "NoCode") = true
  xi_NoCount : isaB K erNm "NoCount" (isaE "BitError" "NoCount") = true
  xi_NoDeed : isaB K erNm "NoDeed" (isaE "BitError" "NoDeed") = true
  xi_NoDemand : isaB K erNm "NoDemand" (isaE "BitError" "NoDemand") = true
  xi_NoDrop : isaB K erNm "NoDrop" (isaE "BitError" "NoDrop") = true
  xi_NoGate : isaB K erNm "NoGate" (isaE "BitError" "NoGate") = true
  xi_NoKind : isaB K erNm "NoKind" (isaE "BitError" "NoKind") = true
  xi_NoLets : isaB K erNm "NoLets" (isaE "BitError" "NoLets") = true
  xi_NoMachine : isaB K erNm "NoMachine" (isaE "BitError" "NoMachine") = true
  xi_NoMatch : isaB K erNm "NoMatch" (isaE "BitError" "NoMatch") = true
  xi_NoNet : isaB K erNm "NoNet" (isaE "BitError" "NoNet") = true
  xi_NoPicks : isaB K erNm "NoPicks" (isaE "BitError" "NoPicks") = true
  xi_NoPlan : isaB K erNm "NoPlan" (isaE "BitError" "NoPlan") = true
  xi_NoRow : isaB K erNm "NoRow" (isaE "BitError" "NoRow") = true
  xi_NoSum : isaB K erNm "NoSum" (isaE "BitError" "NoSum") = true
  xi_NoTable : isaB K erNm "NoTable" (isaE "BitError" "NoTable") = true
  xi_NoTelling : isaB K erNm "NoTelling" (isaE "BitError" "NoTelling") = true
  xi_NoThings : isaB K erNm "NoThings" (isaE "BitError" "NoThings") = true
  xi_NoUndo : isaB K erNm "NoUndo" (isaE "BitError" "NoUndo") = true
  xi_NoWord : isaB K erNm "NoWord" (isaE "BitError" "NoWord") = true
  xi_NotThere : isaB K erNm "NotThere" (isaE "BitError" "NotThere") = true
  xi_TooGreat : isaB K erNm "TooGreat" (isaE "BitError" "TooGreat") = true
  xi_LookupError : isaTB K erNm "LookupError" false = true
  xi_ValueError : isaTB K erNm "ValueError" true = true
  ea_BitError : e_BitError.C = He.ga K "BitError"
  ga_BitError : mg "BitError" = some (.ref (He.ga K "BitError"))
  ea_NoWord : e_NoWord.C = He.ga K "NoWord"
  ga_NoWord : mg "NoWord" = some (.ref (He.ga K "NoWord"))
  ea_NoNet : e_NoNet.C = He.ga K "NoNet"
  ga_NoNet : mg "NoNet" = some (.ref (He.ga K "NoNet"))
  ea_NoTable : e_NoTable.C = He.ga K "NoTable"
  ga_NoTable : mg "NoTable" = some (.ref (He.ga K "NoTable"))
  ea_NoTelling : e_NoTelling.C = He.ga K "NoTelling"
  ga_NoTelling : mg "NoTelling" = some (.ref (He.ga K "NoTelling"))
  ea_NoSum : e_NoSum.C = He.ga K "NoSum"
  ga_NoSum : mg "NoSum" = some (.ref (He.ga K "NoSum"))
  ea_NoDemand : e_NoDemand.C = He.ga K "NoDemand"
  ga_NoDemand : mg "NoDemand" = some (.ref (He.ga K "NoDemand"))
  ea_NoPicks : e_NoPicks.C = He.ga K "NoPicks"
  ga_NoPicks : mg "NoPicks" = some (.ref (He.ga K "NoPicks"))
  ea_NoCount : e_NoCount.C = He.ga K "NoCount"
  ga_NoCount : mg "NoCount" = some (.ref (He.ga K "NoCount"))
  ea_NoKind : e_NoKind.C = He.ga K "NoKind"
  ga_NoKind : mg "NoKind" = some (.ref (He.ga K "NoKind"))
  ea_NoPlan : e_NoPlan.C = He.ga K "NoPlan"
  ga_NoPlan : mg "NoPlan" = some (.ref (He.ga K "NoPlan"))
  ea_NoCode : e_NoCode.C = He.ga K "NoCode"
  ga_NoCode : mg "NoCode" = some (.ref (He.ga K "NoCode"))
  ea_NoRow : e_NoRow.C = He.ga K "NoRow"
  ga_NoRow : mg "NoRow" = some (.ref (He.ga K "NoRow"))
  ea_NoMatch : e_NoMatch.C = He.ga K "NoMatch"
  ga_NoMatch : mg "NoMatch" = some (.ref (He.ga K "NoMatch"))
  ea_NoGate : e_NoGate.C = He.ga K "NoGate"
  ga_NoGate : mg "NoGate" = some (.ref (He.ga K "NoGate"))
  ea_NoBoard : e_NoBoard.C = He.ga K "NoBoard"
  ga_NoBoard : mg "NoBoard" = some (.ref (He.ga K "NoBoard"))
  ea_NoDeed : e_NoDeed.C = He.ga K "NoDeed"
  ga_NoDeed : mg "NoDeed" = some (.ref (He.ga K "NoDeed"))
  ea_NoDrop : e_NoDrop.C = He.ga K "NoDrop"
  ga_NoDrop : mg "NoDrop" = some (.ref (He.ga K "NoDrop"))
  ea_NoUndo : e_NoUndo.C = He.ga K "NoUndo"
  ga_NoUndo : mg "NoUndo" = some (.ref (He.ga K "NoUndo"))
  ea_NoThings : e_NoThings.C = He.ga K "NoThings"
  ga_NoThings : mg "NoThings" = some (.ref (He.ga K "NoThings"))
  ea_NoLets : e_NoLets.C = He.ga K "NoLets"
  ga_NoLets : mg "NoLets" = some (.ref (He.ga K "NoLets"))
  ea_NotThere : e_NotThere.C = He.ga K "NotThere"
  ga_NotThere : mg "NotThere" = some (.ref (He.ga K "NotThere"))
  ea_NoMachine : e_NoMachine.C = He.ga K "NoMachine"
  ga_NoMachine : mg "NoMachine" = some (.ref (He.ga K "NoMachine"))
  ea_TooGreat : e_TooGreat.C = He.ga K "TooGreat"
  ga_TooGreat : mg "TooGreat" = some (.ref (He.ga K "TooGreat"))
  xm_BitError : exmB K erNm "BitError" = true
  a_KINDS : Addr
  k_KINDS : KT K a_KINDS (tb_KINDS.map V.str)
  g_KINDS : mg "KINDS" = some (.ref a_KINDS)
  a_BITS : Addr
  k_BITS : KT K a_BITS (tb_BITS.map V.str)
  g_BITS : mg "BITS" = some (.ref a_BITS)
  a_PARTS : Addr
  k_PARTS : TabIs K w a_PARTS tb_PARTS
  g_PARTS : mg "PARTS" = some (.ref a_PARTS)
variable {P : Program} {w : World} {K : PySem.W.Frag} {mg : Str → Option Value} { base : Heap }
def ecOf (T : Tp K mg w) : EC := fun c => if c = "BitError" then T.e_BitError.C else if c = "NoWord" then T.e_NoWord.C else if c = "NoNet" then T.e_NoNet.C else if c = "NoTable" then T.e_NoTable.C else if c = "NoTelling" then T.e_NoTelling.C else if c = "NoSum" then T.e_NoSum.C else if c = "NoDemand" then T.e_NoDemand.C else if c = "NoPicks" then T.e_NoPicks.C else if c = "NoCount" then T.e_NoCount.C else if c = "NoKind" then T.e_NoKind.C else if c = "NoPlan" then T.e_NoPlan.C else if c = "NoCode" then T.e_NoCode.C else if c = "NoRow" then T.e_NoRow.C else if c = "NoMatch" then T.e_NoMatch.C else if c = "NoGate" then T.e_NoGate.C else if c = "NoBoard" then T.e_NoBoard.C else if c = "NoDeed" then T.e_NoDeed.C else if c = "NoDrop" then T.e_NoDrop.C else if c = "NoUndo" then T.e_NoUndo.C else if c = "NoThings" then T.e_NoThings.C else if c = "NoLets" then T.e_NoLets.C else if c = "NotThere" then T.e_NotThere.C else if c = "NoMachine" then T.e_NoMachine.C else if c = "TooGreat" then T.e_TooGreat.C else 0
def isCaught (c : Str) : Bool := decide (c ∈ erNm)
theorem ec_ga (T : Tp K mg w) : ∀ c ∈ erNm, ecOf T c = He.ga K c := by
  intro c hc
  simp only [erNm, List.mem_cons, List.not_mem_nil, or_false] at hc
  rcases hc with rfl | rfl | rfl | rfl | rfl | rfl | rfl | rfl | rfl | rfl | rfl | rfl | rfl | rfl | rfl | rfl | rfl | rfl | rfl | rfl | rfl | rfl | rfl | rfl
  · exact T.ea_BitError
  · exact T.ea_NoWord
  · exact T.ea_NoNet
  · exact T.ea_NoTable
  · exact T.ea_NoTelling
  · exact T.ea_NoSum
  · exact T.ea_NoDemand
  · exact T.ea_NoPicks
  · exact T.ea_NoCount
  · exact T.ea_NoKind
  · exact T.ea_NoPlan
  · exact T.ea_NoCode
  · exact T.ea_NoRow
  · exact T.ea_NoMatch
  · exact T.ea_NoGate
  · exact T.ea_NoBoard
  · exact T.ea_NoDeed
  · exact T.ea_NoDrop
  · exact T.ea_NoUndo
  · exact T.ea_NoThings
  · exact T.ea_NoLets
  · exact T.ea_NotThere
  · exact T.ea_NoMachine
  · exact T.ea_TooGreat
theorem caught_ok (T : Tp K mg w) : ∀ c, isCaught c = true → PySem.W.exmOne K (.ref (ecOf T c)) (.ref (He.ga K "BitError")) = some true ∧ ecOf T c = He.ga K c := by
  intro c h
  have hc := of_decide_eq_true h
  have e := ec_ga T c hc
  exact ⟨by rw [e]; exact exmB_ok T.xm_BitError c hc, e⟩
abbrev n__law_caught : List Str := ["call", "e"]
theorem sc__law_caught : FnScope n__law_caught ["call"] (defScope s__law_caught) := ⟨rfl, rfl, rfl, by decide +kernel, rfl, by decide +kernel, by decide +kernel⟩
def tbOf (T : Tp K mg w) : List (Addr × Str) := [(T.t_law.P, ("law" ++ ".<locals>.") ++ "<lambda>")]
def csOf (T : Tp K mg w) : List (Addr × Addr) := [(T.t_law.c, T.t_law.P)]
theorem mem_law (T : Tp K mg w) : (T.t_law.c, T.t_law.P) ∈ csOf T := by simp [csOf]
theorem tbm_law (T : Tp K mg w) : (T.t_law.P, (("law" : Str) ++ ".<locals>.") ++ "<lambda>") ∈ tbOf T := by simp [tbOf]
theorem tbu_law (T : Tp K mg w) : ∀ p ∈ tbOf T, p.1 = T.t_law.P → p.2 = (("law" : Str) ++ ".<locals>.") ++ "<lambda>" := by
  intro p hp e
  simp only [tbOf, List.mem_cons, List.not_mem_nil, or_false] at hp
  rcases hp with rfl
  · rfl
theorem htb_of (T : Tp K mg w) : ∀ p ∈ tbOf T, p.1 ∈ (csOf T).map (·.2) := by
  intro p hp
  simp only [tbOf, List.mem_cons, List.not_mem_nil, or_false] at hp
  rcases hp with rfl <;> simp [csOf]
abbrev n_is_count : List Str := ["thing", "least", "most"]
theorem sc_is_count : FnScope n_is_count ["thing", "least", "most"] (defScope s_is_count) := ⟨rfl, rfl, rfl, by decide +kernel, rfl, by decide +kernel, by decide +kernel⟩
def b_is_count : Vl.Env → M Fl := (sSeq (sIf (mOr (tTru (dIsi "bool" (bVar 0))) (mNot (tTru (dIsi "int" (bVar 0))))) (sRet (dC (.bool false))) sNil) (sRet (dChain dLe dLe (bVar 1) (bVar 0) (bVar 2))))
def den_is_count : List SV → M D := denOf 3 (b_is_count)
theorem ok_is_count (T : Tp K mg w) : FnG P w K mg base false 1 T.t_is_count.f T.t_is_count.fd ["thing", "least", "most"] (spG K (ecOf T) .v 3 (den_is_count)) := by
  refine fnG_of (k := 0) (N := n_is_count) (ps := ["thing", "least", "most"]) (body := b_is_count) T.t_is_count.F sc_is_count (.inl rfl) fun cdv A outer s H E hr hg => ?_
  exact (xs_cons (xs_if (XW.t (xw_or (xt_tru (XE.b (x_isi (T := "bool") (xb 0) (by decide) T.m_isinstance rfl T.m_bool rfl))) (xw_or1 (xt_not (xt_tru (XE.b (x_isi (T := "int") (xb 0) (by decide) T.m_isinstance rfl T.m_int rfl))))))) (xs_one (xs_ret x_bl)) xs_nil) (xs_one (xs_ret (x_chain or_le or_le od_le od_le (xb 1) (xb 0) (xb 2)))))
abbrev n_is_word : List Str := ["thing", "sign"]
theorem sc_is_word : FnScope n_is_word ["thing"] (defScope s_is_word) := ⟨rfl, rfl, rfl, by decide +kernel, rfl, by decide +kernel, by decide +kernel⟩
def b_is_word : Vl.Env → M Fl := (sSeq (sIf (mOr (mNot (tTru (dIsi "str" (bVar 0)))) (mNot (tV (dChain dLe dLe (dC (.int 1)) (dB gLen (aCons (bVar 0) aNil)) (dC (.int 32)))))) (sRet (dC (.bool false))) sNil) (sRet (dB gAll (aCons (dComp (itD (dVar 0)) (tgName 1) tsNil (d2 dInA (bVar 1) (dC (.str "01?"))) [1]) aNil))))
def den_is_word : List SV → M D := denOf 2 (b_is_word)
theorem ok_is_word (T : Tp K mg w) : FnG P w K mg base false 1 T.t_is_word.f T.t_is_word.fd ["thing"] (spG K (ecOf T) .v 1 (den_is_word)) := by
  refine fnG_of (k := 0) (N := n_is_word) (ps := ["thing"]) (body := b_is_word) T.t_is_word.F sc_is_word (.inl rfl) fun cdv A outer s H E hr hg => ?_
  exact (xs_cons (xs_if (XW.t (xw_or (xt_not (xt_tru (XE.b (x_isi (T := "str") (xb 0) (by decide) T.m_isinstance rfl T.m_str rfl)))) (xw_or1 (xt_not (xt_chain or_le or_le od_le od_le (XE.b x_int) (XE.b (x_blt call_len cd_len T.m_len rfl (xB_cons (xb 0) xB_nil))) (XE.b (x_gInt T.c_MOST_BITS))))))) (xs_one (xs_ret x_bl)) xs_nil) (xs_one (xs_ret (x_blt (cr_all rfl) cd_all T.m_all rfl (xB_cons (XE.fb (x_lc rfl sc_is_word.nd (xi_any (xv 0)) (own := [("sign", 1)]) (blkOk_by rfl) (fun _ _ _ _ _ => (xg_name 1 sc_is_word.nd)) (fun _ _ _ _ _ => xts_nil) (fun _ _ _ _ _ => (x_cmp (or_inA (roomU hr)) od_inA (xb 1) (XE.b (x_gStr T.c_SIGNS)) rfl)))) xB_nil)))))
abbrev n_check_word : List Str := ["thing"]
theorem sc_check_word : FnScope n_check_word ["thing"] (defScope s_check_word) := ⟨rfl, rfl, rfl, by decide +kernel, rfl, by decide +kernel, by decide +kernel⟩
def b_check_word : Vl.Env → M Fl := (sIf (mNot (tTru (dCall 1 den_is_word (aCons (dVar 0) aNil)))) (sRaise "NoWord") sNil)
def den_check_word : List SV → M D := denOf 1 (b_check_word)
theorem ok_check_word (T : Tp K mg w) : FnG P w K mg base false 2 T.t_check_word.f T.t_check_word.fd ["thing"] (spG K (ecOf T) .v 1 (den_check_word)) := by
  refine fnG_of (k := 1) (N := n_check_word) (ps := ["thing"]) (body := b_check_word) T.t_check_word.F sc_check_word (.inl rfl) fun cdv A outer s H E hr hg => ?_
  exact (xs_one (xs_if (xt_not (xt_tru (XE.b (x_call (ok_is_word T) (hr.mono (by omega)) (fun h => nomatch h) T.t_is_word.G T.t_is_word.Kp T.t_is_word.B (passX (takes_of rfl rfl rfl rfl)) (xa_cons (xv 0) xa_nil))))) (xs_one (xs_raise "NoWord" rfl (takes_of rfl rfl rfl rfl) T.e_NoWord.F T.e_NoWord.q T.e_NoWord.G T.e_NoWord.Kp (raises_own T.e_NoWord.h1 T.e_NoWord.h2) rfl)) xs_nil))
abbrev n_is_gate : List Str := ["thing", "own", "kind", "number"]
theorem sc_is_gate : FnScope n_is_gate ["thing", "own"] (defScope s_is_gate) := ⟨rfl, rfl, rfl, by decide +kernel, rfl, by decide +kernel, by decide +kernel⟩
def b_is_gate : Vl.Env → M Fl := (sSeq (sIf (mOr (mNot (tTru (dIsi "tuple" (bVar 0)))) (tV (d2 dEqA (dB gLen (aCons (bVar 0) aNil)) (dC (.int 0))))) (sRet (dC (.bool false))) sNil) (sSeq (sSet 2 (d2 dIxA (bVar 0) (dC (.int 0)))) (sSeq (sIf (mOr (mNot (tTru (dIsi "str" (bVar 2)))) (tV (d2 dNeA (dB gLen (aCons (bVar 0) aNil)) (dKGet tb_PARTS (bVar 2) (dC (.int 0)))))) (sRet (dC (.bool false))) sNil) (sRet (dB gAll (aCons (dComp (itD (dSlice (bVar 0) (dPart (dC (.int 1))) dNoPart)) (tgName 3) tsNil (dCall 3 den_is_count (aCons (dVar 3) (aCons (dC (.int 0)) (aCons (d2 dSub (bVar 1) (dC (.int 1))) aNil)))) [3]) aNil))))))
def den_is_gate : List SV → M D := denOf 4 (b_is_gate)
theorem ok_is_gate (T : Tp K mg w) : FnG P w K mg base false 2 T.t_is_gate.f T.t_is_gate.fd ["thing", "own"] (spG K (ecOf T) .v 2 (den_is_gate)) := by
  refine fnG_of (k := 1) (N := n_is_gate) (ps := ["thing", "own"]) (body := b_is_gate) T.t_is_gate.F sc_is_gate (.inl rfl) fun cdv A outer s H E hr hg => ?_
  exact (xs_cons (xs_if (XW.t (xw_or (xt_not (xt_tru (XE.b (x_isi (T := "tuple") (xb 0) (by decide) T.m_isinstance rfl T.m_tuple rfl)))) (xw_or1 (xt_cmp (or_eqA (roomU0 hr)) od_eqA (XE.b (x_blt call_len cd_len T.m_len rfl (xB_cons (xb 0) xB_nil))) (XE.b x_int) rfl)))) (xs_one (xs_ret x_bl)) xs_nil) (xs_cons (xs_set 2 sc_is_gate.nd (x_ixA (roomU1 hr) (xb 0) (XE.b x_int))) (xs_cons (xs_if (XW.t (xw_or (xt_not (xt_tru (XE.b (x_isi (T := "str") (xb 2) (by decide) T.m_isinstance rfl T.m_str rfl)))) (xw_or1 (xt_cmp (or_neA (roomU0 hr)) od_neA (XE.b (x_blt call_len cd_len T.m_len rfl (xB_cons (xb 0) xB_nil))) (XE.b (x_kget T.k_PARTS (xb 2) x_int T.g_PARTS)) rfl)))) (xs_one (xs_ret x_bl)) xs_nil) (xs_one (xs_ret (x_blt (cr_all rfl) cd_all T.m_all rfl (xB_cons (XE.fb (x_lc rfl sc_is_gate.nd (xi_any (x_slice (xb 0) (xo_some (XE.b x_int)) xo_none)) (own := [("number", 3)]) (blkOk_by rfl) (fun _ _ _ _ _ => (xg_name 3 sc_is_gate.nd)) (fun _ _ _ _ _ => xts_nil) (fun _ _ _ _ _ => (x_call (ok_is_count T) (hr.mono (by omega)) (fun h => nomatch h) T.t_is_count.G T.t_is_count.Kp T.t_is_count.B passX0 (xa_cons (xv 3) (xa_cons x_int (xa_cons (x_op op_sub od_sub (xb 1) (XE.b x_int)) xa_nil))))))) xB_nil)))))))
abbrev n_are_outs : List Str := ["thing", "many", "number"]
theorem sc_are_outs : FnScope n_are_outs ["thing", "many"] (defScope s_are_outs) := ⟨rfl, rfl, rfl, by decide +kernel, rfl, by decide +kernel, by decide +kernel⟩
def b_are_outs : Vl.Env → M Fl := (sSeq (sIf (mOr (mNot (tTru (dIsi "tuple" (bVar 0)))) (mNot (tV (dChain dLe dLe (dC (.int 1)) (dB gLen (aCons (bVar 0) aNil)) (dC (.int 32)))))) (sRet (dC (.bool false))) sNil) (sRet (dB gAll (aCons (dComp (itD (dVar 0)) (tgName 2) tsNil (dCall 3 den_is_count (aCons (dVar 2) (aCons (dC (.int 0)) (aCons (d2 dSub (bVar 1) (dC (.int 1))) aNil)))) [2]) aNil))))
def den_are_outs : List SV → M D := denOf 3 (b_are_outs)
theorem ok_are_outs (T : Tp K mg w) : FnG P w K mg base false 2 T.t_are_outs.f T.t_are_outs.fd ["thing", "many"] (spG K (ecOf T) .v 2 (den_are_outs)) := by
  refine fnG_of (k := 1) (N := n_are_outs) (ps := ["thing", "many"]) (body := b_are_outs) T.t_are_outs.F sc_are_outs (.inl rfl) fun cdv A outer s H E hr hg => ?_
  exact (xs_cons (xs_if (XW.t (xw_or (xt_not (xt_tru (XE.b (x_isi (T := "tuple") (xb 0) (by decide) T.m_isinstance rfl T.m_tuple rfl)))) (xw_or1 (xt_not (xt_chain or_le or_le od_le od_le (XE.b x_int) (XE.b (x_blt call_len cd_len T.m_len rfl (xB_cons (xb 0) xB_nil))) (XE.b (x_gInt T.c_MOST_OUTS))))))) (xs_one (xs_ret x_bl)) xs_nil) (xs_one (xs_ret (x_blt (cr_all rfl) cd_all T.m_all rfl (xB_cons (XE.fb (x_lc rfl sc_are_outs.nd (xi_any (xv 0)) (own := [("number", 2)]) (blkOk_by rfl) (fun _ _ _ _ _ => (xg_name 2 sc_are_outs.nd)) (fun _ _ _ _ _ => xts_nil) (fun _ _ _ _ _ => (x_call (ok_is_count T) (hr.mono (by omega)) (fun h => nomatch h) T.t_is_count.G T.t_is_count.Kp T.t_is_count.B passX0 (xa_cons (xv 2) (xa_cons x_int (xa_cons (x_op op_sub od_sub (xb 1) (XE.b x_int)) xa_nil))))))) xB_nil)))))
abbrev n_marked : List Str := ["words", "at", "bit", "k", "word"]
theorem sc_marked : FnScope n_marked ["words", "at", "bit"] (defScope s_marked) := ⟨rfl, rfl, rfl, by decide +kernel, rfl, by decide +kernel, by decide +kernel⟩
def b_marked : Vl.Env → M Fl := (sRet (dB gSum (aCons (dComp (itE1 (dVar 0)) (tgTup 2 (tgCons (tgName 3) (tgCons (tgName 4) tgNil))) (tV (d2 dEqA (d2 dIxA (bVar 4) (bVar 1)) (bVar 2))) (d2 dShl (dC (.int 1)) (bVar 3)) [3, 4]) aNil)))
def den_marked : List SV → M D := denOf 5 (b_marked)
theorem ok_marked (T : Tp K mg w) : FnG P w K mg base false 1 T.t_marked.f T.t_marked.fd ["words", "at", "bit"] (spG K (ecOf T) .v 3 (den_marked)) := by
  refine fnG_of (k := 0) (N := n_marked) (ps := ["words", "at", "bit"]) (body := b_marked) T.t_marked.F sc_marked (.inl rfl) fun cdv A outer s H E hr hg => ?_
  exact (xs_one (xs_ret (x_blt (cr_sum rfl) cd_sum T.m_sum rfl (xB_cons (XE.fb (x_lc rfl sc_marked.nd (xi_enum1 T.m_enumerate (xv 0)) (own := [("k", 3), ("word", 4)]) (blkOk_by rfl) (fun _ _ _ _ _ => (xg_tup 2 rfl (xgs_cons (xg_name 3 sc_marked.nd) (xgs_cons (xg_name 4 sc_marked.nd) xgs_nil)))) (fun _ _ _ _ _ => (xts_one (xt_cmp (or_eqA (roomU0 hr)) od_eqA (XE.b (x_ixA (roomU1 hr) (xb 4) (xb 1))) (xb 2) rfl))) (fun _ _ _ _ _ => (x_op op_shl od_shl (XE.b x_int) (xb 3))))) xB_nil))))
abbrev n_let_through : List Str := ["gate", "stands", "everywhere", "kind", "ones", "zeros", "other_ones", "other_zeros"]
theorem sc_let_through : FnScope n_let_through ["gate", "stands", "everywhere"] (defScope s_let_through) := ⟨rfl, rfl, rfl, by decide +kernel, rfl, by decide +kernel, by decide +kernel⟩
def b_let_through : Vl.Env → M Fl := (sSeq (sSet 3 (d2 dIxA (bVar 0) (dC (.int 0)))) (sSeq (sIf (tV (d2 dEqA (bVar 3) (dC (.str "0")))) (sRet (dTup (aCons (dC (.int 0)) (aCons (dVar 2) aNil)))) sNil) (sSeq (sIf (tV (d2 dEqA (bVar 3) (dC (.str "1")))) (sRet (dTup (aCons (dVar 2) (aCons (dC (.int 0)) aNil)))) sNil) (sSeq (sAsg (d2 dIxA (bVar 1) (d2 dIxA (bVar 0) (dC (.int 1)))) (tgTup 2 (tgCons (tgName 4) (tgCons (tgName 5) tgNil)))) (sSeq (sIf (tV (d2 dEqA (bVar 3) (dC (.str "not")))) (sRet (dTup (aCons (dVar 5) (aCons (dVar 4) aNil)))) sNil) (sSeq (sAsg (d2 dIxA (bVar 1) (d2 dIxA (bVar 0) (dC (.int 2)))) (tgTup 2 (tgCons (tgName 6) (tgCons (tgName 7) tgNil)))) (sSeq (sIf (tV (d2 dEqA (bVar 3) (dC (.str "and")))) (sRet (dTup (aCons (d2 dBand (bVar 4) (bVar 6)) (aCons (d2 dBor (bVar 5) (bVar 7)) aNil)))) sNil) (sRet (dTup (aCons (d2 dBor (bVar 4) (bVar 6)) (aCons (d2 dBand (bVar 5) (bVar 7)) aNil)))))))))))
def den_let_through : List SV → M D := denOf 8 (b_let_through)
theorem ok_let_through (T : Tp K mg w) : FnG P w K mg base false 1 T.t_let_through.f T.t_let_through.fd ["gate", "stands", "everywhere"] (spG K (ecOf T) .v 3 (den_let_through)) := by
  refine fnG_of (k := 0) (N := n_let_through) (ps := ["gate", "stands", "everywhere"]) (body := b_let_through) T.t_let_through.F sc_let_through (.inl rfl) fun cdv A outer s H E hr hg => ?_
  exact (xs_cons (xs_set 3 sc_let_through.nd (x_ixA (roomU1 hr) (xb 0) (XE.b x_int))) (xs_cons (xs_if (xt_cmp (or_eqA (roomU0 hr)) od_eqA (xb 3) (XE.b x_str) rfl) (xs_one (xs_ret (x_tup (xa_cons x_int (xa_cons (xv 2) xa_nil))))) xs_nil) (xs_cons (xs_if (xt_cmp (or_eqA (roomU0 hr)) od_eqA (xb 3) (XE.b x_str) rfl) (xs_one (xs_ret (x_tup (xa_cons (xv 2) (xa_cons x_int xa_nil))))) xs_nil) (xs_cons (xs_asg (x_ixA (roomU1 hr) (xb 1) (XE.b (x_ixA (roomU1 hr) (xb 0) (XE.b x_int)))) (xg_tup 2 rfl (xgs_cons (xg_name 4 sc_let_through.nd) (xgs_cons (xg_name 5 sc_let_through.nd) xgs_nil)))) (xs_cons (xs_if (xt_cmp (or_eqA (roomU0 hr)) od_eqA (xb 3) (XE.b x_str) rfl) (xs_one (xs_ret (x_tup (xa_cons (xv 5) (xa_cons (xv 4) xa_nil))))) xs_nil) (xs_cons (xs_asg (x_ixA (roomU1 hr) (xb 1) (XE.b (x_ixA (roomU1 hr) (xb 0) (XE.b x_int)))) (xg_tup 2 rfl (xgs_cons (xg_name 6 sc_let_through.nd) (xgs_cons (xg_name 7 sc_let_through.nd) xgs_nil)))) (xs_cons (xs_if (xt_cmp (or_eqA (roomU0 hr)) od_eqA (xb 3) (XE.b x_str) rfl) (xs_one (xs_ret (x_tup (xa_cons (x_op op_and od_band (xb 4) (xb 6)) (xa_cons (x_op op_or od_bor (xb 5) (xb 7)) xa_nil))))) xs_nil) (xs_one (xs_ret (x_tup (xa_cons (x_op op_or od_bor (xb 4) (xb 6)) (xa_cons (x_op op_and od_band (xb 5) (xb 7)) xa_nil))))))))))))
abbrev n_sign_at : List Str := ["pair", "k", "ones", "zeros"]
theorem sc_sign_at : FnScope n_sign_at ["pair", "k"] (defScope s_sign_at) := ⟨rfl, rfl, rfl, by decide +kernel, rfl, by decide +kernel, by decide +kernel⟩
def b_sign_at : Vl.Env → M Fl := (sSeq (sAsg (dVar 0) (tgTup 2 (tgCons (tgName 2) (tgCons (tgName 3) tgNil)))) (sSeq (sIf (tTru (d2 dBand (d2 dShr (bVar 2) (bVar 1)) (dC (.int 1)))) (sRet (dC (.str "1"))) sNil) (sRet (vIf (tTru (d2 dBand (d2 dShr (bVar 3) (bVar 1)) (dC (.int 1)))) (dC (.str "0")) (dC (.str "?"))))))
def den_sign_at : List SV → M D := denOf 4 (b_sign_at)
theorem ok_sign_at (T : Tp K mg w) : FnG P w K mg base false 1 T.t_sign_at.f T.t_sign_at.fd ["pair", "k"] (spG K (ecOf T) .v 2 (den_sign_at)) := by
  refine fnG_of (k := 0) (N := n_sign_at) (ps := ["pair", "k"]) (body := b_sign_at) T.t_sign_at.F sc_sign_at (.inl rfl) fun cdv A outer s H E hr hg => ?_
  exact (xs_cons (xs_asg (xv 0) (xg_tup 2 rfl (xgs_cons (xg_name 2 sc_sign_at.nd) (xgs_cons (xg_name 3 sc_sign_at.nd) xgs_nil)))) (xs_cons (xs_if (xt_tru (XE.b (x_op op_and od_band (XE.b (x_op op_shr od_shr (xb 2) (xb 1))) (XE.b x_int)))) (xs_one (xs_ret x_str)) xs_nil) (xs_one (xs_ret (x_if (xt_tru (XE.b (x_op op_and od_band (XE.b (x_op op_shr od_shr (xb 3) (xb 1))) (XE.b x_int)))) x_str x_str)))))
abbrev n_check_rounds : List Str := ["thing"]
theorem sc_check_rounds : FnScope n_check_rounds ["thing"] (defScope s_check_rounds) := ⟨rfl, rfl, rfl, by decide +kernel, rfl, by decide +kernel, by decide +kernel⟩
def b_check_rounds : Vl.Env → M Fl := (sIf (mNot (tTru (dCall 3 den_is_count (aCons (dVar 0) (aCons (dC (.int 1)) (aCons (dC (.int 8)) aNil)))))) (sRaise "NoCount") sNil)
def den_check_rounds : List SV → M D := denOf 1 (b_check_rounds)
theorem ok_check_rounds (T : Tp K mg w) : FnG P w K mg base false 2 T.t_check_rounds.f T.t_check_rounds.fd ["thing"] (spG K (ecOf T) .v 1 (den_check_rounds)) := by
  refine fnG_of (k := 1) (N := n_check_rounds) (ps := ["thing"]) (body := b_check_rounds) T.t_check_rounds.F sc_check_rounds (.inl rfl) fun cdv A outer s H E hr hg => ?_
  exact (xs_one (xs_if (xt_not (xt_tru (XE.b (x_call (ok_is_count T) (hr.mono (by omega)) (fun h => nomatch h) T.t_is_count.G T.t_is_count.Kp T.t_is_count.B (passX (takes_of rfl rfl rfl rfl)) (xa_cons (xv 0) (xa_cons x_int (xa_cons (x_gInt T.c_MOST_READS) xa_nil))))))) (xs_one (xs_raise "NoCount" rfl (takes_of rfl rfl rfl rfl) T.e_NoCount.F T.e_NoCount.q T.e_NoCount.G T.e_NoCount.Kp (raises_own T.e_NoCount.h1 T.e_NoCount.h2) rfl)) xs_nil))
abbrev n_reads_of : List Str := ["kind", "bit", "r", "early", "late", "settled", "many", "half_settled"]
theorem sc_reads_of : FnScope n_reads_of ["kind", "bit", "r"] (defScope s_reads_of) := ⟨rfl, rfl, rfl, by decide +kernel, rfl, by decide +kernel, by decide +kernel⟩
def b_reads_of : Vl.Env → M Fl := (sSeq (sIf (mOr (tV (d2 dNeA (bVar 1) (dC (.str "?")))) (tV (d2 dEqA (bVar 0) (dC (.str "plain"))))) (sRet (dLst (aCons (d2 dMul (bVar 1) (bVar 2)) aNil))) sNil) (sSeq (sAsg (vIf (tV (d2 dEqA (bVar 0) (dC (.str "low")))) (dTup (aCons (dC (.str "0")) (aCons (dC (.str "1")) aNil))) (dTup (aCons (dC (.str "1")) (aCons (dC (.str "0")) aNil)))) (tgTup 2 (tgCons (tgName 3) (tgCons (tgName 4) tgNil)))) (sSeq (sOwn 5 (dComp (itR1 (aCons (d2 dAdd (bVar 2) (dC (.int 1))) aNil)) (tgName 6) tsNil (d2 dAdd (d2 dMul (bVar 3) (d2 dSub (bVar 2) (bVar 6))) (d2 dMul (bVar 4) (bVar 6))) [6])) (sSeq (sOwn 7 (dComp (itR1 (aCons (bVar 2) aNil)) (tgName 6) tsNil (d2 dAdd (d2 dAdd (d2 dMul (bVar 3) (d2 dSub (d2 dSub (bVar 2) (dC (.int 1))) (bVar 6))) (dC (.str "?"))) (d2 dMul (bVar 4) (bVar 6))) [6])) (sRet (dB gSorted (aCons (d2 dAdd (bVar 5) (bVar 7)) aNil)))))))
def den_reads_of : List SV → M D := denOf 8 (b_reads_of)
theorem ok_reads_of (T : Tp K mg w) : FnG P w K mg base false 1 T.t_reads_of.f T.t_reads_of.fd ["kind", "bit", "r"] (spG K (ecOf T) .v 3 (den_reads_of)) := by
  refine fnG_of (k := 0) (N := n_reads_of) (ps := ["kind", "bit", "r"]) (body := b_reads_of) T.t_reads_of.F sc_reads_of (.inl rfl) fun cdv A outer s H E hr hg => ?_
  exact (xs_cons (xs_if (XW.t (xw_or (xt_cmp (or_neA (roomU0 hr)) od_neA (xb 1) (XE.b x_str) rfl) (xw_or1 (xt_cmp (or_eqA (roomU0 hr)) od_eqA (xb 0) (XE.b x_str) rfl)))) (xs_one (xs_ret (XE.v (x_lst (xa_cons (x_op or_mul od_mul (xb 1) (xb 2)) xa_nil))))) xs_nil) (xs_cons (xs_asg (x_if (xt_cmp (or_eqA (roomU0 hr)) od_eqA (xb 0) (XE.b x_str) rfl) (x_tup (xa_cons x_str (xa_cons x_str xa_nil))) (x_tup (xa_cons x_str (xa_cons x_str xa_nil)))) (xg_tup 2 rfl (xgs_cons (xg_name 3 sc_reads_of.nd) (xgs_cons (xg_name 4 sc_reads_of.nd) xgs_nil)))) (xs_cons (xs_setLc 5 rfl sc_reads_of.nd (xi_range1 T.m_range (xB_cons (XE.b (x_op or_add od_add (xb 2) (XE.b x_int))) xB_nil)) (own := [("many", 6)]) (blkOk_by rfl) (fun _ _ _ _ _ => (xg_name 6 sc_reads_of.nd)) (fun _ _ _ _ _ => xts_nil) (fun _ _ _ _ _ => (x_op or_add od_add (XE.b (x_op or_mul od_mul (xb 3) (XE.b (x_op op_sub od_sub (xb 2) (xb 6))))) (XE.b (x_op or_mul od_mul (xb 4) (xb 6))))) (sw_true rfl rfl rfl rfl)) (xs_cons (xs_setLc 7 rfl sc_reads_of.nd (xi_range1 T.m_range (xB_cons (xb 2) xB_nil)) (own := [("many", 6)]) (blkOk_by rfl) (fun _ _ _ _ _ => (xg_name 6 sc_reads_of.nd)) (fun _ _ _ _ _ => xts_nil) (fun _ _ _ _ _ => (x_op or_add od_add (XE.b (x_op or_add od_add (XE.b (x_op or_mul od_mul (xb 3) (XE.b (x_op op_sub od_sub (XE.b (x_op op_sub od_sub (xb 2) (XE.b x_int))) (xb 6))))) (XE.b x_str))) (XE.b (x_op or_mul od_mul (xb 4) (xb 6))))) (sw_true rfl rfl rfl rfl)) (xs_one (xs_ret (XE.v (x_blt cr_sortedS cd_sorted T.m_sorted rfl (xB_cons (XE.b (x_op or_add od_add (xb 5) (xb 7))) xB_nil)))))))))
abbrev n__law_open : List Str := ["script", "cells", "k", "cell"]
theorem sc__law_open : FnScope n__law_open ["script"] (defScope s__law_open) := ⟨rfl, rfl, rfl, by decide +kernel, rfl, by decide +kernel, by decide +kernel⟩
def b__law_open : Vl.Env → M Fl := (sSeq (sOwn 1 (dB gList (aCons (dScr 0 dNoPart (dPart (dC (.int 12)))) aNil))) (sSeq (sFor (itE1 (dScr 0 (dPart (dC (.int 12))) (dPart (dC (.int 63))))) (tgTup 2 (tgCons (tgName 2) (tgCons (tgName 3) tgNil))) (sSetAt 1 (d2 dAdd (d2 dIxA (bVar 1) (d2 dMod (dB gInt (aCons (bVar 2) aNil)) (dC (.int 12)))) (bVar 3)) (d2 dMod (dB gInt (aCons (bVar 2) aNil)) (dC (.int 12))))) (sShare 1 (sRet (dLst (aCons (dVar 1) (aCons (dC (.int 0)) (aCons (dC (.int 0)) aNil))))))))
def den__law_open : List SV → M D := denOf 4 (b__law_open)
theorem ok__law_open (T : Tp K mg w) : FnG P w K mg base false 1 T.t__law_open.f T.t__law_open.fd ["script"] (spG K (ecOf T) .v 1 (den__law_open)) := by
  refine fnG_of (k := 0) (N := n__law_open) (ps := ["script"]) (body := b__law_open) T.t__law_open.F sc__law_open (.inl rfl) fun cdv A outer s H E hr hg => ?_
  exact (xs_cons (xs_own 1 sc__law_open.nd (x_bty (cr_list rfl) cd_list T.m_list rfl (xB_cons (XE.fb (x_scr 0 xo_none (xo_some (XE.b x_int)))) xB_nil))) (xs_cons (xs_for (passes_of rfl) rfl (xi_enum1 T.m_enumerate (XE.v (x_scr 0 (xo_some (XE.b x_int)) (xo_some (XE.b x_int))))) (xg_tup 2 rfl (xgs_cons (xg_name 2 sc__law_open.nd) (xgs_cons (xg_name 3 sc__law_open.nd) xgs_nil))) (xs_one (xs_setAt 1 (x_op or_add od_add (XE.b (x_ixA (roomU1 hr) (xb 1) (XE.b (x_op op_mod od_mod (XE.b (x_bty call_int1 cd_int T.m_int rfl (xB_cons (xb 2) xB_nil))) (XE.b x_int))))) (xb 3)) (x_op op_mod od_mod (XE.b (x_bty call_int1 cd_int T.m_int rfl (xB_cons (xb 2) xB_nil))) (XE.b x_int))))) (xs_share 1 (xs_one (xs_ret (XE.v (x_lst (xa_cons (xv 1) (xa_cons x_int (xa_cons x_int xa_nil))))))))))
abbrev n__law_spread : List Str := ["cell", "k", "primes", "one", "two", "three"]
theorem sc__law_spread : FnScope n__law_spread ["cell", "k"] (defScope s__law_spread) := ⟨rfl, rfl, rfl, by decide +kernel, rfl, by decide +kernel, by decide +kernel⟩
def b__law_spread : Vl.Env → M Fl := (sSeq (sIf (tV (d2 dGe (bVar 0) (d2 dPow (dC (.int 10)) (dC (.int 18))))) (sRet (dVar 0)) sNil) (sSeq (sSet 2 (dLst (aCons (dC (.int 2147483629)) (aCons (dC (.int 2147483587)) (aCons (dC (.int 2147483579)) (aCons (dC (.int 2147483563)) (aCons (dC (.int 2147483549)) (aCons (dC (.int 2147483543)) (aCons (dC (.int 2147483497)) (aCons (dC (.int 2147483489)) aNil)))))))))) (sSeq (sSet 2 (d2 dCat (bVar 2) (dLst (aCons (dC (.int 2147483477)) (aCons (dC (.int 2147483423)) (aCons (dC (.int 2147483399)) (aCons (dC (.int 2147483353)) (aCons (dC (.int 2147483323)) aNil)))))))) (sSeq (sSet 3 (d2 dMul (d2 dMod (dB gInt (aCons (bVar 0) aNil)) (dC (.int 1000000007))) (d2 dAdd (d2 dMul (dC (.int 2)) (bVar 1)) (dC (.int 69069))))) (sSeq (sSet 3 (d2 dMod (dB gInt (aCons (d2 dPow (d2 dAdd (d2 dAdd (bVar 3) (d2 dMul (bVar 1) (dC (.int 40503)))) (dC (.int 977))) (dC (.int 3))) aNil)) (d2 dIxA (bVar 2) (d2 dMod (dB gInt (aCons (bVar 1) aNil)) (dC (.int 13)))))) (sSeq (sSet 4 (d2 dMod (dB gInt (aCons (d2 dPow (d2 dAdd (d2 dAdd (d2 dMul (bVar 3) (d2 dAdd (bVar 1) (dC (.int 3)))) (d2 dMod (dB gInt (aCons (bVar 0) aNil)) (dC (.int 65537)))) (dC (.int 5))) (dC (.int 5))) aNil)) (d2 dIxA (bVar 2) (d2 dMod (dB gInt (aCons (d2 dAdd (bVar 1) (dC (.int 5))) aNil)) (dC (.int 13)))))) (sSeq (sSet 5 (d2 dMod (dB gInt (aCons (d2 dPow (d2 dAdd (d2 dAdd (bVar 4) (d2 dMod (dB gInt (aCons (bVar 3) aNil)) (dC (.int 1009)))) (bVar 1)) (dC (.int 3))) aNil)) (d2 dIxA (bVar 2) (d2 dMod (dB gInt (aCons (d2 dAdd (bVar 1) (dC (.int 7))) aNil)) (dC (.int 13)))))) (sRet (d2 dAdd (d2 dMul (d2 dAdd (d2 dMul (bVar 3) (dC (.int 2147483647))) (bVar 4)) (dC (.int 2147483647))) (bVar 5))))))))))
def den__law_spread : List SV → M D := denOf 6 (b__law_spread)
theorem ok__law_spread (T : Tp K mg w) : FnG P w K mg base false 1 T.t__law_spread.f T.t__law_spread.fd ["cell", "k"] (spG K (ecOf T) .v 2 (den__law_spread)) := by
  refine fnG_of (k := 0) (N := n__law_spread) (ps := ["cell", "k"]) (body := b__law_spread) T.t__law_spread.F sc__law_spread (.inl rfl) fun cdv A outer s H E hr hg => ?_
  exact (xs_cons (xs_if (xt_cmp or_ge od_ge (xb 0) (XE.b (x_op op_pow od_pow (XE.b x_int) (XE.b x_int))) rfl) (xs_one (xs_ret (xv 0))) xs_nil) (xs_cons (xs_set 2 sc__law_spread.nd (XE.v (x_lst (xa_cons x_int (xa_cons x_int (xa_cons x_int (xa_cons x_int (xa_cons x_int (xa_cons x_int (xa_cons x_int (xa_cons x_int xa_nil))))))))))) (xs_cons (xs_set 2 sc__law_spread.nd (XE.v (x_op op_cat od_cat (xb 2) (XE.fb (x_lst (xa_cons x_int (xa_cons x_int (xa_cons x_int (xa_cons x_int (xa_cons x_int xa_nil)))))))))) (xs_cons (xs_set 3 sc__law_spread.nd (x_op or_mul od_mul (XE.b (x_op op_mod od_mod (XE.b (x_bty call_int1 cd_int T.m_int rfl (xB_cons (xb 0) xB_nil))) (XE.b x_int))) (XE.b (x_op or_add od_add (XE.b (x_op or_mul od_mul (XE.b x_int) (xb 1))) (XE.b x_int))))) (xs_cons (xs_set 3 sc__law_spread.nd (x_op op_mod od_mod (XE.b (x_bty call_int1 cd_int T.m_int rfl (xB_cons (XE.b (x_op op_pow od_pow (XE.b (x_op or_add od_add (XE.b (x_op or_add od_add (xb 3) (XE.b (x_op or_mul od_mul (xb 1) (XE.b x_int))))) (XE.b x_int))) (XE.b x_int))) xB_nil))) (XE.b (x_ixA (roomU1 hr) (xb 2) (XE.b (x_op op_mod od_mod (XE.b (x_bty call_int1 cd_int T.m_int rfl (xB_cons (xb 1) xB_nil))) (XE.b x_int))))))) (xs_cons (xs_set 4 sc__law_spread.nd (x_op op_mod od_mod (XE.b (x_bty call_int1 cd_int T.m_int rfl (xB_cons (XE.b (x_op op_pow od_pow (XE.b (x_op or_add od_add (XE.b (x_op or_add od_add (XE.b (x_op or_mul od_mul (xb 3) (XE.b (x_op or_add od_add (xb 1) (XE.b x_int))))) (XE.b (x_op op_mod od_mod (XE.b (x_bty call_int1 cd_int T.m_int rfl (xB_cons (xb 0) xB_nil))) (XE.b x_int))))) (XE.b x_int))) (XE.b x_int))) xB_nil))) (XE.b (x_ixA (roomU1 hr) (xb 2) (XE.b (x_op op_mod od_mod (XE.b (x_bty call_int1 cd_int T.m_int rfl (xB_cons (XE.b (x_op or_add od_add (xb 1) (XE.b x_int))) xB_nil))) (XE.b x_int))))))) (xs_cons (xs_set 5 sc__law_spread.nd (x_op op_mod od_mod (XE.b (x_bty call_int1 cd_int T.m_int rfl (xB_cons (XE.b (x_op op_pow od_pow (XE.b (x_op or_add od_add (XE.b (x_op or_add od_add (xb 4) (XE.b (x_op op_mod od_mod (XE.b (x_bty call_int1 cd_int T.m_int rfl (xB_cons (xb 3) xB_nil))) (XE.b x_int))))) (xb 1))) (XE.b x_int))) xB_nil))) (XE.b (x_ixA (roomU1 hr) (xb 2) (XE.b (x_op op_mod od_mod (XE.b (x_bty call_int1 cd_int T.m_int rfl (xB_cons (XE.b (x_op or_add od_add (xb 1) (XE.b x_int))) xB_nil))) (XE.b x_int))))))) (xs_one (xs_ret (x_op or_add od_add (XE.b (x_op or_mul od_mul (XE.b (x_op or_add od_add (XE.b (x_op or_mul od_mul (xb 3) (XE.b x_int))) (xb 4))) (XE.b x_int))) (xb 5)))))))))))
abbrev n__law_take : List Str := ["pen", "many", "k", "cell", "found"]
theorem sc__law_take : FnScope n__law_take ["pen", "many"] (defScope s__law_take) := ⟨rfl, rfl, rfl, by decide +kernel, rfl, by decide +kernel, by decide +kernel⟩
def b__law_take : Vl.Env → M Fl := (sSeq (sIf (tV (d2 dLt (dPenS 0) (bVar 1))) (sSeq (sSet 2 (dPenK 0)) (sSeq (sSet 3 (dC (.int 0))) (sSeq (sIf (tV (d2 dLt (bVar 2) (dB gLen (aCons (dPenC 0) aNil)))) (sSet 3 (d2 dIxA (dPenC 0) (bVar 2))) (sIf (tV (d2 dGt (dB gLen (aCons (dPenC 0) aNil)) (dC (.int 0)))) (sSet 3 (d2 dMod (dB gInt (aCons (d2 dIxA (dPenC 0) (d2 dMod (dB gInt (aCons (d2 dAdd (d2 dMul (bVar 2) (dC (.int 5))) (dC (.int 3))) aNil)) (dB gLen (aCons (dPenC 0) aNil)))) aNil)) (d2 dAdd (d2 dPow (dC (.int 10)) (dC (.int 17))) (bVar 2)))) sNil)) (sSeq (sPenK 0 (d2 dAdd (bVar 2) (dC (.int 1)))) (sPenS 0 (dCall 2 den__law_spread (aCons (dVar 3) (aCons (dVar 2) aNil)))))))) sNil) (sSeq (sSet 4 (d2 dMod (dB gInt (aCons (dPenS 0) aNil)) (bVar 1))) (sSeq (sPenS 0 (d2 dDiv (dPenS 0) (bVar 1))) (sRet (dVar 4)))))
def den__law_take : List SV → M D := denOf 5 (b__law_take)
theorem ok__law_take (T : Tp K mg w) : FnG P w K mg base false 2 T.t__law_take.f T.t__law_take.fd ["pen", "many"] (spG K (ecOf T) .v 2 (den__law_take)) := by
  refine fnG_of (k := 1) (N := n__law_take) (ps := ["pen", "many"]) (body := b__law_take) T.t__law_take.F sc__law_take (.inl rfl) fun cdv A outer s H E hr hg => ?_
  exact (xs_cons (xs_if (xt_cmp or_lt od_lt (XE.b (x_penS 0)) (xb 1) rfl) (xs_cons (xs_set 2 sc__law_take.nd (x_penK 0)) (xs_cons (xs_set 3 sc__law_take.nd x_int) (xs_cons (xs_if (xt_cmp or_lt od_lt (xb 2) (XE.b (x_blt call_len cd_len T.m_len rfl (xB_cons (x_penC 0) xB_nil))) rfl) (xs_one (xs_set 3 sc__law_take.nd (x_ixA (roomU1 hr) (x_penC 0) (xb 2)))) (xs_one (xs_if (xt_cmp or_gt od_gt (XE.b (x_blt call_len cd_len T.m_len rfl (xB_cons (x_penC 0) xB_nil))) (XE.b x_int) rfl) (xs_one (xs_set 3 sc__law_take.nd (x_op op_mod od_mod (XE.b (x_bty call_int1 cd_int T.m_int rfl (xB_cons (XE.b (x_ixA (roomU1 hr) (x_penC 0) (XE.b (x_op op_mod od_mod (XE.b (x_bty call_int1 cd_int T.m_int rfl (xB_cons (XE.b (x_op or_add od_add (XE.b (x_op or_mul od_mul (xb 2) (XE.b x_int))) (XE.b x_int))) xB_nil))) (XE.b (x_blt call_len cd_len T.m_len rfl (xB_cons (x_penC 0) xB_nil))))))) xB_nil))) (XE.b (x_op or_add od_add (XE.b (x_op op_pow od_pow (XE.b x_int) (XE.b x_int))) (xb 2)))))) xs_nil))) (xs_cons (xs_penK 0 (x_op or_add od_add (xb 2) (XE.b x_int))) (xs_one (xs_penS 0 (x_call (ok__law_spread T) (hr.mono (by omega)) (fun h => nomatch h) T.t__law_spread.G T.t__law_spread.Kp T.t__law_spread.B (passX (takes_of rfl rfl rfl rfl)) (xa_cons (xv 3) (xa_cons (xv 2) xa_nil))))))))) xs_nil) (xs_cons (xs_set 4 sc__law_take.nd (x_op op_mod od_mod (XE.b (x_bty call_int1 cd_int T.m_int rfl (xB_cons (XE.b (x_penS 0)) xB_nil))) (xb 1))) (xs_cons (xs_penS 0 (x_op op_fdiv od_div (XE.b (x_penS 0)) (xb 1))) (xs_one (xs_ret (xv 4))))))
abbrev n__law_one_of : List Str := ["pen", "some"]
theorem sc__law_one_of : FnScope n__law_one_of ["pen", "some"] (defScope s__law_one_of) := ⟨rfl, rfl, rfl, by decide +kernel, rfl, by decide +kernel, by decide +kernel⟩
def b__law_one_of : Vl.Env → M Fl := (sRet (d2 dIxA (bVar 1) (dPen 0 2 den__law_take (aCons (dB gLen (aCons (bVar 1) aNil)) aNil))))
def den__law_one_of : List SV → M D := denOf 2 (b__law_one_of)
theorem ok__law_one_of (T : Tp K mg w) : FnG P w K mg base false 3 T.t__law_one_of.f T.t__law_one_of.fd ["pen", "some"] (spG K (ecOf T) .v 2 (den__law_one_of)) := by
  refine fnG_of (k := 2) (N := n__law_one_of) (ps := ["pen", "some"]) (body := b__law_one_of) T.t__law_one_of.F sc__law_one_of (.inl rfl) fun cdv A outer s H E hr hg => ?_
  exact (xs_one (xs_ret (x_ixA (roomU1 hr) (xb 1) (XE.b (x_pen 0 (ok__law_take T) (hr.mono (by omega)) (fun h => nomatch h) T.t__law_take.G T.t__law_take.Kp T.t__law_take.B (passX (takes_of rfl rfl rfl rfl)) (xa_cons (x_blt call_len cd_len T.m_len rfl (xB_cons (xb 1) xB_nil)) xa_nil))))))
abbrev n__law_kinds_of : List Str := ["one", "found"]
theorem sc__law_kinds_of : FnScope n__law_kinds_of ["one"] (defScope s__law_kinds_of) := ⟨rfl, rfl, rfl, by decide +kernel, rfl, by decide +kernel, by decide +kernel⟩
def b__law_kinds_of : Vl.Env → M Fl := (sSeq (sOwn 1 (dLst (aCons (dIsEr erNm (isaE "BitError" "NoWord") (bVar 0)) (aCons (dIsEr erNm (isaE "BitError" "NoNet") (bVar 0)) (aCons (dIsEr erNm (isaE "BitError" "NoTable") (bVar 0)) (aCons (dIsEr erNm (isaE "BitError" "NoTelling") (bVar 0)) aNil)))))) (sSeq (sOwn 1 (d2 dCat (bVar 1) (dLst (aCons (dIsEr erNm (isaE "BitError" "NoSum") (bVar 0)) (aCons (dIsEr erNm (isaE "BitError" "NoDemand") (bVar 0)) (aCons (dIsEr erNm (isaE "BitError" "NoPicks") (bVar 0)) aNil)))))) (sSeq (sOwn 1 (d2 dCat (bVar 1) (dLst (aCons (dIsEr erNm (isaE "BitError" "NoCount") (bVar 0)) (aCons (dIsEr erNm (isaE "BitError" "NoKind") (bVar 0)) (aCons (dIsEr erNm (isaE "BitError" "NoPlan") (bVar 0)) aNil)))))) (sSeq (sApp 1 (dIsEr erNm (isaE "BitError" "NoCode") (bVar 0))) (sSeq (sOwn 1 (d2 dCat (bVar 1) (dLst (aCons (dIsEr erNm (isaE "BitError" "NoRow") (bVar 0)) (aCons (dIsEr erNm (isaE "BitError" "NoMatch") (bVar 0)) (aCons (dIsEr erNm (isaE "BitError" "NoGate") (bVar 0)) aNil)))))) (sSeq (sOwn 1 (d2 dCat (bVar 1) (dLst (aCons (dIsEr erNm (isaE "BitError" "NoBoard") (bVar 0)) (aCons (dIsEr erNm (isaE "BitError" "NoDeed") (bVar 0)) (aCons (dIsEr erNm (isaE "BitError" "NoDrop") (bVar 0)) aNil)))))) (sSeq (sApp 1 (dIsEr erNm (isaE "BitError" "NoUndo") (bVar 0))) (sSeq (sOwn 1 (d2 dCat (bVar 1) (dLst (aCons (dIsEr erNm (isaE "BitError" "NoThings") (bVar 0)) (aCons (dIsEr erNm (isaE "BitError" "NoLets") (bVar 0)) (aCons (dIsEr erNm (isaE "BitError" "NotThere") (bVar 0)) aNil)))))) (sRet (d2 dCat (bVar 1) (dLst (aCons (dIsEr erNm (isaE "BitError" "NoMachine") (bVar 0)) (aCons (dIsEr erNm (isaE "BitError" "TooGreat") (bVar 0)) aNil)))))))))))))
def den__law_kinds_of : List SV → M D := denOf 2 (b__law_kinds_of)
theorem ok__law_kinds_of (T : Tp K mg w) : FnG P w K mg base false 1 T.t__law_kinds_of.f T.t__law_kinds_of.fd ["one"] (spG K (ecOf T) .v 1 (den__law_kinds_of)) := by
  refine fnG_of (k := 0) (N := n__law_kinds_of) (ps := ["one"]) (body := b__law_kinds_of) T.t__law_kinds_of.F sc__law_kinds_of (.inl rfl) fun cdv A outer s H E hr hg => ?_
  exact (xs_cons (xs_own 1 sc__law_kinds_of.nd (x_lst (xa_cons (x_isErr (xb 0) (excB_c T.xer) (isaB_ok T.xi_NoWord) T.ga_NoWord T.m_isinstance rfl) (xa_cons (x_isErr (xb 0) (excB_c T.xer) (isaB_ok T.xi_NoNet) T.ga_NoNet T.m_isinstance rfl) (xa_cons (x_isErr (xb 0) (excB_c T.xer) (isaB_ok T.xi_NoTable) T.ga_NoTable T.m_isinstance rfl) (xa_cons (x_isErr (xb 0) (excB_c T.xer) (isaB_ok T.xi_NoTelling) T.ga_NoTelling T.m_isinstance rfl) xa_nil)))))) (xs_cons (xs_own 1 sc__law_kinds_of.nd (x_op op_cat od_cat (xb 1) (XE.fb (x_lst (xa_cons (x_isErr (xb 0) (excB_c T.xer) (isaB_ok T.xi_NoSum) T.ga_NoSum T.m_isinstance rfl) (xa_cons (x_isErr (xb 0) (excB_c T.xer) (isaB_ok T.xi_NoDemand) T.ga_NoDemand T.m_isinstance rfl) (xa_cons (x_isErr (xb 0) (excB_c T.xer) (isaB_ok T.xi_NoPicks) T.ga_NoPicks T.m_isinstance rfl) xa_nil))))))) (xs_cons (xs_own 1 sc__law_kinds_of.nd (x_op op_cat od_cat (xb 1) (XE.fb (x_lst (xa_cons (x_isErr (xb 0) (excB_c T.xer) (isaB_ok T.xi_NoCount) T.ga_NoCount T.m_isinstance rfl) (xa_cons (x_isErr (xb 0) (excB_c T.xer) (isaB_ok T.xi_NoKind) T.ga_NoKind T.m_isinstance rfl) (xa_cons (x_isErr (xb 0) (excB_c T.xer) (isaB_ok T.xi_NoPlan) T.ga_NoPlan T.m_isinstance rfl) xa_nil))))))) (xs_cons (xs_app 1 (x_isErr (xb 0) (excB_c T.xer) (isaB_ok T.xi_NoCode) T.ga_NoCode T.m_isinstance rfl)) (xs_cons (xs_own 1 sc__law_kinds_of.nd (x_op op_cat od_cat (xb 1) (XE.fb (x_lst (xa_cons (x_isErr (xb 0) (excB_c T.xer) (isaB_ok T.xi_NoRow) T.ga_NoRow T.m_isinstance rfl) (xa_cons (x_isErr (xb 0) (excB_c T.xer) (isaB_ok T.xi_NoMatch) T.ga_NoMatch T.m_isinstance rfl) (xa_cons (x_isErr (xb 0) (excB_c T.xer) (isaB_ok T.xi_NoGate) T.ga_NoGate T.m_isinstance rfl) xa_nil))))))) (xs_cons (xs_own 1 sc__law_kinds_of.nd (x_op op_cat od_cat (xb 1) (XE.fb (x_lst (xa_cons (x_isErr (xb 0) (excB_c T.xer) (isaB_ok T.xi_NoBoard) T.ga_NoBoard T.m_isinstance rfl) (xa_cons (x_isErr (xb 0) (excB_c T.xer) (isaB_ok T.xi_NoDeed) T.ga_NoDeed T.m_isinstance rfl) (xa_cons (x_isErr (xb 0) (excB_c T.xer) (isaB_ok T.xi_NoDrop) T.ga_NoDrop T.m_isinstance rfl) xa_nil))))))) (xs_cons (xs_app 1 (x_isErr (xb 0) (excB_c T.xer) (isaB_ok T.xi_NoUndo) T.ga_NoUndo T.m_isinstance rfl)) (xs_cons (xs_own 1 sc__law_kinds_of.nd (x_op op_cat od_cat (xb 1) (XE.fb (x_lst (xa_cons (x_isErr (xb 0) (excB_c T.xer) (isaB_ok T.xi_NoThings) T.ga_NoThings T.m_isinstance rfl) (xa_cons (x_isErr (xb 0) (excB_c T.xer) (isaB_ok T.xi_NoLets) T.ga_NoLets T.m_isinstance rfl) (xa_cons (x_isErr (xb 0) (excB_c T.xer) (isaB_ok T.xi_NotThere) T.ga_NotThere T.m_isinstance rfl) xa_nil))))))) (xs_one (xs_ret (XE.v (x_op op_cat od_cat (xb 1) (XE.fb (x_lst (xa_cons (x_isErr (xb 0) (excB_c T.xer) (isaB_ok T.xi_NoMachine) T.ga_NoMachine T.m_isinstance rfl) (xa_cons (x_isErr (xb 0) (excB_c T.xer) (isaB_ok T.xi_TooGreat) T.ga_TooGreat T.m_isinstance rfl) xa_nil))))))))))))))))
abbrev n_are_gates : List Str := ["thing", "n", "own", "gate"]
theorem sc_are_gates : FnScope n_are_gates ["thing", "n"] (defScope s_are_gates) := ⟨rfl, rfl, rfl, by decide +kernel, rfl, by decide +kernel, by decide +kernel⟩
def b_are_gates : Vl.Env → M Fl := (sSeq (sIf (mOr (mNot (tTru (dIsi "tuple" (bVar 0)))) (tV (d2 dGt (dB gLen (aCons (bVar 0) aNil)) (dC (.int 100000))))) (sRet (dC (.bool false))) sNil) (sSeq (sFor (itES (dVar 0) (dVar 1)) (tgTup 2 (tgCons (tgName 2) (tgCons (tgName 3) tgNil))) (sIf (mNot (tTru (dCall 2 den_is_gate (aCons (dVar 3) (aCons (dVar 2) aNil))))) (sRet (dC (.bool false))) sNil)) (sRet (dC (.bool true)))))
def den_are_gates : List SV → M D := denOf 4 (b_are_gates)
theorem ok_are_gates (T : Tp K mg w) : FnG P w K mg base false 3 T.t_are_gates.f T.t_are_gates.fd ["thing", "n"] (spG K (ecOf T) .v 2 (den_are_gates)) := by
  refine fnG_of (k := 2) (N := n_are_gates) (ps := ["thing", "n"]) (body := b_are_gates) T.t_are_gates.F sc_are_gates (.inl rfl) fun cdv A outer s H E hr hg => ?_
  exact (xs_cons (xs_if (XW.t (xw_or (xt_not (xt_tru (XE.b (x_isi (T := "tuple") (xb 0) (by decide) T.m_isinstance rfl T.m_tuple rfl)))) (xw_or1 (xt_cmp or_gt od_gt (XE.b (x_blt call_len cd_len T.m_len rfl (xB_cons (xb 0) xB_nil))) (XE.b (x_gInt T.c_MOST_GATES)) rfl)))) (xs_one (xs_ret x_bl)) xs_nil) (xs_cons (xs_for (passes_of rfl) rfl (xi_enumS T.m_enumerate (xv 0) (xv 1)) (xg_tup 2 rfl (xgs_cons (xg_name 2 sc_are_gates.nd) (xgs_cons (xg_name 3 sc_are_gates.nd) xgs_nil))) (xs_one (xs_if (xt_not (xt_tru (XE.b (x_call (ok_is_gate T) (hr.mono (by omega)) (fun h => nomatch h) T.t_is_gate.G T.t_is_gate.Kp T.t_is_gate.B (passX (takes_of rfl rfl rfl rfl)) (xa_cons (xv 3) (xa_cons (xv 2) xa_nil)))))) (xs_one (xs_ret x_bl)) xs_nil))) (xs_one (xs_ret x_bl))))
abbrev n_answers_at : List Str := ["net", "words", "n", "gates", "outs", "stands", "at", "everywhere", "gate", "shown", "number", "pair", "k"]
theorem sc_answers_at : FnScope n_answers_at ["net", "words"] (defScope s_answers_at) := ⟨rfl, rfl, rfl, by decide +kernel, rfl, by decide +kernel, by decide +kernel⟩
def b_answers_at : Vl.Env → M Fl := (sSeq (sAsg (dVar 0) (tgTup 3 (tgCons (tgName 2) (tgCons (tgName 3) (tgCons (tgName 4) tgNil))))) (sSeq (sOwn 5 (dComp (itR1 (aCons (bVar 2) aNil)) (tgName 6) tsNil (dTup (aCons (dCall 3 den_marked (aCons (dVar 1) (aCons (dVar 6) (aCons (dC (.str "1")) aNil)))) (aCons (dCall 3 den_marked (aCons (dVar 1) (aCons (dVar 6) (aCons (dC (.str "0")) aNil)))) aNil))) [6])) (sSeq (sSet 7 (d2 dSub (d2 dShl (dC (.int 1)) (dB gLen (aCons (bVar 1) aNil))) (dC (.int 1)))) (sSeq (sFor (itD (dVar 3)) (tgName 8) (sApp 5 (dCallT 3 den_let_through (aCons (bVar 8) (aCons (bVar 5) (aCons (bVar 7) aNil)))))) (sSeq (sOwn 9 (dComp (itD (dVar 4)) (tgName 10) tsNil (d2 dIxA (bVar 5) (bVar 10)) [10])) (sShare 9 (sRet (dComp (itR1 (aCons (dB gLen (aCons (bVar 1) aNil)) aNil)) (tgName 12) tsNil (dMA msJoin (dC (.str "")) (aCons (dComp (itD (dVar 9)) (tgName 11) tsNil (dCall 2 den_sign_at (aCons (dVar 11) (aCons (dVar 12) aNil))) [11]) aNil)) [12]))))))))
def den_answers_at : List SV → M D := denOf 13 (b_answers_at)
theorem ok_answers_at (T : Tp K mg w) : FnG P w K mg base false 2 T.t_answers_at.f T.t_answers_at.fd ["net", "words"] (spG K (ecOf T) .v 2 (den_answers_at)) := by
  refine fnG_of (k := 1) (N := n_answers_at) (ps := ["net", "words"]) (body := b_answers_at) T.t_answers_at.F sc_answers_at (.inl rfl) fun cdv A outer s H E hr hg => ?_
  exact (xs_cons (xs_asg (xv 0) (xg_tup 3 rfl (xgs_cons (xg_name 2 sc_answers_at.nd) (xgs_cons (xg_name 3 sc_answers_at.nd) (xgs_cons (xg_name 4 sc_answers_at.nd) xgs_nil))))) (xs_cons (xs_own 5 sc_answers_at.nd (x_lc rfl sc_answers_at.nd (xi_range1 T.m_range (xB_cons (xb 2) xB_nil)) (own := [("at", 6)]) (blkOk_by rfl) (fun _ _ _ _ _ => (xg_name 6 sc_answers_at.nd)) (fun _ _ _ _ _ => xts_nil) (fun _ _ _ _ _ => (x_tup (xa_cons (x_call (ok_marked T) (hr.mono (by omega)) (fun h => nomatch h) T.t_marked.G T.t_marked.Kp T.t_marked.B passX0 (xa_cons (xv 1) (xa_cons (xv 6) (xa_cons x_str xa_nil)))) (xa_cons (x_call (ok_marked T) (hr.mono (by omega)) (fun h => nomatch h) T.t_marked.G T.t_marked.Kp T.t_marked.B passX0 (xa_cons (xv 1) (xa_cons (xv 6) (xa_cons x_str xa_nil)))) xa_nil)))))) (xs_cons (xs_set 7 sc_answers_at.nd (x_op op_sub od_sub (XE.b (x_op op_shl od_shl (XE.b x_int) (XE.b (x_blt call_len cd_len T.m_len rfl (xB_cons (xb 1) xB_nil))))) (XE.b x_int))) (xs_cons (xs_for (passes_of rfl) rfl (xi_any (xv 3)) (xg_name 8 sc_answers_at.nd) (xs_one (xs_app 5 (x_callT (ok_let_through T) (hr.mono (by omega)) (fun h => nomatch h) T.t_let_through.G T.t_let_through.Kp T.t_let_through.B (passX (takes_of rfl rfl rfl rfl)) (xB_cons (xb 8) (xB_cons (xb 5) (xB_cons (xb 7) xB_nil))))))) (xs_cons (xs_own 9 sc_answers_at.nd (x_lc rfl sc_answers_at.nd (xi_any (xv 4)) (own := [("number", 10)]) (blkOk_by rfl) (fun _ _ _ _ _ => (xg_name 10 sc_answers_at.nd)) (fun _ _ _ _ _ => xts_nil) (fun _ _ _ _ _ => (x_ixA (roomU1 hr) (xb 5) (xb 10))))) (xs_share 9 (xs_one (xs_ret (XE.v (x_lc rfl sc_answers_at.nd (xi_range1 T.m_range (xB_cons (XE.b (x_blt call_len cd_len T.m_len rfl (xB_cons (xb 1) xB_nil))) xB_nil)) (own := [("k", 12)]) (blkOk_by rfl) (fun _ _ _ _ _ => (xg_name 12 sc_answers_at.nd)) (fun _ _ _ _ _ => xts_nil) (fun _ _ _ _ _ => (x_ma ms_join (XE.b x_str) (xB_cons (XE.fb (x_lc rfl sc_answers_at.nd (xi_any (xv 9)) (own := [("pair", 11)]) (blkOk_by rfl) (fun _ _ _ _ _ => (xg_name 11 sc_answers_at.nd)) (fun _ _ _ _ _ => xts_nil) (fun _ _ _ _ _ => (x_call (ok_sign_at T) (hr.mono (by omega)) (fun h => nomatch h) T.t_sign_at.G T.t_sign_at.Kp T.t_sign_at.B passX0 (xa_cons (xv 11) (xa_cons (xv 12) xa_nil)))))) xB_nil)))))))))))))
abbrev n_reads : List Str := ["kind", "bit", "r"]
theorem sc_reads : FnScope n_reads ["kind", "bit", "r"] (defScope s_reads) := ⟨rfl, rfl, rfl, by decide +kernel, rfl, by decide +kernel, by decide +kernel⟩
def b_reads : Vl.Env → M Fl := (sSeq (sIf (tV (d2 dNotInB (bVar 0) (dC (.tuple (tb_KINDS.map PyData.str))))) (sRaise "NoKind") sNil) (sSeq (sIf (tV (d2 dNotInB (bVar 1) (dC (.tuple (tb_BITS.map PyData.str))))) (sRaise "NoKind") sNil) (sSeq (sExpr (dCall 1 den_check_rounds (aCons (dVar 2) aNil))) (sRet (dCall 3 den_reads_of (aCons (dVar 0) (aCons (dVar 1) (aCons (dVar 2) aNil))))))))
def den_reads : List SV → M D := denOf 3 (b_reads)
theorem ok_reads (T : Tp K mg w) : FnG P w K mg base false 3 T.t_reads.f T.t_reads.fd ["kind", "bit", "r"] (spG K (ecOf T) .v 3 (den_reads)) := by
  refine fnG_of (k := 2) (N := n_reads) (ps := ["kind", "bit", "r"]) (body := b_reads) T.t_reads.F sc_reads (.inl rfl) fun cdv A outer s H E hr hg => ?_
  exact (xs_cons (xs_if (xt_cmp (or_notinB (roomU hr)) od_notinB (xb 0) (XE.b (x_gTup T.k_KINDS T.g_KINDS)) rfl) (xs_one (xs_raise "NoKind" rfl (takes_of rfl rfl rfl rfl) T.e_NoKind.F T.e_NoKind.q T.e_NoKind.G T.e_NoKind.Kp (raises_own T.e_NoKind.h1 T.e_NoKind.h2) rfl)) xs_nil) (xs_cons (xs_if (xt_cmp (or_notinB (roomU hr)) od_notinB (xb 1) (XE.b (x_gTup T.k_BITS T.g_BITS)) rfl) (xs_one (xs_raise "NoKind" rfl (takes_of rfl rfl rfl rfl) T.e_NoKind.F T.e_NoKind.q T.e_NoKind.G T.e_NoKind.Kp (raises_own T.e_NoKind.h1 T.e_NoKind.h2) rfl)) xs_nil) (xs_cons (xs_expr (XE.b (x_call (ok_check_rounds T) (hr.mono (by omega)) (fun h => nomatch h) T.t_check_rounds.G T.t_check_rounds.Kp T.t_check_rounds.B (passX (takes_of rfl rfl rfl rfl)) (xa_cons (xv 2) xa_nil)))) (xs_one (xs_ret (x_call (ok_reads_of T) (hr.mono (by omega)) (fun h => nomatch h) T.t_reads_of.G T.t_reads_of.Kp T.t_reads_of.B (passX (takes_of rfl rfl rfl rfl)) (xa_cons (xv 0) (xa_cons (xv 1) (xa_cons (xv 2) xa_nil)))))))))
abbrev n_is_net : List Str := ["thing", "n", "gates", "outs"]
theorem sc_is_net : FnScope n_is_net ["thing"] (defScope s_is_net) := ⟨rfl, rfl, rfl, by decide +kernel, rfl, by decide +kernel, by decide +kernel⟩
def b_is_net : Vl.Env → M Fl := (sSeq (sIf (mOr (mNot (tTru (dIsi "tuple" (bVar 0)))) (tV (d2 dNeA (dB gLen (aCons (bVar 0) aNil)) (dC (.int 3))))) (sRet (dC (.bool false))) sNil) (sSeq (sAsg (dVar 0) (tgTup 3 (tgCons (tgName 1) (tgCons (tgName 2) (tgCons (tgName 3) tgNil))))) (sSeq (sIf (mNot (tTru (dCall 3 den_is_count (aCons (dVar 1) (aCons (dC (.int 1)) (aCons (dC (.int 32)) aNil)))))) (sRet (dC (.bool false))) sNil) (sRet (vAnd (dCall 2 den_are_gates (aCons (dVar 2) (aCons (dVar 1) aNil))) (dCall 2 den_are_outs (aCons (dVar 3) (aCons (d2 dAdd (bVar 1) (dB gLen (aCons (bVar 2) aNil))) aNil))))))))
def den_is_net : List SV → M D := denOf 4 (b_is_net)
theorem ok_is_net (T : Tp K mg w) : FnG P w K mg base false 4 T.t_is_net.f T.t_is_net.fd ["thing"] (spG K (ecOf T) .v 1 (den_is_net)) := by
  refine fnG_of (k := 3) (N := n_is_net) (ps := ["thing"]) (body := b_is_net) T.t_is_net.F sc_is_net (.inl rfl) fun cdv A outer s H E hr hg => ?_
  exact (xs_cons (xs_if (XW.t (xw_or (xt_not (xt_tru (XE.b (x_isi (T := "tuple") (xb 0) (by decide) T.m_isinstance rfl T.m_tuple rfl)))) (xw_or1 (xt_cmp (or_neA (roomU0 hr)) od_neA (XE.b (x_blt call_len cd_len T.m_len rfl (xB_cons (xb 0) xB_nil))) (XE.b x_int) rfl)))) (xs_one (xs_ret x_bl)) xs_nil) (xs_cons (xs_asg (xv 0) (xg_tup 3 rfl (xgs_cons (xg_name 1 sc_is_net.nd) (xgs_cons (xg_name 2 sc_is_net.nd) (xgs_cons (xg_name 3 sc_is_net.nd) xgs_nil))))) (xs_cons (xs_if (xt_not (xt_tru (XE.b (x_call (ok_is_count T) (hr.mono (by omega)) (fun h => nomatch h) T.t_is_count.G T.t_is_count.Kp T.t_is_count.B (passX (takes_of rfl rfl rfl rfl)) (xa_cons (xv 1) (xa_cons x_int (xa_cons (x_gInt T.c_MOST_INPUTS) xa_nil))))))) (xs_one (xs_ret x_bl)) xs_nil) (xs_one (xs_ret (x_and (x_call (ok_are_gates T) (hr.mono (by omega)) (fun h => nomatch h) T.t_are_gates.G T.t_are_gates.Kp T.t_are_gates.B (passX (takes_of rfl rfl rfl rfl)) (xa_cons (xv 2) (xa_cons (xv 1) xa_nil))) (x_one (x_call (ok_are_outs T) (hr.mono (by omega)) (fun h => nomatch h) T.t_are_outs.G T.t_are_outs.Kp T.t_are_outs.B (passX (takes_of rfl rfl rfl rfl)) (xa_cons (xv 3) (xa_cons (x_op or_add od_add (xb 1) (XE.b (x_blt call_len cd_len T.m_len rfl (xB_cons (xb 2) xB_nil)))) xa_nil))))))))))
abbrev n_check_net : List Str := ["thing"]
theorem sc_check_net : FnScope n_check_net ["thing"] (defScope s_check_net) := ⟨rfl, rfl, rfl, by decide +kernel, rfl, by decide +kernel, by decide +kernel⟩
def b_check_net : Vl.Env → M Fl := (sIf (mNot (tTru (dCall 1 den_is_net (aCons (dVar 0) aNil)))) (sRaise "NoNet") sNil)
def den_check_net : List SV → M D := denOf 1 (b_check_net)
theorem ok_check_net (T : Tp K mg w) : FnG P w K mg base false 5 T.t_check_net.f T.t_check_net.fd ["thing"] (spG K (ecOf T) .v 1 (den_check_net)) := by
  refine fnG_of (k := 4) (N := n_check_net) (ps := ["thing"]) (body := b_check_net) T.t_check_net.F sc_check_net (.inl rfl) fun cdv A outer s H E hr hg => ?_
  exact (xs_one (xs_if (xt_not (xt_tru (XE.b (x_call (ok_is_net T) (hr.mono (by omega)) (fun h => nomatch h) T.t_is_net.G T.t_is_net.Kp T.t_is_net.B (passX (takes_of rfl rfl rfl rfl)) (xa_cons (xv 0) xa_nil))))) (xs_one (xs_raise "NoNet" rfl (takes_of rfl rfl rfl rfl) T.e_NoNet.F T.e_NoNet.q T.e_NoNet.G T.e_NoNet.Kp (raises_own T.e_NoNet.h1 T.e_NoNet.h2) rfl)) xs_nil))
abbrev n_told_at : List Str := ["net", "word"]
theorem sc_told_at : FnScope n_told_at ["net", "word"] (defScope s_told_at) := ⟨rfl, rfl, rfl, by decide +kernel, rfl, by decide +kernel, by decide +kernel⟩
def b_told_at : Vl.Env → M Fl := (sSeq (sExpr (dCall 1 den_check_word (aCons (dVar 1) aNil))) (sSeq (sIf (tV (d2 dNeA (dB gLen (aCons (bVar 1) aNil)) (d2 dIxA (bVar 0) (dC (.int 0))))) (sRaise "NoMatch") sNil) (sRet (d2 dIxA (dCall 2 den_answers_at (aCons (dVar 0) (aCons (dLst (aCons (dVar 1) aNil)) aNil))) (dC (.int 0))))))
def den_told_at : List SV → M D := denOf 2 (b_told_at)
theorem ok_told_at (T : Tp K mg w) : FnG P w K mg base false 3 T.t_told_at.f T.t_told_at.fd ["net", "word"] (spG K (ecOf T) .v 2 (den_told_at)) := by
  refine fnG_of (k := 2) (N := n_told_at) (ps := ["net", "word"]) (body := b_told_at) T.t_told_at.F sc_told_at (.inl rfl) fun cdv A outer s H E hr hg => ?_
  exact (xs_cons (xs_expr (XE.b (x_call (ok_check_word T) (hr.mono (by omega)) (fun h => nomatch h) T.t_check_word.G T.t_check_word.Kp T.t_check_word.B (passX (takes_of rfl rfl rfl rfl)) (xa_cons (xv 1) xa_nil)))) (xs_cons (xs_if (xt_cmp (or_neA (roomU0 hr)) od_neA (XE.b (x_blt call_len cd_len T.m_len rfl (xB_cons (xb 1) xB_nil))) (XE.b (x_ixA (roomU1 hr) (xb 0) (XE.b x_int))) rfl) (xs_one (xs_raise "NoMatch" rfl (takes_of rfl rfl rfl rfl) T.e_NoMatch.F T.e_NoMatch.q T.e_NoMatch.G T.e_NoMatch.Kp (raises_own T.e_NoMatch.h1 T.e_NoMatch.h2) rfl)) xs_nil) (xs_one (xs_ret (x_ixA (roomU1 hr) (XE.b (x_call (ok_answers_at T) (hr.mono (by omega)) (fun h => nomatch h) T.t_answers_at.G T.t_answers_at.Kp T.t_answers_at.B (passX (takes_of rfl rfl rfl rfl)) (xa_cons (xv 0) (xa_cons (XE.v (x_lst (xa_cons (xv 1) xa_nil))) xa_nil)))) (XE.b x_int))))))
abbrev n_run : List Str := ["net", "word"]
theorem sc_run : FnScope n_run ["net", "word"] (defScope s_run) := ⟨rfl, rfl, rfl, by decide +kernel, rfl, by decide +kernel, by decide +kernel⟩
def b_run : Vl.Env → M Fl := (sSeq (sExpr (dCall 1 den_check_net (aCons (dVar 0) aNil))) (sRet (dCall 2 den_told_at (aCons (dVar 0) (aCons (dVar 1) aNil)))))
def den_run : List SV → M D := denOf 2 (b_run)
theorem ok_run (T : Tp K mg w) : FnG P w K mg base false 6 T.t_run.f T.t_run.fd ["net", "word"] (spG K (ecOf T) .v 2 (den_run)) := by
  refine fnG_of (k := 5) (N := n_run) (ps := ["net", "word"]) (body := b_run) T.t_run.F sc_run (.inl rfl) fun cdv A outer s H E hr hg => ?_
  exact (xs_cons (xs_expr (XE.b (x_call (ok_check_net T) (hr.mono (by omega)) (fun h => nomatch h) T.t_check_net.G T.t_check_net.Kp T.t_check_net.B (passX (takes_of rfl rfl rfl rfl)) (xa_cons (xv 0) xa_nil)))) (xs_one (xs_ret (x_call (ok_told_at T) (hr.mono (by omega)) (fun h => nomatch h) T.t_told_at.G T.t_told_at.Kp T.t_told_at.B (passX (takes_of rfl rfl rfl rfl)) (xa_cons (xv 0) (xa_cons (xv 1) xa_nil))))))
abbrev n_law : List Str := ["script", "pen", "turn", "text", "errors", "base", "held", "j", "k", "one"]
theorem sc_law : FnScope n_law ["script"] (defScope s_law) := ⟨rfl, rfl, rfl, by decide +kernel, rfl, by decide +kernel, by decide +kernel⟩
def b_law (tb : List (Addr × Str)) : Vl.Env → M Fl := (sSeq (sFor (itR1 (aCons (dC (.int 2)) aNil)) (tgName 2) (sSeq (sSet 3 (dPen 1 2 den__law_one_of (aCons (dLst (aCons (dC (.str "")) (aCons (dC (.str "a")) (aCons (dC (.str "no  word at 7: ")) (aCons (d2 dMul (dC (.str "x")) (dPen 1 2 den__law_take (aCons (dC (.int 99)) aNil))) aNil))))) aNil))) (sSeq (sSet 4 (dLst (aCons (dErr "NoWord" (dVar 3)) (aCons (dErr "NoNet" (dVar 3)) (aCons (dErr "NoTable" (dVar 3)) (aCons (dErr "NoTelling" (dVar 3)) (aCons (dErr "NoSum" (dVar 3)) (aCons (dErr "NoDemand" (dVar 3)) (aCons (dErr "NoPicks" (dVar 3)) aNil))))))))) (sSeq (sSet 4 (d2 dCat (bVar 4) (dLst (aCons (dErr "NoCount" (dVar 3)) (aCons (dErr "NoKind" (dVar 3)) (aCons (dErr "NoPlan" (dVar 3)) (aCons (dErr "NoCode" (dVar 3)) (aCons (dErr "NoRow" (dVar 3)) (aCons (dErr "NoMatch" (dVar 3)) aNil))))))))) (sSeq (sSet 4 (d2 dCat (bVar 4) (dLst (aCons (dErr "NoGate" (dVar 3)) (aCons (dErr "NoBoard" (dVar 3)) (aCons (dErr "NoDeed" (dVar 3)) (aCons (dErr "NoDrop" (dVar 3)) (aCons (dErr "NoUndo" (dVar 3)) (aCons (dErr "NoThings" (dVar 3)) aNil))))))))) (sSeq (sSet 4 (d2 dCat (bVar 4) (dLst (aCons (dErr "NoLets" (dVar 3)) (aCons (dErr "NotThere" (dVar 3)) (aCons (dErr "NoMachine" (dVar 3)) (aCons (dErr "TooGreat" (dVar 3)) aNil))))))) (sSeq (sPar2O 5 6 (dErr "BitError" (dVar 3)) (dLst (aCons (dCaught tb isCaught (dCall 2 den_run (aCons (dTup (aCons (dC (.int 1)) (aCons (dTup aNil) (aCons (dTup (aCons (dC (.int 0)) aNil)) aNil)))) (aCons (dC (.str "2")) aNil)))) aNil))) (sSeq (sApp 6 (dCaught tb isCaught (dCall 3 den_reads (aCons (dC (.str "mid")) (aCons (dC (.str "0")) (aCons (dC (.int 1)) aNil)))))) (sSeq (sIf (tV (d2 dNeA (dCall 1 den__law_kinds_of (aCons (d2 dIxA (bVar 6) (dC (.int 0))) aNil)) (dComp (itR1 (aCons (dC (.int 23)) aNil)) (tgName 7) tsNil (d2 dEqA (bVar 7) (dC (.int 0))) [7]))) (sRet (dC (.bool false))) sNil) (sSeq (sIf (tV (d2 dNeA (dCall 1 den__law_kinds_of (aCons (d2 dIxA (bVar 6) (dC (.int 1))) aNil)) (dComp (itR1 (aCons (dC (.int 23)) aNil)) (tgName 7) tsNil (d2 dEqA (bVar 7) (dC (.int 8))) [7]))) (sRet (dC (.bool false))) sNil) (sSeq (sIf (mOr (tV (d2 dNeA (dCall 1 den__law_kinds_of (aCons (dVar 5) aNil)) (d2 dRep (dLst (aCons (dC (.bool false)) aNil)) (dC (.int 23))))) (mOr (mNot (tTru (dIsEr erNm (fun _ => true) (bVar 5)))) (tV (d2 dNeA (dStrE erNm (dVar 5)) (bVar 3))))) (sRet (dC (.bool false))) sNil) (sFor (itE1 (dVar 4)) (tgTup 2 (tgCons (tgName 8) (tgCons (tgName 9) tgNil))) (sSeq (sIf (mOr (tV (d2 dNeA (dCall 1 den__law_kinds_of (aCons (dVar 9) aNil)) (dComp (itR1 (aCons (dC (.int 23)) aNil)) (tgName 7) tsNil (d2 dEqA (bVar 7) (bVar 8)) [7]))) (tV (d2 dNeA (dStrE erNm (dVar 9)) (bVar 3)))) (sRet (dC (.bool false))) sNil) (sIf (mOr (mNot (tTru (dIsEr erNm (isaE "BitError" "BitError") (bVar 9)))) (mOr (mNot (tTru (dIsEr erNm (fun _ => true) (bVar 9)))) (tTru (dIsEr erNm (fun _ => false) (bVar 9))))) (sRet (dC (.bool false))) sNil)))))))))))))) (sRet (dC (.bool true))))
set_option maxHeartbeats 4000000 in
theorem ok_law (T : Tp K mg w) (TBs : ∀ p ∈ csOf T, LamX.TabB base mg p.1 p.2)
    (hrun : ∀ ns : List Int, ns.length ≤ 63 → (∀ z ∈ ns, Builtin.Int.intBits z ≤ 1048576) → ∃ (cs : List Int) (P1 P2 : Pen), den__law_open [.scr ns] ⟨[], 0, 0, tbOf T⟩ = .ok (.list [.list (cs.map PyData.int), .int 0, .int 0]) P1 ∧ b_law (tbOf T) (.scr ns :: .pen :: List.replicate (n_law.length - 2) .un) ⟨cs, 0, 0, tbOf T⟩ = .ok (.rt (.bool true)) P2) :
    FnG P w K mg base true 9 T.t_law.f T.t_law.fd ["script"] (spL K (tbOf T)) := by
  refine law_fn (k := 8) (N := n_law) (body := b_law (tbOf T)) T.t_law.lk T.t_law.hcd sc_law rfl rfl (by decide) (by first | exact .inl rfl | exact .inr (.inl rfl)) (by first | exact .inl rfl | exact .inr rfl) rfl (fun _ => rfl) (by omega) (ok__law_open T) rfl T.t__law_open.G T.t__law_open.Kp T.t__law_open.B (fun A outer s H E hr hg => ?_) hrun
  exact (xs_cons (xs_for (passes_of rfl) rfl (xi_range1 T.m_range (xB_cons (XE.b x_int) xB_nil)) (xg_name 2 sc_law.nd) (xs_cons (xs_set 3 sc_law.nd (x_pen 1 (ok__law_one_of T) (hr.mono (by omega)) (fun h => nomatch h) T.t__law_one_of.G T.t__law_one_of.Kp T.t__law_one_of.B (passX (takes_of rfl rfl rfl rfl)) (xa_cons (XE.v (x_lst (xa_cons x_str (xa_cons x_str (xa_cons x_str (xa_cons (x_op or_mul od_mul (XE.b x_str) (XE.b (x_pen 1 (ok__law_take T) (hr.mono (by omega)) (fun h => nomatch h) T.t__law_take.G T.t__law_take.Kp T.t__law_take.B (passX (takes_of rfl rfl rfl rfl)) (xa_cons x_int xa_nil)))) xa_nil)))))) xa_nil))) (xs_cons (xs_set 4 sc_law.nd (XE.v (x_lst (xa_cons (x_err T.e_NoWord.F T.e_NoWord.q T.e_NoWord.G T.e_NoWord.Kp T.ea_NoWord (xv 3)) (xa_cons (x_err T.e_NoNet.F T.e_NoNet.q T.e_NoNet.G T.e_NoNet.Kp T.ea_NoNet (xv 3)) (xa_cons (x_err T.e_NoTable.F T.e_NoTable.q T.e_NoTable.G T.e_NoTable.Kp T.ea_NoTable (xv 3)) (xa_cons (x_err T.e_NoTelling.F T.e_NoTelling.q T.e_NoTelling.G T.e_NoTelling.Kp T.ea_NoTelling (xv 3)) (xa_cons (x_err T.e_NoSum.F T.e_NoSum.q T.e_NoSum.G T.e_NoSum.Kp T.ea_NoSum (xv 3)) (xa_cons (x_err T.e_NoDemand.F T.e_NoDemand.q T.e_NoDemand.G T.e_NoDemand.Kp T.ea_NoDemand (xv 3)) (xa_cons (x_err T.e_NoPicks.F T.e_NoPicks.q T.e_NoPicks.G T.e_NoPicks.Kp T.ea_NoPicks (xv 3)) xa_nil)))))))))) (xs_cons (xs_set 4 sc_law.nd (XE.v (x_op op_cat od_cat (xb 4) (XE.fb (x_lst (xa_cons (x_err T.e_NoCount.F T.e_NoCount.q T.e_NoCount.G T.e_NoCount.Kp T.ea_NoCount (xv 3)) (xa_cons (x_err T.e_NoKind.F T.e_NoKind.q T.e_NoKind.G T.e_NoKind.Kp T.ea_NoKind (xv 3)) (xa_cons (x_err T.e_NoPlan.F T.e_NoPlan.q T.e_NoPlan.G T.e_NoPlan.Kp T.ea_NoPlan (xv 3)) (xa_cons (x_err T.e_NoCode.F T.e_NoCode.q T.e_NoCode.G T.e_NoCode.Kp T.ea_NoCode (xv 3)) (xa_cons (x_err T.e_NoRow.F T.e_NoRow.q T.e_NoRow.G T.e_NoRow.Kp T.ea_NoRow (xv 3)) (xa_cons (x_err T.e_NoMatch.F T.e_NoMatch.q T.e_NoMatch.G T.e_NoMatch.Kp T.ea_NoMatch (xv 3)) xa_nil))))))))))) (xs_cons (xs_set 4 sc_law.nd (XE.v (x_op op_cat od_cat (xb 4) (XE.fb (x_lst (xa_cons (x_err T.e_NoGate.F T.e_NoGate.q T.e_NoGate.G T.e_NoGate.Kp T.ea_NoGate (xv 3)) (xa_cons (x_err T.e_NoBoard.F T.e_NoBoard.q T.e_NoBoard.G T.e_NoBoard.Kp T.ea_NoBoard (xv 3)) (xa_cons (x_err T.e_NoDeed.F T.e_NoDeed.q T.e_NoDeed.G T.e_NoDeed.Kp T.ea_NoDeed (xv 3)) (xa_cons (x_err T.e_NoDrop.F T.e_NoDrop.q T.e_NoDrop.G T.e_NoDrop.Kp T.ea_NoDrop (xv 3)) (xa_cons (x_err T.e_NoUndo.F T.e_NoUndo.q T.e_NoUndo.G T.e_NoUndo.Kp T.ea_NoUndo (xv 3)) (xa_cons (x_err T.e_NoThings.F T.e_NoThings.q T.e_NoThings.G T.e_NoThings.Kp T.ea_NoThings (xv 3)) xa_nil))))))))))) (xs_cons (xs_set 4 sc_law.nd (XE.v (x_op op_cat od_cat (xb 4) (XE.fb (x_lst (xa_cons (x_err T.e_NoLets.F T.e_NoLets.q T.e_NoLets.G T.e_NoLets.Kp T.ea_NoLets (xv 3)) (xa_cons (x_err T.e_NotThere.F T.e_NotThere.q T.e_NotThere.G T.e_NotThere.Kp T.ea_NotThere (xv 3)) (xa_cons (x_err T.e_NoMachine.F T.e_NoMachine.q T.e_NoMachine.G T.e_NoMachine.Kp T.ea_NoMachine (xv 3)) (xa_cons (x_err T.e_TooGreat.F T.e_TooGreat.q T.e_TooGreat.G T.e_TooGreat.Kp T.ea_TooGreat (xv 3)) xa_nil))))))))) (xs_cons (xs_par2O 5 6 rfl sc_law.nd (x_err T.e_BitError.F T.e_BitError.q T.e_BitError.G T.e_BitError.Kp T.ea_BitError (xv 3)) (x_lst (xa_cons (x_caughtT (i := 1) (ec := ecOf T) (isB := isCaught) (k := 6) T.t__law_caught.F T.t__law_caught.B T.t__law_caught.G T.t__law_caught.Kp sc__law_caught rfl (.inl rfl) rfl rfl rfl rfl T.ga_BitError (caught_ok T) (TBs _ (mem_law T)) (tbm_law T) (tbu_law T) (hr.mono (by omega)) (fun A outer s H E f c' hr2 => (x_call (ok_run T) (hr2.mono (by omega)) (fun h => nomatch h) T.t_run.G T.t_run.Kp T.t_run.B (passX (takes_of rfl rfl rfl rfl)) (xa_cons (x_tup (xa_cons x_int (xa_cons (x_tup xa_nil) (xa_cons (x_tup (xa_cons x_int xa_nil)) xa_nil)))) (xa_cons x_str xa_nil))))) xa_nil)) (by rfl)) (xs_cons (xs_app 6 (x_caughtT (i := 1) (ec := ecOf T) (isB := isCaught) (k := 3) T.t__law_caught.F T.t__law_caught.B T.t__law_caught.G T.t__law_caught.Kp sc__law_caught rfl (.inl rfl) rfl rfl rfl rfl T.ga_BitError (caught_ok T) (TBs _ (mem_law T)) (tbm_law T) (tbu_law T) (hr.mono (by omega)) (fun A outer s H E f c' hr2 => (x_call (ok_reads T) (hr2.mono (by omega)) (fun h => nomatch h) T.t_reads.G T.t_reads.Kp T.t_reads.B (passX (takes_of rfl rfl rfl rfl)) (xa_cons x_str (xa_cons x_str (xa_cons x_int xa_nil))))))) (xs_cons (xs_if (xt_cmp (or_neA (roomU0 hr)) od_neA (XE.b (x_call (ok__law_kinds_of T) (hr.mono (by omega)) (fun h => nomatch h) T.t__law_kinds_of.G T.t__law_kinds_of.Kp T.t__law_kinds_of.B (passX (takes_of rfl rfl rfl rfl)) (xa_cons (x_ixA (roomU1 hr) (xb 6) (XE.b x_int)) xa_nil))) (XE.fb (x_lc rfl sc_law.nd (xi_range1 T.m_range (xB_cons (XE.b x_int) xB_nil)) (own := [("j", 7)]) (blkOk_by rfl) (fun _ _ _ _ _ => (xg_name 7 sc_law.nd)) (fun _ _ _ _ _ => xts_nil) (fun _ _ _ _ _ => (x_cmp (or_eqA (roomU0 hr)) od_eqA (xb 7) (XE.b x_int) rfl)))) rfl) (xs_one (xs_ret x_bl)) xs_nil) (xs_cons (xs_if (xt_cmp (or_neA (roomU0 hr)) od_neA (XE.b (x_call (ok__law_kinds_of T) (hr.mono (by omega)) (fun h => nomatch h) T.t__law_kinds_of.G T.t__law_kinds_of.Kp T.t__law_kinds_of.B (passX (takes_of rfl rfl rfl rfl)) (xa_cons (x_ixA (roomU1 hr) (xb 6) (XE.b x_int)) xa_nil))) (XE.fb (x_lc rfl sc_law.nd (xi_range1 T.m_range (xB_cons (XE.b x_int) xB_nil)) (own := [("j", 7)]) (blkOk_by rfl) (fun _ _ _ _ _ => (xg_name 7 sc_law.nd)) (fun _ _ _ _ _ => xts_nil) (fun _ _ _ _ _ => (x_cmp (or_eqA (roomU0 hr)) od_eqA (xb 7) (XE.b x_int) rfl)))) rfl) (xs_one (xs_ret x_bl)) xs_nil) (xs_cons (xs_if (XW.t (xw_or (xt_cmp (or_neA (roomU0 hr)) od_neA (XE.b (x_call (ok__law_kinds_of T) (hr.mono (by omega)) (fun h => nomatch h) T.t__law_kinds_of.G T.t__law_kinds_of.Kp T.t__law_kinds_of.B (passX (takes_of rfl rfl rfl rfl)) (xa_cons (xv 5) xa_nil))) (XE.fb (x_op op_rep od_rep (XE.fb (x_lst (xa_cons x_bl xa_nil))) (XE.b x_int))) rfl) (xw_or (xt_not (xt_tru (XE.b (x_isErrB (xb 5) (excB_c T.xer) (isaTB_ok T.xi_ValueError) T.m_ValueError rfl T.m_isinstance rfl)))) (xw_or1 (xt_cmp (or_neA (roomU0 hr)) od_neA (XE.b (x_strE (hu65 (roomU hr)) (excB_s T.xer) (xv 5) T.m_str)) (xb 3) rfl))))) (xs_one (xs_ret x_bl)) xs_nil) (xs_one (xs_for (passes_of rfl) rfl (xi_enum1 T.m_enumerate (xv 4)) (xg_tup 2 rfl (xgs_cons (xg_name 8 sc_law.nd) (xgs_cons (xg_name 9 sc_law.nd) xgs_nil))) (xs_cons (xs_if (XW.t (xw_or (xt_cmp (or_neA (roomU0 hr)) od_neA (XE.b (x_call (ok__law_kinds_of T) (hr.mono (by omega)) (fun h => nomatch h) T.t__law_kinds_of.G T.t__law_kinds_of.Kp T.t__law_kinds_of.B (passX (takes_of rfl rfl rfl rfl)) (xa_cons (xv 9) xa_nil))) (XE.fb (x_lc rfl sc_law.nd (xi_range1 T.m_range (xB_cons (XE.b x_int) xB_nil)) (own := [("j", 7)]) (blkOk_by rfl) (fun _ _ _ _ _ => (xg_name 7 sc_law.nd)) (fun _ _ _ _ _ => xts_nil) (fun _ _ _ _ _ => (x_cmp (or_eqA (roomU0 hr)) od_eqA (xb 7) (xb 8) rfl)))) rfl) (xw_or1 (xt_cmp (or_neA (roomU0 hr)) od_neA (XE.b (x_strE (hu65 (roomU hr)) (excB_s T.xer) (xv 9) T.m_str)) (xb 3) rfl)))) (xs_one (xs_ret x_bl)) xs_nil) (xs_one (xs_if (XW.t (xw_or (xt_not (xt_tru (XE.b (x_isErr (xb 9) (excB_c T.xer) (isaB_ok T.xi_BitError) T.ga_BitError T.m_isinstance rfl)))) (xw_or (xt_not (xt_tru (XE.b (x_isErrB (xb 9) (excB_c T.xer) (isaTB_ok T.xi_ValueError) T.m_ValueError rfl T.m_isinstance rfl)))) (xw_or1 (xt_tru (XE.b (x_isErrB (xb 9) (excB_c T.xer) (isaTB_ok T.xi_LookupError) T.m_LookupError rfl T.m_isinstance rfl))))))) (xs_one (xs_ret x_bl)) xs_nil)))))))))))))))) (xs_one (xs_ret x_bl)))
end Tk
end
section
set_option maxRecDepth 100000
set_option maxHeartbeats 0
namespace Tk
open PySem PySem.Spec PyProof.Rows L2 Vl
set_option maxHeartbeats 0 in
theorem tp_of {K : PySem.W.Frag} {h : Heap} {mg : Str → Option Value} {w : World} (X : K.In h) (G : h.Ns mainGlobals mg) (c : He.SaysX hFa hFn hTs hTf hEx w h K) :
    ∃ T : Tp K mg w, T.t_law.f = He.ga K "law" ∧ (∀ p ∈ csOf T, ∃ q ∈ hTf, p = He.cT K q) := by
  have d := c.t.d
  have more := c.more
  simp only [hEx, Bool.and_eq_true, decide_eq_true_eq] at more
  obtain ⟨mo0, mo1, mo2, mo3, mo4, mo5, mo6, mo7, mo8, mo9, mo10, mo11, mo12, mo13, mo14, mo15, mo16, mo17, mo18, mo19, mo20, mo21, mo22, mo23, mo24, mo25, mo26, mo27, mo28, mo29, mo30⟩ := more
  have g__law_caught := He.glo_ok X G (d.fact 0 (f := .glo "_law_caught") rfl)
  have d__law_caught := d.def_ 0 (d := dd__law_caught) rfl
  obtain ⟨t__law_caught, f__law_caught⟩ := fnT_of (x := "_law_caught") (st := s__law_caught) (ps := ["call"]) d__law_caught g__law_caught (fun _ _ _ _ _ _ us hl => match us, hl with | [_], _ => rfl)
  have g_is_count := He.glo_ok X G (d.fact 1 (f := .glo "is_count") rfl)
  have d_is_count := d.def_ 1 (d := dd_is_count) rfl
  obtain ⟨t_is_count, f_is_count⟩ := fnT_of (x := "is_count") (st := s_is_count) (ps := ["thing", "least", "most"]) d_is_count g_is_count (fun _ _ _ _ _ _ us hl => match us, hl with | [_, _, _], _ => rfl)
  have g_is_word := He.glo_ok X G (d.fact 2 (f := .glo "is_word") rfl)
  have d_is_word := d.def_ 2 (d := dd_is_word) rfl
  obtain ⟨t_is_word, f_is_word⟩ := fnT_of (x := "is_word") (st := s_is_word) (ps := ["thing"]) d_is_word g_is_word (fun _ _ _ _ _ _ us hl => match us, hl with | [_], _ => rfl)
  have g_check_word := He.glo_ok X G (d.fact 3 (f := .glo "check_word") rfl)
  have d_check_word := d.def_ 3 (d := dd_check_word) rfl
  obtain ⟨t_check_word, f_check_word⟩ := fnT_of (x := "check_word") (st := s_check_word) (ps := ["thing"]) d_check_word g_check_word (fun _ _ _ _ _ _ us hl => match us, hl with | [_], _ => rfl)
  have g_is_gate := He.glo_ok X G (d.fact 4 (f := .glo "is_gate") rfl)
  have d_is_gate := d.def_ 4 (d := dd_is_gate) rfl
  obtain ⟨t_is_gate, f_is_gate⟩ := fnT_of (x := "is_gate") (st := s_is_gate) (ps := ["thing", "own"]) d_is_gate g_is_gate (fun _ _ _ _ _ _ us hl => match us, hl with | [_, _], _ => rfl)
  have g_are_outs := He.glo_ok X G (d.fact 5 (f := .glo "are_outs") rfl)
  have d_are_outs := d.def_ 5 (d := dd_are_outs) rfl
  obtain ⟨t_are_outs, f_are_outs⟩ := fnT_of (x := "are_outs") (st := s_are_outs) (ps := ["thing", "many"]) d_are_outs g_are_outs (fun _ _ _ _ _ _ us hl => match us, hl with | [_, _], _ => rfl)
  have g_marked := He.glo_ok X G (d.fact 6 (f := .glo "marked") rfl)
  have d_marked := d.def_ 6 (d := dd_marked) rfl
  obtain ⟨t_marked, f_marked⟩ := fnT_of (x := "marked") (st := s_marked) (ps := ["words", "at", "bit"]) d_marked g_marked (fun _ _ _ _ _ _ us hl => match us, hl with | [_, _, _], _ => rfl)
  have g_let_through := He.glo_ok X G (d.fact 7 (f := .glo "let_through") rfl)
  have d_let_through := d.def_ 7 (d := dd_let_through) rfl
  obtain ⟨t_let_through, f_let_through⟩ := fnT_of (x := "let_through") (st := s_let_through) (ps := ["gate", "stands", "everywhere"]) d_let_through g_let_through (fun _ _ _ _ _ _ us hl => match us, hl with | [_, _, _], _ => rfl)
  have g_sign_at := He.glo_ok X G (d.fact 8 (f := .glo "sign_at") rfl)
  have d_sign_at := d.def_ 8 (d := dd_sign_at) rfl
  obtain ⟨t_sign_at, f_sign_at⟩ := fnT_of (x := "sign_at") (st := s_sign_at) (ps := ["pair", "k"]) d_sign_at g_sign_at (fun _ _ _ _ _ _ us hl => match us, hl with | [_, _], _ => rfl)
  have g_check_rounds := He.glo_ok X G (d.fact 9 (f := .glo "check_rounds") rfl)
  have d_check_rounds := d.def_ 9 (d := dd_check_rounds) rfl
  obtain ⟨t_check_rounds, f_check_rounds⟩ := fnT_of (x := "check_rounds") (st := s_check_rounds) (ps := ["thing"]) d_check_rounds g_check_rounds (fun _ _ _ _ _ _ us hl => match us, hl with | [_], _ => rfl)
  have g_reads_of := He.glo_ok X G (d.fact 10 (f := .glo "reads_of") rfl)
  have d_reads_of := d.def_ 10 (d := dd_reads_of) rfl
  obtain ⟨t_reads_of, f_reads_of⟩ := fnT_of (x := "reads_of") (st := s_reads_of) (ps := ["kind", "bit", "r"]) d_reads_of g_reads_of (fun _ _ _ _ _ _ us hl => match us, hl with | [_, _, _], _ => rfl)
  have g__law_open := He.glo_ok X G (d.fact 11 (f := .glo "_law_open") rfl)
  have d__law_open := d.def_ 11 (d := dd__law_open) rfl
  obtain ⟨t__law_open, f__law_open⟩ := fnT_of (x := "_law_open") (st := s__law_open) (ps := ["script"]) d__law_open g__law_open (fun _ _ _ _ _ _ us hl => match us, hl with | [_], _ => rfl)
  have g__law_spread := He.glo_ok X G (d.fact 12 (f := .glo "_law_spread") rfl)
  have d__law_spread := d.def_ 12 (d := dd__law_spread) rfl
  obtain ⟨t__law_spread, f__law_spread⟩ := fnT_of (x := "_law_spread") (st := s__law_spread) (ps := ["cell", "k"]) d__law_spread g__law_spread (fun _ _ _ _ _ _ us hl => match us, hl with | [_, _], _ => rfl)
  have g__law_take := He.glo_ok X G (d.fact 13 (f := .glo "_law_take") rfl)
  have d__law_take := d.def_ 13 (d := dd__law_take) rfl
  obtain ⟨t__law_take, f__law_take⟩ := fnT_of (x := "_law_take") (st := s__law_take) (ps := ["pen", "many"]) d__law_take g__law_take (fun _ _ _ _ _ _ us hl => match us, hl with | [_, _], _ => rfl)
  have g__law_one_of := He.glo_ok X G (d.fact 14 (f := .glo "_law_one_of") rfl)
  have d__law_one_of := d.def_ 14 (d := dd__law_one_of) rfl
  obtain ⟨t__law_one_of, f__law_one_of⟩ := fnT_of (x := "_law_one_of") (st := s__law_one_of) (ps := ["pen", "some"]) d__law_one_of g__law_one_of (fun _ _ _ _ _ _ us hl => match us, hl with | [_, _], _ => rfl)
  have g__law_kinds_of := He.glo_ok X G (d.fact 15 (f := .glo "_law_kinds_of") rfl)
  have d__law_kinds_of := d.def_ 15 (d := dd__law_kinds_of) rfl
  obtain ⟨t__law_kinds_of, f__law_kinds_of⟩ := fnT_of (x := "_law_kinds_of") (st := s__law_kinds_of) (ps := ["one"]) d__law_kinds_of g__law_kinds_of (fun _ _ _ _ _ _ us hl => match us, hl with | [_], _ => rfl)
  have g_are_gates := He.glo_ok X G (d.fact 16 (f := .glo "are_gates") rfl)
  have d_are_gates := d.def_ 16 (d := dd_are_gates) rfl
  obtain ⟨t_are_gates, f_are_gates⟩ := fnT_of (x := "are_gates") (st := s_are_gates) (ps := ["thing", "n"]) d_are_gates g_are_gates (fun _ _ _ _ _ _ us hl => match us, hl with | [_, _], _ => rfl)
  have g_answers_at := He.glo_ok X G (d.fact 17 (f := .glo "answers_at") rfl)
  have d_answers_at := d.def_ 17 (d := dd_answers_at) rfl
  obtain ⟨t_answers_at, f_answers_at⟩ := fnT_of (x := "answers_at") (st := s_answers_at) (ps := ["net", "words"]) d_answers_at g_answers_at (fun _ _ _ _ _ _ us hl => match us, hl with | [_, _], _ => rfl)
  have g_reads := He.glo_ok X G (d.fact 18 (f := .glo "reads") rfl)
  have d_reads := d.def_ 18 (d := dd_reads) rfl
  obtain ⟨t_reads, f_reads⟩ := fnT_of (x := "reads") (st := s_reads) (ps := ["kind", "bit", "r"]) d_reads g_reads (fun _ _ _ _ _ _ us hl => match us, hl with | [_, _, _], _ => rfl)
  have g_is_net := He.glo_ok X G (d.fact 19 (f := .glo "is_net") rfl)
  have d_is_net := d.def_ 19 (d := dd_is_net) rfl
  obtain ⟨t_is_net, f_is_net⟩ := fnT_of (x := "is_net") (st := s_is_net) (ps := ["thing"]) d_is_net g_is_net (fun _ _ _ _ _ _ us hl => match us, hl with | [_], _ => rfl)
  have g_check_net := He.glo_ok X G (d.fact 20 (f := .glo "check_net") rfl)
  have d_check_net := d.def_ 20 (d := dd_check_net) rfl
  obtain ⟨t_check_net, f_check_net⟩ := fnT_of (x := "check_net") (st := s_check_net) (ps := ["thing"]) d_check_net g_check_net (fun _ _ _ _ _ _ us hl => match us, hl with | [_], _ => rfl)
  have g_told_at := He.glo_ok X G (d.fact 21 (f := .glo "told_at") rfl)
  have d_told_at := d.def_ 21 (d := dd_told_at) rfl
  obtain ⟨t_told_at, f_told_at⟩ := fnT_of (x := "told_at") (st := s_told_at) (ps := ["net", "word"]) d_told_at g_told_at (fun _ _ _ _ _ _ us hl => match us, hl with | [_, _], _ => rfl)
  have g_run := He.glo_ok X G (d.fact 22 (f := .glo "run") rfl)
  have d_run := d.def_ 22 (d := dd_run) rfl
  obtain ⟨t_run, f_run⟩ := fnT_of (x := "run") (st := s_run) (ps := ["net", "word"]) d_run g_run (fun _ _ _ _ _ _ us hl => match us, hl with | [_, _], _ => rfl)
  have g_law := He.glo_ok X G (d.fact 23 (f := .glo "law") rfl)
  have d_law := d.def_ 23 (d := dd_law) rfl
  obtain ⟨t_law, f_law, e_law⟩ := lamT_of (x := "law") (st := s_law) (ps := ["script"]) d_law g_law (c.out _ (by simp [hTf])) (fun _ _ _ _ _ _ us hl => match us, hl with | [_], _ => rfl)
  obtain ⟨e_BitError, c_BitError⟩ := exT_of (x := "BitError") (He.glo_ok X G (d.fact 24 (f := .glo "BitError") rfl)) (d.fact 25 (f := .exc "BitError") rfl)
  obtain ⟨e_NoWord, c_NoWord⟩ := exT_of (x := "NoWord") (He.glo_ok X G (d.fact 26 (f := .glo "NoWord") rfl)) (d.fact 27 (f := .exc "NoWord") rfl)
  obtain ⟨e_NoNet, c_NoNet⟩ := exT_of (x := "NoNet") (He.glo_ok X G (d.fact 28 (f := .glo "NoNet") rfl)) (d.fact 29 (f := .exc "NoNet") rfl)
  obtain ⟨e_NoTable, c_NoTable⟩ := exT_of (x := "NoTable") (He.glo_ok X G (d.fact 30 (f := .glo "NoTable") rfl)) (d.fact 31 (f := .exc "NoTable") rfl)
  obtain ⟨e_NoTelling, c_NoTelling⟩ := exT_of (x := "NoTelling") (He.glo_ok X G (d.fact 32 (f := .glo "NoTelling") rfl)) (d.fact 33 (f := .exc "NoTelling") rfl)
  obtain ⟨e_NoSum, c_NoSum⟩ := exT_of (x := "NoSum") (He.glo_ok X G (d.fact 34 (f := .glo "NoSum") rfl)) (d.fact 35 (f := .exc "NoSum") rfl)
  obtain ⟨e_NoDemand, c_NoDemand⟩ := exT_of (x := "NoDemand") (He.glo_ok X G (d.fact 36 (f := .glo "NoDemand") rfl)) (d.fact 37 (f := .exc "NoDemand") rfl)
  obtain ⟨e_NoPicks, c_NoPicks⟩ := exT_of (x := "NoPicks") (He.glo_ok X G (d.fact 38 (f := .glo "NoPicks") rfl)) (d.fact 39 (f := .exc "NoPicks") rfl)
  obtain ⟨e_NoCount, c_NoCount⟩ := exT_of (x := "NoCount") (He.glo_ok X G (d.fact 40 (f := .glo "NoCount") rfl)) (d.fact 41 (f := .exc "NoCount") rfl)
  obtain ⟨e_NoKind, c_NoKind⟩ := exT_of (x := "NoKind") (He.glo_ok X G (d.fact 42 (f := .glo "NoKind") rfl)) (d.fact 43 (f := .exc "NoKind") rfl)
  obtain ⟨e_NoPlan, c_NoPlan⟩ := exT_of (x := "NoPlan") (He.glo_ok X G (d.fact 44 (f := .glo "NoPlan") rfl)) (d.fact 45 (f := .exc "NoPlan") rfl)
  obtain ⟨e_NoCode, c_NoCode⟩ := exT_of (x := "NoCode") (He.glo_ok X G (d.fact 46 (f := .glo "NoCode") rfl)) (d.fact 47 (f := .exc "NoCode") rfl)
  obtain ⟨e_NoRow, c_NoRow⟩ := exT_of (x := "NoRow") (He.glo_ok X G (d.fact 48 (f := .glo "NoRow") rfl)) (d.fact 49 (f := .exc "NoRow") rfl)
  obtain ⟨e_NoMatch, c_NoMatch⟩ := exT_of (x := "NoMatch") (He.glo_ok X G (d.fact 50 (f := .glo "NoMatch") rfl)) (d.fact 51 (f := .exc "NoMatch") rfl)
  obtain ⟨e_NoGate, c_NoGate⟩ := exT_of (x := "NoGate") (He.glo_ok X G (d.fact 52 (f := .glo "NoGate") rfl)) (d.fact 53 (f := .exc "NoGate") rfl)
  obtain ⟨e_NoBoard, c_NoBoard⟩ := exT_of (x := "NoBoard") (He.glo_ok X G (d.fact 54 (f := .glo "NoBoard") rfl)) (d.fact 55 (f := .exc "NoBoard") rfl)
  obtain ⟨e_NoDeed, c_NoDeed⟩ := exT_of (x := "NoDeed") (He.glo_ok X G (d.fact 56 (f := .glo "NoDeed") rfl)) (d.fact 57 (f := .exc "NoDeed") rfl)
  obtain ⟨e_NoDrop, c_NoDrop⟩ := exT_of (x := "NoDrop") (He.glo_ok X G (d.fact 58 (f := .glo "NoDrop") rfl)) (d.fact 59 (f := .exc "NoDrop") rfl)
  obtain ⟨e_NoUndo, c_NoUndo⟩ := exT_of (x := "NoUndo") (He.glo_ok X G (d.fact 60 (f := .glo "NoUndo") rfl)) (d.fact 61 (f := .exc "NoUndo") rfl)
  obtain ⟨e_NoThings, c_NoThings⟩ := exT_of (x := "NoThings") (He.glo_ok X G (d.fact 62 (f := .glo "NoThings") rfl)) (d.fact 63 (f := .exc "NoThings") rfl)
  obtain ⟨e_NoLets, c_NoLets⟩ := exT_of (x := "NoLets") (He.glo_ok X G (d.fact 64 (f := .glo "NoLets") rfl)) (d.fact 65 (f := .exc "NoLets") rfl)
  obtain ⟨e_NotThere, c_NotThere⟩ := exT_of (x := "NotThere") (He.glo_ok X G (d.fact 66 (f := .glo "NotThere") rfl)) (d.fact 67 (f := .exc "NotThere") rfl)
  obtain ⟨e_NoMachine, c_NoMachine⟩ := exT_of (x := "NoMachine") (He.glo_ok X G (d.fact 68 (f := .glo "NoMachine") rfl)) (d.fact 69 (f := .exc "NoMachine") rfl)
  obtain ⟨e_TooGreat, c_TooGreat⟩ := exT_of (x := "TooGreat") (He.glo_ok X G (d.fact 70 (f := .glo "TooGreat") rfl)) (d.fact 71 (f := .exc "TooGreat") rfl)
  let T : Tp K mg w := {
    t__law_caught := t__law_caught,
    t_is_count := t_is_count,
    t_is_word := t_is_word,
    t_check_word := t_check_word,
    t_is_gate := t_is_gate,
    t_are_outs := t_are_outs,
    t_marked := t_marked,
    t_let_through := t_let_through,
    t_sign_at := t_sign_at,
    t_check_rounds := t_check_rounds,
    t_reads_of := t_reads_of,
    t__law_open := t__law_open,
    t__law_spread := t__law_spread,
    t__law_take := t__law_take,
    t__law_one_of := t__law_one_of,
    t__law_kinds_of := t__law_kinds_of,
    t_are_gates := t_are_gates,
    t_answers_at := t_answers_at,
    t_reads := t_reads,
    t_is_net := t_is_net,
    t_check_net := t_check_net,
    t_told_at := t_told_at,
    t_run := t_run,
    t_law := t_law,
    m_LookupError := He.free_ok X G (d.fact 75 (f := .free "LookupError") rfl),
    m_ValueError := He.free_ok X G (d.fact 76 (f := .free "ValueError") rfl),
    m_all := He.free_ok X G (d.fact 77 (f := .free "all") rfl),
    m_any := He.free_ok X G (d.fact 78 (f := .free "any") rfl),
    m_bool := He.free_ok X G (d.fact 79 (f := .free "bool") rfl),
    m_dict := He.free_ok X G (d.fact 80 (f := .free "dict") rfl),
    m_enumerate := He.free_ok X G (d.fact 81 (f := .free "enumerate") rfl),
    m_int := He.free_ok X G (d.fact 82 (f := .free "int") rfl),
    m_isinstance := He.free_ok X G (d.fact 83 (f := .free "isinstance") rfl),
    m_len := He.free_ok X G (d.fact 84 (f := .free "len") rfl),
    m_list := He.free_ok X G (d.fact 85 (f := .free "list") rfl),
    m_range := He.free_ok X G (d.fact 86 (f := .free "range") rfl),
    m_repr := He.free_ok X G (d.fact 87 (f := .free "repr") rfl),
    m_set := He.free_ok X G (d.fact 88 (f := .free "set") rfl),
    m_sorted := He.free_ok X G (d.fact 89 (f := .free "sorted") rfl),
    m_str := He.free_ok X G (d.fact 90 (f := .free "str") rfl),
    m_sum := He.free_ok X G (d.fact 91 (f := .free "sum") rfl),
    m_tuple := He.free_ok X G (d.fact 92 (f := .free "tuple") rfl),
    m_zip := He.free_ok X G (d.fact 93 (f := .free "zip") rfl),
    c_SIGNS := He.str_ok X G (d.fact 94 (f := .str "SIGNS" "01?") rfl),
    c_MOST_BITS := He.int_ok X G (d.fact 95 (f := .int "MOST_BITS" 32) rfl),
    c_MOST_INPUTS := He.int_ok X G (d.fact 96 (f := .int "MOST_INPUTS" 32) rfl),
    c_MOST_GATES := He.int_ok X G (d.fact 97 (f := .int "MOST_GATES" 100000) rfl),
    c_MOST_OUTS := He.int_ok X G (d.fact 98 (f := .int "MOST_OUTS" 32) rfl),
    c_MOST_READS := He.int_ok X G (d.fact 99 (f := .int "MOST_READS" 8) rfl),
    e_BitError := e_BitError,
    e_NoWord := e_NoWord,
    e_NoNet := e_NoNet,
    e_NoTable := e_NoTable,
    e_NoTelling := e_NoTelling,
    e_NoSum := e_NoSum,
    e_NoDemand := e_NoDemand,
    e_NoPicks := e_NoPicks,
    e_NoCount := e_NoCount,
    e_NoKind := e_NoKind,
    e_NoPlan := e_NoPlan,
    e_NoCode := e_NoCode,
    e_NoRow := e_NoRow,
    e_NoMatch := e_NoMatch,
    e_NoGate := e_NoGate,
    e_NoBoard := e_NoBoard,
    e_NoDeed := e_NoDeed,
    e_NoDrop := e_NoDrop,
    e_NoUndo := e_NoUndo,
    e_NoThings := e_NoThings,
    e_NoLets := e_NoLets,
    e_NotThere := e_NotThere,
    e_NoMachine := e_NoMachine,
    e_TooGreat := e_TooGreat,
    xer := mo3,
    xi_BitError := mo4,
    xi_NoBoard := mo5,
    xi_NoCode := mo6,
    xi_NoCount := mo7,
    xi_NoDeed := mo8,
    xi_NoDemand := mo9,
    xi_NoDrop := mo10,
    xi_NoGate := mo11,
    xi_NoKind := mo12,
    xi_NoLets := mo13,
    xi_NoMachine := mo14,
    xi_NoMatch := mo15,
    xi_NoNet := mo16,
    xi_NoPicks := mo17,
    xi_NoPlan := mo18,
    xi_NoRow := mo19,
    xi_NoSum := mo20,
    xi_NoTable := mo21,
    xi_NoTelling := mo22,
    xi_NoThings := mo23,
    xi_NoUndo := mo24,
    xi_NoWord := mo25,
    xi_NotThere := mo26,
    xi_TooGreat := mo27,
    xi_LookupError := mo28,
    xi_ValueError := mo29,
    xm_BitError := mo30,
    ea_BitError := c_BitError,
    ga_BitError := He.glo_ok X G (d.fact 24 (f := .glo "BitError") rfl),
    ea_NoWord := c_NoWord,
    ga_NoWord := He.glo_ok X G (d.fact 26 (f := .glo "NoWord") rfl),
    ea_NoNet := c_NoNet,
    ga_NoNet := He.glo_ok X G (d.fact 28 (f := .glo "NoNet") rfl),
    ea_NoTable := c_NoTable,
    ga_NoTable := He.glo_ok X G (d.fact 30 (f := .glo "NoTable") rfl),
    ea_NoTelling := c_NoTelling,
    ga_NoTelling := He.glo_ok X G (d.fact 32 (f := .glo "NoTelling") rfl),
    ea_NoSum := c_NoSum,
    ga_NoSum := He.glo_ok X G (d.fact 34 (f := .glo "NoSum") rfl),
    ea_NoDemand := c_NoDemand,
    ga_NoDemand := He.glo_ok X G (d.fact 36 (f := .glo "NoDemand") rfl),
    ea_NoPicks := c_NoPicks,
    ga_NoPicks := He.glo_ok X G (d.fact 38 (f := .glo "NoPicks") rfl),
    ea_NoCount := c_NoCount,
    ga_NoCount := He.glo_ok X G (d.fact 40 (f := .glo "NoCount") rfl),
    ea_NoKind := c_NoKind,
    ga_NoKind := He.glo_ok X G (d.fact 42 (f := .glo "NoKind") rfl),
    ea_NoPlan := c_NoPlan,
    ga_NoPlan := He.glo_ok X G (d.fact 44 (f := .glo "NoPlan") rfl),
    ea_NoCode := c_NoCode,
    ga_NoCode := He.glo_ok X G (d.fact 46 (f := .glo "NoCode") rfl),
    ea_NoRow := c_NoRow,
    ga_NoRow := He.glo_ok X G (d.fact 48 (f := .glo "NoRow") rfl),
    ea_NoMatch := c_NoMatch,
    ga_NoMatch := He.glo_ok X G (d.fact 50 (f := .glo "NoMatch") rfl),
    ea_NoGate := c_NoGate,
    ga_NoGate := He.glo_ok X G (d.fact 52 (f := .glo "NoGate") rfl),
    ea_NoBoard := c_NoBoard,
    ga_NoBoard := He.glo_ok X G (d.fact 54 (f := .glo "NoBoard") rfl),
    ea_NoDeed := c_NoDeed,
    ga_NoDeed := He.glo_ok X G (d.fact 56 (f := .glo "NoDeed") rfl),
    ea_NoDrop := c_NoDrop,
    ga_NoDrop := He.glo_ok X G (d.fact 58 (f := .glo "NoDrop") rfl),
    ea_NoUndo := c_NoUndo,
    ga_NoUndo := He.glo_ok X G (d.fact 60 (f := .glo "NoUndo") rfl),
    ea_NoThings := c_NoThings,
    ga_NoThings := He.glo_ok X G (d.fact 62 (f := .glo "NoThings") rfl),
    ea_NoLets := c_NoLets,
    ga_NoLets := He.glo_ok X G (d.fact 64 (f := .glo "NoLets") rfl),
    ea_NotThere := c_NotThere,
    ga_NotThere := He.glo_ok X G (d.fact 66 (f := .glo "NotThere") rfl),
    ea_NoMachine := c_NoMachine,
    ga_NoMachine := He.glo_ok X G (d.fact 68 (f := .glo "NoMachine") rfl),
    ea_TooGreat := c_TooGreat,
    ga_TooGreat := He.glo_ok X G (d.fact 70 (f := .glo "TooGreat") rfl),
    a_PARTS := He.ga K "PARTS",
    k_PARTS := tabIs_of (kvs := hv_PARTS) (tabK c.t 0 rfl) mo0 rfl,
    g_PARTS := He.glo_ok X G (d.fact 72 (f := .glo "PARTS") rfl),
    a_KINDS := He.ga K "KINDS",
    k_KINDS := tupB_kt mo1,
    g_KINDS := He.glo_ok X G (d.fact 73 (f := .glo "KINDS") rfl),
    a_BITS := He.ga K "BITS",
    k_BITS := tupB_kt mo2,
    g_BITS := He.glo_ok X G (d.fact 74 (f := .glo "BITS") rfl) }
  refine ⟨T, f_law, fun p hp => ?_⟩
  simp only [csOf, List.mem_cons, List.not_mem_nil, or_false] at hp
  rcases hp with rfl
  · exact ⟨("law", none), by simp [hTf], e_law⟩
end Tk
open PySem PySem.W PySem.Calls PyProof.Rows
set_option maxHeartbeats 0 in
theorem Tk.holds (math : ∀ (tb : List (Addr × PySem.Str)) (ns : List Int), ns.length ≤ 63 → (∀ z ∈ ns, Builtin.Int.intBits z ≤ 1048576) → ∃ (cs : List Int) (P1 P2 : Vl.Pen), Tk.den__law_open [.scr ns] ⟨[], 0, 0, tb⟩ = .ok (.list [.list (cs.map PyData.int), .int 0, .int 0]) P1 ∧ Tk.b_law tb (.scr ns :: .pen :: List.replicate (Tk.n_law.length - 2) .un) ⟨cs, 0, 0, tb⟩ = .ok (.rt (.bool true)) P2) : PySem.Challenge.rw_halfbits_k66_errors_by_hand.Holds := by
  w_on; o_law
  refine HandSHeadRun.head_any (r := OpenLaw.row PySem.Challenge.rw_halfbits_k66_errors_by_hand) (q := view (OpenLaw.row PySem.Challenge.rw_halfbits_k66_errors_by_hand).prog [62]) (H := Tk.hHk) (ob := Tk.hOb) (M := 18920) (loose := Tk.hLo) (d := HandSHeadRun.topDef (OpenLaw.row PySem.Challenge.rw_halfbits_k66_errors_by_hand).prog 62) (kwd := []) Tk.hOb_eq
    (by kernel_rfl) (fun s => by kernel_rfl) Tk.hRun (by kernel_rfl) (by kernel_rfl) (by kernel_rfl) (by rfl) (by first | assumption | decide +kernel) (by decide +kernel) ⟨rfl, rfl, rfl, rfl, rfl, by decide +kernel⟩ ?hw ?hc
  case hw => w_witness2
  case hc =>
    refine Vl.walk_ofG (l := PySem.Challenge.rw_halfbits_k66_errors_by_hand) (k := 9) (x := "script") rfl (by kernel_rfl) ⟨rfl, by decide, by decide⟩ ?F
    intro w mg fa h Y G hmg0
    obtain ⟨K, KX, c⟩ := Y
    have hmg : (mg ("law" : PySem.Str) = some (.ref fa)) := by
      have e : (HandSHeadRun.topDef (OpenLaw.row PySem.Challenge.rw_halfbits_k66_errors_by_hand).prog 62).name = ("law" : PySem.Str) := by kernel_rfl
      rw [← e]
      exact hmg0
    obtain ⟨T, hf, hcs⟩ := Tk.tp_of KX G c
    have hfa : fa = T.t_law.f := by
      have z := hmg.symm.trans T.t_law.G
      cases z
      rfl
    refine ⟨K, KX, T.t_law.fd, Tk.csOf T, Tk.tbOf T, fun p hp => ?_, fun p hp => ?_, fun p hp => ?_, Tk.htb_of T, fun s u => .of_eq rfl, fun base _ _ TBs => ?_⟩
    · obtain ⟨q, hq, rfl⟩ := hcs p hp
      exact c.empty q hq
    · obtain ⟨q, hq, rfl⟩ := hcs p hp
      exact c.out q hq
    · obtain ⟨q, hq, rfl⟩ := hcs p hp
      exact PySem.W.codeHd_of_K KX (c.hd q hq)
    · rw [hfa]
      exact Tk.ok_law T TBs (math (Tk.tbOf T))
end
section
set_option autoImplicit false
set_option maxRecDepth 100000
/-! M0: how denotations are computed: steps, comprehensions, loops. -/
namespace Vl
open PySem L2

theorem guardD_of {c : Bool} {d : D} (h : c = true) : guardD c d = some d := by rw [h]; rfl
theorem bnd_ok {α β : Type} {m : M α} {f : α → M β} {P P1 : Pen} {a : α} (h : m P = .ok a P1) : bnd m f P = f a P1 := by
  unfold bnd; rw [h]
theorem bnd_ex {α β : Type} {m : M α} {f : α → M β} {P P1 : Pen} {c : Str} (h : m P = .ex c P1) : bnd m f P = .ex c P1 := by
  unfold bnd; rw [h]
/-- a comprehension over what is walked: each item kept or not -/
theorem compD_map {tg : D → Env → Option Env} {ts : Env → M Bool} {elt : Env → M D} {env : Env} {P : Pen} (g : D → Option D) : ∀ (ds : List D) (n : Nat), n + ds.length ≤ 16777216 →
    (∀ d ∈ ds, ∃ e1, tg d env = some e1 ∧ ((g d = none ∧ ts e1 P = .ok false P) ∨ ∃ y, g d = some y ∧ ts e1 P = .ok true P ∧ elt e1 P = .ok y P)) → compD tg ts elt ds n env P = .ok (ds.filterMap g) P
  | [], _, _, _ => rfl
  | d :: ds, n, hn, h => by
    obtain ⟨e1, h1, h2⟩ := h d List.mem_cons_self
    have ih := fun m hm => compD_map (env := env) (P := P) g ds m hm fun d' hd' => h d' (List.mem_cons_of_mem _ hd')
    rw [List.length_cons] at hn
    unfold compD
    rw [h1]
    rcases h2 with ⟨h2, h3⟩ | ⟨y, h2, h3, h4⟩
    · have e : noEx (ts e1) P = .ok false P := by unfold noEx; rw [h3]
      simp only [bnd_ok e, List.filterMap_cons, h2]
      exact ih n (by omega)
    · have e : noEx (ts e1) P = .ok true P := by unfold noEx; rw [h3]
      have e2 : noEx (elt e1) P = .ok y P := by unfold noEx; rw [h4]
      have hlt : n < 16777216 := by omega
      simp only [bnd_ok e, List.filterMap_cons, h2, if_true, bnd_ok e2, if_pos hlt, bnd_ok (ih (n + 1) (by omega))]
      rfl
theorem dComp_filter {it : Env → M (List D)} {tg : D → Env → Option Env} {ts : Env → M Bool} {elt : Env → M D} {vs : List Nat} {env : Env} {P : Pen} {ds : List D} (g : D → Option D) (hi : it env P = .ok ds P) (hn : ds.length ≤ 16777216)
    (h : ∀ d ∈ ds, ∃ e1, tg d (wipeE env vs) = some e1 ∧ ((g d = none ∧ ts e1 P = .ok false P) ∨ ∃ y, g d = some y ∧ ts e1 P = .ok true P ∧ elt e1 P = .ok y P)) :
    dComp it tg ts elt vs env P = .ok (.list (ds.filterMap g)) P := by
  unfold dComp
  rw [bnd_ok hi, bnd_ok (compD_map g ds 0 (by omega) h)]
  rfl
theorem dComp_map {it : Env → M (List D)} {tg : D → Env → Option Env} {elt : Env → M D} {vs : List Nat} {env : Env} {P : Pen} {ds : List D} (f : D → D) (hi : it env P = .ok ds P) (hn : ds.length ≤ 16777216)
    (h : ∀ d ∈ ds, ∃ e1, tg d (wipeE env vs) = some e1 ∧ elt e1 P = .ok (f d) P) : dComp it tg tsNil elt vs env P = .ok (.list (ds.map f)) P := by
  rw [dComp_filter (fun d => some (f d)) hi hn fun d hd => ?_]
  · rw [List.filterMap_eq_map']
  · obtain ⟨e1, h1, h2⟩ := h d hd
    exact ⟨e1, h1, .inr ⟨_, rfl, rfl, h2⟩⟩
/-- a comprehension whose elements draw from the pen -/
theorem compD_draw {tg : D → Env → Option Env} {elt : Env → M D} {env : Env} (I : Pen → Prop) (R : D → Prop) : ∀ (ds : List D) (n : Nat) (P : Pen), n + ds.length ≤ 16777216 → I P →
    (∀ d ∈ ds, ∀ P, I P → ∃ e1 y P', tg d env = some e1 ∧ elt e1 P = .ok y P' ∧ I P' ∧ R y) → ∃ ys P', compD tg tsNil elt ds n env P = .ok ys P' ∧ I P' ∧ ys.length = ds.length ∧ ∀ y ∈ ys, R y
  | [], _, P, _, hI, _ => ⟨[], P, rfl, hI, rfl, fun y hy => nomatch hy⟩
  | d :: ds, n, P, hn, hI, h => by
    rw [List.length_cons] at hn
    obtain ⟨e1, y, P1, h1, h2, h3, h4⟩ := h d List.mem_cons_self P hI
    obtain ⟨ys, P2, g1, g2, g3, g4⟩ := compD_draw I R ds (n + 1) P1 (by omega) h3 fun d' hd' => h d' (List.mem_cons_of_mem _ hd')
    refine ⟨y :: ys, P2, ?_, g2, by rw [List.length_cons, List.length_cons, g3], fun z hz => ?_⟩
    · unfold compD
      rw [h1]
      have e : noEx (tsNil e1) P = .ok true P := rfl
      have e2 : noEx (elt e1) P = .ok y P1 := by unfold noEx; rw [h2]
      have hlt : n < 16777216 := by omega
      simp only [bnd_ok e, if_true, bnd_ok e2, if_pos hlt, bnd_ok g1]
      rfl
    · rcases List.mem_cons.mp hz with rfl | hz
      · exact h4
      · exact g4 z hz
theorem dComp_draw {it : Env → M (List D)} {tg : D → Env → Option Env} {elt : Env → M D} {vs : List Nat} {env : Env} {P P1 : Pen} {ds : List D} (I : Pen → Prop) (R : D → Prop) (hi : it env P = .ok ds P1) (hn : ds.length ≤ 16777216) (hI : I P1)
    (h : ∀ d ∈ ds, ∀ P, I P → ∃ e1 y P', tg d (wipeE env vs) = some e1 ∧ elt e1 P = .ok y P' ∧ I P' ∧ R y) : ∃ ys P', dComp it tg tsNil elt vs env P = .ok (.list ys) P' ∧ I P' ∧ ys.length = ds.length ∧ ∀ y ∈ ys, R y := by
  obtain ⟨ys, P2, g1, g2⟩ := compD_draw (env := wipeE env vs) I R ds 0 P1 (by omega) hI h
  refine ⟨ys, P2, ?_, g2⟩
  unfold dComp
  rw [bnd_ok hi, bnd_ok g1]
  rfl
/-- a loop: I is kept while items are left; Q at its end -/
theorem loop_inv {tg : D → Env → Option Env} {body : Env → M Fl} (I : List D → Env → Pen → Prop) (Q : Fl → Pen → Prop)
    (step : ∀ d ds env P, I (d :: ds) env P → ∃ e1, tg d env = some e1 ∧ ((∃ e P', (body e1 P = .ok (.nx e) P' ∨ body e1 P = .ok (.ct e) P') ∧ I ds e P') ∨ (∃ e P', body e1 P = .ok (.bk e) P' ∧ Q (.nx e) P') ∨ ∃ v P', body e1 P = .ok (.rt v) P' ∧ Q (.rt v) P'))
    (done : ∀ env P, I [] env P → Q (.nx env) P) : ∀ (ds : List D) (env : Env) (P : Pen), I ds env P → ∃ o P', loopD tg body ds env P = .ok o P' ∧ Q o P'
  | [], env, P, h => ⟨_, P, rfl, done env P h⟩
  | d :: ds, env, P, h => by
    obtain ⟨e1, h1, h2⟩ := step d ds env P h
    unfold loopD
    rw [h1]
    rcases h2 with ⟨e, P', h2, h3⟩ | ⟨e, P', h2, h3⟩ | ⟨v, P', h2, h3⟩
    · obtain ⟨o, P2, g1, g2⟩ := loop_inv I Q step done ds e P' h3
      refine ⟨o, P2, ?_, g2⟩
      rcases h2 with h2 | h2
      · simp only [bnd_ok h2]; exact g1
      · simp only [bnd_ok h2]; exact g1
    · exact ⟨_, P', by simp only [bnd_ok h2]; rfl, h3⟩
    · exact ⟨_, P', by simp only [bnd_ok h2]; rfl, h3⟩

/-! ### forward rules -/
section
variable {α β : Type} {env e e1 : Env} {P P1 P2 P3 : Pen} {f f1 f2 f3 : Env → M D} {c c2 : Env → M Bool} {d x y z : D} {ds : List D} {g : Env → M (List D)} {i j n : Nat} {k : Int} {b : Bool}
theorem bVar_v (h : env[i]? = some (.v d)) : bVar i env P = .ok d P := by unfold bVar; rw [h]; rfl
theorem bVar_o (h : env[i]? = some (.own ds)) : bVar i env P = .ok (.list ds) P := by unfold bVar; rw [h]; rfl
theorem dVar_v (h : env[i]? = some (.v d)) : dVar i env P = .ok d P := by unfold dVar; rw [h]; rfl
theorem dC_ok : dC d env P = .ok d P := rfl
theorem aNil_ok : aNil env P = .ok [] P := rfl
theorem aCons_ok (h : f env P = .ok d P1) (h2 : g env P1 = .ok ds P2) : aCons f g env P = .ok (d :: ds) P2 := by unfold aCons; rw [bnd_ok h, bnd_ok h2]; rfl
theorem dTup_ok (h : g env P = .ok ds P1) (hl : ds.length ≤ 16777216) : dTup g env P = .ok (.tuple ds) P1 := by unfold dTup; rw [bnd_ok h, if_pos hl]; rfl
theorem dLst_ok (h : g env P = .ok ds P1) (hl : ds.length ≤ 16777216) : dLst g env P = .ok (.list ds) P1 := by unfold dLst; rw [bnd_ok h, if_pos hl]; rfl
theorem d2_ok {op : D → D → Option D} (h : f1 env P = .ok x P1) (h2 : f2 env P1 = .ok y P2) (h3 : op x y = some d) : d2 op f1 f2 env P = .ok d P2 := by unfold d2; rw [bnd_ok h, bnd_ok h2, h3]; rfl
theorem d1_ok {op : D → Option D} (h : f env P = .ok x P1) (h3 : op x = some d) : d1 op f env P = .ok d P1 := by unfold d1; rw [bnd_ok h, h3]; rfl
theorem tV_ok (h : f env P = .ok (.bool b) P1) : tV f env P = .ok b P1 := by unfold tV; rw [bnd_ok h]; rfl
theorem tTru_ok (h : f env P = .ok d P1) (h2 : dTru d = some b) : tTru f env P = .ok b P1 := by unfold tTru; rw [bnd_ok h, h2]; rfl
theorem mAnd_t (h : c env P = .ok true P1) (h2 : c2 env P1 = .ok b P2) : mAnd c c2 env P = .ok b P2 := by unfold mAnd; rw [bnd_ok h]; exact h2
theorem mAnd_f (h : c env P = .ok false P1) : mAnd c c2 env P = .ok false P1 := by unfold mAnd; rw [bnd_ok h]; rfl
theorem mOr_f (h : c env P = .ok false P1) (h2 : c2 env P1 = .ok b P2) : mOr c c2 env P = .ok b P2 := by unfold mOr; rw [bnd_ok h]; exact h2
theorem mOr_t (h : c env P = .ok true P1) : mOr c c2 env P = .ok true P1 := by unfold mOr; rw [bnd_ok h]; rfl
theorem mNot_ok (h : c env P = .ok b P1) : mNot c env P = .ok (!b) P1 := by unfold mNot; rw [bnd_ok h]; rfl
theorem mNot_t (h : c env P = .ok false P1) : mNot c env P = .ok true P1 := mNot_ok h
theorem mNot_f (h : c env P = .ok true P1) : mNot c env P = .ok false P1 := mNot_ok h
theorem vAnd_t (h : f1 env P = .ok (.bool true) P1) (h2 : f2 env P1 = .ok d P2) : vAnd f1 f2 env P = .ok d P2 := by unfold vAnd; rw [bnd_ok h]; exact h2
theorem vAnd_f (h : f1 env P = .ok (.bool false) P1) : vAnd f1 f2 env P = .ok (.bool false) P1 := by unfold vAnd; rw [bnd_ok h]; rfl
theorem vOr_f (h : f1 env P = .ok (.bool false) P1) (h2 : f2 env P1 = .ok d P2) : vOr f1 f2 env P = .ok d P2 := by unfold vOr; rw [bnd_ok h]; exact h2
theorem vOr_t (h : f1 env P = .ok (.bool true) P1) : vOr f1 f2 env P = .ok (.bool true) P1 := by unfold vOr; rw [bnd_ok h]; rfl
theorem vNot_ok (h : f env P = .ok (.bool b) P1) : vNot f env P = .ok (.bool (!b)) P1 := by unfold vNot; rw [bnd_ok h]; rfl
theorem vIf_t (h : c env P = .ok true P1) (h2 : f1 env P1 = .ok d P2) : vIf c f1 f2 env P = .ok d P2 := by unfold vIf; rw [bnd_ok h]; exact h2
theorem vIf_f (h : c env P = .ok false P1) (h2 : f2 env P1 = .ok d P2) : vIf c f1 f2 env P = .ok d P2 := by unfold vIf; rw [bnd_ok h]; exact h2
theorem dChain_t {op op2 : D → D → Option D} (h : f1 env P = .ok x P1) (h2 : f2 env P1 = .ok y P2) (h3 : op x y = some (.bool true)) (h4 : f3 env P2 = .ok z P3) (h5 : op2 y z = some d) : dChain op op2 f1 f2 f3 env P = .ok d P3 := by
  unfold dChain; rw [bnd_ok h, bnd_ok h2, h3]
  show bnd (f3 env) _ P2 = _
  rw [bnd_ok h4, h5]; rfl
theorem dChain_f {op op2 : D → D → Option D} (h : f1 env P = .ok x P1) (h2 : f2 env P1 = .ok y P2) (h3 : op x y = some (.bool false)) : dChain op op2 f1 f2 f3 env P = .ok (.bool false) P2 := by
  unfold dChain; rw [bnd_ok h, bnd_ok h2, h3]; rfl
theorem dB_ok {op : List D → Option D} (h : g env P = .ok ds P1) (h2 : op ds = some d) : dB op g env P = .ok d P1 := by unfold dB; rw [bnd_ok h, h2]; rfl
theorem dIsi_ok {T : String} (h : f env P = .ok d P1) (ht : topE d = false) : dIsi T f env P = .ok (.bool (isD T d)) P1 := by unfold dIsi; rw [bnd_ok h]; simp only [ht]; rfl
theorem dIsiT_ok {T : List String} (h : f env P = .ok d P1) (ht : topE d = false) : dIsiT T f env P = .ok (.bool (T.any fun T => isD T d)) P1 := by unfold dIsiT; rw [bnd_ok h]; simp only [ht]; rfl
theorem dMA_ok {ms : Ms} {op : D → List D → Option D} (h : f env P = .ok x P1) (hm : ms (tyM x) = some op) (h2 : g env P1 = .ok ds P2) (h3 : op x ds = some d) : dMA ms f g env P = .ok d P2 := by unfold dMA; rw [bnd_ok h, hm]; simp only [bnd_ok h2, h3]; rfl
theorem dPart_ok (h : f env P = .ok (.int k) P1) : dPart f env P = .ok (some k) P1 := by unfold dPart; rw [bnd_ok h]; rfl
theorem dNoPart_ok : dNoPart env P = .ok none P := rfl
theorem dSlice_ok {lo hi : Env → M (Option Int)} {l u : Option Int} (h : f env P = .ok x P1) (h2 : lo env P1 = .ok l P2) (h3 : hi env P2 = .ok u P3) (h4 : dSl x l u = some d) : dSlice f lo hi env P = .ok d P3 := by unfold dSlice; rw [bnd_ok h, bnd_ok h2, bnd_ok h3, h4]; rfl
theorem dCall_ok {den : List SV → M D} (h : g env P = .ok ds P1) (hl : ds.length = n) (h2 : den (ds.map .v) P1 = .ok d P2) : dCall n den g env P = .ok d P1 := by unfold dCall; rw [bnd_ok h]; simp only [if_pos hl, h2]
theorem dCall_ex {den : List SV → M D} {c : Str} (h : g env P = .ok ds P1) (hl : ds.length = n) (h2 : den (ds.map .v) P1 = .ex c P2) : dCall n den g env P = .ex c P1 := by unfold dCall; rw [bnd_ok h]; simp only [if_pos hl, h2]
theorem dCallT_ok {den : List SV → M D} (h : g env P = .ok ds P1) (hl : ds.length = n) (h2 : den (ds.map .v) P1 = .ok d P2) (h3 : noL d = true) : dCallT n den g env P = .ok d P1 := by unfold dCallT; rw [bnd_ok h]; simp only [if_pos hl, h2, if_pos h3]
theorem dPen_ok {den : List SV → M D} (he : env[i]? = some .pen) (h : g env P = .ok ds P1) (hl : ds.length + 1 = n) (h2 : den (.pen :: ds.map .v) P1 = .ok d P2) : dPen i n den g env P = .ok d P2 := by unfold dPen; rw [he]; simp only [bnd_ok h, if_pos hl]; exact h2
theorem dPenK_ok (he : env[i]? = some .pen) : dPenK i env P = .ok (.int P.k) P := by unfold dPenK; rw [he]
theorem dPenS_ok (he : env[i]? = some .pen) : dPenS i env P = .ok (.int P.s) P := by unfold dPenS; rw [he]
theorem dPenC_ok (he : env[i]? = some .pen) : dPenC i env P = .ok (.list (P.cells.map PyData.int)) P := by unfold dPenC; rw [he]
theorem sPenK_ok (he : env[i]? = some .pen) (h : f env P = .ok (.int k) P1) : sPenK i f env P = .ok (.nx env) { P1 with k := k } := by unfold sPenK; rw [bnd_ok h, he]
theorem sPenS_ok (he : env[i]? = some .pen) (h : f env P = .ok (.int k) P1) : sPenS i f env P = .ok (.nx env) { P1 with s := k } := by unfold sPenS; rw [bnd_ok h, he]
theorem dKGet_ok {tb : List (Str × D)} {s : Str} (h : f env P = .ok (.str s) P1) (h2 : f2 env P1 = .ok x P2) (h3 : (tb.lookup s).getD x = d) : dKGet tb f f2 env P = .ok d P2 := by unfold dKGet; rw [bnd_ok h]; show bnd (f2 env) _ P1 = _; rw [bnd_ok h2, h3]; rfl
theorem pNil_ok : pNil env P = .ok [] P := rfl
theorem pCons_ok {pp : Env → M (List (D × D))} {ps : List (D × D)} (h : f1 env P = .ok x P1) (h2 : f2 env P1 = .ok y P2) (h3 : pp env P2 = .ok ps P3) : pCons f1 f2 pp env P = .ok ((x, y) :: ps) P3 := by unfold pCons; rw [bnd_ok h, bnd_ok h2, bnd_ok h3]; rfl
theorem dDisp_ok {pp : Env → M (List (D × D))} {ps : List (D × D)} {ks : List (Key × D)} (h : pp env P = .ok ps P1) (h2 : keysOf ps = some ks) (h3 : ks.length ≤ 15) : dDisp pp env P = .ok (.dict (dMerge [] ks)) P1 := by unfold dDisp; rw [bnd_ok h]; simp only [h2, if_pos h3]; rfl
/-! what is walked -/
theorem itD_list (h : f env P = .ok (.list ds) P1) : itD f env P = .ok ds P1 := by unfold itD; rw [bnd_ok h]; rfl
theorem itD_tup (h : f env P = .ok (.tuple ds) P1) : itD f env P = .ok ds P1 := by unfold itD; rw [bnd_ok h]; rfl
theorem itD_str {s : Str} (h : f env P = .ok (.str s) P1) : itD f env P = .ok (signs s) P1 := by unfold itD; rw [bnd_ok h]; rfl
theorem itR1_ok (h : g env P = .ok [.int k] P1) (hk : -(2 ^ 62) ≤ k ∧ k < 2 ^ 62) : itR1 g env P = .ok (rangeD 0 k.toNat) P1 := by unfold itR1; rw [bnd_ok h]; simp only [if_pos hk]; rfl
theorem itE1_ok (h : f env P = .ok d P1) (h2 : walkD d = some ds) : itE1 f env P = .ok (enumD 0 ds) P1 := by unfold itE1; rw [bnd_ok h, h2]; rfl
theorem itES_ok (h : f env P = .ok d P1) (h2 : f2 env P1 = .ok (.int k) P2) (hk : -(2 ^ 63) ≤ k ∧ k < 2 ^ 63) (h3 : walkD d = some ds) : itES f f2 env P = .ok (enumD k ds) P2 := by unfold itES; rw [bnd_ok h, bnd_ok h2]; simp only [if_pos hk, h3]; rfl
theorem itZ2_ok {d1 d2 : D} {as bs : List D} (h : g env P = .ok [d1, d2] P1) (h1 : walkD d1 = some as) (h2 : walkD d2 = some bs) : itZ2 g env P = .ok (zipD as bs) P1 := by unfold itZ2; rw [bnd_ok h]; simp only [h1, h2]; rfl
/-! statements -/
variable {s1 s2 : Env → M Fl} {r : R Fl} {o : Fl}
theorem sSeq_nx (h : s1 env P = .ok (.nx e) P1) (h2 : s2 e P1 = r) : sSeq s1 s2 env P = r := by unfold sSeq; rw [bnd_ok h]; exact h2
theorem sSeq_rt (h : s1 env P = .ok (.rt d) P1) : sSeq s1 s2 env P = .ok (.rt d) P1 := by unfold sSeq; rw [bnd_ok h]; rfl
theorem sSeq_ex {c : Str} (h : s1 env P = .ex c P1) : sSeq s1 s2 env P = .ex c P1 := by unfold sSeq; rw [bnd_ex h]
theorem sNil_ok : sNil env P = .ok (.nx env) P := rfl
theorem sExpr_ok (h : f env P = .ok d P1) : sExpr f env P = .ok (.nx env) P1 := by unfold sExpr; rw [bnd_ok h]; rfl
theorem sExpr_ex {c : Str} (h : f env P = .ex c P1) : sExpr f env P = .ex c P1 := by unfold sExpr; rw [bnd_ex h]
theorem sSet_ok (h : f env P = .ok d P1) : sSet i f env P = .ok (.nx (env.set i (.v d))) P1 := by unfold sSet; rw [bnd_ok h]; rfl
theorem sOwn_ok (h : f env P = .ok (.list ds) P1) : sOwn i f env P = .ok (.nx (env.set i (.own ds))) P1 := by unfold sOwn; rw [bnd_ok h]; rfl
theorem sRet_ok (h : f env P = .ok d P1) : sRet f env P = .ok (.rt d) P1 := by unfold sRet; rw [bnd_ok h]; rfl
theorem sRet_ex {c : Str} (h : f env P = .ex c P1) : sRet f env P = .ex c P1 := by unfold sRet; rw [bnd_ex h]
theorem sRetO_ok (h : env[i]? = some (.own ds)) : sRetO i env P = .ok (.rt (.list ds)) P := by unfold sRetO; rw [h]; rfl
theorem sIf_t (h : c env P = .ok true P1) (h2 : s1 env P1 = r) : sIf c s1 s2 env P = r := by unfold sIf; rw [bnd_ok h]; exact h2
theorem sIf_f (h : c env P = .ok false P1) (h2 : s2 env P1 = r) : sIf c s1 s2 env P = r := by unfold sIf; rw [bnd_ok h]; exact h2
theorem sAsg_ok {tg : D → Env → Option Env} (h : f env P = .ok d P1) (h2 : tg d env = some e) : sAsg f tg env P = .ok (.nx e) P1 := by unfold sAsg; rw [bnd_ok h]; simp only [h2]; rfl
theorem sPar2_ok (h : g env P = .ok [x, y] P1) : sPar2 i j g env P = .ok (.nx ((env.set i (.v x)).set j (.v y))) P1 := by unfold sPar2; rw [bnd_ok h]; rfl
theorem sApp_ok (he : env[i]? = some (.own ds)) (h : f env P = .ok d P1) (hl : ds.length < 16777216) : sApp i f env P = .ok (.nx (env.set i (.own (ds ++ [d])))) P1 := by unfold sApp; rw [he]; simp only [bnd_ok h, if_pos hl]; rfl
theorem sShare_ok (he : env[i]? = some (.own ds)) (h : s1 (env.set i (.v (.list ds))) P = r) : sShare i s1 env P = r := by unfold sShare; rw [he]; exact h
theorem sFor_ok {it : Env → M (List D)} {tg : D → Env → Option Env} (h : it env P = .ok ds P1) (h2 : loopD tg s1 ds env P1 = r) : sFor it tg s1 env P = r := by unfold sFor; rw [bnd_ok h]; exact h2
theorem denOf_rt {ss : List SV} (h : s1 (ss ++ List.replicate (n - ss.length) .un) P = .ok (.rt d) P1) : denOf n s1 ss P = .ok d P1 := by unfold denOf; rw [h]
theorem denOf_ex {ss : List SV} {c : Str} (h : s1 (ss ++ List.replicate (n - ss.length) .un) P = .ex c P1) : denOf n s1 ss P = .ex c P1 := by unfold denOf; rw [h]
theorem denOf_nx {ss : List SV} (h : s1 (ss ++ List.replicate (n - ss.length) .un) P = .ok (.nx e) P1) : denOf n s1 ss P = .ok .none P1 := by unfold denOf; rw [h]
/-! operations on integers -/
theorem o_mod {a m : Int} (h : 0 < m) : dMod (.int a) (.int m) = some (.int (a % m)) := guardD_of (decide_eq_true h)
theorem o_div {a m : Int} (h : 0 < m ∧ m < 1073741824) : dDiv (.int a) (.int m) = some (.int (a / m)) := guardD_of (decide_eq_true h)
theorem o_mul {a m : Int} (h : (-(2 ^ 64) < a ∧ a < 2 ^ 64) ∨ (-(2 ^ 64) < m ∧ m < 2 ^ 64)) : dMul (.int a) (.int m) = some (.int (a * m)) := guardD_of (decide_eq_true h)
theorem o_pow {a m : Int} (h : 0 ≤ m ∧ m ≤ 1000000 ∧ a.natAbs < 2 ^ 64) : dPow (.int a) (.int m) = some (.int (a ^ m.toNat)) := guardD_of (decide_eq_true h)
theorem o_shl {a m : Int} (h : 0 ≤ m ∧ m ≤ 1000000 ∧ a.natAbs < 2 ^ 64) : dShl (.int a) (.int m) = some (.int (a * 2 ^ m.toNat)) := guardD_of (decide_eq_true h)
theorem o_shr {a m : Int} (h : 0 ≤ m) : dShr (.int a) (.int m) = some (.int (a / 2 ^ m.toNat)) := guardD_of (decide_eq_true h)
theorem o_eqI {a m : Int} : dEqA (.int a) (.int m) = some (.bool (decide (a = m))) := rfl
theorem o_neI {a m : Int} : dNeA (.int a) (.int m) = some (.bool (!decide (a = m))) := rfl
theorem o_eqS {a m : Str} : dEqA (.str a) (.str m) = some (.bool (decide (a = m))) := rfl
theorem o_neS {a m : Str} : dNeA (.str a) (.str m) = some (.bool (!decide (a = m))) := rfl
end

theorem conv_ok {α : Type} {m : M α} {P P1 : Pen} {a b : α} (h : m P = .ok a P1) (e : a = b) : m P = .ok b P1 := by rw [h, e]


theorem ex_st {α : Type} {Q : α → R Fl} {env e : Env} {P P1 : Pen} {s1 s2 : Env → M Fl} (h : s1 env P = .ok (.nx e) P1) (h2 : ∃ a, s2 e P1 = Q a) : ∃ a, sSeq s1 s2 env P = Q a := h2.elim fun a q => ⟨a, sSeq_nx h q⟩
theorem ex_den {α : Type} {Q : α → D} {n : Nat} {P P1 : Pen} {ss : List SV} {s1 : Env → M Fl} (h : ∃ a, s1 (ss ++ List.replicate (n - ss.length) .un) P = .ok (.rt (Q a)) P1) : ∃ a, denOf n s1 ss P = .ok (Q a) P1 := h.elim fun a q => ⟨a, denOf_rt q⟩
end Vl
end
section
open Vl
local macro_rules | `(tactic| wtm_at "vl ev") => `(tactic| first
  | with_reducible assumption
  | (with_reducible exact dC_ok) | (with_reducible exact aNil_ok) | (with_reducible exact dNoPart_ok) | (with_reducible exact pNil_ok) | (with_reducible exact sNil_ok)
  | ((with_reducible apply bVar_v); exact rfl) | ((with_reducible apply bVar_o); exact rfl) | ((with_reducible apply dVar_v); exact rfl) | ((with_reducible apply dPenK_ok); exact rfl) | ((with_reducible apply dPenS_ok); exact rfl) | ((with_reducible apply dPenC_ok); exact rfl)
  | ((with_reducible apply aCons_ok); wtm_at "vl ev"; wtm_at "vl ev")
  | ((with_reducible apply d2_ok); wtm_at "vl ev"; wtm_at "vl ev"; wtm_at "vl evo")
  | ((with_reducible apply d1_ok); wtm_at "vl ev"; wtm_at "vl evo")
  | ((with_reducible apply dTup_ok); wtm_at "vl ev"; wtm_at "vl evo")
  | ((with_reducible apply dLst_ok); wtm_at "vl ev"; wtm_at "vl evo")
  | ((with_reducible apply tV_ok); wtm_at "vl ev")
  | ((with_reducible apply tTru_ok); wtm_at "vl ev"; wtm_at "vl evo")
  | ((with_reducible apply mNot_ok); wtm_at "vl ev")
  | ((with_reducible apply mNot_t); wtm_at "vl ev")
  | ((with_reducible apply mNot_f); wtm_at "vl ev")
  | ((with_reducible apply vNot_ok); wtm_at "vl ev")
  | ((with_reducible apply dB_ok); wtm_at "vl ev"; wtm_at "vl evo")
  | ((with_reducible apply dIsi_ok); wtm_at "vl ev"; exact rfl)
  | ((with_reducible apply dIsiT_ok); wtm_at "vl ev"; exact rfl)
  | ((with_reducible apply dMA_ok); wtm_at "vl ev"; wtm_at "vl evo"; wtm_at "vl ev"; wtm_at "vl evo")
  | ((with_reducible apply dPart_ok); wtm_at "vl ev")
  | ((with_reducible apply dSlice_ok); wtm_at "vl ev"; wtm_at "vl ev"; wtm_at "vl ev"; wtm_at "vl evo")
  | ((with_reducible apply dCall_ok); wtm_at "vl ev"; exact rfl; wtm_at "vl ev")
  | ((with_reducible apply dCallT_ok); wtm_at "vl ev"; exact rfl; wtm_at "vl ev"; wtm_at "vl evo")
  | ((with_reducible apply dPen_ok); exact rfl; wtm_at "vl ev"; exact rfl; wtm_at "vl ev")
  | ((with_reducible apply dKGet_ok); wtm_at "vl ev"; wtm_at "vl ev"; wtm_at "vl evo")
  | ((with_reducible apply pCons_ok); wtm_at "vl ev"; wtm_at "vl ev"; wtm_at "vl ev")
  | ((with_reducible apply dDisp_ok); wtm_at "vl ev"; exact rfl; decide)
  | ((with_reducible apply sSet_ok); wtm_at "vl ev")
  | ((with_reducible apply sOwn_ok); wtm_at "vl ev")
  | ((with_reducible apply sRet_ok); wtm_at "vl ev")
  | ((with_reducible apply sExpr_ok); wtm_at "vl ev")
  | ((with_reducible apply sPar2_ok); wtm_at "vl ev")
  | ((with_reducible apply sAsg_ok); wtm_at "vl ev"; exact rfl)
  | ((with_reducible apply sPenK_ok); exact rfl; wtm_at "vl ev")
  | ((with_reducible apply sPenS_ok); exact rfl; wtm_at "vl ev")
  | ((with_reducible apply sRetO_ok); exact rfl)
  | ((with_reducible apply itD_list); wtm_at "vl ev")
  | ((with_reducible apply itD_tup); wtm_at "vl ev")
  | ((with_reducible apply itD_str); wtm_at "vl ev")
  | ((with_reducible apply itR1_ok); wtm_at "vl ev"; wtm_at "vl evo")
  | ((with_reducible apply itE1_ok); wtm_at "vl ev"; exact rfl)
  | exact dC_ok | assumption | fail "no rule")
local macro_rules | `(tactic| wtm_at "vl evo") => `(tactic| first
  | assumption
  | ((with_reducible apply o_mod); omega) | ((with_reducible apply o_div); omega) | ((with_reducible apply o_mul); omega) | ((with_reducible apply o_pow); omega) | ((with_reducible apply o_shl); omega) | ((with_reducible apply o_shr); omega)
  | with_reducible exact o_eqI | with_reducible exact o_neI | with_reducible exact o_eqS | with_reducible exact o_neS
  | exact rfl | decide | omega)
local macro_rules | `(tactic| wtm_at "vl evc") => `(tactic| first | wtm_at "vl ev" | (apply conv_ok; wtm_at "vl ev"; exact rfl))
local macro_rules | `(tactic| wtm_at "vl st") => `(tactic| (apply sSeq_nx; (· wtm_at "vl evc")))
local macro_rules | `(tactic| wtm_at "vl ste") => `(tactic| (apply ex_st; (· wtm_at "vl evc")))
section
set_option autoImplicit false
set_option maxRecDepth 100000
set_option maxHeartbeats 1000000
/-! J1: the pen. -/
namespace Tk
open PySem Vl

theorem o_le {a m : Int} : dLe (.int a) (.int m) = some (.bool (decide (a ≤ m))) := rfl
theorem atI_some {xs : List D} {R : D → Prop} (h : ∀ d ∈ xs, R d) {i : Int} (h0 : 0 ≤ i) (hi : i < xs.length) : ∃ d, L2.atI xs i = some d ∧ R d := by
  obtain ⟨j, rfl⟩ := (Int.eq_ofNat_of_zero_le h0)
  have hj : j < xs.length := by omega
  refine ⟨xs[j], ?_, h _ (List.getElem_mem hj)⟩
  exact (L2.atI_nat (List.getElem?_eq_getElem hj))
def prs : List D := [.int 2147483629, .int 2147483587, .int 2147483579, .int 2147483563, .int 2147483549, .int 2147483543, .int 2147483497, .int 2147483489, .int 2147483477, .int 2147483423, .int 2147483399, .int 2147483353, .int 2147483323]
theorem pr_at (i : Int) : ∃ p : Int, dIxA (.list prs) (.int (i % 13)) = some (.int p) ∧ 0 < p ∧ p < 2147483648 := by
  have h0 : 0 ≤ i % 13 := Int.emod_nonneg _ (by decide)
  have h1 : i % 13 < 13 := Int.emod_lt_of_pos _ (by decide)
  obtain ⟨d, e, p, rfl, h⟩ := atI_some (xs := prs) (R := fun d => ∃ p : Int, d = .int p ∧ 0 < p ∧ p < 2147483648) (fun d hd => by
    simp only [prs, List.mem_cons, List.not_mem_nil, or_false] at hd
    rcases hd with rfl | rfl | rfl | rfl | rfl | rfl | rfl | rfl | rfl | rfl | rfl | rfl | rfl <;> exact ⟨_, rfl, by decide, by decide⟩) h0 h1
  exact ⟨p, e, h⟩
theorem spread_ok (c k : Int) (h0 : 0 ≤ k) (h1 : k ≤ 1048576) (P : Pen) : ∃ s, den__law_spread [.v (.int c), .v (.int k)] P = .ok (.int s) P := by
  have ht : ∀ e : Vl.Env, e[0]? = some (.v (.int c)) → tV (d2 dGe (bVar 0) (d2 dPow (dC (.int 10)) (dC (.int 18)))) e P = .ok (decide (1000000000000000000 ≤ c)) P := fun e he => tV_ok (d2_ok (bVar_v he) (d2_ok dC_ok dC_ok rfl) rfl)
  by_cases hc : 1000000000000000000 ≤ c
  · refine ⟨c, denOf_rt (sSeq_rt (sIf_t ((ht _ rfl).trans ?_) (by wtm_at "vl evc")))⟩
    rw [decide_eq_true hc]
  · obtain ⟨p1, e1, a1, b1⟩ := pr_at k
    obtain ⟨p2, e2, a2, b2⟩ := pr_at (k + 5)
    obtain ⟨p3, e3, a3, b3⟩ := pr_at (k + 7)
    have m0 : 0 ≤ c % 1000000007 := Int.emod_nonneg _ (by decide)
    have m1 : c % 1000000007 < 1000000007 := Int.emod_lt_of_pos _ (by decide)
    have k0 : 0 ≤ c % 65537 := Int.emod_nonneg _ (by decide)
    have k1 : c % 65537 < 65537 := Int.emod_lt_of_pos _ (by decide)
    apply ex_den
    apply ex_st
    · exact sIf_f ((ht _ rfl).trans (by rw [decide_eq_false hc])) sNil_ok
    wtm_at "vl ste"
    wtm_at "vl ste"
    have l2 : 0 ≤ 2 * k + 69069 ∧ 2 * k + 69069 < 2166222 := by omega
    have q0 : 0 ≤ c % 1000000007 * (2 * k + 69069) := Int.mul_nonneg m0 l2.1
    have q1 : c % 1000000007 * (2 * k + 69069) ≤ 1000000007 * 2166222 := Int.mul_le_mul (by omega) (by omega) l2.1 (by decide)
    wtm_at "vl ste"
    have e1' : dIxA (.list prs) (.int (k % 13)) = some (.int p1) := e1
    wtm_at "vl ste"
    have A0 : 0 ≤ (c % 1000000007 * (2 * k + 69069) + k * 40503 + 977) ^ (3 : Int).toNat % p1 := Int.emod_nonneg _ (by omega)
    have A1 : (c % 1000000007 * (2 * k + 69069) + k * 40503 + 977) ^ (3 : Int).toNat % p1 < p1 := Int.emod_lt_of_pos _ a1
    generalize (c % 1000000007 * (2 * k + 69069) + k * 40503 + 977) ^ (3 : Int).toNat % p1 = A at A0 A1 ⊢
    have B0 : 0 ≤ A * (k + 3) := Int.mul_nonneg A0 (by omega)
    have B1 : A * (k + 3) ≤ 2147483648 * 1048579 := Int.mul_le_mul (by omega) (by omega) (by omega) (by decide)
    wtm_at "vl ste"
    have C0 : 0 ≤ (A * (k + 3) + c % 65537 + 5) ^ (5 : Int).toNat % p2 := Int.emod_nonneg _ (by omega)
    have C1 : (A * (k + 3) + c % 65537 + 5) ^ (5 : Int).toNat % p2 < p2 := Int.emod_lt_of_pos _ a2
    generalize (A * (k + 3) + c % 65537 + 5) ^ (5 : Int).toNat % p2 = C at C0 C1 ⊢
    have g0 : 0 ≤ A % 1009 := Int.emod_nonneg _ (by decide)
    have g1 : A % 1009 < 1009 := Int.emod_lt_of_pos _ (by decide)
    wtm_at "vl ste"
    exact ⟨_, by wtm_at "vl evc"⟩
theorem o_lt {a m : Int} : dLt (.int a) (.int m) = some (.bool (decide (a < m))) := rfl
/-- the pen in law: its tables, its turn; so many draws are left -/
structure Gd (tb : List (Addr × Str)) (n : Nat) (P : Pen) : Prop where
  tb : P.tb = tb
  k0 : 0 ≤ P.k
  k1 : P.k + n ≤ 1048576
theorem Gd.mono {tb : List (Addr × Str)} {n m : Nat} {P : Pen} (g : Gd tb n P) (h : m ≤ n) : Gd tb m P := ⟨g.tb, g.k0, by have := g.k1; omega⟩
theorem take_ok {tb : List (Addr × Str)} {n : Nat} {P : Pen} (g : Gd tb (n + 1) P) (many : Int) (h : 0 < many ∧ many < 1073741824) : ∃ v P', den__law_take [.pen, .v (.int many)] P = .ok (.int v) P' ∧ 0 ≤ v ∧ v < many ∧ Gd tb n P' := by
  have fin : ∀ (e : Vl.Env) (P1 : Pen), e[0]? = some .pen → e[1]? = some (.v (.int many)) → 4 < e.length → Gd tb n P1 → ∃ v P', sSeq (sSet 4 (d2 dMod (dB gInt (aCons (dPenS 0) aNil)) (bVar 1))) (sSeq (sPenS 0 (d2 dDiv (dPenS 0) (bVar 1))) (sRet (dVar 4))) e P1 = .ok (.rt (.int v)) P' ∧ 0 ≤ v ∧ v < many ∧ Gd tb n P' := by
    intro e P1 h0 h1 hl g1
    refine ⟨P1.s % many, { P1 with s := P1.s / many }, ?_, Int.emod_nonneg _ (by omega), Int.emod_lt_of_pos _ h.1, ⟨g1.tb, g1.k0, g1.k1⟩⟩
    have z0 : (e.set 4 (.v (.int (P1.s % many))))[0]? = some .pen := by rw [List.getElem?_set_ne (by decide)]; exact h0
    have z1 : (e.set 4 (.v (.int (P1.s % many))))[1]? = some (.v (.int many)) := by rw [List.getElem?_set_ne (by decide)]; exact h1
    have z4 : (e.set 4 (.v (.int (P1.s % many))))[4]? = some (.v (.int (P1.s % many))) := by rw [List.getElem?_set_self hl]
    exact sSeq_nx (sSet_ok (d2_ok (dB_ok (aCons_ok (dPenS_ok h0) aNil_ok) rfl) (bVar_v h1) (o_mod h.1))) (sSeq_nx (sPenS_ok z0 (d2_ok (dPenS_ok z0) (bVar_v z1) (o_div h))) (sRet_ok (dVar_v z4)))
  have k0 := g.k0
  have k1 := g.k1
  by_cases hs : P.s < many
  · -- a new stock
    have tail : ∀ cell : Int, ∃ s : Int, sSeq (sPenK 0 (d2 dAdd (bVar 2) (dC (.int 1)))) (sPenS 0 (dCall 2 den__law_spread (aCons (dVar 3) (aCons (dVar 2) aNil)))) [.pen, .v (.int many), .v (.int P.k), .v (.int cell), .un] P = .ok (.nx [.pen, .v (.int many), .v (.int P.k), .v (.int cell), .un]) { P with k := P.k + 1, s := s } := by
      intro cell
      obtain ⟨s, hs'⟩ := spread_ok cell P.k k0 (by omega) { P with k := P.k + 1 }
      exact ⟨s, sSeq_nx (sPenK_ok rfl (d2_ok (bVar_v rfl) dC_ok rfl)) (sPenS_ok rfl (dCall_ok (aCons_ok (dVar_v rfl) (aCons_ok (dVar_v rfl) aNil_ok)) rfl hs'))⟩
    have hlen : (P.cells.map PyData.int).length = P.cells.length := by simp
    have cellAt : ∀ i : Int, 0 ≤ i → i < P.cells.length → ∃ c : Int, dIxA (.list (P.cells.map PyData.int)) (.int i) = some (.int c) := fun i h0 h1 => by
      obtain ⟨d, e, c, rfl⟩ := atI_some (xs := P.cells.map PyData.int) (R := fun d => ∃ c : Int, d = .int c) (fun d hd => by
        obtain ⟨c, _, rfl⟩ := List.mem_map.mp hd
        exact ⟨c, rfl⟩) h0 (by rw [hlen]; exact h1)
      exact ⟨c, e⟩
    have pick : ∃ cell : Int, sIf (tV (d2 dLt (bVar 2) (dB gLen (aCons (dPenC 0) aNil)))) (sSet 3 (d2 dIxA (dPenC 0) (bVar 2))) (sIf (tV (d2 dGt (dB gLen (aCons (dPenC 0) aNil)) (dC (.int 0)))) (sSet 3 (d2 dMod (dB gInt (aCons (d2 dIxA (dPenC 0) (d2 dMod (dB gInt (aCons (d2 dAdd (d2 dMul (bVar 2) (dC (.int 5))) (dC (.int 3))) aNil)) (dB gLen (aCons (dPenC 0) aNil)))) aNil)) (d2 dAdd (d2 dPow (dC (.int 10)) (dC (.int 17))) (bVar 2)))) sNil) [.pen, .v (.int many), .v (.int P.k), .v (.int 0), .un] P = .ok (.nx [.pen, .v (.int many), .v (.int P.k), .v (.int cell), .un]) P := by
      have glen : gLen [.list (P.cells.map PyData.int)] = some (.int (P.cells.length : Int)) := by rw [← hlen]; rfl
      by_cases h1 : P.k < P.cells.length
      · obtain ⟨c, e⟩ := cellAt P.k k0 h1
        exact ⟨c, sIf_t (tV_ok (d2_ok (bVar_v rfl) (dB_ok (aCons_ok (dPenC_ok rfl) aNil_ok) glen) (o_lt.trans (by rw [decide_eq_true h1])))) (sSet_ok (d2_ok (dPenC_ok rfl) (bVar_v rfl) e))⟩
      · have f1 := tV_ok (d2_ok (bVar_v (P := P) (env := [.pen, .v (.int many), .v (.int P.k), .v (.int 0), .un]) (i := 2) rfl) (dB_ok (aCons_ok (dPenC_ok (i := 0) rfl) aNil_ok) glen) (o_lt.trans (by rw [decide_eq_false h1])))
        by_cases h2 : (0 : Int) < P.cells.length
        · obtain ⟨c, e⟩ := cellAt ((P.k * 5 + 3) % (P.cells.length : Int)) (Int.emod_nonneg _ (by omega)) (Int.emod_lt_of_pos _ h2)
          refine ⟨c % (100000000000000000 + P.k), sIf_f f1 (sIf_t (tV_ok (d2_ok (dB_ok (aCons_ok (dPenC_ok rfl) aNil_ok) glen) dC_ok (o_lt.trans (by rw [decide_eq_true h2])))) (sSet_ok (d2_ok (dB_ok (aCons_ok (d2_ok (dPenC_ok rfl) (d2_ok (dB_ok (aCons_ok (d2_ok (d2_ok (bVar_v rfl) dC_ok (o_mul (by omega))) dC_ok rfl) aNil_ok) rfl) (dB_ok (aCons_ok (dPenC_ok rfl) aNil_ok) glen) (o_mod h2)) e) aNil_ok) rfl) (d2_ok (d2_ok dC_ok dC_ok (o_pow (by omega))) (bVar_v rfl) rfl) (o_mod ?_))))⟩
          show 0 < (10 : Int) ^ (17 : Int).toNat + P.k
          have : (10 : Int) ^ (17 : Int).toNat = 100000000000000000 := rfl
          omega
        · exact ⟨0, sIf_f f1 (sIf_f (tV_ok (d2_ok (dB_ok (aCons_ok (dPenC_ok rfl) aNil_ok) glen) dC_ok (o_lt.trans (by rw [decide_eq_false h2])))) sNil_ok)⟩
    obtain ⟨cell, hp⟩ := pick
    obtain ⟨s, ht⟩ := tail cell
    obtain ⟨v, P', q1, q2⟩ := fin [.pen, .v (.int many), .v (.int P.k), .v (.int cell), .un] { P with k := P.k + 1, s := s } rfl rfl (Nat.le_refl 5) ⟨g.tb, by show 0 ≤ P.k + 1; omega, by show P.k + 1 + n ≤ 1048576; push_cast at k1; omega⟩
    exact ⟨v, P', denOf_rt (sSeq_nx (sIf_t (tV_ok (d2_ok (dPenS_ok rfl) (bVar_v rfl) (o_lt.trans (by rw [decide_eq_true hs])))) (sSeq_nx (sSet_ok (dPenK_ok rfl)) (sSeq_nx (sSet_ok dC_ok) (sSeq_nx hp ht)))) q1), q2⟩
  · obtain ⟨v, P', q1, q2⟩ := fin [.pen, .v (.int many), .un, .un, .un] P rfl rfl (Nat.le_refl 5) (g.mono (by omega))
    refine ⟨v, P', denOf_rt (sSeq_nx (sIf_f (tV_ok (d2_ok (dPenS_ok rfl) (bVar_v rfl) (o_lt.trans (by rw [decide_eq_false hs])))) sNil_ok) q1), q2⟩
end Tk
end
section
set_option autoImplicit false
set_option maxRecDepth 100000
set_option maxHeartbeats 4000000
/-! J2: the cells. -/
namespace Tk
open PySem Vl L2

theorem cut_to (xs : List D) (j : Nat) : cutD xs none (some (j : Int)) = xs.take j := by
  unfold cutD
  rw [HT.sIx_none, HT.sIx_nat]
  simp only [Nat.sub_zero, List.drop_zero]
  rcases Nat.le_total j xs.length with h | h
  · rw [Nat.min_eq_left h]
  · rw [Nat.min_eq_right h, List.take_of_length_le h, List.take_of_length_le (Nat.le_refl _)]
theorem dPen_ok1 {den : List SV → M D} {env : Vl.Env} {i : Nat} {f : Vl.Env → M D} {d r : D} {P P1 P2 : Pen} (he : env[i]? = some .pen) (h : f env P = .ok d P1) (h2 : den [.pen, .v d] P1 = .ok r P2) : dPen i 2 den (aCons f aNil) env P = .ok r P2 := dPen_ok he (aCons_ok h aNil_ok) rfl h2
theorem loop_nx {tg : D → Vl.Env → Option Vl.Env} {body : Vl.Env → M Fl} {d : D} {ds : List D} {env e1 e : Vl.Env} {P P1 : Pen} (h : tg d env = some e1) (hb : body e1 P = .ok (.nx e) P1) : loopD tg body (d :: ds) env P = loopD tg body ds e P1 := by
  rw [loopD, h]
  show bnd (body e1) _ P = _
  rw [bnd_ok hb]
theorem neS_same (z : Str) : dNeA (.str z) (.str z) = some (.bool false) := by rw [o_neS, decide_eq_true rfl]; rfl
/-! ### the cells -/
theorem sSetAt_ok {env : Vl.Env} {P P1 P2 : Pen} {i : Nat} {fa fi : Vl.Env → M D} {d : D} {ds es : List D} {k : Int} (h : fa env P = .ok d P1) (he : env[i]? = some (.own ds)) (h2 : fi env P1 = .ok (.int k) P2) (h3 : dSetAt ds k d = some es) : sSetAt i fa fi env P = .ok (.nx (env.set i (.own es))) P2 := by
  unfold sSetAt
  rw [bnd_ok h, he]
  simp only [bnd_ok h2, h3]
  rfl
theorem cells_loop (x0 : SV) (P : Pen) : ∀ (ns : List Int) (k : Nat) (cs : List Int) (x2 x3 : SV), cs.length = 12 →
    ∃ (cs' : List Int) (y2 y3 : SV), loopD (tgTup 2 (tgCons (tgName 2) (tgCons (tgName 3) tgNil))) (sSetAt 1 (d2 dAdd (d2 dIxA (bVar 1) (d2 dMod (dB gInt (aCons (bVar 2) aNil)) (dC (.int 12)))) (bVar 3)) (d2 dMod (dB gInt (aCons (bVar 2) aNil)) (dC (.int 12)))) (enumD (k : Int) (ns.map PyData.int)) [x0, .own (cs.map PyData.int), x2, x3] P = .ok (.nx [x0, .own (cs'.map PyData.int), y2, y3]) P
  | [], k, cs, x2, x3, _ => ⟨cs, x2, x3, rfl⟩
  | c :: ns, k, cs, x2, x3, hl => by
    have m0 : 0 ≤ (k : Int) % 12 := Int.emod_nonneg _ (by decide)
    have m1 : (k : Int) % 12 < 12 := Int.emod_lt_of_pos _ (by decide)
    obtain ⟨j, hj⟩ := Int.eq_ofNat_of_zero_le m0
    have hj2 : j < cs.length := by omega
    have hix : dIxA (.list (cs.map PyData.int)) (.int ((k : Int) % 12)) = some (.int cs[j]) := by
      rw [hj]
      refine L2.atI_nat (j := j) ?_
      rw [List.getElem?_map, List.getElem?_eq_getElem hj2]; rfl
    have hset : dSetAt (cs.map PyData.int) ((k : Int) % 12) (.int (cs[j] + c)) = some ((cs.set j (cs[j] + c)).map PyData.int) := by
      unfold dSetAt
      rw [hj]
      have e : ixN (cs.map PyData.int).length (j : Int) = some j := by
        rw [List.length_map]
        unfold ixN
        rw [if_pos (Int.natCast_nonneg j), if_pos (by omega), Int.toNat_natCast]
      rw [e, List.map_set]; rfl
    have mm : ∀ e : Vl.Env, e[2]? = some (.v (.int (k : Int))) → d2 dMod (dB gInt (aCons (bVar 2) aNil)) (dC (.int 12)) e P = .ok (.int ((k : Int) % 12)) P := fun e he => d2_ok (dB_ok (aCons_ok (bVar_v he) aNil_ok) rfl) dC_ok (o_mod (by decide))
    have hs := sSetAt_ok (i := 1) (env := [x0, .own (cs.map PyData.int), .v (.int (k : Int)), .v (.int c)]) (P := P) (d2_ok (d2_ok (bVar_o (i := 1) rfl) (mm _ rfl) hix) (bVar_v (i := 3) rfl) (show dAdd (.int cs[j]) (.int c) = some (.int (cs[j] + c)) from rfl)) rfl (mm _ rfl) hset
    obtain ⟨cs', y2, y3, q⟩ := cells_loop x0 P ns (k + 1) (cs.set j (cs[j] + c)) (.v (.int (k : Int))) (.v (.int c)) (by rw [List.length_set]; exact hl)
    refine ⟨cs', y2, y3, ?_⟩
    rw [List.map_cons]
    unfold enumD loopD
    show bnd (sSetAt 1 _ _ [x0, .own (cs.map PyData.int), .v (.int (k : Int)), .v (.int c)]) _ P = _
    rw [bnd_ok hs]
    exact q
theorem cut_map (ns : List Int) (lo hi : Option Int) : cutD (ns.map PyData.int) lo hi = ((ns.drop (HT.sIx ns.length 0 lo)).take (HT.sIx ns.length ns.length hi - HT.sIx ns.length 0 lo)).map PyData.int := by
  unfold cutD
  rw [List.length_map, ← List.map_drop, ← List.map_take]
theorem open_ok (ns : List Int) (P : Pen) : ∃ cs : List Int, den__law_open [.scr ns] P = .ok (.list [.list (cs.map PyData.int), .int 0, .int 0]) P := by
  have scr : ∀ (l u : Option Int) (fl fu : Vl.Env → M (Option Int)) (e : Vl.Env), e[0]? = some (.scr ns) → fl e P = .ok l P → fu e P = .ok u P → dScr 0 fl fu e P = .ok (.list (cutD (ns.map PyData.int) l u)) P := by
    intro l u fl fu e he h1 h2
    unfold dScr
    rw [he]
    simp only [bnd_ok h1, bnd_ok h2]
    rfl
  have c12 : cutD (ns.map PyData.int) none (some 12) = (ns.take 12).map PyData.int := by
    rw [show (some (12 : Int)) = some ((12 : Nat) : Int) from rfl, cut_to, List.map_take]
  have last : ∀ (cs : List Int) (x2 x3 : SV), sShare 1 (sRet (dLst (aCons (dVar 1) (aCons (dC (.int 0)) (aCons (dC (.int 0)) aNil))))) [.scr ns, .own (cs.map PyData.int), x2, x3] P = .ok (.rt (.list [.list (cs.map PyData.int), .int 0, .int 0])) P := fun cs x2 x3 =>
    sShare_ok rfl (sRet_ok (dLst_ok (aCons_ok (dVar_v rfl) (aCons_ok dC_ok (aCons_ok dC_ok aNil_ok))) (Nat.le_of_ble_eq_true rfl)))
  have first : sOwn 1 (dB gList (aCons (dScr 0 dNoPart (dPart (dC (.int 12)))) aNil)) [.scr ns, .un, .un, .un] P = .ok (.nx [.scr ns, .own ((ns.take 12).map PyData.int), .un, .un]) P :=
    sOwn_ok (dB_ok (aCons_ok (scr none (some 12) _ _ _ rfl dNoPart_ok (dPart_ok dC_ok)) aNil_ok) (by rw [c12]; rfl))
  rcases Nat.lt_or_ge ns.length 12 with h | h
  · refine ⟨ns.take 12, denOf_rt (sSeq_nx first (sSeq_nx (sFor_ok (itE1_ok (scr (some 12) (some 63) _ _ _ rfl (dPart_ok dC_ok) (dPart_ok dC_ok)) rfl) ?_) (last (ns.take 12) .un .un)))⟩
    · rw [cut_map, show (some (12 : Int)) = some ((12 : Nat) : Int) from rfl, HT.sIx_nat, Nat.min_eq_right (by omega), List.drop_of_length_le (Nat.le_refl _), List.take_nil]
      rfl
  · obtain ⟨cs', y2, y3, q⟩ := cells_loop (.scr ns) P ((ns.drop (HT.sIx ns.length 0 (some 12))).take (HT.sIx ns.length ns.length (some 63) - HT.sIx ns.length 0 (some 12))) 0 (ns.take 12) .un .un (by rw [List.length_take]; omega)
    refine ⟨cs', denOf_rt (sSeq_nx first (sSeq_nx (sFor_ok (itE1_ok (scr (some 12) (some 63) _ _ _ rfl (dPart_ok dC_ok) (dPart_ok dC_ok)) rfl) ?_) (last cs' y2 y3)))⟩
    rw [cut_map]
    exact q
end Tk
end
section
set_option autoImplicit false
set_option maxRecDepth 100000
set_option maxHeartbeats 8000000
/-! J3: errors by hand: the law. -/
namespace Tk
open PySem Vl L2

def nmE : List Str := ["NoWord", "NoNet", "NoTable", "NoTelling", "NoSum", "NoDemand", "NoPicks", "NoCount", "NoKind", "NoPlan", "NoCode", "NoRow", "NoMatch", "NoGate", "NoBoard", "NoDeed", "NoDrop", "NoUndo", "NoThings", "NoLets", "NotThere", "NoMachine", "TooGreat"]
def bo (k : Nat) : List D := (List.range 23).map fun j => .bool (decide (j = k))
theorem lt23 {k : Nat} (h : k < 23) : k = 0 ∨ k = 1 ∨ k = 2 ∨ k = 3 ∨ k = 4 ∨ k = 5 ∨ k = 6 ∨ k = 7 ∨ k = 8 ∨ k = 9 ∨ k = 10 ∨ k = 11 ∨ k = 12 ∨ k = 13 ∨ k = 14 ∨ k = 15 ∨ k = 16 ∨ k = 17 ∨ k = 18 ∨ k = 19 ∨ k = 20 ∨ k = 21 ∨ k = 22 := by omega
theorem kinds_ok {k : Nat} (h : k < 23) (t : D) (P : Pen) : den__law_kinds_of [.v (errD (nmE.getD k "") t)] P = .ok (.list (bo k)) P := by
  rcases lt23 h with rfl | rfl | rfl | rfl | rfl | rfl | rfl | rfl | rfl | rfl | rfl | rfl | rfl | rfl | rfl | rfl | rfl | rfl | rfl | rfl | rfl | rfl | rfl <;> kernel_rfl
theorem kinds_base (t : D) (P : Pen) : den__law_kinds_of [.v (errD "BitError" t)] P = .ok (.list (List.replicate 23 (.bool false))) P := by kernel_rfl
theorem ne_bo {k : Nat} (h : k < 23) : dNeA (.list (bo k)) (.list (bo k)) = some (.bool false) := by
  rcases lt23 h with rfl | rfl | rfl | rfl | rfl | rfl | rfl | rfl | rfl | rfl | rfl | rfl | rfl | rfl | rfl | rfl | rfl | rfl | rfl | rfl | rfl | rfl | rfl <;> kernel_rfl
theorem ne_none : dNeA (.list (List.replicate 23 (.bool false))) (.list (List.replicate 23 (.bool false))) = some (.bool false) := by kernel_rfl
theorem mem_nm {k : Nat} (h : k < 23) : nmE.getD k "" ∈ erNm := by
  rcases lt23 h with rfl | rfl | rfl | rfl | rfl | rfl | rfl | rfl | rfl | rfl | rfl | rfl | rfl | rfl | rfl | rfl | rfl | rfl | rfl | rfl | rfl | rfl | rfl <;> decide +kernel
section
variable {env : Vl.Env} {P P1 : Pen} {f : Vl.Env → M D} {c : Str} {t : D} {z : Str}
theorem strE_ok (h : f env P = .ok (errD c (.str z)) P1) (hc : c ∈ erNm) : dStrE erNm f env P = .ok (.str z) P1 := by
  unfold dStrE
  rw [bnd_ok h]
  show (if c ∈ erNm then ret (PyData.str z) else no) P1 = _
  rw [if_pos hc]; rfl
theorem isEr_ok {isa : Str → Bool} (h : f env P = .ok (errD c t) P1) (hc : c ∈ erNm) : dIsEr erNm isa f env P = .ok (.bool (isa c)) P1 := by
  unfold dIsEr
  rw [bnd_ok h]
  show (if c ∈ erNm then ret (PyData.bool (isa c)) else no) P1 = _
  rw [if_pos hc]; rfl
theorem caught_ex {T : List (Addr × Str)} {isB : Str → Bool} (hP : P.tb = T) (h : f env P = .ex c P1) (hB : isB c = true) : dCaught T isB f env P = .ok (errD c .none) P1 := by
  unfold dCaught
  rw [if_pos hP, h]
  simp only [if_pos hB]
theorem err_ok (h : f env P = .ok (.str z) P1) : dErr c f env P = .ok (errD c (.str z)) P1 := by
  unfold dErr
  rw [bnd_ok h]; rfl
end
theorem run_no (P : Pen) : den_run [.v (.tuple [.int 1, .tuple [], .tuple [.int 0]]), .v (.str "2")] P = .ex "NoWord" P := by kernel_rfl
theorem reads_no (P : Pen) : den_reads [.v (.str "mid"), .v (.str "0"), .v (.int 1)] P = .ex "NoKind" P := by kernel_rfl
theorem caughtW : isCaught "NoWord" = true := by kernel_rfl
theorem caughtK : isCaught "NoKind" = true := by kernel_rfl

abbrev itemB : Vl.Env → M Fl := (sSeq (sIf (mOr (tV (d2 dNeA (dCall 1 den__law_kinds_of (aCons (dVar 9) aNil)) (dComp (itR1 (aCons (dC (.int 23)) aNil)) (tgName 7) tsNil (d2 dEqA (bVar 7) (bVar 8)) [7]))) (tV (d2 dNeA (dStrE erNm (dVar 9)) (bVar 3)))) (sRet (dC (.bool false))) sNil) (sIf (mOr (mNot (tTru (dIsEr erNm (isaE "BitError" "BitError") (bVar 9)))) (mOr (mNot (tTru (dIsEr erNm (fun _ => true) (bVar 9)))) (tTru (dIsEr erNm (fun _ => false) (bVar 9))))) (sRet (dC (.bool false))) sNil))
section
variable {P : Pen} (x0 x2 x4 x5 x6 x7 x8 x9 : SV) (z : Str)
theorem comp_ok {k : Nat} (h : k < 23) (x3 : SV) : dComp (itR1 (aCons (dC (.int 23)) aNil)) (tgName 7) tsNil (d2 dEqA (bVar 7) (bVar 8)) [7] [x0, .pen, x2, x3, x4, x5, x6, x7, .v (.int (k : Int)), x9] P = .ok (.list (bo k)) P := by
  rcases lt23 h with rfl | rfl | rfl | rfl | rfl | rfl | rfl | rfl | rfl | rfl | rfl | rfl | rfl | rfl | rfl | rfl | rfl | rfl | rfl | rfl | rfl | rfl | rfl <;> kernel_rfl
theorem comp_0 (x3 : SV) : dComp (itR1 (aCons (dC (.int 23)) aNil)) (tgName 7) tsNil (d2 dEqA (bVar 7) (dC (.int 0))) [7] [x0, .pen, x2, x3, x4, x5, x6, x7, x8, x9] P = .ok (.list (bo 0)) P := by kernel_rfl
theorem comp_8 (x3 : SV) : dComp (itR1 (aCons (dC (.int 23)) aNil)) (tgName 7) tsNil (d2 dEqA (bVar 7) (dC (.int 8))) [7] [x0, .pen, x2, x3, x4, x5, x6, x7, x8, x9] P = .ok (.list (bo 8)) P := by kernel_rfl
theorem isa_root (c : Str) : isaE "BitError" "BitError" c = true := by
  unfold isaE
  rw [show (("BitError" : Str) == "BitError") = true by kernel_rfl, Bool.or_true]
theorem item_ok {k : Nat} (h : k < 23) : itemB [x0, .pen, x2, .v (.str z), x4, x5, x6, x7, .v (.int (k : Int)), .v (errD (nmE.getD k "") (.str z))] P = .ok (.nx [x0, .pen, x2, .v (.str z), x4, x5, x6, x7, .v (.int (k : Int)), .v (errD (nmE.getD k "") (.str z))]) P := by
  have mm := mem_nm h
  apply sSeq_nx
  · exact sIf_f (P1 := P) (mOr_f (tV_ok (d2_ok (dCall_ok (aCons_ok (dVar_v rfl) aNil_ok) rfl (kinds_ok h (.str z) P)) (comp_ok x0 x2 x4 x5 x6 x7 _ h (.v (.str z))) (ne_bo h))) (tV_ok (d2_ok (strE_ok (dVar_v rfl) mm) (bVar_v rfl) (neS_same z)))) sNil_ok
  · exact sIf_f (P1 := P) (mOr_f (mNot_f (tTru_ok (isEr_ok (bVar_v rfl) mm) (by rw [isa_root]; rfl))) (mOr_f (mNot_f (tTru_ok (isEr_ok (bVar_v rfl) mm) rfl)) (tTru_ok (isEr_ok (bVar_v rfl) mm) rfl))) sNil_ok
theorem errs_loop : ∀ (m k : Nat) (x8 x9 : SV), k + m = 23 → ∃ y8 y9, loopD (tgTup 2 (tgCons (tgName 8) (tgCons (tgName 9) tgNil))) itemB (enumD (k : Int) ((nmE.drop k).map fun c => errD c (.str z))) [x0, .pen, x2, .v (.str z), x4, x5, x6, x7, x8, x9] P = .ok (.nx [x0, .pen, x2, .v (.str z), x4, x5, x6, x7, y8, y9]) P
  | 0, k, x8, x9, h => by
    have : k = 23 := by omega
    subst this
    exact ⟨x8, x9, rfl⟩
  | m + 1, k, x8, x9, h => by
    have hk : k < 23 := by omega
    have hl : k < nmE.length := hk
    obtain ⟨y8, y9, q⟩ := errs_loop m (k + 1) (.v (.int (k : Int))) (.v (errD (nmE.getD k "") (.str z))) (by omega)
    refine ⟨y8, y9, ?_⟩
    rw [List.drop_eq_getElem_cons hl, List.map_cons]
    have e : nmE[k] = nmE.getD k "" := by rw [List.getD_eq_getElem?_getD, List.getElem?_eq_getElem hl]; rfl
    rw [e]
    exact (loop_nx rfl (item_ok x0 x2 x4 x5 x6 x7 z hk)).trans q
end
section
variable {tb : List (Addr × Str)} {n : Nat} {P : Pen}
theorem x_mul (v : Int) (h0 : 0 ≤ v) (h1 : v < 99) : dMul (.str "x") (.int v) = some (.str (Txt.mul "x" v)) := by
  refine guardD_of (decide_eq_true ⟨h0, by omega, ?_⟩)
  rw [show (("x" : Str).length) = 1 from rfl]
  omega
theorem text_ok (x0 x2 x3 x4 x5 x6 x7 x8 x9 : SV) (g : Gd tb (n + 2) P) : ∃ z P', dPen 1 2 den__law_one_of (aCons (dLst (aCons (dC (.str "")) (aCons (dC (.str "a")) (aCons (dC (.str "no  word at 7: ")) (aCons (d2 dMul (dC (.str "x")) (dPen 1 2 den__law_take (aCons (dC (.int 99)) aNil))) aNil))))) aNil) [x0, .pen, x2, x3, x4, x5, x6, x7, x8, x9] P = .ok (.str z) P' ∧ Gd tb n P' := by
  obtain ⟨v, P1, q1, v0, v1, g1⟩ := take_ok (tb := tb) (n := n + 1) g 99 (by decide)
  obtain ⟨i, P2, q2, i0, i1, g2⟩ := take_ok (tb := tb) (n := n) g1 4 (by decide)
  obtain ⟨d, e, z, rfl⟩ := atI_some (xs := [.str "", .str "a", .str "no  word at 7: ", .str (Txt.mul "x" v)]) (R := fun d => ∃ z : Str, d = .str z) (fun d hd => by
    simp only [List.mem_cons, List.not_mem_nil, or_false] at hd
    rcases hd with rfl | rfl | rfl | rfl <;> exact ⟨_, rfl⟩) i0 i1
  refine ⟨z, P2, ?_, g2⟩
  refine dPen_ok1 rfl (dLst_ok (aCons_ok dC_ok (aCons_ok dC_ok (aCons_ok dC_ok (aCons_ok (d2_ok dC_ok (dPen_ok1 rfl dC_ok q1) (x_mul v v0 v1)) aNil_ok)))) (Nat.le_of_ble_eq_true rfl)) ?_
  exact denOf_rt (sRet_ok (d2_ok (bVar_v rfl) (dPen_ok1 rfl (dB_ok (aCons_ok (bVar_v rfl) aNil_ok) rfl) q2) e))
abbrev turnB (tb : List (Addr × Str)) : Vl.Env → M Fl := (sSeq (sSet 3 (dPen 1 2 den__law_one_of (aCons (dLst (aCons (dC (.str "")) (aCons (dC (.str "a")) (aCons (dC (.str "no  word at 7: ")) (aCons (d2 dMul (dC (.str "x")) (dPen 1 2 den__law_take (aCons (dC (.int 99)) aNil))) aNil))))) aNil))) (sSeq (sSet 4 (dLst (aCons (dErr "NoWord" (dVar 3)) (aCons (dErr "NoNet" (dVar 3)) (aCons (dErr "NoTable" (dVar 3)) (aCons (dErr "NoTelling" (dVar 3)) (aCons (dErr "NoSum" (dVar 3)) (aCons (dErr "NoDemand" (dVar 3)) (aCons (dErr "NoPicks" (dVar 3)) aNil))))))))) (sSeq (sSet 4 (d2 dCat (bVar 4) (dLst (aCons (dErr "NoCount" (dVar 3)) (aCons (dErr "NoKind" (dVar 3)) (aCons (dErr "NoPlan" (dVar 3)) (aCons (dErr "NoCode" (dVar 3)) (aCons (dErr "NoRow" (dVar 3)) (aCons (dErr "NoMatch" (dVar 3)) aNil))))))))) (sSeq (sSet 4 (d2 dCat (bVar 4) (dLst (aCons (dErr "NoGate" (dVar 3)) (aCons (dErr "NoBoard" (dVar 3)) (aCons (dErr "NoDeed" (dVar 3)) (aCons (dErr "NoDrop" (dVar 3)) (aCons (dErr "NoUndo" (dVar 3)) (aCons (dErr "NoThings" (dVar 3)) aNil))))))))) (sSeq (sSet 4 (d2 dCat (bVar 4) (dLst (aCons (dErr "NoLets" (dVar 3)) (aCons (dErr "NotThere" (dVar 3)) (aCons (dErr "NoMachine" (dVar 3)) (aCons (dErr "TooGreat" (dVar 3)) aNil))))))) (sSeq (sPar2O 5 6 (dErr "BitError" (dVar 3)) (dLst (aCons (dCaught tb isCaught (dCall 2 den_run (aCons (dTup (aCons (dC (.int 1)) (aCons (dTup aNil) (aCons (dTup (aCons (dC (.int 0)) aNil)) aNil)))) (aCons (dC (.str "2")) aNil)))) aNil))) (sSeq (sApp 6 (dCaught tb isCaught (dCall 3 den_reads (aCons (dC (.str "mid")) (aCons (dC (.str "0")) (aCons (dC (.int 1)) aNil)))))) (sSeq (sIf (tV (d2 dNeA (dCall 1 den__law_kinds_of (aCons (d2 dIxA (bVar 6) (dC (.int 0))) aNil)) (dComp (itR1 (aCons (dC (.int 23)) aNil)) (tgName 7) tsNil (d2 dEqA (bVar 7) (dC (.int 0))) [7]))) (sRet (dC (.bool false))) sNil) (sSeq (sIf (tV (d2 dNeA (dCall 1 den__law_kinds_of (aCons (d2 dIxA (bVar 6) (dC (.int 1))) aNil)) (dComp (itR1 (aCons (dC (.int 23)) aNil)) (tgName 7) tsNil (d2 dEqA (bVar 7) (dC (.int 8))) [7]))) (sRet (dC (.bool false))) sNil) (sSeq (sIf (mOr (tV (d2 dNeA (dCall 1 den__law_kinds_of (aCons (dVar 5) aNil)) (d2 dRep (dLst (aCons (dC (.bool false)) aNil)) (dC (.int 23))))) (mOr (mNot (tTru (dIsEr erNm (fun _ => true) (bVar 5)))) (tV (d2 dNeA (dStrE erNm (dVar 5)) (bVar 3))))) (sRet (dC (.bool false))) sNil) (sFor (itE1 (dVar 4)) (tgTup 2 (tgCons (tgName 8) (tgCons (tgName 9) tgNil))) (sSeq (sIf (mOr (tV (d2 dNeA (dCall 1 den__law_kinds_of (aCons (dVar 9) aNil)) (dComp (itR1 (aCons (dC (.int 23)) aNil)) (tgName 7) tsNil (d2 dEqA (bVar 7) (bVar 8)) [7]))) (tV (d2 dNeA (dStrE erNm (dVar 9)) (bVar 3)))) (sRet (dC (.bool false))) sNil) (sIf (mOr (mNot (tTru (dIsEr erNm (isaE "BitError" "BitError") (bVar 9)))) (mOr (mNot (tTru (dIsEr erNm (fun _ => true) (bVar 9)))) (tTru (dIsEr erNm (fun _ => false) (bVar 9))))) (sRet (dC (.bool false))) sNil)))))))))))))
theorem par2O_ok {env : Vl.Env} {P P1 P2 : Pen} {i j : Nat} {fa fb : Vl.Env → M D} {d : D} {ds : List D} (h : fa env P = .ok d P1) (h2 : fb env P1 = .ok (.list ds) P2) : sPar2O i j fa fb env P = .ok (.nx ((env.set i (.v d)).set j (.own ds))) P2 := by
  unfold sPar2O
  rw [bnd_ok h, bnd_ok h2]; rfl
theorem turnB_ok (x0 x2 x3 x4 x5 x6 x7 x8 x9 : SV) (g : Gd tb (n + 2) P) : ∃ (y3 y4 y5 y6 y7 y8 y9 : SV) (P' : Pen), turnB tb [x0, .pen, x2, x3, x4, x5, x6, x7, x8, x9] P = .ok (.nx [x0, .pen, x2, y3, y4, y5, y6, y7, y8, y9]) P' ∧ Gd tb n P' := by
  obtain ⟨z, P1, q1, g1⟩ := text_ok x0 x2 x3 x4 x5 x6 x7 x8 x9 g
  obtain ⟨y8, y9, q2⟩ := errs_loop (P := P1) x0 x2 (.v (.list (nmE.map fun c => errD c (.str z)))) (.v (errD "BitError" (.str z))) (.own [errD "NoWord" .none, errD "NoKind" .none]) x7 z 23 0 x8 x9 rfl
  refine ⟨.v (.str z), .v (.list (nmE.map fun c => errD c (.str z))), .v (errD "BitError" (.str z)), .own [errD "NoWord" .none, errD "NoKind" .none], x7, y8, y9, P1, ?_, g1⟩
  apply sSeq_nx
  · exact sSet_ok q1
  apply sSeq_nx
  · exact sSet_ok (dLst_ok (aCons_ok (err_ok (dVar_v rfl)) (aCons_ok (err_ok (dVar_v rfl)) (aCons_ok (err_ok (dVar_v rfl)) (aCons_ok (err_ok (dVar_v rfl)) (aCons_ok (err_ok (dVar_v rfl)) (aCons_ok (err_ok (dVar_v rfl)) (aCons_ok (err_ok (dVar_v rfl)) aNil_ok))))))) (Nat.le_of_ble_eq_true rfl))
  apply sSeq_nx
  · exact sSet_ok (d2_ok (bVar_v rfl) (dLst_ok (aCons_ok (err_ok (dVar_v rfl)) (aCons_ok (err_ok (dVar_v rfl)) (aCons_ok (err_ok (dVar_v rfl)) (aCons_ok (err_ok (dVar_v rfl)) (aCons_ok (err_ok (dVar_v rfl)) (aCons_ok (err_ok (dVar_v rfl)) aNil_ok)))))) (Nat.le_of_ble_eq_true rfl)) rfl)
  apply sSeq_nx
  · exact sSet_ok (d2_ok (bVar_v rfl) (dLst_ok (aCons_ok (err_ok (dVar_v rfl)) (aCons_ok (err_ok (dVar_v rfl)) (aCons_ok (err_ok (dVar_v rfl)) (aCons_ok (err_ok (dVar_v rfl)) (aCons_ok (err_ok (dVar_v rfl)) (aCons_ok (err_ok (dVar_v rfl)) aNil_ok)))))) (Nat.le_of_ble_eq_true rfl)) rfl)
  apply sSeq_nx
  · exact sSet_ok (d2_ok (bVar_v rfl) (dLst_ok (aCons_ok (err_ok (dVar_v rfl)) (aCons_ok (err_ok (dVar_v rfl)) (aCons_ok (err_ok (dVar_v rfl)) (aCons_ok (err_ok (dVar_v rfl)) aNil_ok)))) (Nat.le_of_ble_eq_true rfl)) rfl)
  apply sSeq_nx
  · exact par2O_ok (err_ok (dVar_v rfl)) (dLst_ok (aCons_ok (caught_ex g1.tb (dCall_ex (aCons_ok (dTup_ok (aCons_ok dC_ok (aCons_ok (dTup_ok aNil_ok (Nat.zero_le _)) (aCons_ok (dTup_ok (aCons_ok dC_ok aNil_ok) (Nat.le_of_ble_eq_true rfl)) aNil_ok))) (Nat.le_of_ble_eq_true rfl)) (aCons_ok dC_ok aNil_ok)) rfl (run_no P1)) caughtW) aNil_ok) (Nat.le_of_ble_eq_true rfl))
  apply sSeq_nx
  · exact sApp_ok rfl (caught_ex g1.tb (dCall_ex (aCons_ok dC_ok (aCons_ok dC_ok (aCons_ok dC_ok aNil_ok))) rfl (reads_no P1)) caughtK) (by decide)
  apply sSeq_nx
  · exact sIf_f (P1 := P1) (tV_ok (d2_ok (dCall_ok (aCons_ok (d2_ok (bVar_o rfl) dC_ok rfl) aNil_ok) rfl (kinds_ok (k := 0) (by decide) .none P1)) (comp_0 _ _ _ _ _ _ _ _ _) (ne_bo (k := 0) (by decide)))) sNil_ok
  apply sSeq_nx
  · exact sIf_f (P1 := P1) (tV_ok (d2_ok (dCall_ok (aCons_ok (d2_ok (bVar_o rfl) dC_ok rfl) aNil_ok) rfl (kinds_ok (k := 8) (by decide) .none P1)) (comp_8 _ _ _ _ _ _ _ _ _) (ne_bo (k := 8) (by decide)))) sNil_ok
  apply sSeq_nx
  · have mb : ("BitError" : Str) ∈ erNm := by decide +kernel
    exact sIf_f (P1 := P1) (mOr_f (tV_ok (d2_ok (dCall_ok (aCons_ok (dVar_v rfl) aNil_ok) rfl (kinds_base (.str z) P1)) (d2_ok (dLst_ok (aCons_ok dC_ok aNil_ok) (Nat.le_of_ble_eq_true rfl)) dC_ok rfl) ne_none)) (mOr_f (mNot_f (tTru_ok (isEr_ok (bVar_v rfl) mb) rfl)) (tV_ok (d2_ok (strE_ok (dVar_v rfl) mb) (bVar_v rfl) (neS_same z))))) sNil_ok
  exact sFor_ok (itE1_ok (dVar_v rfl) rfl) q2
end
theorem loop_go {tg : D → Vl.Env → Option Vl.Env} {body : Vl.Env → M Fl} {d : D} {ds : List D} {env e1 e : Vl.Env} {P P1 : Pen} (h : tg d env = some e1) (hb : body e1 P = .ok (.nx e) P1) : loopD tg body (d :: ds) env P = loopD tg body ds e P1 := by
  rw [loopD, h]
  show bnd (body e1) _ P = _
  rw [bnd_ok hb]
theorem law_math (tb : List (Addr × Str)) (ns : List Int) : ∃ (cs : List Int) (P1 P2 : Pen), den__law_open [.scr ns] ⟨[], 0, 0, tb⟩ = .ok (.list [.list (cs.map PyData.int), .int 0, .int 0]) P1 ∧ b_law tb (.scr ns :: .pen :: List.replicate (n_law.length - 2) .un) ⟨cs, 0, 0, tb⟩ = .ok (.rt (.bool true)) P2 := by
  obtain ⟨cs, q0⟩ := open_ok ns ⟨[], 0, 0, tb⟩
  have g0 : Gd tb (0 + 2 + 2) ⟨cs, 0, 0, tb⟩ := ⟨rfl, Int.le_refl 0, by show (0 : Int) + ((0 + 2 + 2 : Nat) : Int) ≤ 1048576; decide⟩
  obtain ⟨a3, a4, a5, a6, a7, a8, a9, P1, q1, g1⟩ := turnB_ok (tb := tb) (n := 0 + 2) (.scr ns) (.v (.int 0)) .un .un .un .un .un .un .un g0
  obtain ⟨c3, c4, c5, c6, c7, c8, c9, P2, q2, g2⟩ := turnB_ok (tb := tb) (n := 0) (.scr ns) (.v (.int 1)) a3 a4 a5 a6 a7 a8 a9 g1
  refine ⟨cs, _, P2, q0, ?_⟩
  show b_law tb [.scr ns, .pen, .un, .un, .un, .un, .un, .un, .un, .un] ⟨cs, 0, 0, tb⟩ = _
  apply sSeq_nx
  · exact sFor_ok (itR1_ok (k := 2) (aCons_ok dC_ok aNil_ok) (by decide)) ((loop_go rfl q1).trans ((loop_go rfl q2).trans rfl))
  exact sRet_ok dC_ok
end Tk
end
end
open PySem PySem.W PyProof.Rows
set_option maxHeartbeats 0 in
theorem PySem.Challenge.cw_halfbits_k66_errors_by_hand_holds : PySem.Challenge.rw_halfbits_k66_errors_by_hand.Holds := by
  exact Tk.holds (fun tb ns _ _ => Tk.law_math tb ns)
